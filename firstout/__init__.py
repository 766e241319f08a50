"""Firstout: people brought out of a house, first out at every turn."""
