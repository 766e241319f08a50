"""Of small houses all lawful plans against all cuts."""

import unittest

from firstout.cuts import bound
from firstout.plans import faults, out_by
from houses import all_cuts, lawful_plans, most_out, plans_within_doors, small_houses


class PlansAndCuts(unittest.TestCase):
    def test_no_plan_has_more_out_than_the_bound_of_any_cut(self):
        for house in small_houses():
            plans = [plan for plan in plans_within_doors(house) if faults(house, plan) == []]
            for turn in range(house.first, house.last + 1):
                most = max(out_by(house, plan, turn) for plan in plans)
                for cut in all_cuts(house):
                    self.assertGreaterEqual(bound(house, cut, turn), most, (house.rooms(), cut, turn))

    def test_the_least_bound_is_what_some_plan_has_out(self):
        for house in small_houses():
            most = most_out(house, lawful_plans(house))
            for at, number in enumerate(most):
                least = min(bound(house, cut, house.first + at) for cut in all_cuts(house))
                self.assertEqual(least, number, (house.rooms(), house.first + at))


if __name__ == "__main__":
    unittest.main()
