import PyProof.Rows.All
import Wide.All
import OpenK.AllK
import Wide.FinOn
import Lean
import PyProof.EqAt
import PyProof.EqKinds
import PyProof.TupleCall
import KE.KSortTup
import PyProof.Rows.DictUnroll
import PyProof.DictItems
import KE.LcSums
import PyProof.IsiH_list
import KE.KDictOf
import PySem.Challenge.RW_firstout_k51_signs
def PySem.W.Fast.tw15261069883016975297 : Unit := ()
def PySem.W.Fast.tw221715549562311138 : Unit := ()
def PySem.W.Fast.tw12374609167838270978 : Unit := ()
def PySem.W.Fast.tw14184128019759613923 : Unit := ()
def PySem.W.Fast.tw9014263514777126500 : Unit := ()
def PySem.W.Fast.tw11391611707862896935 : Unit := ()
def PySem.W.Fast.tw1345663021680107626 : Unit := ()
def PySem.W.Fast.tw6970548808556394667 : Unit := ()
def PySem.W.Fast.tw16657389151001359755 : Unit := ()
def PySem.W.Fast.tw5818668234028030320 : Unit := ()
def PySem.W.Fast.tw8936294559664584785 : Unit := ()
def PySem.W.Fast.tw2029356421215005363 : Unit := ()
def PySem.W.Fast.tw8422767763604698835 : Unit := ()
def PySem.W.Fast.tw5927849488101323479 : Unit := ()
def PySem.W.Fast.tw5541047287921893400 : Unit := ()
def PySem.W.Fast.tw10755545856180818680 : Unit := ()
set_option Elab.async false
set_option linter.all false
set_option maxRecDepth 100000
/-! THE HAND LAYER, for ints, bools, texts, own classes, LISTS and tuples (index, slices, in, append, pop ..), calls, loops. Paste it whole ahead of your own text; what your proof does not reach may be deleted. -/
namespace L2
open PySem PySem.Spec PyProof.Rows

/-- a key: an int or a str -/
abbrev Key := Sum Int Str
def keyIs : Key → Value → Bool
  | .inl k, v => Value.isInt k v
  | .inr x, v => Value.isStrOf x v
def keyH (w : World) : Key → Int
  | .inl k => hashInt k
  | .inr x => hashStr w x
theorem keyIs_shape : ∀ {k : Key} {v : Value}, keyIs k v = true → (∃ i t, k = Sum.inl i ∧ v = Value.int i t) ∨ (∃ x t, k = Sum.inr x ∧ v = Value.str x t)
  | .inl i, v, h => by
    obtain ⟨t, e⟩ := Value.isInt_shape (k := i) (v := v) h
    exact .inl ⟨i, t, rfl, e⟩
  | .inr x, v, h => by
    obtain ⟨t, e⟩ := Value.isStrOf_shape (x := x) (v := v) h
    exact .inr ⟨x, t, rfl, e⟩
theorem keyIs_int (i : Int) (t : Tok) : keyIs (.inl i) (.int i t) = true := by simp [keyIs, Value.isInt]
theorem keyIs_str (x : Str) (t : Tok) : keyIs (.inr x) (.str x t) = true := by simp [keyIs, Value.isStrOf]
theorem key_ll (a b : Int) : decide ((Sum.inl a : Key) = Sum.inl b) = (a == b) := by
  by_cases e : a = b
  · subst e; simp
  · have h : ¬ (Sum.inl a : Key) = Sum.inl b := fun q => e (Sum.inl.inj q)
    rw [decide_eq_false h]
    exact (beq_eq_false_iff_ne.mpr e).symm
theorem key_rr (a b : Str) : decide ((Sum.inr a : Key) = Sum.inr b) = decide (a = b) := by
  by_cases e : a = b
  · subst e; simp
  · have h : ¬ (Sum.inr a : Key) = Sum.inr b := fun q => e (Sum.inr.inj q)
    rw [decide_eq_false h, decide_eq_false e]
theorem key_lr (a : Int) (b : Str) : decide ((Sum.inl a : Key) = Sum.inr b) = false := decide_eq_false (fun q => nomatch q)
theorem key_rl (a : Str) (b : Int) : decide ((Sum.inr a : Key) = Sum.inl b) = false := decide_eq_false (fun q => nomatch q)

def mixKind (prog : Program) (w : World) : PySem.KeyKind prog w Key where
  is := keyIs
  hash := keyH w
  inj := fun v a b ha hb => by
    rcases keyIs_shape ha with ⟨i, t, rfl, rfl⟩ | ⟨x, t, rfl, rfl⟩
    · rcases keyIs_shape hb with ⟨j, u, rfl, e⟩ | ⟨y, u, rfl, e⟩
      · injection e with e1 _; rw [e1]
      · exact nomatch e
    · rcases keyIs_shape hb with ⟨j, u, rfl, e⟩ | ⟨y, u, rfl, e⟩
      · exact nomatch e
      · injection e with e1 _; rw [e1]
  byValue := fun k v h => by
    rcases keyIs_shape h with ⟨i, t, rfl, rfl⟩ | ⟨x, t, rfl, rfl⟩ <;> rfl
  pyHash := fun hv h => by
    rcases keyIs_shape hv with ⟨i, t, rfl, rfl⟩ | ⟨x, t, rfl, rfl⟩
    · exact wpAny_pyHash_int h
    · exact wpAny_pyHash_str h
  eqBool := fun hu hv h => by
    rcases keyIs_shape hu with ⟨i, t, rfl, rfl⟩ | ⟨x, t, rfl, rfl⟩
    · rcases keyIs_shape hv with ⟨j, u, rfl, rfl⟩ | ⟨y, u, rfl, rfl⟩
      · rw [key_ll] at h; exact wpAny_eqBool_int h
      · rw [key_lr] at h; exact SeqAt.EqAt.int_str i t y u _ _ _ _ h
    · rcases keyIs_shape hv with ⟨j, u, rfl, rfl⟩ | ⟨y, u, rfl, rfl⟩
      · rw [key_rl] at h; exact SeqAt.EqAt.str_int x t j u _ _ _ _ h
      · rw [key_rr] at h; exact wpAny_eqBool_str h
  «strs» := fun k x t v h => by
    rcases keyIs_shape h with ⟨i, u, rfl, e⟩ | ⟨y, u, rfl, e⟩
    · exact nomatch e
    · injection e with e1 _
      subst e1
      cases v <;> rfl

theorem mixKind_int (prog : Program) (w : World) (i : Int) (t : Tok) : (mixKind prog w).is (.inl i) (.int i t) = true := keyIs_int i t
theorem mixKind_str (prog : Program) (w : World) (x : Str) (t : Tok) : (mixKind prog w).is (.inr x) (.str x t) = true := keyIs_str x t
end L2

namespace L2
open PySem PySem.Spec PyProof.Rows

/-- a value, without the heap -/
inductive V where
  | non | bl (b : Bool) | int (i : Int) | str (x : Str) | byt (b : Array UInt8) | flt (b : UInt64) | ref (a : Addr) | ty (n : String)
  deriving DecidableEq

def RelV : V → Value → Prop
  | .non, u => u = Value.none
  | .bl b, u => u = Value.bool b
  | .int i, u => ∃ t, u = Value.int i t
  | .str x, u => ∃ t, u = Value.str x t
  | .byt b, u => ∃ t, u = Value.bytes b t
  | .flt b, u => ∃ t, u = Value.float b t
  | .ref a, u => u = Value.ref a
  | .ty n, u => u = Value.type n

abbrev Vals : List V → List Value → Prop := Paired RelV
theorem Vals.length {xs : List V} {us : List Value} (r : Vals xs us) : xs.length = us.length := Paired.length r
theorem Vals.get : ∀ {xs : List V} {us : List Value} {i : Nat} {x : V}, Vals xs us → xs[i]? = some x → ∃ u, us[i]? = some u ∧ RelV x u
  | _, _, _, _, .nil, e => by simp at e
  | _, _, 0, _, .cons r _, e => by simp at e; subst e; exact ⟨_, rfl, r⟩
  | _, _, i + 1, x, .cons _ t, e => by
    obtain ⟨u, h1, h2⟩ := Vals.get (i := i) (x := x) t (by simpa using e)
    exact ⟨u, by simpa using h1, h2⟩
theorem Vals.append : ∀ {xs ys : List V} {us ws : List Value}, Vals xs us → Vals ys ws → Vals (xs ++ ys) (us ++ ws)
  | _, _, _, _, .nil, s => s
  | _, _, _, _, .cons r t, s => .cons r (Vals.append t s)
theorem Vals.take : ∀ {xs : List V} {us : List Value} (n : Nat), Vals xs us → Vals (xs.take n) (us.take n)
  | _, _, 0, _ => .nil
  | _, _, _ + 1, .nil => .nil
  | _, _, n + 1, .cons r t => .cons r (Vals.take n t)
theorem Vals.drop : ∀ {xs : List V} {us : List Value} (n : Nat), Vals xs us → Vals (xs.drop n) (us.drop n)
  | _, _, 0, r => r
  | _, _, _ + 1, .nil => .nil
  | _, _, n + 1, .cons _ t => Vals.drop n t

def RelO : Option V → Option Value → Prop
  | some v, some u => RelV v u
  | none, none => True
  | _, _ => False
def KV {κ : Type} : List (κ × V) → List (κ × Value) → Prop := Paired fun (p : κ × V) (q : κ × Value) => p.1 = q.1 ∧ RelV p.2 q.2

/-- a key of a dict (00_mix): an int or a text -/
def kV : Key → V
  | .inl i => .int i
  | .inr x => .str x

/-- what stands at a tracked address -/
inductive HO where
  /-- a list -/
  | lst (xs : List V)
  /-- a tuple (never changes) -/
  | tup (xs : List V)
  /-- a dict whose keys are ints and texts; one whose keys are tuples of ints and texts (the empty one is both) -/
  | dK (kvs : List (Key × V)) | dT (kvs : List (List Key × V))
  /-- a set of ints: its members, its size -/
  | set (S : Int → Bool) (n : Nat)
  /-- an instance of the class at C, its dict at dx, its attributes -/
  | ins (C dx : Addr) (fs : List (Str × V))
  /-- the dict of the instance at x -/
  | own (x : Addr)
  /-- the dict of an exception -/
  | xd (fs : List (Str × V))
  /-- a bound method, f of x -/
  | met (f x : Addr)
  /-- a range object lo, lo + 1, .. below hi -/
  | rng (lo hi : Int)
  /-- a thing that is known to the object (the script; a dict while a loop walks it): read, never written while it is so -/
  | frz (o : Obj) (u : HO)
  /-- a code object's table -/
  | tbl (ps : Array Value)
  /-- any other thing, by what is true of its one object (a def of one's own: SetO a S n := HO.ext fun h => ..) -/
  | ext (φ : Heap → Prop)

abbrev Hp := Addr → Option HO
def upd (H : Hp) (a : Addr) (o : HO) : Hp := fun b => if b = a then some o else H b
theorem upd_same {H : Hp} {a : Addr} {o : HO} : upd H a o a = some o := by unfold upd; rw [if_pos rfl]
theorem upd_ne {H : Hp} {a b : Addr} {o : HO} (h : b ≠ a) : upd H a o b = H b := by unfold upd; rw [if_neg h]
theorem upd_upd {H : Hp} {a : Addr} {o u : HO} : upd (upd H a o) a u = upd H a u := by
  funext b; unfold upd; split <;> rfl
/-- two objects of different content stand apart -/
theorem ne_of {H : Hp} {a b : Addr} {o u : HO} (h : H a = some o) (h' : H b = some u) (d : o ≠ u) : a ≠ b := by
  intro e; subst e; rw [h] at h'; exact d (Option.some.inj h')
theorem ne_of_none {H : Hp} {a b : Addr} {o : HO} (h : H a = some o) (h' : H b = none) : a ≠ b := by
  intro e; subst e; rw [h] at h'; cases h'

section
variable (P : Program) (w : World)
def ObjOk (H : Hp) (h : Heap) (a : Addr) : HO → Prop
  | .lst xs => xs.length ≤ sizeLine ∧ ∃ (its : List Value) (n : Nat), Vals xs its ∧ h.get? a = some { cls := .type "list", data := .seq its.toArray n }
  | .tup xs => xs.length ≤ sizeLine ∧ ∃ its : List Value, Vals xs its ∧ IsTup h a its.toArray
  | .dK kvs => kvs.length ≤ sizeLine ∧ (a == sysModules) = false ∧ ∃ vs, KV kvs vs ∧ h.DictOf (mixKind P w) a vs
  | .dT kvs => kvs.length ≤ sizeLine ∧ (a == sysModules) = false ∧ ∃ xs : List (List Key × Addr × Value),
      Paired (fun (p : List Key × V) (q : List Key × Addr × Value) => p.1 = q.1 ∧ H q.2.1 = some (.tup (p.1.map kV)) ∧ RelV p.2 q.2.2) kvs xs ∧
      ∃ o es ep, h.get? a = some o ∧ o.ExactDict ∧ o.data = .dict es ep ∧ es.toList = xs.map (entryOfKey (tupleKind (mixKind P w))) ∧ (xs.map (·.1)).Nodup
  | .set S n => h.SetOf (intKind P w) a S n
  | .ins C dx fs => H dx = some (.own a) ∧ fs.length ≤ 1000 ∧ dx ≠ a ∧ h.get? a = some (PySem.W.instObj C dx) ∧
      ∃ mA, h.Ns1 dx mA ∧ (∀ f, RelO (fs.lookup f) (mA f)) ∧ PySem.Within mA (fs.map (·.1))
  | .own _ => ∃ o, h.get? a = some o
  | .xd fs => ∃ mA, h.Ns1 a mA ∧ ∀ f, RelO (fs.lookup f) (mA f)
  | .rng lo hi => ∃ t u v, h.get? a = some { cls := .type "range", data := .fields #[.int lo t, .int hi u, .int 1 v] }
  | .frz o u => h.get? a = some o ∧ ObjOk H h a u
  | .tbl ps => h.get? a = some { cls := .none, data := .fields ps }
  | .met f x => h.get? a = some (PySem.W.methodObj (.ref f) (.ref x))
  | .ext φ => φ h ∧ (∃ o, h.get? a = some o) ∧ ∀ h1 h2 : Heap, φ h1 → (∀ o, h1.get? a = some o → h2.get? a = some o) → φ h2
/-- the abstract heap is held -/
def HOk (H : Hp) (h : Heap) : Prop := ∀ a o, H a = some o → ObjOk P w H h a o
end

section
variable {P : Program} {w : World} {H H' : Hp} {h h' : Heap} {a : Addr} {o : HO}
theorem ObjOk.lt (x : ObjOk P w H h a o) : a < h.objs.size := by
  cases o with
  | lst xs => obtain ⟨_, _, _, _, e⟩ := x; exact Heap.lt_size e
  | tup xs => obtain ⟨_, _, _, p⟩ := x; exact p.lt
  | dK kvs => obtain ⟨_, _, _, _, o, _, _, e, _⟩ := x; exact Heap.lt_size e
  | dT kvs => obtain ⟨_, _, _, _, o, _, _, e, _⟩ := x; exact Heap.lt_size e
  | set S n => obtain ⟨o, _, _, _, e, _⟩ := x; exact Heap.lt_size e
  | ins C dx fs => obtain ⟨_, _, _, e, _⟩ := x; exact Heap.lt_size e
  | own y => obtain ⟨_, e⟩ := x; exact Heap.lt_size e
  | xd fs => obtain ⟨_, ⟨_, _, _, e, _⟩, _⟩ := x; exact Heap.lt_size e
  | rng lo hi => obtain ⟨_, _, _, e⟩ := x; exact Heap.lt_size e
  | frz ob u => obtain ⟨e, _⟩ := x; exact Heap.lt_size e
  | tbl ps => exact Heap.lt_size (show h.get? a = some _ from x)
  | met f y => exact Heap.lt_size (show h.get? a = some _ from x)
  | ext φ => obtain ⟨_, ⟨_, e⟩, _⟩ := x; exact Heap.lt_size e
theorem Paired.mapP {α β : Type} {F G : α → β → Prop} : ∀ {l₁ : List α} {l₂ : List β}, Paired F l₁ l₂ → (∀ a b, F a b → G a b) → Paired G l₁ l₂
  | _, _, .nil, _ => .nil
  | _, _, .cons r t, f => .cons (f _ _ r) (Paired.mapP t f)
theorem Paired.imp' {α β : Type} {F G : α → β → Prop} (f : ∀ a b, F a b → G a b) {l₁ : List α} {l₂ : List β} (r : Paired F l₁ l₂) : Paired G l₁ l₂ := Paired.mapP r f
/-- what an object's description leans on: its own object, its own dict, the tuples -/
theorem ObjOk.stay (x : ObjOk P w H h a o) (k : ∀ b u, (b = a ∨ H b = some (.own a)) → h.get? b = some u → h'.get? b = some u)
    (ho : ∀ b, H b = some (.own a) → H' b = some (.own a)) (ht : ∀ b xs, H b = some (.tup xs) → H' b = some (.tup xs)) : ObjOk P w H' h' a o := by
  induction o with
  | lst xs => obtain ⟨z, its, n, r, e⟩ := x; exact ⟨z, its, n, r, k _ _ (.inl rfl) e⟩
  | tup xs => obtain ⟨z, its, r, ob, e, c⟩ := x; exact ⟨z, its, r, ob, k _ _ (.inl rfl) e, c⟩
  | dK kvs => obtain ⟨z, y, vs, r, ob, es, ep, e, c⟩ := x; exact ⟨z, y, vs, r, ob, es, ep, k _ _ (.inl rfl) e, c⟩
  | dT kvs =>
    obtain ⟨z, y, xs, r, ob, es, ep, e, c⟩ := x
    exact ⟨z, y, xs, Paired.mapP r fun p q z => ⟨z.1, ht _ _ z.2.1, z.2.2⟩, ob, es, ep, k _ _ (.inl rfl) e, c⟩
  | set S n => obtain ⟨ob, es, ep, t, e, c⟩ := x; exact ⟨ob, es, ep, t, k _ _ (.inl rfl) e, c⟩
  | ins C dx fs =>
    obtain ⟨d, z, ne, e, mA, ⟨od, es, ep, e2, c⟩, r⟩ := x
    exact ⟨ho _ d, z, ne, k _ _ (.inl rfl) e, mA, ⟨od, es, ep, k _ _ (.inr d) e2, c⟩, r⟩
  | own y => obtain ⟨ob, e⟩ := x; exact ⟨ob, k _ _ (.inl rfl) e⟩
  | xd fs => obtain ⟨mA, ⟨od, es, ep, e, c⟩, r⟩ := x; exact ⟨mA, ⟨od, es, ep, k _ _ (.inl rfl) e, c⟩, r⟩
  | rng lo hi => obtain ⟨t, u, v, e⟩ := x; exact ⟨t, u, v, k _ _ (.inl rfl) e⟩
  | frz ob u ih => obtain ⟨e, q⟩ := x; exact ⟨k _ _ (.inl rfl) e, ih q⟩
  | tbl ps =>
    have e : h.get? a = some { cls := .none, data := .fields ps } := x
    show h'.get? a = some { cls := .none, data := .fields ps }
    exact k a _ (.inl rfl) e
  | met f y =>
    have e : h.get? a = some (PySem.W.methodObj (.ref f) (.ref y)) := x
    show h'.get? a = some (PySem.W.methodObj (.ref f) (.ref y))
    exact k a _ (.inl rfl) e
  | ext φ => obtain ⟨p, ⟨o, e⟩, st⟩ := x; exact ⟨st _ _ p fun o q => k _ _ (.inl rfl) q, ⟨o, k _ _ (.inl rfl) e⟩, st⟩
theorem HOk.lt (x : HOk P w H h) (e : H a = some o) : a < h.objs.size := (x a o e).lt
theorem HOk.fresh (x : HOk P w H h) (e : h.objs.size ≤ a) : H a = none := by
  cases q : H a with
  | none => rfl
  | some u => exact absurd (Nat.lt_of_lt_of_le (x.lt q) e) (Nat.lt_irrefl _)
/-- every object of the heap is kept -/
theorem HOk.kept (x : HOk P w H h) (k : ∀ b u, h.get? b = some u → h'.get? b = some u) : HOk P w H h' := fun a o e =>
  (x a o e).stay (fun b u _ q => k b u q) (fun _ q => q) fun _ _ q => q
/-- a new object is laid and tracked -/
theorem HOk.laid (x : HOk P w H h) (k : ∀ b u, h.get? b = some u → h'.get? b = some u) (hp : h.objs.size ≤ a) (new : ObjOk P w (upd H a o) h' a o) : HOk P w (upd H a o) h' := fun b u e => by
  have hn := x.fresh hp
  by_cases hb : b = a
  · subst hb; rw [upd_same] at e; cases e; exact new
  · rw [upd_ne hb] at e
    exact (x b u e).stay (fun c v _ q => k c v q) (fun c q => by rw [upd_ne (ne_of_none q hn)]; exact q) fun c xs q => by rw [upd_ne (ne_of_none q hn)]; exact q
end

/-- what may be read as u: it is u, or a known u -/
def Rd (H : Hp) (a : Addr) (u : HO) : Prop := H a = some u ∨ ∃ o, H a = some (.frz o u)
theorem Rd.ok {P : Program} {w : World} {H : Hp} {h : Heap} {a : Addr} {u : HO} (r : Rd H a u) (x : HOk P w H h) : ObjOk P w H h a u := by
  rcases r with r | ⟨o, r⟩
  · exact x a u r
  · obtain ⟨_, q⟩ := x a _ r
    exact q
/-- what may be written -/
def Mut : Option HO → Prop
  | some (.lst _) => True
  | some (.dK _) => True
  | some (.dT _) => True
  | some (.set _ _) => True
  | some (.ins _ _ _) => True
  | some (.ext _) => True
  | _ => False
section
variable {P : Program} {w : World} {H : Hp} {h h' : Heap} {x e : Addr} {o' : HO}
/-- the object at e is changed: x itself, or the dict of the instance x -/
theorem HOk.write (ok : HOk P w H h) (mu : Mut (H x)) (he : e = x ∨ H e = some (.own x)) (k : ∀ b u, b ≠ e → h.get? b = some u → h'.get? b = some u) (heo : ∃ u, h'.get? e = some u)
    (new : ObjOk P w (upd H x o') h' x o') : HOk P w (upd H x o') h' := fun b u q => by
  have nown : ∀ c y, H c = some (.own y) → c ≠ x := fun c y r z => by subst z; rw [r] at mu; exact mu
  have ntup : ∀ c xs, H c = some (.tup xs) → c ≠ x := fun c xs r z => by subst z; rw [r] at mu; exact mu
  by_cases hb : b = x
  · subst hb; rw [upd_same] at q; cases q; exact new
  · rw [upd_ne hb] at q
    by_cases hbe : b = e
    · have q' : H b = some (.own x) := by
        rcases he with z | z
        · exact absurd (hbe.trans z) hb
        · rw [hbe]; exact z
      rw [q] at q'; cases q'
      obtain ⟨v, hv⟩ := heo
      exact ⟨v, by rw [hbe]; exact hv⟩
    · refine (ok b u q).stay (fun c v hc r => k c v ?_ r) (fun c r => by rw [upd_ne (nown c b r)]; exact r) fun c xs r => by rw [upd_ne (ntup c xs r)]; exact r
      rcases hc with rfl | hc
      · exact hbe
      · rintro rfl
        rcases he with z | z
        · exact nown c b hc z
        · rw [hc] at z; cases z; exact hb rfl
end

/-! ### kept unless tracked; of the frames at fs (the callers') the slots may change (an exception that passes writes there); of the records at ex (iterators) nothing is said -/
structure Un (fs ex : List Addr) (H H' : Hp) (h h' : Heap) : Prop where
  keep : ∀ b o, h.get? b = some o → H b = none → b ∉ fs → b ∉ ex → h'.get? b = some o
  slot : ∀ b o, h.get? b = some o → H b = none → b ∈ fs → b ∉ ex → ∃ sl, h'.get? b = some { o with slots := sl }
  free : ∀ b o, h.get? b = some o → H b = none → b ∉ ex → H' b = none
  there : ∀ b o, h.get? b = some o → b ∉ ex → ∃ o', h'.get? b = some o'
  tups : ∀ b xs, H b = some (.tup xs) → H' b = some (.tup xs)
  frzs : ∀ b o u, H b = some (.frz o u) → H' b = some (.frz o u)
  tbls : ∀ b ps, H b = some (.tbl ps) → ∃ more, H' b = some (.tbl (ps ++ more))
section
variable {fs fs' ex ex' : List Addr} {H H1 H2 : Hp} {h h1 h2 h' : Heap} {a x e : Addr} {o : HO}
theorem Un.any (u : Un fs ex H H1 h h1) {b : Addr} {ob : Obj} (q : h.get? b = some ob) (n : H b = none) (hx : b ∉ ex) : ∃ sl, h1.get? b = some { ob with slots := sl } := by
  by_cases hb : b ∈ fs
  · exact u.slot b ob q n hb hx
  · exact ⟨ob.slots, u.keep b ob q n hb hx⟩
theorem Un.kept (k : ∀ b u, h.get? b = some u → h'.get? b = some u) : Un fs ex H H h h' :=
  ⟨fun b ob q _ _ _ => k b ob q, fun b ob q _ _ _ => ⟨ob.slots, k b ob q⟩, fun _ _ _ n _ => n, fun b ob q _ => ⟨ob, k b ob q⟩, fun _ _ q => q, fun _ _ _ q => q, fun _ ps q => ⟨#[], by rw [q]; simp⟩⟩
theorem Un.refl : Un fs ex H H h h := Un.kept fun _ _ q => q
theorem Un.laid (k : ∀ b u, h.get? b = some u → h'.get? b = some u) (hp : h.objs.size ≤ a) (hn : H a = none) : Un fs ex H (upd H a o) h h' where
  keep := fun b u q _ _ _ => k b u q
  slot := fun b u q _ _ _ => ⟨u.slots, k b u q⟩
  free := fun b u q n _ => by rw [upd_ne (Nat.ne_of_lt (Nat.lt_of_lt_of_le (Heap.lt_size q) hp))]; exact n
  there := fun b u q _ => ⟨u, k b u q⟩
  tups := fun b xs q => by rw [upd_ne (ne_of_none q hn)]; exact q
  frzs := fun b u xs q => by rw [upd_ne (ne_of_none q hn)]; exact q
  tbls := fun b ps q => ⟨#[], by rw [upd_ne (ne_of_none q hn), q]; simp⟩
theorem Un.write (mu : Mut (H x)) (he : e = x ∨ H e = some (.own x)) (k : ∀ b u, b ≠ e → h.get? b = some u → h'.get? b = some u) (heo : ∃ u, h'.get? e = some u) : Un fs ex H (upd H x o) h h' := by
  have hx : ∀ b, H b = none → b ≠ x := fun b n z => by subst z; rw [n] at mu; exact mu
  have hb : ∀ b, H b = none → b ≠ e := fun b n z => by
    subst z
    rcases he with r | r
    · exact hx b n r
    · rw [n] at r; cases r
  have hm : ∀ b u, H b = some u → ¬ Mut (some u) → b ≠ x := fun b u q nm z => by subst z; rw [q] at mu; exact nm mu
  refine ⟨fun b u q n _ _ => k b u (hb b n) q, fun b u q n _ _ => ⟨u.slots, k b u (hb b n) q⟩, fun b u q n _ => by rw [upd_ne (hx b n)]; exact n, fun b u q _ => ?_,
    fun b xs q => by rw [upd_ne (hm b _ q fun z => z)]; exact q, fun b u xs q => by rw [upd_ne (hm b _ q fun z => z)]; exact q, fun b ps q => ⟨#[], by rw [upd_ne (hm b _ q fun z => z), q]; simp⟩⟩
  by_cases hbe : b = e
  · subst hbe; exact heo
  · exact ⟨u, k b u hbe q⟩
end

/-! ### the heap without what is tracked -/
def trk (h : Heap) (H : Hp) : List Addr := (List.range h.objs.size).filter fun a => (H a).isSome
def hidT (h : Heap) (H : Hp) : Heap := PySem.W.hideAll h (trk h H)
theorem hidT_size (h : Heap) (H : Hp) : (hidT h H).objs.size = h.objs.size := PySem.W.hideAll_size _ _
theorem hidT_get {h : Heap} {H : Hp} {b : Addr} {o : Obj} (e : h.get? b = some o) (n : H b = none) : (hidT h H).get? b = some o :=
  PySem.W.hideAll_get _ e fun hm => by
    have q : (H b).isSome = true := (List.mem_filter.mp hm).2
    rw [n] at q; simp at q
theorem of_hidT {h : Heap} {H : Hp} {b : Addr} {o : Obj} (e : (hidT h H).get? b = some o) : h.get? b = some o ∧ H b = none := by
  have e' : h.get? b = some o := PySem.W.of_hideAll (trk h H) e
  refine ⟨e', ?_⟩
  cases q : H b with
  | none => rfl
  | some x =>
    have hm : b ∈ trk h H := List.mem_filter.mpr ⟨List.mem_range.mpr (Heap.lt_size e'), by simp [q]⟩
    have z : (hidT h H).get? b = none := PySem.W.hideAll_none (trk h H) hm
    rw [z] at e; cases e

/-! ### OpenK's ledger, filled with every new object but one -/
end L2

namespace L2
open PySem PySem.Spec PyProof.Rows

/-- the module's facts, over the base: the heap at the law's entry without what is tracked there -/
structure Mod (K : PySem.W.Frag) (mg : Str → Option Value) (base : Heap) : Prop where
  kin : K.In base
  glob : base.Ns mainGlobals mg
  blt : ∃ mb, base.Ns builtinsNs mb ∧ ∀ x : Str, x ≠ "__name__" → mb x = bootBuiltins x
  nolimit : base.NoLimit

/-- the context: a def's body (or a comprehension's block) running. base: fixed through the whole law; s₀, H₀: the entry; outer: the frames whose slots others may change (a def's callers); stack: all frames that run;
   ex: iterators that were made ahead of the entry and are walked here (a comprehension's); fn: the names whose cells were made at the entry (a def: all; a comprehension's block: its own); calm: not within an except suite; pn: pins that every state bears; xe: what is wanted of an exception that leaves the code -/
structure Cx where
  prog : Program
  w : World
  K : PySem.W.Frag
  mg : Str → Option Value
  base : Heap
  A : Around
  N : List Str
  s₀ : Shared
  H₀ : Hp
  env : Env
  outer : List Env
  stack : List Env
  ex : List Addr
  fn : Str → Bool
  calm : Bool
  pn : List (Addr × Obj)
  xe : Value → Shared → Prop
/-- the callers' frames -/
def frs (l : List Env) : List Addr := l.filterMap (·.frame)
abbrev Cx.fs (X : Cx) : List Addr := frs X.outer

def Vis (sc : Scope) (x : Str) : Prop := sc.names.lookup x = some .local ∨ sc.names.lookup x = some .cell ∨ sc.names.lookup x = some .free
def Loc (sc : Scope) (x : Str) : Prop := sc.names.lookup x = some .local ∨ sc.names.lookup x = some .cell
def Look (env : Env) (h : Heap) (m : Str → Option Value) (x : Str) (u : Value) : Prop :=
  (env.kindOf x = some .local ∧ m x = some u) ∨ ((env.kindOf x = some .cell ∨ env.kindOf x = some .free) ∧ ∃ c, env.cells.lookup x = some c ∧ h.IsCell c (some u))

structure Cx.Ok (X : Cx) : Prop where
  mod : Mod X.K X.mg X.base
  kind : X.env.scope.kind = .function
  glob : X.env.globals = mainGlobals
  blt : X.env.builtins = builtinsNs
  above : X.s₀.heap.objs.size ≤ X.env.locals
  inj : ∀ x y c, X.env.cells.lookup x = some c → X.env.cells.lookup y = some c → x = y
  has : ∀ x, (X.env.kindOf x = some .cell ∨ X.env.kindOf x = some .free) → ∃ c, X.env.cells.lookup x = some c
  cab : ∀ x c, X.fn x = true → X.env.cells.lookup x = some c → X.s₀.heap.objs.size ≤ c
  hd : X.calm = true → X.A.handled = none
  frames : X.A.frames = some X.stack
  stk : X.stack = X.outer ∨ (X.stack = X.env :: X.outer ∧ X.env.frame = some X.env.locals)
  exf : ∀ b ∈ X.ex, b ≠ X.env.locals ∧ ∀ x c, X.env.cells.lookup x = some c → c ≠ b
  bs : ∀ b o, X.base.get? b = some o → X.s₀.heap.get? b = some o ∧ X.H₀ b = none
  bsz : X.base.objs.size ≤ X.s₀.heap.objs.size
  noex : ∀ b o, X.base.get? b = some o → b ∉ X.ex
  exfs : ∀ b ∈ X.ex, b ∉ X.fs
  funs : X.s₀.heap.FunFrames X.base X.outer
  frf : ∀ b ∈ X.fs, X.H₀ b = none

structure Inv (X : Cx) (pins : List (Addr × Obj)) (σ : List (Option V)) (H : Hp) (s : Shared) : Prop where
  ok : X.Ok
  os : s.os = X.s₀.os
  bare : AllBare s.gens
  base : Un X.fs X.ex X.H₀ H X.s₀.heap s.heap
  loc : ∃ m, s.heap.Ns X.env.locals m ∧ ∀ (i : Nat) (x : Str) (v : V), X.N[i]? = some x → σ[i]? = some (some v) → Vis X.env.scope x → ∃ u, RelV v u ∧ Look X.env s.heap m x u
  cell : ∀ x c, X.env.cells.lookup x = some c → ∃ v, s.heap.IsCell c v
  free : H X.env.locals = none
  freeC : ∀ x c, X.env.cells.lookup x = some c → H c = none
  pin : ∀ p ∈ X.pn ++ pins, s.heap.get? p.1 = some p.2 ∧ H p.1 = none ∧ p.1 ≠ X.env.locals ∧ p.1 ∉ X.fs ∧ ∀ v, p.2.data ≠ .cell v
  hok : HOk X.prog X.w H s.heap
  len : σ.length = X.N.length

section
variable {X : Cx} {pins : List (Addr × Obj)} {σ : List (Option V)} {H H' : Hp} {s : Shared} {h' : Heap}

theorem Cx.Ok.nofr (ok : X.Ok) {b : Addr} {o : Obj} (e : X.base.get? b = some o) : b ∉ X.fs := fun hb => by
  have := (ok.funs.mem hb).1
  rw [e] at this; cases this
theorem Inv.bs (I : Inv X pins σ H s) : ∀ b o, X.base.get? b = some o → s.heap.get? b = some o ∧ H b = none := fun b o e =>
  ⟨I.base.keep b o (I.ok.bs b o e).1 (I.ok.bs b o e).2 (I.ok.nofr e) (I.ok.noex b o e), I.base.free b o (I.ok.bs b o e).1 (I.ok.bs b o e).2 (I.ok.noex b o e)⟩
theorem Inv.bk (I : Inv X pins σ H s) : ∀ b o, X.base.get? b = some o → s.heap.get? b = some o := fun b o e => (I.bs b o e).1
theorem Inv.mod (I : Inv X pins σ H s) : Mod X.K X.mg X.base := I.ok.mod
theorem Inv.kIn (I : Inv X pins σ H s) : X.K.In s.heap := I.ok.mod.kin.keeps I.bk
theorem Inv.lt (I : Inv X pins σ H s) : X.env.locals < s.heap.objs.size := let ⟨_, hn, _⟩ := I.loc; hn.lt
theorem Inv.sz (I : Inv X pins σ H s) : X.s₀.heap.objs.size ≤ s.heap.objs.size := Nat.le_trans I.ok.above (Nat.le_of_lt I.lt)
theorem Inv.nofs (I : Inv X pins σ H s) {a : Addr} (h : s.heap.objs.size ≤ a) : a ∉ X.fs := fun hb => by
  obtain ⟨_, o, ho, _⟩ := I.ok.funs.mem hb
  exact absurd (Nat.lt_of_lt_of_le (Heap.lt_size ho) (Nat.le_trans I.sz h)) (Nat.lt_irrefl _)
theorem Inv.cne (I : Inv X pins σ H s) : ∀ x c, X.env.cells.lookup x = some c → c ≠ X.env.locals := fun x c e z => by
  obtain ⟨v, o, ho, hd⟩ := I.cell x c e
  obtain ⟨m, ⟨o', es, ep, ho', hd', _⟩, _⟩ := I.loc
  rw [z, ho'] at ho; cases ho; rw [hd'] at hd; cases hd
theorem Inv.funs (I : Inv X pins σ H s) : s.heap.FunFrames X.base X.outer := by
  have all : ∀ (l : List Env), (∀ b ∈ frs l, b ∈ X.fs) → X.s₀.heap.FunFrames X.base l → s.heap.FunFrames X.base l := by
    intro l
    induction l with
    | nil => intro _ _; trivial
    | cons env r ih =>
      intro hs hl
      obtain ⟨hk, ⟨L, o, hf, hn, ho, hd⟩, hr⟩ := hl
      have hL : L ∈ X.fs := hs L (by unfold frs; rw [List.filterMap_cons, hf]; exact List.mem_cons_self)
      obtain ⟨sl, e⟩ := I.base.slot L o ho (I.ok.frf L hL) hL fun z => I.ok.exfs L z hL
      exact ⟨hk, ⟨L, _, hf, hn, e, hd⟩, ih (fun b hb => hs b (by unfold frs; rw [List.filterMap_cons, hf]; exact List.mem_cons_of_mem _ hb)) hr⟩
  exact all X.outer (fun _ hb => hb) I.ok.funs

/-- the frames that run, for a call -/
theorem Inv.stack (I : Inv X pins σ H s) : s.heap.FunFrames X.base X.stack := by
  rcases I.ok.stk with e | ⟨e, hf⟩
  · rw [e]; exact I.funs
  · rw [e]
    obtain ⟨m, hn, _⟩ := I.loc
    refine .cons (by rw [I.ok.kind]; decide) hf hn ?_ I.funs
    exact Heap.get?_none_of_le (Nat.le_trans I.ok.bsz I.ok.above)
theorem Inv.stkSub (I : Inv X pins σ H s) : ∀ b ∈ frs X.stack, b ∈ X.env.locals :: X.fs := fun b hb => by
  rcases I.ok.stk with e | ⟨e, hf⟩
  · rw [e] at hb; exact List.mem_cons_of_mem _ hb
  · rw [e] at hb
    unfold frs at hb
    rw [List.filterMap_cons, hf] at hb
    exact hb
theorem Inv.stkFree (I : Inv X pins σ H s) : ∀ b ∈ frs X.stack, H b = none := fun b hb => by
  rcases List.mem_cons.mp (I.stkSub b hb) with e | hb
  · rw [e]; exact I.free
  · obtain ⟨_, o, ho, _⟩ := I.ok.funs.mem hb
    exact I.base.free b o ho (I.ok.frf b hb) fun z => I.ok.exfs b z hb

/-- THE STEP: the untracked objects but the frame and the records at ch are kept (the callers' frames up to slots), the frame's map is kept, the new abstract heap is held -/
theorem Inv.step {g' : Array GenState} {t' : Nat} {d' : Drawn} {ch : List Addr} (I : Inv X pins σ H s)
    (hch : ∀ b ∈ ch, (b ∈ X.ex ∨ X.s₀.heap.objs.size ≤ b) ∧ b ≠ X.env.locals ∧ (∀ x c, X.env.cells.lookup x = some c → c ≠ b) ∧ ∀ p ∈ X.pn ++ pins, p.1 ≠ b)
    (keep : ∀ b o, b ≠ X.env.locals → b ∉ X.fs → b ∉ ch → s.heap.get? b = some o → H b = none → h'.get? b = some o)
    (slot : ∀ b o, b ≠ X.env.locals → b ∈ X.fs → b ∉ ch → s.heap.get? b = some o → H b = none → ∃ sl, h'.get? b = some { o with slots := sl }) (free : ∀ b o, b ∉ ch → s.heap.get? b = some o → H b = none → H' b = none)
    (there : ∀ b o, b ∉ ch → s.heap.get? b = some o → ∃ o', h'.get? b = some o')
    (tups : ∀ b xs, H b = some (.tup xs) → H' b = some (.tup xs)) (frzs : ∀ b o u, H b = some (.frz o u) → H' b = some (.frz o u)) (tbls : ∀ b ps, H b = some (.tbl ps) → ∃ more, H' b = some (.tbl (ps ++ more)))
    (ns : ∀ m, s.heap.Ns X.env.locals m → h'.Ns X.env.locals m) (hok : HOk X.prog X.w H' h') (hg : AllBare g') :
    Inv X pins σ H' { s with heap := h', gens := g', drawn := d', toks := t' } := by
  have neL : ∀ b o, X.s₀.heap.get? b = some o → b ≠ X.env.locals := fun b o e => Nat.ne_of_lt (Nat.lt_of_lt_of_le (Heap.lt_size e) I.ok.above)
  have neC : ∀ b o, X.s₀.heap.get? b = some o → b ∉ X.ex → b ∉ ch := fun b o e hx hb => by
    rcases (hch b hb).1 with z | z
    · exact hx z
    · exact absurd (Nat.lt_of_lt_of_le (Heap.lt_size e) z) (Nat.lt_irrefl _)
  have cellK : ∀ x c, X.env.cells.lookup x = some c → ∀ v, s.heap.IsCell c v → h'.IsCell c v := fun x c e v ⟨o, ho, hd⟩ => by
    have nch : c ∉ ch := fun z => (hch c z).2.2.1 x c e rfl
    by_cases hc : c ∈ X.fs
    · obtain ⟨sl, q⟩ := slot c o (I.cne x c e) hc nch ho (I.freeC x c e)
      exact ⟨_, q, hd⟩
    · exact ⟨o, keep c o (I.cne x c e) hc nch ho (I.freeC x c e), hd⟩
  refine ⟨I.ok, I.os, hg, ⟨fun b o e n hb hx => ?_, fun b o e n hb hx => ?_, fun b o e n hx => ?_, fun b o e hx => ?_, fun b xs e => tups b xs (I.base.tups b xs e), fun b o xs e => frzs b o xs (I.base.frzs b o xs e), fun b ps e => ?_⟩, ?_, fun x c e => ?_, ?_, fun x c e => ?_, fun p hp => ?_, hok, I.len⟩
  · exact keep b o (neL b o e) hb (neC b o e hx) (I.base.keep b o e n hb hx) (I.base.free b o e n hx)
  · obtain ⟨sl, e1⟩ := I.base.slot b o e n hb hx
    obtain ⟨sl', e2⟩ := slot b _ (neL b o e) hb (neC b o e hx) e1 (I.base.free b o e n hx)
    exact ⟨sl', e2⟩
  · obtain ⟨o', e1⟩ := I.base.there b o e hx
    exact free b o' (neC b o e hx) e1 (I.base.free b o e n hx)
  · obtain ⟨o', e1⟩ := I.base.there b o e hx
    exact there b o' (neC b o e hx) e1
  · obtain ⟨m1, e1⟩ := I.base.tbls b ps e
    obtain ⟨m2, e2⟩ := tbls b _ e1
    exact ⟨m1 ++ m2, by rw [e2, Array.append_assoc]⟩
  · obtain ⟨m, hn, hl⟩ := I.loc
    refine ⟨m, ns m hn, fun i x v e1 e2 e3 => ?_⟩
    obtain ⟨u, r, l⟩ := hl i x v e1 e2 e3
    refine ⟨u, r, ?_⟩
    rcases l with l | ⟨k, c, e, z⟩
    · exact .inl l
    · exact .inr ⟨k, c, e, cellK x c e _ z⟩
  · obtain ⟨v, z⟩ := I.cell x c e
    exact ⟨v, cellK x c e v z⟩
  · obtain ⟨m, ⟨o, _, _, ho, _⟩, _⟩ := I.loc
    exact free _ o (fun z => (hch _ z).2.1 rfl) ho I.free
  · obtain ⟨v, o, ho, hd⟩ := I.cell x c e
    exact free c o (fun z => (hch c z).2.2.1 x c e rfl) ho (I.freeC x c e)
  · obtain ⟨e, n, ne, nf, d⟩ := I.pin p hp
    have nch : p.1 ∉ ch := fun z => (hch p.1 z).2.2.2 p hp rfl
    exact ⟨keep p.1 p.2 ne nf nch e n, free p.1 p.2 nch e n, ne, nf, d⟩
/-- .. where the frame's own object is kept too -/
theorem Inv.un {t' : Nat} (I : Inv X pins σ H s) (u : Un X.fs [] H H' s.heap h') (hok : HOk X.prog X.w H' h') : Inv X pins σ H' { s with heap := h', toks := t' } := by
  obtain ⟨m, ⟨o, es, ep, ho, r⟩, _⟩ := id I.loc
  obtain ⟨sl, hL⟩ := u.any ho I.free (by simp)
  exact I.step (g' := s.gens) (d' := s.drawn) (ch := []) (fun _ z => nomatch z) (fun b o _ hb _ e n => u.keep b o e n hb (by simp)) (fun b o _ hb _ e n => u.slot b o e n hb (by simp)) (fun b o _ e n => u.free b o e n (by simp)) (fun b o _ e => u.there b o e (by simp)) u.tups u.frzs u.tbls (fun m' hm => by
    obtain ⟨o', es', ep', ho', r'⟩ := hm
    rw [ho] at ho'; cases ho'
    exact ⟨_, es', ep', hL, r'⟩) hok I.bare
/-- behind a call (or a comprehension's block): the slots of this frame may have changed too, the records at ch may have turned -/
theorem Inv.call {g' : Array GenState} {t' : Nat} {d' : Drawn} {ch : List Addr} (I : Inv X pins σ H s) (u : Un (frs X.stack) ch H H' s.heap h') (hok : HOk X.prog X.w H' h') (hg : AllBare g')
    (hch : ∀ b ∈ ch, (b ∈ X.ex ∨ X.s₀.heap.objs.size ≤ b) ∧ b ≠ X.env.locals ∧ (∀ x c, X.env.cells.lookup x = some c → c ≠ b) ∧ ∀ p ∈ X.pn ++ pins, p.1 ≠ b) :
    Inv X pins σ H' { s with heap := h', gens := g', drawn := d', toks := t' } := by
  obtain ⟨m, ⟨o, es, ep, ho, r⟩, _⟩ := id I.loc
  obtain ⟨sl, hL⟩ := u.any ho I.free fun z => (hch _ z).2.1 rfl
  exact I.step (ch := ch) hch (fun b o hL hb hc e n => u.keep b o e n (fun z => (List.mem_cons.mp (I.stkSub b z)).elim hL hb) hc) (fun b o _ _ hc e n => u.any e n hc) (fun b o hc e n => u.free b o e n hc) (fun b o hc e => u.there b o e hc) u.tups u.frzs u.tbls (fun m' hm => by
    obtain ⟨o', es', ep', ho', r'⟩ := hm
    rw [ho] at ho'; cases ho'
    exact ⟨_, es', ep', hL, r'⟩) hok hg
/-- an untracked record of ours (an iterator) has turned -/
theorem Inv.turned {t' : Nat} {it : Addr} (I : Inv X pins σ H s) (k : ∀ b o, b ≠ it → s.heap.get? b = some o → h'.get? b = some o) (hn : H it = none) (hL : it ≠ X.env.locals)
    (h1 : it ∈ X.ex ∨ X.s₀.heap.objs.size ≤ it) (h2 : ∀ x c, X.env.cells.lookup x = some c → c ≠ it) (h3 : ∀ p ∈ X.pn ++ pins, p.1 ≠ it) : Inv X pins σ H { s with heap := h', toks := t' } := by
  have nit : ∀ b u, H b = some u → b ≠ it := fun b u e z => by rw [z, hn] at e; cases e
  refine I.step (g' := s.gens) (d' := s.drawn) (ch := [it]) (fun b hb => ?_) (fun b o _ _ hc e _ => k b o (fun z => hc (by simp [z])) e) (fun b o _ _ hc e _ => ⟨o.slots, k b o (fun z => hc (by simp [z])) e⟩) (fun _ _ _ _ n => n)
    (fun b o hc e => ⟨o, k b o (fun z => hc (by simp [z])) e⟩) (fun _ _ e => e) (fun _ _ _ e => e) (fun b ps e => ⟨#[], by rw [e]; simp⟩) (fun m hm => ?_) (fun b u e => ?_) I.bare
  · have e : b = it := by simpa using hb
    subst e
    exact ⟨h1, hL, h2, h3⟩
  · obtain ⟨o, es, ep, ho, r⟩ := hm
    exact ⟨o, es, ep, k _ o (Ne.symm hL) ho, r⟩
  · refine (I.hok b u e).stay (fun c v hc q => k c v ?_ q) (fun _ q => q) fun _ _ q => q
    rcases hc with z | z
    · rw [z]; exact nit b u e
    · exact nit c _ z
theorem Inv.tok (I : Inv X pins σ H s) (t : Nat) : Inv X pins σ H { s with toks := t } := I.un (h' := s.heap) (t' := t) Un.refl I.hok
/-- all objects kept -/
theorem Inv.kept {t' : Nat} (I : Inv X pins σ H s) (k : ∀ b u, s.heap.get? b = some u → h'.get? b = some u) : Inv X pins σ H { s with heap := h', toks := t' } := I.un (Un.kept k) (I.hok.kept k)
/-- a new object laid and tracked -/
theorem Inv.laid {a : Addr} {o : HO} {t' : Nat} (I : Inv X pins σ H s) (k : ∀ b u, s.heap.get? b = some u → h'.get? b = some u) (hp : s.heap.objs.size ≤ a) (new : ObjOk X.prog X.w (upd H a o) h' a o) :
    Inv X pins σ (upd H a o) { s with heap := h', toks := t' } := I.un (Un.laid k hp (I.hok.fresh hp)) (I.hok.laid k hp new)
/-- an object written -/
theorem Inv.write {x e : Addr} {o : HO} {t' : Nat} (I : Inv X pins σ H s) (mu : Mut (H x)) (he : e = x ∨ H e = some (.own x)) (k : ∀ b u, b ≠ e → s.heap.get? b = some u → h'.get? b = some u) (heo : ∃ u, h'.get? e = some u)
    (new : ObjOk X.prog X.w (upd H x o) h' x o) : Inv X pins σ (upd H x o) { s with heap := h', toks := t' } := I.un (Un.write mu he k heo) (I.hok.write mu he k heo new)
/-- forgetting slots, pins -/
theorem Inv.weak {σ' : List (Option V)} (I : Inv X pins σ H s) (hl : σ'.length = σ.length) (w : ∀ (i : Nat) v, σ'[i]? = some (some v) → σ[i]? = some (some v)) : Inv X pins σ' H s :=
  ⟨I.ok, I.os, I.bare, I.base, let ⟨m, hn, hl'⟩ := I.loc; ⟨m, hn, fun i x v e1 e2 e3 => hl' i x v e1 (w i v e2) e3⟩, I.cell, I.free, I.freeC, I.pin, I.hok, hl.trans I.len⟩
theorem Inv.pins_of {pins' : List (Addr × Obj)} (I : Inv X pins σ H s) (h : ∀ p ∈ pins', s.heap.get? p.1 = some p.2 ∧ H p.1 = none ∧ p.1 ≠ X.env.locals ∧ p.1 ∉ X.fs ∧ ∀ v, p.2.data ≠ .cell v) : Inv X pins' σ H s :=
  ⟨I.ok, I.os, I.bare, I.base, I.loc, I.cell, I.free, I.freeC, fun p hp => (List.mem_append.mp hp).elim (fun z => I.pin p (List.mem_append_left _ z)) (h p), I.hok, I.len⟩

theorem nodup_ix {N : List Str} (hN : N.Nodup) {i j : Nat} {x : Str} (a : N[i]? = some x) (b : N[j]? = some x) : i = j := by
  obtain ⟨h1, e1⟩ := List.getElem?_eq_some_iff.mp a
  obtain ⟨h2, e2⟩ := List.getElem?_eq_some_iff.mp b
  exact (List.getElem_inj hN).mp (e1.trans e2.symm)

/-- a name is stored; what changed -/
theorem store_ok2 {M : Model} {A : Around} {E : Value → Shared → Prop} {i : Nat} {x : Str} {v : V} {u : Value} {Q : Unit → Shared → Prop} (I : Inv X pins σ H s) (hN : X.N.Nodup) (hi : X.N[i]? = some x) (hx : Loc X.env.scope x) (r : RelV v u)
    (h : ∀ s', Inv X pins (σ.set i (some v)) H s' → (∃ a, Heap.SameBut a s.heap s'.heap ∧ (a = X.env.locals ∨ X.env.cells.lookup x = some a)) → Q () s') (hf : X.fn x = true ∨ X.env.scope.names.lookup x = some .local := by first | exact .inl rfl | exact .inr rfl | assumption) : wpAny M A (storeName X.env x u) Q E s := by
  obtain ⟨m, hn, hl⟩ := id I.loc
  have hcls : (X.env.scope.kind == .class || (X.env.scope.kind == .module && X.env.locals != X.env.globals)) = false := by rw [I.ok.kind]; rfl
  have hiσ : i < σ.length := by rw [I.len]; exact (List.getElem?_eq_some_iff.mp hi).1
  have cne := I.cne
  have tracked : ∀ {a : Addr} {h' : Heap}, (∃ o, s.heap.get? a = some o ∧ H a = none) → Heap.SameBut a s.heap h' → HOk X.prog X.w H h' := fun {a h'} ha hs b ob e => by
    obtain ⟨_, _, hfree⟩ := ha
    refine (I.hok b ob e).stay (fun c w' hc q => (hs.2 c ?_).trans q) (fun _ q => q) fun _ _ q => q
    rintro rfl
    rcases hc with rfl | hc
    · rw [hfree] at e; cases e
    · rw [hfree] at hc; cases hc
  rcases hx with hk | hk
  · refine wpAny_storeName_local hk hn (fun h' hn' hs => ?_) hcls
    obtain ⟨oL, _, _, hoL, _⟩ := id hn
    refine h _ ⟨I.ok, I.os, I.bare, ⟨fun b o e n hb hx => ?_, fun b o e n hb hx => ?_, I.base.free, fun b o e hx => ?_, I.base.tups, I.base.frzs, I.base.tbls⟩, ⟨_, hn', fun j y v' e1 e2 e3 => ?_⟩, fun y c e => ?_, I.free, I.freeC, fun p hp => ?_, tracked ⟨oL, hoL, I.free⟩ hs, by simpa using I.len⟩ ⟨_, hs, .inl rfl⟩
    · exact (hs.2 b (Nat.ne_of_lt (Nat.lt_of_lt_of_le (Heap.lt_size e) I.ok.above))).trans (I.base.keep b o e n hb hx)
    · obtain ⟨sl, e1⟩ := I.base.slot b o e n hb hx
      exact ⟨sl, (hs.2 b (Nat.ne_of_lt (Nat.lt_of_lt_of_le (Heap.lt_size e) I.ok.above))).trans e1⟩
    · obtain ⟨o', e1⟩ := I.base.there b o e hx
      exact ⟨o', (hs.2 b (Nat.ne_of_lt (Nat.lt_of_lt_of_le (Heap.lt_size e) I.ok.above))).trans e1⟩
    · by_cases hj : j = i
      · subst hj
        rw [hi] at e1; cases e1
        rw [List.getElem?_set_self hiσ] at e2
        cases e2
        exact ⟨u, r, .inl ⟨hk, by simp⟩⟩
      · rw [List.getElem?_set_ne (Ne.symm hj)] at e2
        obtain ⟨u', r', q⟩ := hl j y v' e1 e2 e3
        refine ⟨u', r', ?_⟩
        rcases q with ⟨k, e⟩ | ⟨k, c, e, z⟩
        · refine .inl ⟨k, ?_⟩
          have : y ≠ x := fun e => hj (nodup_ix hN e1 (e ▸ hi))
          simp [this, e]
        · exact .inr ⟨k, c, e, z.sameBut hs (cne y c e)⟩
    · obtain ⟨w', z⟩ := I.cell y c e
      exact ⟨w', z.sameBut hs (cne y c e)⟩
    · obtain ⟨e, n, ne, nf, d⟩ := I.pin p hp
      exact ⟨(hs.2 p.1 ne).trans e, n, ne, nf, d⟩
  · have hfn : X.fn x = true := by
      rcases hf with z | z
      · exact z
      · rw [z] at hk; cases hk
    obtain ⟨c, hc⟩ := I.ok.has x (.inl hk)
    obtain ⟨w', z⟩ := I.cell x c hc
    refine wpAny_storeName_cell I.ok.kind hk hc z (fun h' hc' hs => ?_)
    obtain ⟨oc, hoc, hocd⟩ := id z
    refine h { s with heap := h' } ⟨I.ok, I.os, I.bare, ⟨fun b o e n hb hx => ?_, fun b o e n hb hx => ?_, I.base.free, fun b o e hx => ?_, I.base.tups, I.base.frzs, I.base.tbls⟩, ⟨m, hn.sameBut hs (Ne.symm (cne x c hc)), fun j y v' e1 e2 e3 => ?_⟩, fun y c' e => ?_, I.free, I.freeC, fun p hp => ?_, tracked ⟨oc, hoc, I.freeC x c hc⟩ hs, by simpa using I.len⟩ ⟨c, hs, .inr hc⟩
    · exact (hs.2 b (Nat.ne_of_lt (Nat.lt_of_lt_of_le (Heap.lt_size e) (I.ok.cab x c hfn hc)))).trans (I.base.keep b o e n hb hx)
    · obtain ⟨sl, e1⟩ := I.base.slot b o e n hb hx
      exact ⟨sl, (hs.2 b (Nat.ne_of_lt (Nat.lt_of_lt_of_le (Heap.lt_size e) (I.ok.cab x c hfn hc)))).trans e1⟩
    · obtain ⟨o', e1⟩ := I.base.there b o e hx
      exact ⟨o', (hs.2 b (Nat.ne_of_lt (Nat.lt_of_lt_of_le (Heap.lt_size e) (I.ok.cab x c hfn hc)))).trans e1⟩
    · by_cases hj : j = i
      · subst hj
        rw [hi] at e1; cases e1
        rw [List.getElem?_set_self hiσ] at e2
        cases e2
        exact ⟨u, r, .inr ⟨.inl hk, c, hc, hc'⟩⟩
      · rw [List.getElem?_set_ne (Ne.symm hj)] at e2
        obtain ⟨u', r', q⟩ := hl j y v' e1 e2 e3
        refine ⟨u', r', ?_⟩
        rcases q with q | ⟨k, c', e, z'⟩
        · exact .inl q
        · refine .inr ⟨k, c', e, z'.sameBut hs ?_⟩
          rintro rfl
          exact hj (nodup_ix hN e1 (I.ok.inj _ _ _ e hc ▸ hi))
    · by_cases hcc : c' = c
      · subst hcc; exact ⟨_, hc'⟩
      · obtain ⟨w2, z2⟩ := I.cell y c' e
        exact ⟨w2, z2.sameBut hs hcc⟩
    · obtain ⟨e, n, ne, nf, d⟩ := I.pin p hp
      refine ⟨(hs.2 p.1 ?_).trans e, n, ne, nf, d⟩
      intro q
      rw [q, hoc] at e
      have q' : oc = p.2 := Option.some.inj e
      exact d w' (by rw [← q']; exact hocd)
theorem store_ok {M : Model} {A : Around} {E : Value → Shared → Prop} {i : Nat} {x : Str} {v : V} {u : Value} {Q : Unit → Shared → Prop} (I : Inv X pins σ H s) (hN : X.N.Nodup) (hi : X.N[i]? = some x) (hx : Loc X.env.scope x) (r : RelV v u)
    (h : ∀ s', Inv X pins (σ.set i (some v)) H s' → Q () s') (hf : X.fn x = true ∨ X.env.scope.names.lookup x = some .local := by first | exact .inl rfl | exact .inr rfl | assumption) : wpAny M A (storeName X.env x u) Q E s :=
  store_ok2 I hN hi hx r (fun s' I' _ => h s' I') hf
/-- behind a call or a block, the state as it is -/
theorem Inv.call' {s' : Shared} {ch : List Addr} (I : Inv X pins σ H s) (ho : s'.os = s.os) (u : Un (frs X.stack) ch H H' s.heap s'.heap) (hok : HOk X.prog X.w H' s'.heap) (hg : AllBare s'.gens)
    (hch : ∀ b ∈ ch, (b ∈ X.ex ∨ X.s₀.heap.objs.size ≤ b) ∧ b ≠ X.env.locals ∧ (∀ x c, X.env.cells.lookup x = some c → c ≠ b) ∧ ∀ p ∈ X.pn ++ pins, p.1 ≠ b) : Inv X pins σ H' s' := by
  obtain ⟨h', g', d', t', o'⟩ := s'
  have e : o' = s.os := ho
  subst e
  exact I.call (g' := g') (t' := t') (d' := d') u hok hg hch
end

/-! ### the judgements -/
/-- an exception: its class, its own dict's address (where it has one), the abstract heap behind it -/
abbrev XK := Value → Option Addr → Hp → Prop
abbrev St := List (Option V)
abbrev VK := V → Hp → Prop
/-- an expression's reading; a test's; an argument list's -/
abbrev TE := St → Hp → VK → Prop
abbrev TT := St → Hp → (Bool → Hp → Prop) → Prop
abbrev TA := St → Hp → (List V → Hp → Prop) → Prop
/-- what is wanted behind a statement -/
structure Ends where
  nx : St → Hp → Prop
  rt : VK
  bk : St → Hp → Prop := fun _ _ => False
  ct : St → Hp → Prop := fun _ _ => False
abbrev TS := Ends → St → Hp → Prop

def EP (X : Cx) (pins : List (Addr × Obj)) (σ : St) (Q : VK) (u : Value) (s' : Shared) : Prop := ∃ v H', Inv X pins σ H' s' ∧ RelV v u ∧ Q v H'
def TP (X : Cx) (pins : List (Addr × Obj)) (σ : St) (Q : Bool → Hp → Prop) (b : Bool) (s' : Shared) : Prop := ∃ H', Inv X pins σ H' s' ∧ Q b H'
def AP (X : Cx) (pins : List (Addr × Obj)) (σ : St) (Q : List V → Hp → Prop) (us : List Value) (s' : Shared) : Prop := ∃ vs H', Inv X pins σ H' s' ∧ Vals vs us ∧ Q vs H'
def SP (X : Cx) (pins : List (Addr × Obj)) (D : Ends) (f : Flow) (s' : Shared) : Prop :=
  match f with
  | .next => ∃ σ' H', Inv X pins σ' H' s' ∧ D.nx σ' H'
  | .brk => ∃ σ' H', Inv X pins σ' H' s' ∧ D.bk σ' H'
  | .cont => ∃ σ' H', Inv X pins σ' H' s' ∧ D.ct σ' H'
  | .ret u => ∃ v σ' H', Inv X pins σ' H' s' ∧ RelV v u ∧ D.rt v H'

def PE (X : Cx) (e : Expr) (t : TE) : Prop :=
  ∀ (pins : List (Addr × Obj)) (s : Shared) (σ : St) (H : Hp) (Q : VK), Inv X pins σ H s → t σ H Q → wpAny (model X.prog X.w) X.A (eval e X.env) (EP X pins σ Q) X.xe s
def PT (X : Cx) (e : Expr) (t : TT) : Prop :=
  ∀ (pins : List (Addr × Obj)) (s : Shared) (σ : St) (H : Hp) (Q : Bool → Hp → Prop), Inv X pins σ H s → t σ H Q → wpAny (model X.prog X.w) X.A (isTrue e X.env (eval e X.env)) (TP X pins σ Q) X.xe s
/-- a test whatever its 'whole' is (and, or) -/
def PW (X : Cx) (e : Expr) (t : TT) : Prop :=
  ∀ (whole : Sem Value) (pins : List (Addr × Obj)) (s : Shared) (σ : St) (H : Hp) (Q : Bool → Hp → Prop), Inv X pins σ H s → t σ H Q → wpAny (model X.prog X.w) X.A (isTrue e X.env whole) (TP X pins σ Q) X.xe s
theorem PW.pt {X : Cx} {e : Expr} {t : TT} (h : PW X e t) : PT X e t := h _
/-- an argument list (no star), from the left -/
def PA (X : Cx) (es : List Expr) (t : TA) : Prop :=
  ∀ (pos : Pos) (pins : List (Addr × Obj)) (s : Shared) (σ : St) (H : Hp) (Q : List V → Hp → Prop), Inv X pins σ H s → t σ H Q → wpAny (model X.prog X.w) X.A (spliced (backTo pos (starEach es X.env))) (AP X pins σ Q) X.xe s
def PS (X : Cx) (st : Stmt) (t : TS) : Prop :=
  ∀ (pins : List (Addr × Obj)) (s : Shared) (σ : St) (H : Hp) (D : Ends), Inv X pins σ H s → t D σ H → wpAny (model X.prog X.w) X.A (exec st X.env) (SP X pins D) X.xe s
def PSs (X : Cx) (st : List Stmt) (t : TS) : Prop :=
  ∀ (pins : List (Addr × Obj)) (s : Shared) (σ : St) (H : Hp) (D : Ends), Inv X pins σ H s → t D σ H → wpAny (model X.prog X.w) X.A (execs st X.env) (SP X pins D) X.xe s
/-- weaken the end -/
theorem thn {α : Type} {t : Sem α} {Q Q' : α → Shared → Prop} {M : Model} {A : Around} {E : Value → Shared → Prop} {s : Shared} (h : wpAny M A t Q E s) (hQ : ∀ a s, Q a s → Q' a s) : wpAny M A t Q' E s := wpAny_mono h hQ fun _ _ x => x
end L2

namespace L2
open PySem PySem.Spec PyProof.Rows
section
variable {X : Cx}


/-! ### names and constants -/
def tVar (i : Nat) : TE := fun σ H Q => ∃ v, σ[i]? = some (some v) ∧ Q v H
def tC (v : V) : TE := fun _ H Q => Q v H
theorem pe_var {i : Nat} {x : Str} {pos : Pos} (hN : X.N[i]? = some x) (hv : Vis X.env.scope x) (hd : (x == ("__debug__" : Str)) = false := by decide) (hcd : (x == ("__classdict__" : Str)) = false := by decide) : PE X (.Name x pos) (tVar i) := by
  intro pins s σ H Q I h
  obtain ⟨v, e, h⟩ := h
  obtain ⟨m, hn, hl⟩ := I.loc
  obtain ⟨u, r, l⟩ := hl i x v hN e hv
  have fin : EP X pins σ Q u s := ⟨v, H, I, r, h⟩
  rcases l with ⟨hk, hm⟩ | ⟨hk, c, hc, hcell⟩
  · exact wpAny_Name (wpAny_loadName_local I.ok.kind hk hn hm fin) hd
  · rcases hk with hk | hk
    · exact wpAny_Name (wpAny_loadName_cell I.ok.kind hk hc hcell fin) hd
    · exact wpAny_Name (wpAny_loadName_free I.ok.kind hk hc hcell fin hcd) hd
theorem pe_int {i j pos} : PE X (.Constant (.int i) j pos) (tC (.int i)) := fun _ _ _ H _ I h => wpAny_Constant_int ⟨.int i, H, I.tok _, ⟨_, rfl⟩, h⟩
theorem pe_bl {b j pos} : PE X (.Constant (.bool b) j pos) (tC (.bl b)) := fun _ _ _ H _ I h => Constant_bool ⟨.bl b, H, I, rfl, h⟩
theorem pe_non {j pos} : PE X (.Constant .none j pos) (tC .non) := fun _ _ _ H _ I h => Constant_none ⟨.non, H, I, rfl, h⟩
theorem pe_str {x j pos} : PE X (.Constant (.str x) j pos) (tC (.str x)) := fun _ _ _ H _ I h => Calls.Constant_str ⟨.str x, H, I.tok _, ⟨_, rfl⟩, h⟩

/-- a global name of the def -/
def Gl (X : Cx) (x : Str) : Prop := X.env.kindOf x = some .globalImplicit
theorem ld_glob {E : Value → Shared → Prop} {pins : List (Addr × Obj)} {s : Shared} {σ : St} {H : Hp} {x : Str} {u : Value} {pos : Pos} {Q : Value → Shared → Prop} (I : Inv X pins σ H s) (hg : Gl X x) (hm : X.mg x = some u) (h : Q u s)
    (hd : (x == ("__debug__" : Str)) = false := by decide) : wpAny (model X.prog X.w) X.A (eval (.Name x pos) X.env) Q E s :=
  Calls.Name_function_global I.ok.kind hg (Calls.loadGlobal_global (by rw [I.ok.glob]; exact I.mod.glob.keeps I.bk) hm h) hd
theorem ld_blt {E : Value → Shared → Prop} {pins : List (Addr × Obj)} {s : Shared} {σ : St} {H : Hp} {x : Str} {u : Value} {pos : Pos} {Q : Value → Shared → Prop} (I : Inv X pins σ H s) (hg : Gl X x) (hm : X.mg x = none) (hv : bootBuiltins x = some u) (h : Q u s)
    (hn : x ≠ "__name__" := by decide) (hd : (x == ("__debug__" : Str)) = false := by decide) : wpAny (model X.prog X.w) X.A (eval (.Name x pos) X.env) Q E s := by
  obtain ⟨mb, h1, h2⟩ := I.mod.blt
  exact Calls.Name_function_global I.ok.kind hg (Calls.loadGlobal_builtin (by rw [I.ok.glob]; exact I.mod.glob.keeps I.bk) hm (by rw [I.ok.blt]; exact h1.keeps I.bk) ((h2 x hn).trans hv) h) hd
/-- a module's constant, a class, a function, as a value -/
theorem pe_glob {x : Str} {v : V} {u : Value} {pos : Pos} (hg : Gl X x) (hm : X.mg x = some u) (r : RelV v u) (hd : (x == ("__debug__" : Str)) = false := by decide) : PE X (.Name x pos) (tC v) :=
  fun _ _ _ H _ I h => ld_glob I hg hm ⟨v, H, I, r, h⟩ hd
theorem pe_bltn {x : Str} {v : V} {u : Value} {pos : Pos} (hg : Gl X x) (hm : X.mg x = none) (hv : bootBuiltins x = some u) (r : RelV v u) (hn : x ≠ "__name__" := by decide) (hd : (x == ("__debug__" : Str)) = false := by decide) : PE X (.Name x pos) (tC v) :=
  fun _ _ _ H _ I h => ld_blt I hg hm hv ⟨v, H, I, r, h⟩ hn hd

/-! ### arithmetic -/
variable {a b : Expr} {ta tb : TE} {pos : Pos}

/-! ### comparisons -/
def PC (X : Cx) (op : CmpOp) (a b : Expr) (t : TE) : Prop :=
  ∀ (pins : List (Addr × Obj)) (s : Shared) (σ : St) (H : Hp) (Q : VK), Inv X pins σ H s → t σ H Q →
    wpAny (model X.prog X.w) X.A (eval a X.env) (fun v s₁ => wpAny (model X.prog X.w) X.A (eval b X.env) (fun u s₂ => wpAny (model X.prog X.w) X.A (compareOp op v u) (EP X pins σ Q) X.xe s₂) X.xe s₁) X.xe s
/-- a comparison as a value, as a test -/
def tB (t : TE) : TT := fun σ H Q => t σ H fun x H1 => ∃ c, x = .bl c ∧ Q c H1
theorem pt_cmp {op : CmpOp} {t : TE} (h : PC X op a b t) (h1 : behindInMarks op b = false := by first | exact nobehind _ (by decide) (by decide) | rfl) : PT X (.Compare a [op] [b] pos) (tB t) := by
  intro pins s σ H Q I hw
  refine wpAny_isTrue_Compare1 (thn (h pins s σ H _ I hw) fun v s1 h1 => thn h1 fun u s2 h2 => thn h2 fun c s3 ⟨x, H1, I1, r1, q1⟩ => ?_) h1
  obtain ⟨d, rfl, q⟩ := q1
  cases r1
  exact wpAny_truthy_bool ⟨H1, I1, q⟩
/-- an expression whose value is a bool, as a test -/
theorem pt_val {e : Expr} {t : TE} (h : PE X e t) (he : ∀ whole, isTrue e X.env whole = (do let v ← whole; standAt e.pos; holding [v] (truthy v)) := by intro _; rfl) : PT X e (tB t) := by
  intro pins s σ H Q I hw
  refine isTrue_plain (thn (h pins s σ H _ I hw) fun v s1 ⟨x, H1, I1, r1, q1⟩ => ?_) (he _)
  obtain ⟨d, rfl, q⟩ := q1
  cases r1
  exact wpAny_truthy_bool ⟨H1, I1, q⟩

/-! ### and, or, not -/
variable {tA tB' : TT} {rest : List Expr}
def tAnd (t u : TT) : TT := fun σ H Q => t σ H fun c H1 => if c = true then u σ H1 Q else Q false H1
def tOr (t u : TT) : TT := fun σ H Q => t σ H fun c H1 => if c = true then Q true H1 else u σ H1 Q
def tNot (t : TT) : TT := fun σ H Q => t σ H fun c H1 => Q (!c) H1
theorem pw_and1 (ha : PT X a tA) : PW X (.BoolOp .And [a] pos) tA := by
  intro wh pins s σ H Q I h
  refine isTrue_and (thn (ha pins s σ H Q I h) fun c s1 e => ?_)
  cases c with
  | true => exact isTrue_and_nil e
  | false => exact e
theorem pw_or1 (ha : PT X a tA) : PW X (.BoolOp .Or [a] pos) tA := by
  intro wh pins s σ H Q I h
  refine isTrue_or (thn (ha pins s σ H Q I h) fun c s1 e => ?_)
  cases c with
  | false => exact isTrue_or_nil e
  | true => exact e
theorem pw_and (ha : PT X a tA) (hb : PW X (.BoolOp .And (b :: rest) pos) tB') : PW X (.BoolOp .And (a :: b :: rest) pos) (tAnd tA tB') := by
  intro wh pins s σ H Q I h
  refine isTrue_and (thn (ha pins s σ H _ I h) fun c s1 ⟨H1, I1, q1⟩ => ?_)
  cases c with
  | true => exact hb wh pins s1 σ H1 Q I1 q1
  | false => exact ⟨H1, I1, q1⟩
theorem pw_or (ha : PT X a tA) (hb : PW X (.BoolOp .Or (b :: rest) pos) tB') : PW X (.BoolOp .Or (a :: b :: rest) pos) (tOr tA tB') := by
  intro wh pins s σ H Q I h
  refine isTrue_or (thn (ha pins s σ H _ I h) fun c s1 ⟨H1, I1, q1⟩ => ?_)
  cases c with
  | true => exact ⟨H1, I1, q1⟩
  | false => exact hb wh pins s1 σ H1 Q I1 q1
theorem pt_not (ha : PT X a tA) : PT X (.UnaryOp .Not a pos) (tNot tA) := by
  intro pins s σ H Q I h
  exact isTrue_not (ha pins s σ H (fun c H1 => Q (!c) H1) I h)
/-- .. as values (bools) -/
def tAndV (ta tb : TE) : TE := fun σ H Q => ta σ H fun x H1 => ∃ c, x = .bl c ∧ if c = true then tb σ H1 Q else Q (.bl false) H1
def tNotV (ta : TE) : TE := fun σ H Q => ta σ H fun x H1 => ∃ c, x = .bl c ∧ Q (.bl (!c)) H1
theorem pe_one {op} {t : TE} (h : PE X a t) : PE X (.BoolOp op [a] pos) t := fun pins s σ H Q I hw => BoolOp_one (h pins s σ H Q I hw)
theorem pe_and (ha : PE X a ta) (hb : PE X (.BoolOp .And (b :: rest) pos) tb) : PE X (.BoolOp .And (a :: b :: rest) pos) (tAndV ta tb) := by
  intro pins s σ H Q I h
  refine BoolOp_and (thn (ha pins s σ H _ I h) fun v s1 ⟨x, H1, I1, r1, q1⟩ => ?_)
  obtain ⟨c, rfl, q1⟩ := q1
  cases r1
  refine wpAny_truthy_bool ?_
  cases c with
  | true => exact hb pins s1 σ H1 Q I1 q1
  | false => exact ⟨.bl false, H1, I1, rfl, q1⟩
theorem pe_not (ha : PE X a ta) : PE X (.UnaryOp .Not a pos) (tNotV ta) := by
  intro pins s σ H Q I h
  refine UnaryOp_ (thn (ha pins s σ H _ I h) fun v s1 ⟨x, H1, I1, r1, q1⟩ => ?_)
  obtain ⟨c, rfl, q1⟩ := q1
  cases r1
  exact not_of (wpAny_truthy_bool ⟨.bl (!c), H1, I1, rfl, q1⟩)
end
end L2

namespace L2
open PySem PySem.Spec PyProof.Rows

/-! ### a list, a tuple that is read: tracked, frozen, or an object of the module -/
def SqL (K : PySem.W.Frag) (H : Hp) (a : Addr) (xs : List V) : Prop :=
  Rd H a (.lst xs) ∨
    ∃ (o : Obj) (its : Array Value) (n : Nat), K.lookup a = some o ∧ o.cls = .type "list" ∧ o.dict = none ∧ o.data = .seq its n ∧ its.size ≤ sizeLine ∧ Vals xs its.toList
def SqT (K : PySem.W.Frag) (H : Hp) (a : Addr) (xs : List V) : Prop :=
  Rd H a (.tup xs) ∨
    ∃ (o : Obj) (its : Array Value) (n : Nat), K.lookup a = some o ∧ o.cls = .type "tuple" ∧ o.data = .seq its n ∧ its.size ≤ sizeLine ∧ Vals xs its.toList
def absV : Value → Option V
  | .none => some .non
  | .bool b => some (.bl b)
  | .int i _ => some (.int i)
  | .str x _ => some (.str x)
  | .bytes b _ => some (.byt b)
  | .float b _ => some (.flt b)
  | .ref a => some (.ref a)
  | .type n => some (.ty n)
  | _ => none
theorem RelV.abs {x : V} {u : Value} (r : RelV x u) : absV u = some x := by
  cases x with
  | non => cases r; rfl
  | bl _ => cases r; rfl
  | int _ => obtain ⟨t, rfl⟩ := r; rfl
  | str _ => obtain ⟨t, rfl⟩ := r; rfl
  | byt _ => obtain ⟨t, rfl⟩ := r; rfl
  | flt _ => obtain ⟨t, rfl⟩ := r; rfl
  | ref _ => cases r; rfl
  | ty _ => cases r; rfl
theorem RelV.inj {x y : V} {u : Value} (r : RelV x u) (q : RelV y u) : x = y := Option.some.inj (r.abs.symm.trans q.abs)
theorem Vals.inj : ∀ {xs ys : List V} {us : List Value}, Vals xs us → Vals ys us → xs = ys
  | _, _, _, .nil, .nil => rfl
  | _, _, _, .cons r t, .cons r' t' => by rw [r.inj r', Vals.inj t t']
section
variable {X : Cx} {pins : List (Addr × Obj)} {σ : St} {H : Hp} {s : Shared} {a : Addr} {xs ys : List V}
theorem SqL.of {K : PySem.W.Frag} (h : H a = some (.lst xs)) : SqL K H a xs := .inl (.inl h)
theorem SqT.of {K : PySem.W.Frag} (h : H a = some (.tup xs)) : SqT K H a xs := .inl (.inl h)
theorem Inv.list (I : Inv X pins σ H s) (h : SqL X.K H a xs) : ∃ its : List Value, Vals xs its ∧ PlainL s.heap a its.toArray ∧ xs.length ≤ sizeLine := by
  rcases h with h | ⟨o, its, n, hk, hc, hd, hs, hz, r⟩
  · obtain ⟨z, its, n, r, e⟩ := h.ok I.hok
    exact ⟨its, r, ⟨_, n, e, rfl, rfl, rfl⟩, z⟩
  · refine ⟨its.toList, r, ⟨o, n, I.kIn a o hk, hc, hd, by simpa using hs⟩, ?_⟩
    have e := r.length
    simp only [Array.length_toList] at e
    omega
theorem Inv.tuple (I : Inv X pins σ H s) (h : SqT X.K H a xs) : ∃ its : List Value, Vals xs its ∧ IsTup s.heap a its.toArray ∧ xs.length ≤ sizeLine := by
  rcases h with h | ⟨o, its, n, hk, hc, hs, hz, r⟩
  · obtain ⟨z, its, r, p⟩ := h.ok I.hok
    exact ⟨its, r, p, z⟩
  · refine ⟨its.toList, r, ⟨o, I.kIn a o hk, hc, n, by simpa using hs⟩, ?_⟩
    have e := r.length
    simp only [Array.length_toList] at e
    omega
theorem Inv.list_inj (I : Inv X pins σ H s) (h : SqL X.K H a xs) (h' : SqL X.K H a ys) : xs = ys := by
  obtain ⟨its, r, ⟨o, n, e, _, _, d⟩, _⟩ := I.list h
  obtain ⟨its', r', ⟨o', n', e', _, _, d'⟩, _⟩ := I.list h'
  rw [e] at e'; cases e'
  rw [d] at d'
  injection d' with d1 _
  have : its = its' := by simpa using congrArg Array.toList d1
  subst this
  exact r.inj r'
end

/-! ### another wish about exceptions -/
abbrev Cx.wish (X : Cx) (E : Value → Shared → Prop) : Cx := { X with xe := E }
/-- no exception leaves -/
abbrev Cx.nox (X : Cx) : Cx := X.wish fun _ _ => False
theorem Cx.Ok.wish {X : Cx} (ok : X.Ok) (E : Value → Shared → Prop) : (X.wish E).Ok :=
  ⟨ok.mod, ok.kind, ok.glob, ok.blt, ok.above, ok.inj, ok.has, ok.cab, ok.hd, ok.frames, ok.stk, ok.exf, ok.bs, ok.bsz, ok.noex, ok.exfs, ok.funs, ok.frf⟩
theorem Cx.Ok.unwish {X : Cx} {E : Value → Shared → Prop} (ok : (X.wish E).Ok) : X.Ok :=
  ⟨ok.mod, ok.kind, ok.glob, ok.blt, ok.above, ok.inj, ok.has, ok.cab, ok.hd, ok.frames, ok.stk, ok.exf, ok.bs, ok.bsz, ok.noex, ok.exfs, ok.funs, ok.frf⟩
section
variable {X : Cx} {pins : List (Addr × Obj)} {σ : St} {H : Hp} {s : Shared} {E : Value → Shared → Prop}
theorem Inv.wish (I : Inv X pins σ H s) (E : Value → Shared → Prop) : Inv (X.wish E) pins σ H s := ⟨I.ok.wish E, I.os, I.bare, I.base, I.loc, I.cell, I.free, I.freeC, I.pin, I.hok, I.len⟩
theorem Inv.unwish (I : Inv (X.wish E) pins σ H s) : Inv X pins σ H s := ⟨I.ok.unwish, I.os, I.bare, I.base, I.loc, I.cell, I.free, I.freeC, I.pin, I.hok, I.len⟩
theorem SP.unwish {D : Ends} {f : Flow} {s' : Shared} (h : SP (X.wish E) pins D f s') : SP X pins D f s' := by
  cases f with
  | next => obtain ⟨σ', H', I, q⟩ := h; exact ⟨σ', H', I.unwish, q⟩
  | brk => obtain ⟨σ', H', I, q⟩ := h; exact ⟨σ', H', I.unwish, q⟩
  | cont => obtain ⟨σ', H', I, q⟩ := h; exact ⟨σ', H', I.unwish, q⟩
  | ret u => obtain ⟨v, σ', H', I, r, q⟩ := h; exact ⟨v, σ', H', I.unwish, r, q⟩
theorem PSs.nox {st : List Stmt} {t : TS} (h : PSs X.nox st t) : PSs X st t := fun pins s σ H D I hw =>
  wpAny_mono (h pins s σ H D (I.wish _) hw) (fun _ _ q => q.unwish) fun _ _ z => False.elim z
end

/-! ### blocks and small statements -/
section
variable {X : Cx} {st : Stmt} {rest : List Stmt} {t u : TS} {e : Expr} {te : TE} {pos : Pos}
def tNext : TS := fun D σ H => D.nx σ H
def tSeq (t u : TS) : TS := fun D σ H => t { D with nx := u D } σ H
theorem pss_nil : PSs X [] tNext := fun _ _ σ H _ I h => wpAny_execs_nil ⟨σ, H, I, h⟩
theorem pss_cons (h1 : PS X st t) (h2 : PSs X rest u) : PSs X (st :: rest) (tSeq t u) := by
  intro pins s σ H D I h
  refine wpAny_execs_cons (thn (h1 pins s σ H { D with nx := u D } I h) fun f s1 q => ?_)
  cases f with
  | next =>
    obtain ⟨σ', H', I', q⟩ := q
    exact h2 pins s1 σ' H' D I' q
  | ret v => exact q
  | brk => exact q
  | cont => exact q
theorem pss_one (h1 : PS X st t) : PSs X [st] t := by
  intro pins s σ H D I h
  refine wpAny_execs_cons (thn (h1 pins s σ H D I h) fun f s1 q => ?_)
  cases f with
  | next => exact wpAny_execs_nil q
  | ret v => exact q
  | brk => exact q
  | cont => exact q
/-- in a def's body nothing is shown -/
theorem Inv.quiet {pins : List (Addr × Obj)} {σ : St} {H : Hp} {s : Shared} (I : Inv X pins σ H s) : interactive X.env = false := by simp [interactive, I.ok.kind]
/-- an expression whose value is dropped -/
def tDrop (te : TE) : TS := fun D σ H => te σ H fun _ H1 => D.nx σ H1
theorem ps_expr (he : PE X e te) (hs : swapsWith e none pos.line X.env = pure false := by rfl) : PS X (.Expr e pos) (tDrop te) := by
  intro pins s σ H D I h
  exact wpAny_Expr_any (thn (he pins s σ H _ I h) fun v s1 ⟨x, H1, I1, r1, q1⟩ => ⟨σ, H1, I1, q1⟩) I.quiet hs
def tRet (te : TE) : TS := fun D σ H => te σ H D.rt
theorem ps_ret (he : PE X e te) : PS X (.Return (some e) pos) (tRet te) := by
  intro pins s σ H D I h
  exact wpAny_Return_some (thn (he pins s σ H _ I h) fun v s1 ⟨x, H1, I1, r1, q1⟩ => ⟨x, σ, H1, I1, r1, q1⟩)
def tIfS (c : TT) (t u : TS) : TS := fun D σ H => c σ H fun b H1 => if b = true then t D σ H1 else u D σ H1
theorem ps_if {c : Expr} {a b : List Stmt} {tc : TT} (hc : PT X c tc) (ha : PSs X a t) (hb : PSs X b u) : PS X (.If c a b pos) (tIfS tc t u) := by
  intro pins s σ H D I h
  refine wpAny_If (thn (hc pins s σ H _ I h) fun d s1 ⟨H1, I1, q1⟩ => ?_)
  cases d with
  | true => exact ha pins s1 σ H1 D I1 q1
  | false => exact hb pins s1 σ H1 D I1 q1
/-- code that the proof never comes to -/
def tNever : TS := fun _ _ _ => False
theorem ps_never : PS X st tNever := fun _ _ _ _ _ _ h => h.elim
end

/-! ### targets -/
abbrev TG := V → St → Hp → (St → Hp → Prop) → Prop
abbrev TGs := List V → St → Hp → (St → Hp → Prop) → Prop
def PG (X : Cx) (target : Expr) (t : TG) : Prop :=
  ∀ (pins : List (Addr × Obj)) (s : Shared) (σ : St) (H : Hp) (v : V) (u : Value) (Q : St → Hp → Prop), Inv X pins σ H s → RelV v u → t v σ H Q →
    wpAny (model X.prog X.w) X.A (assign target X.env u) (fun _ s' => ∃ σ' H', Inv X pins σ' H' s' ∧ Q σ' H') X.xe s
/-- several targets, one after another -/
def PGs (X : Cx) (ts : List Expr) (t : TGs) : Prop :=
  ∀ (pins : List (Addr × Obj)) (s : Shared) (σ : St) (H : Hp) (vs : List V) (us : List Value) (Q : St → Hp → Prop), Inv X pins σ H s → Vals vs us → t vs σ H Q →
    wpAny (model X.prog X.w) X.A (assignInOrder ((assignEach ts X.env).map (·.2)) us) (fun _ s' => ∃ σ' H', Inv X pins σ' H' s' ∧ Q σ' H') X.xe s
section
variable {X : Cx} {pos : Pos}
def gName (i : Nat) : TG := fun v σ H Q => Q (σ.set i (some v)) H
theorem pg_name {i : Nat} {x : Str} (hN : X.N.Nodup) (hi : X.N[i]? = some x) (hx : Loc X.env.scope x) (hf : X.fn x = true ∨ X.env.scope.names.lookup x = some .local := by first | exact .inl rfl | exact .inr rfl | assumption) : PG X (.Name x pos) (gName i) := by
  intro pins s σ H v u Q I r h
  exact wpAny_assign_Name (store_ok I hN hi hx r (fun s' I' => ⟨_, H, I', h⟩) hf)
def gNil : TGs := fun vs σ H Q => vs = [] ∧ Q σ H
def gCons (t : TG) (u : TGs) : TGs := fun vs σ H Q => ∃ v r, vs = v :: r ∧ t v σ H fun σ' H' => u r σ' H' Q
theorem pgs_nil : PGs X [] gNil := by
  intro pins s σ H vs us Q I r h
  obtain ⟨e, h⟩ := h
  subst e
  cases r
  exact assignInOrder_nil ⟨σ, H, I, h⟩
theorem pgs_cons {e : Expr} {es : List Expr} {t : TG} {u : TGs} (h1 : PG X e t) (h2 : PGs X es u)
    (hs : (assignEach (e :: es) X.env).map (·.2) = assign e X.env :: (assignEach es X.env).map (·.2) := by rfl) : PGs X (e :: es) (gCons t u) := by
  intro pins s σ H vs us Q I r h
  obtain ⟨v, vr, e1, h⟩ := h
  subst e1
  cases r with
  | cons r rr =>
    rw [hs]
    refine assignInOrder_cons (thn (h1 pins s σ H _ _ _ I r h) fun _ s1 ⟨σ1, H1, I1, q1⟩ => ?_)
    exact h2 pins s1 σ1 H1 _ _ Q I1 rr q1
/-- (a, b, ..) = a tuple of that length -/
def gTup (K : PySem.W.Frag) (n : Nat) (t : TGs) : TG := fun v σ H Q => ∃ a xs, v = .ref a ∧ SqT K H a xs ∧ xs.length = n ∧ t xs σ H Q
theorem pg_tup {es : List Expr} {k : Nat} {t : TGs} {n : Nat} (hc : X.calm = true) (h : PGs X es t)
    (hn : (assignEach es X.env).length = n := by rfl) (hst : (assignEach es X.env).findIdx? (·.1) = none := by rfl) : PG X (.Tuple es k pos) (gTup X.K n t) := by
  intro pins s σ H v u Q I r hw
  obtain ⟨a, xs, e1, hq, hl, hw⟩ := hw
  subst e1
  cases r
  obtain ⟨its, rv, ht, hz⟩ := I.tuple hq
  refine assign_Tuple_tuple (I.ok.hd hc) ht (by simp [hn, ← hl, rv.length]) hst fun h' hx => ?_
  have I1 : Inv X pins σ H { s with heap := h' } := I.kept (t' := s.toks) fun b o e => hx b o (Nat.ne_of_lt (Heap.lt_size e)) e
  exact h pins _ σ H xs _ Q I1 (by simpa using rv) hw
/-- target = value -/
def tAsg (te : TE) (g : TG) : TS := fun D σ H => te σ H fun x H1 => g x σ H1 D.nx
/-- name = value -/
theorem ps_set {i : Nat} {x : Str} {e : Expr} {te : TE} {pos' : Pos} (hN : X.N.Nodup) (hi : X.N[i]? = some x) (hx : Loc X.env.scope x) (he : PE X e te) (hs : swapsWith e (some (.Name x pos')) pos.line X.env = pure false := by rfl) (hf : X.fn x = true ∨ X.env.scope.names.lookup x = some .local := by first | exact .inl rfl | exact .inr rfl | assumption) :
    PS X (.Assign [.Name x pos'] e pos) (tAsg te (gName i)) := by
  intro pins s σ H D I h
  refine wpAny_Assign_Name (thn (he pins s σ H _ I h) fun v s1 ⟨y, H1, I1, r1, q1⟩ => ?_) hs
  exact store_ok I1 hN hi hx r1 (fun s2 I2 => ⟨_, H1, I2, q1⟩) hf
end

/-! ### while -/
section
variable {X : Cx} {pos : Pos}
end

/-! ### what a loop or a comprehension walks -/
/-- at turn i: it yields x (the heap may grow), or it stops -/
structure It where
  go : Nat → Hp → Prop
  yld : Nat → Hp → V → Hp → Prop
  stop : Nat → Hp → Prop
/-- the iterator's own objects may turn: they are not the frame's, not pinned, younger than the entry (or a comprehension's own) -/
def FpOk (X : Cx) (pins : List (Addr × Obj)) (H : Hp) (b : Addr) : Prop :=
  H b = none ∧ b ≠ X.env.locals ∧ b ∉ X.fs ∧ (b ∈ X.ex ∨ X.s₀.heap.objs.size ≤ b) ∧ (∀ x c, X.env.cells.lookup x = some c → c ≠ b) ∧ ∀ p ∈ X.pn ++ pins, p.1 ≠ b
theorem Inv.fpOk {X : Cx} {pins : List (Addr × Obj)} {σ : St} {H H' : Hp} {s : Shared} {b : Addr} (I : Inv X pins σ H s) (hb : s.heap.objs.size ≤ b) (hn : H' b = none) : FpOk X pins H' b := by
  refine ⟨hn, Nat.ne_of_gt (Nat.lt_of_lt_of_le I.lt hb), I.nofs hb, .inr (Nat.le_trans I.sz hb), fun x c e z => ?_, fun p hp z => ?_⟩
  · obtain ⟨v, q⟩ := I.cell x c e
    exact absurd (Nat.lt_of_lt_of_le q.lt (by rw [z]; exact hb)) (Nat.lt_irrefl _)
  · exact absurd (Nat.lt_of_lt_of_le (Heap.lt_size (I.pin p hp).1) (by rw [z]; exact hb)) (Nat.lt_irrefl _)
structure Turn (P : Program) (w : World) (K : PySem.W.Frag) (tg : Expr) (J : It) (fp : List Addr) (it : Addr) (tn : Nat → Heap → Prop) : Prop where
  mem : it ∈ fp
  obj : ∀ i h, tn i h → ∀ b ∈ fp, ∃ o, h.get? b = some o ∧ ∀ v, o.data ≠ .cell v
  keep : ∀ i h h', tn i h → (∀ b ∈ fp, ∀ o, h.get? b = some o → h'.get? b = some o) → tn i h'
  item : ∀ (X : Cx), X.prog = P → X.w = w → X.K = K → X.calm = true → ∀ (i : Nat) (pins : List (Addr × Obj)) (s : Shared) (σ : St) (H : Hp) (E : Value → Shared → Prop), Inv X pins σ H s → (∀ b ∈ fp, FpOk X pins H b) → tn i s.heap → J.go i H →
    wpAny (model P w) X.A (pyNext (.ref it)) (fun r s1 => ∃ u, r = some u ∧
      wpAny (model P w) X.A (letOwnedTupleGo tg (.ref it) u) (fun _ s2 => ∃ x H', Inv X pins σ H' s2 ∧ RelV x u ∧ J.yld i H x H' ∧ tn (i + 1) s2.heap ∧ ∀ b ∈ fp, H' b = none) E s1) E s
  done : ∀ (X : Cx), X.prog = P → X.w = w → X.K = K → X.calm = true → ∀ (i : Nat) (pins : List (Addr × Obj)) (s : Shared) (σ : St) (H : Hp) (E : Value → Shared → Prop), Inv X pins σ H s → (∀ b ∈ fp, FpOk X pins H b) → tn i s.heap → J.stop i H →
    wpAny (model P w) X.A (pyNext (.ref it)) (fun r s1 => r = none ∧ Inv X pins σ H s1) E s
  self : ∀ (A : Around) (i : Nat) (s : Shared) (Q : Value → Shared → Prop) (E : Value → Shared → Prop), tn i s.heap → Q (.ref it) s → wpAny (model P w) A (pyIter (.ref it)) Q E s
abbrev TI := St → Hp → (It → Hp → Prop) → Prop
/-- an iterator has come -/
def PIE (X : Cx) (pins : List (Addr × Obj)) (σ : St) (tg : Expr) (R : It → Hp → Prop) (itv : Value) (s2 : Shared) : Prop :=
  ∃ (it : Addr) (fp : List Addr) (tn : Nat → Heap → Prop) (J : It) (H' : Hp), itv = .ref it ∧ Inv X pins σ H' s2 ∧ Turn X.prog X.w X.K tg J fp it tn ∧ tn 0 s2.heap ∧ (∀ b ∈ fp, FpOk X pins H' b) ∧ R J H'
def PI (X : Cx) (tg iter : Expr) (wi : TI) : Prop :=
  ∀ (pins : List (Addr × Obj)) (s : Shared) (σ : St) (H : Hp) (R : It → Hp → Prop), Inv X pins σ H s → wi σ H R →
    wpAny (model X.prog X.w) X.A (eval iter X.env) (fun v s1 => wpAny (model X.prog X.w) X.A (pyIter v) (PIE X pins σ tg R) X.xe s1) X.xe s

/-- the step ahead of the store is nothing for an iterator that keeps no tuple -/
theorem go_of {M : Model} {A : Around} {E : Value → Shared → Prop} {s : Shared} {tg : Expr} {it : Addr} {u : Value} {o : Obj} {n : String} {vs : Array Value} {Q : Unit → Shared → Prop} (ho : s.heap.get? it = some o) (hc : o.cls = .type n) (hd : o.data = .fields vs)
    (hn : ["enumerate", "zip", "dict_itemiterator", "dict_reverseitemiterator", "odict_iterator", "itertools.zip_longest", "itertools.pairwise"].contains n = false) (hQ : Q () s) : wpAny M A (letOwnedTupleGo tg (.ref it) u) Q E s := by
  unfold letOwnedTupleGo
  cases tg <;> first
    | exact wpAny_pure hQ
    | (cases u <;> first
        | exact wpAny_pure hQ
        | (refine wpAny_bind (wpAny_load ho ?_)
           rw [hc, hd]
           show wpAny M A (if (["enumerate", "zip", "dict_itemiterator", "dict_reverseitemiterator", "odict_iterator", "itertools.zip_longest", "itertools.pairwise"].contains n && vs[0]? == some (rawInt _)) = true then _ else _) Q E s
           rw [if_neg (by intro h; rw [hn, Bool.false_and] at h; cases h)]
           exact wpAny_pure hQ))

/-- the list at a, as it stands at each turn (a loop may append to it) -/
def Itl (K : PySem.W.Frag) (a : Addr) : It :=
  ⟨fun i H => ∃ xs x, SqL K H a xs ∧ xs[i]? = some x, fun i H x H' => H' = H ∧ ∀ xs, SqL K H a xs → xs[i]? = some x, fun i H => ∃ xs, SqL K H a xs ∧ xs.length ≤ i⟩
/-- lo, lo + 1, .. (n of them) -/
def Itr (lo : Int) (n : Nat) : It := ⟨fun i _ => i < n, fun i H x H' => H' = H ∧ x = .int (lo + i), fun i _ => n ≤ i⟩
theorem turn_list {P : Program} {w : World} {K : PySem.W.Frag} {tg : Expr} (a it : Addr) : Turn P w K tg (Itl K a) [it] it (fun i h => h.IsListIter it a i) where
  mem := by simp
  obj := fun i h st b hb => by
    have e : b = it := by simpa using hb
    subst e
    obtain ⟨o, e, c, d⟩ := st
    exact ⟨o, e, fun v z => by rw [d] at z; cases z⟩
  keep := fun i h h' st k => st.at fun o e => k it (by simp) o e
  item := by
    intro X hP hw hK hc i pins s σ H E I hf st hg
    subst hP hw hK
    obtain ⟨xs, x, hq, hx⟩ := hg
    obtain ⟨its, rv, p, hz⟩ := I.list hq
    obtain ⟨u, hu, ru⟩ := rv.get hx
    obtain ⟨f0, f1, f2, f3, f4, f5⟩ := hf it (by simp)
    refine wpAny_pyNext_list_item st p.isList (x := u) (by simpa using hu) fun h' st' sb => ?_
    have I1 : Inv X pins σ H { s with heap := h' } := I.turned (t' := s.toks) (fun b o hb e => (sb.2 b hb).trans e) f0 f1 f3 f4 f5
    obtain ⟨o, e, c, d⟩ := id st'
    exact ⟨u, rfl, go_of (s := { s with heap := h' }) e c d (by decide) ⟨x, H, I1, ru, ⟨rfl, fun ys hy => by rw [I.list_inj hy hq]; exact hx⟩, st', fun b hb => (hf b hb).1⟩⟩
  done := by
    intro X hP hw hK hc i pins s σ H E I hf st hg
    subst hP hw hK
    obtain ⟨xs, hq, hx⟩ := hg
    obtain ⟨its, rv, p, hz⟩ := I.list hq
    obtain ⟨f0, f1, f2, f3, f4, f5⟩ := hf it (by simp)
    have hl := rv.length
    exact wpAny_pyNext_list_end (I.ok.hd hc) st p.isList (by simp; omega) fun h' eb => ⟨rfl, I.turned (t' := s.toks) (fun b o hb e => eb b o hb e) f0 f1 f3 f4 f5⟩
  self := fun _ _ _ _ _ st h => wpAny_pyIter_listiter st h
theorem turn_range {P : Program} {w : World} {K : PySem.W.Frag} {tg : Expr} (it : Addr) (lo : Int) (n : Nat) : Turn P w K tg (Itr lo n) [it] it (fun i h => IsRangeIter h it (lo + (i : Nat) * 1) ((n : Int) - (i : Nat)) 1) where
  mem := by simp
  obj := fun i h st b hb => by
    have e : b = it := by simpa using hb
    subst e
    exact ⟨_, st, fun v z => by
      have z' : Data.fields _ = Data.cell v := z
      cases z'⟩
  keep := fun i h h' st k => k it (by simp) _ st
  item := by
    intro X hP hw hK hc i pins s σ H E I hf st hg
    subst hP hw hK
    obtain ⟨f0, f1, f2, f3, f4, f5⟩ := hf it (by simp)
    have W := Walks.range (prog := X.prog) (w := X.w) (I.ok.hd hc) it lo 1 n
    refine W.item i s _ _ hg st fun v h' tk hv st' kk => ?_
    obtain ⟨t, rfl⟩ := hv
    have I1 : Inv X pins σ H { s with heap := h', toks := tk } := I.turned (fun b o hb e => kk b o (by simpa using hb) e) f0 f1 f3 f4 f5
    refine ⟨_, rfl, go_of (s := { s with heap := h', toks := tk }) (n := "range_iterator") st' rfl rfl (by decide) ⟨.int (lo + i), H, I1, ⟨t, ?_⟩, ⟨rfl, rfl⟩, st', fun b hb => (hf b hb).1⟩⟩
    rw [Int.mul_one]
  done := by
    intro X hP hw hK hc i pins s σ H E I hf st hg
    subst hP hw hK
    obtain ⟨f0, f1, f2, f3, f4, f5⟩ := hf it (by simp)
    exact wpAny_pyNext_range_end (I.ok.hd hc) st (by have : n ≤ i := hg; omega) fun h' eb => ⟨rfl, I.turned (t' := s.toks) (fun b o hb e => eb b o hb e) f0 f1 f3 f4 f5⟩
  self := fun _ _ _ _ _ st h => wpAny_pyIter_rangeiter st h
end L2

namespace L2
open PySem PySem.Spec PyProof.Rows
section
variable {X : Cx} {tg : Expr}
def iList (K : PySem.W.Frag) (tl : TE) : TI := fun σ H R => tl σ H fun x H1 => ∃ a, x = .ref a ∧ (∃ xs, SqL K H1 a xs) ∧ R (Itl K a) H1
theorem pi_list {l : Expr} {tl : TE} (hl : PE X l tl) : PI X tg l (iList X.K tl) := by
  intro pins s σ H R I h
  refine thn (hl pins s σ H _ I h) fun v s1 ⟨x, H1, I1, r1, q1⟩ => ?_
  obtain ⟨a, e, ⟨xs, hq⟩, q⟩ := q1
  subst e
  cases r1
  obtain ⟨its, rv, p, hz⟩ := I1.list hq
  refine wpAny_pyIter_list p.isList ?_
  refine ⟨s1.heap.objs.size, [s1.heap.objs.size], _, _, H1, rfl, I1.kept (t' := s1.toks) fun b o e => Heap.get?_push_of_some _ e, turn_list a _, ⟨_, Heap.get?_push_size _ rfl, rfl, rfl⟩, fun b hb => ?_, q⟩
  have e : b = s1.heap.objs.size := by simpa using hb
  subst e
  exact I1.fpOk (Nat.le_refl _) (I1.hok.fresh (Nat.le_refl _))
/-- a range object just made, walked -/
theorem range_it {pins : List (Addr × Obj)} {σ : St} {H : Hp} {s : Shared} {R : It → Hp → Prop} {E : Value → Shared → Prop} {lo hi : Int} {t u v : Tok} {tk : Nat} (I : Inv X pins σ H s) (h1 : -(2 ^ 62) ≤ lo) (h2 : lo < 2 ^ 62) (h3 : -(2 ^ 62) ≤ hi) (h4 : hi < 2 ^ 62)
    (q : R (Itr lo (hi - lo).toNat) H) : wpAny (model X.prog X.w) X.A (pyIter (.ref s.heap.objs.size)) (PIE X pins σ tg R) E { s with heap := s.heap.push { cls := .type "range", data := .fields #[.int lo t, .int hi u, .int 1 v] }, toks := tk } := by
  refine wpAny_pyIter_range (IsRange.new ..) (small_one h1 h2 h3 h4) ?_
  have I1 : Inv X pins σ H { s with heap := s.heap.push { cls := .type "range", data := .fields #[.int lo t, .int hi u, .int 1 v] }, toks := tk } := I.kept fun b o e => Heap.get?_push_of_some _ e
  refine ⟨(s.heap.push { cls := .type "range", data := .fields #[.int lo t, .int hi u, .int 1 v] }).objs.size, [(s.heap.push { cls := .type "range", data := .fields #[.int lo t, .int hi u, .int 1 v] }).objs.size], _, _, H, rfl,
    I1.kept (t' := tk) fun b o e => Heap.get?_push_of_some _ e, turn_range _ lo (hi - lo).toNat, ?_, fun b hb => ?_, q⟩
  · have e1 : lo + ((0 : Nat) : Int) * 1 = lo := by simp
    have e2 : (((hi - lo).toNat : Nat) : Int) - ((0 : Nat) : Int) = Builtin.Range.rangeSize lo hi 1 := by rw [rangeSize_one]; split <;> omega
    show IsRangeIter _ _ (lo + ((0 : Nat) : Int) * 1) ((((hi - lo).toNat : Nat) : Int) - ((0 : Nat) : Int)) 1
    rw [e1, e2]
    exact Heap.get?_push_size _ rfl
  · have e : b = (s.heap.push { cls := .type "range", data := .fields #[.int lo t, .int hi u, .int 1 v] }).objs.size := by simpa using hb
    subst e
    exact I1.fpOk (Nat.le_refl _) (I1.hok.fresh (Nat.le_refl _))
def iRng1 (ta : TA) : TI := fun σ H R => ta σ H fun vs H1 => ∃ j : Int, vs = [.int j] ∧ -(2 ^ 62) ≤ j ∧ j < 2 ^ 62 ∧ R (Itr 0 j.toNat) H1
def iRng2 (ta : TA) : TI := fun σ H R => ta σ H fun vs H1 => ∃ i j : Int, vs = [.int i, .int j] ∧ (-(2 ^ 62) ≤ i ∧ i < 2 ^ 62 ∧ -(2 ^ 62) ≤ j ∧ j < 2 ^ 62) ∧ R (Itr i (j - i).toNat) H1
theorem pi_range1 {a : Expr} {ta : TA} {p pos : Pos} (hg : Gl X "range") (hm : X.mg "range" = none) (ha : PA X [a] ta) (hs : starEach [a] X.env = [(false, eval a X.env)] := by rfl) : PI X tg (.Call (.Name "range" p) [a] [] pos) (iRng1 ta) := by
  intro pins s σ H R I h
  refine Call_ (ld_blt I hg hm boot_range (PyProof.Rows.callWith_type1 (thn (ha pos pins s σ H _ I h) fun us s1 ⟨vs, H1, I1, r1, q1⟩ => ?_) hs rfl))
  obtain ⟨j, e, q1, q2, q⟩ := q1
  subst e
  cases r1 with
  | cons r rr =>
    cases rr
    obtain ⟨t, rfl⟩ := r
    exact call_range_1 (range_it I1 (by omega) (by omega) q1 q2 (by simpa using q))
theorem pi_range2 {a b : Expr} {ta : TA} {p pos : Pos} (hg : Gl X "range") (hm : X.mg "range" = none) (ha : PA X [a, b] ta) (hs : starEach [a, b] X.env = [(false, eval a X.env), (false, eval b X.env)] := by rfl) (hs2 : starEach [b] X.env = [(false, eval b X.env)] := by rfl) :
    PI X tg (.Call (.Name "range" p) [a, b] [] pos) (iRng2 ta) := by
  intro pins s σ H R I h
  refine Call_ (ld_blt I hg hm boot_range (PyProof.Rows.callWith_type1 (thn (ha pos pins s σ H _ I h) fun us s1 ⟨vs, H1, I1, r1, q1⟩ => ?_) (by rw [hs, hs2]) (by rw [hs2]; rfl)))
  obtain ⟨i, j, e, ⟨q1, q2, q3, q4⟩, q⟩ := q1
  subst e
  cases r1 with
  | cons r rr =>
    cases rr with
    | cons r' rr =>
      cases rr
      obtain ⟨t, rfl⟩ := r
      obtain ⟨t', rfl⟩ := r'
      exact call_range_2 (range_it I1 q1 q2 q3 q4 q)

/-! ### for -/
/-- W: the invariant by the turn and a measure; N: what the body is to reach -/
def tFor (wi : TI) (g : TG) (tb : TS) : TS := fun D σ H => wi σ H fun J H1 => ∃ W : Nat → Nat → St → Hp → Prop, (∃ m, W 0 m σ H1) ∧ ∀ i m σ H, W i m σ H →
  (J.stop i H ∧ D.nx σ H) ∨ (J.go i H ∧ ∃ N : St → Hp → Prop, (∀ σ' H', N σ' H' → ∃ m', m' < m ∧ W (i + 1) m' σ' H') ∧ ∀ x H', J.yld i H x H' → g x σ H' fun σ2 H2 => tb { D with nx := N, ct := N, bk := D.nx } σ2 H2)
/-- the records at fp as they stand -/
def pinsAt (fp : List Addr) (h : Heap) : List (Addr × Obj) := fp.filterMap fun b => (h.get? b).map fun o => (b, o)
theorem mem_pinsAt {fp : List Addr} {h : Heap} {b : Addr} {o : Obj} (hb : b ∈ fp) (e : h.get? b = some o) : (b, o) ∈ pinsAt fp h := List.mem_filterMap.mpr ⟨b, hb, by rw [e]; rfl⟩
theorem of_pinsAt {fp : List Addr} {h : Heap} {p : Addr × Obj} (hp : p ∈ pinsAt fp h) : p.1 ∈ fp ∧ h.get? p.1 = some p.2 := by
  obtain ⟨b, hb, e⟩ := List.mem_filterMap.mp hp
  cases q : h.get? b with
  | none => rw [q] at e; cases e
  | some o =>
    rw [q] at e
    have e' : (b, o) = p := Option.some.inj e
    subst e'
    exact ⟨hb, q⟩
theorem Inv.pinned {pins : List (Addr × Obj)} {σ : St} {H : Hp} {s : Shared} {fp : List Addr} (I : Inv X pins σ H s) (hf : ∀ b ∈ fp, FpOk X pins H b) (ho : ∀ b ∈ fp, ∃ o, s.heap.get? b = some o ∧ ∀ v, o.data ≠ .cell v) : Inv X (pins ++ pinsAt fp s.heap) σ H s :=
  I.pins_of fun p hp => (List.mem_append.mp hp).elim (fun z => I.pin p (List.mem_append_right _ z)) fun z => by
    obtain ⟨hb, e⟩ := of_pinsAt z
    obtain ⟨f0, f1, f2, _⟩ := hf p.1 hb
    obtain ⟨o, e', d⟩ := ho p.1 hb
    rw [e] at e'; cases e'
    exact ⟨e, f0, f1, f2, d⟩
theorem Inv.unpinned {pins pl : List (Addr × Obj)} {σ : St} {H : Hp} {s : Shared} (I : Inv X (pins ++ pl) σ H s) : Inv X pins σ H s := I.pins_of fun p hp => I.pin p (List.mem_append_right _ (List.mem_append_left _ hp))
theorem ps_for {iter : Expr} {body : List Stmt} {wi : TI} {g : TG} {tb : TS} {pos : Pos} (hp : PassesOwn (model X.prog X.w) X.A X.env X.xe) (hc : X.calm = true) (hi : PI X tg iter wi) (hg : PG X tg g) (hb : PSs X body tb)
    (hs : ∀ x, foldedSetIterable iter X.env x = pure x := by intro _; rfl) : PS X (.For tg iter body [] pos) (tFor wi g tb) := by
  intro pins s σ H D I h
  refine wpAny_For (thn (hi pins s σ H _ I h) fun v s1 h1 => thn h1 fun itv s2 h2 => ?_) hs
  obtain ⟨it, fp, tn, J, H2, e, I2, T, st2, f2, W, ⟨m0, w0⟩, turn⟩ := h2
  subst e
  -- what stays true of the iterator's objects through the loop
  have stat : ∀ {H' : Hp}, (∀ b ∈ fp, H' b = none) → ∀ b ∈ fp, FpOk X pins H' b := fun hn b hb => ⟨hn b hb, (f2 b hb).2⟩
  refine codeAny_forLoop_any (fun n s' => ∃ i σ' H', Inv X pins σ' H' s' ∧ tn i s'.heap ∧ (∀ b ∈ fp, H' b = none) ∧ W i n σ' H') ?_ m0 ⟨0, σ, H2, I2, st2, fun b hb => (f2 b hb).1, w0⟩
  rintro n s3 ⟨i, σ3, H3, I3, st3, fr3, w3⟩
  rcases turn i n σ3 H3 w3 with ⟨stop, qn⟩ | ⟨go, N, hN, step⟩
  · refine wpAny_passesOwn hp (thn (T.done X rfl rfl rfl hc i pins s3 σ3 H3 X.xe I3 (stat fr3) st3 stop) fun r s4 ⟨hr, I4⟩ => ?_)
    subst hr
    exact wpAny_execs_nil ⟨σ3, H3, I4, qn⟩
  · refine wpAny_passesOwn hp (thn (T.item X rfl rfl rfl hc i pins s3 σ3 H3 X.xe I3 (stat fr3) st3 go) fun r s4 ⟨u, hr, h4⟩ => ?_)
    subst hr
    refine wpAny_passesOwn hp (thn h4 fun _ s5 ⟨x, H5, I5, r5, y5, st5, fr5⟩ => ?_)
    have I5' := I5.pinned (stat fr5) (T.obj _ _ st5)
    refine wpAny_passesOwn hp (thn (hg _ s5 σ3 H5 x u _ I5' r5 (step x H5 y5)) fun _ s6 ⟨σ6, H6, I6, q6⟩ => ?_)
    refine wpAny_passesOwn hp (thn (hb _ s6 σ6 H6 _ I6 q6) fun f s7 q7 => ?_)
    have again : ∀ {σ7 : St} {H7 : Hp}, Inv X (pins ++ pinsAt fp s5.heap) σ7 H7 s7 → N σ7 H7 → ∃ m, m < n ∧ ∃ i σ' H', Inv X pins σ' H' s7 ∧ tn i s7.heap ∧ (∀ b ∈ fp, H' b = none) ∧ W i m σ' H' := fun {σ7 H7} I7 n7 => by
      obtain ⟨m', hm, w7⟩ := hN σ7 H7 n7
      refine ⟨m', hm, i + 1, σ7, H7, I7.unpinned, T.keep _ _ _ st5 fun b hb o e => (I7.pin (b, o) (List.mem_append_right _ (List.mem_append_right _ (mem_pinsAt hb e)))).1, fun b hb => ?_, w7⟩
      obtain ⟨o, e, d⟩ := T.obj _ _ st5 b hb
      exact (I7.pin (b, o) (List.mem_append_right _ (List.mem_append_right _ (mem_pinsAt hb e)))).2.1
    cases f with
    | next => obtain ⟨σ7, H7, I7, n7⟩ := q7; exact again I7 n7
    | cont => obtain ⟨σ7, H7, I7, n7⟩ := q7; exact again I7 n7
    | brk => obtain ⟨σ7, H7, I7, q7⟩ := q7; exact ⟨σ7, H7, I7.unpinned, q7⟩
    | ret v => obtain ⟨x7, σ7, H7, I7, r7, q7⟩ := q7; exact ⟨x7, σ7, H7, I7.unpinned, r7, q7⟩
end

/-! ### the forms one uses -/
/-- over a list that the body leaves as it is -/
theorem for_list {K : PySem.W.Frag} {a : Addr} {xs : List V} {g : TG} {tb : TS} {D : Ends} {σ : St} {H : Hp} (Pv : Nat → St → Hp → Prop) (h0 : Pv 0 σ H) (hl : ∀ i σ H, i ≤ xs.length → Pv i σ H → SqL K H a xs)
    (hs : ∀ i x σ H, xs[i]? = some x → Pv i σ H → g x σ H fun σ2 H2 => tb { D with nx := Pv (i + 1), ct := Pv (i + 1), bk := D.nx } σ2 H2) (hd : ∀ σ H, Pv xs.length σ H → D.nx σ H) :
    ∃ W : Nat → Nat → St → Hp → Prop, (∃ m, W 0 m σ H) ∧ ∀ i m σ H, W i m σ H →
      ((Itl K a).stop i H ∧ D.nx σ H) ∨ ((Itl K a).go i H ∧ ∃ N : St → Hp → Prop, (∀ σ' H', N σ' H' → ∃ m', m' < m ∧ W (i + 1) m' σ' H') ∧ ∀ x H', (Itl K a).yld i H x H' → g x σ H' fun σ2 H2 => tb { D with nx := N, ct := N, bk := D.nx } σ2 H2) := by
  refine ⟨fun i m σ H => m = xs.length - i ∧ i ≤ xs.length ∧ Pv i σ H, ⟨xs.length, by simp, Nat.zero_le _, h0⟩, ?_⟩
  rintro i m σ H ⟨rfl, hi, p⟩
  have q := hl i σ H hi p
  by_cases hlt : i < xs.length
  · refine .inr ⟨⟨xs, xs[i], q, by simp [hlt]⟩, Pv (i + 1), fun σ' H' p' => ⟨xs.length - (i + 1), by omega, rfl, hlt, p'⟩, fun x H' y => ?_⟩
    obtain ⟨e, y⟩ := y
    subst e
    exact hs i x σ _ (y xs q) p
  · have e : i = xs.length := by omega
    subst e
    exact .inl ⟨⟨xs, q, Nat.le_refl _⟩, hd σ H p⟩
theorem for_range {lo : Int} {n : Nat} {g : TG} {tb : TS} {D : Ends} {σ : St} {H : Hp} (Pv : Nat → St → Hp → Prop) (h0 : Pv 0 σ H)
    (hs : ∀ i σ H, i < n → Pv i σ H → g (.int (lo + i)) σ H fun σ2 H2 => tb { D with nx := Pv (i + 1), ct := Pv (i + 1), bk := D.nx } σ2 H2) (hd : ∀ σ H, Pv n σ H → D.nx σ H) :
    ∃ W : Nat → Nat → St → Hp → Prop, (∃ m, W 0 m σ H) ∧ ∀ i m σ H, W i m σ H →
      ((Itr lo n).stop i H ∧ D.nx σ H) ∨ ((Itr lo n).go i H ∧ ∃ N : St → Hp → Prop, (∀ σ' H', N σ' H' → ∃ m', m' < m ∧ W (i + 1) m' σ' H') ∧ ∀ x H', (Itr lo n).yld i H x H' → g x σ H' fun σ2 H2 => tb { D with nx := N, ct := N, bk := D.nx } σ2 H2) := by
  refine ⟨fun i m σ H => m = n - i ∧ i ≤ n ∧ Pv i σ H, ⟨n, by simp, Nat.zero_le _, h0⟩, ?_⟩
  rintro i m σ H ⟨rfl, hi, p⟩
  by_cases hlt : i < n
  · refine .inr ⟨hlt, Pv (i + 1), fun σ' H' p' => ⟨n - (i + 1), by omega, rfl, hlt, p'⟩, fun x H' y => ?_⟩
    obtain ⟨e, y⟩ := y
    subst e y
    exact hs i σ _ hlt p
  · have e : i = n := by omega
    subst e
    exact .inl ⟨Nat.le_refl _, hd σ H p⟩
end L2

namespace L2
open PySem PySem.Spec PyProof.Rows

abbrev R2 := V → V → Hp → VK → Prop
/-- a two-place operation on values: f is binaryOp op, inplaceOp op or compareOp op -/
def OpR (X : Cx) (f : Value → Value → Sem Value) (r : R2) : Prop :=
  ∀ (pins : List (Addr × Obj)) (s : Shared) (σ : St) (H : Hp) (x y : V) (v u : Value) (Q : VK), Inv X pins σ H s → RelV x v → RelV y u → r x y H Q →
    wpAny (model X.prog X.w) X.A (f v u) (EP X pins σ Q) X.xe s
/-- a one-place operation -/
def UnR (X : Cx) (f : Value → Sem Value) (r : V → Hp → VK → Prop) : Prop :=
  ∀ (pins : List (Addr × Obj)) (s : Shared) (σ : St) (H : Hp) (x : V) (v : Value) (Q : VK), Inv X pins σ H s → RelV x v → r x H Q →
    wpAny (model X.prog X.w) X.A (f v) (EP X pins σ Q) X.xe s
/-- a call of a value that is known (a builtin, a type) with values -/
def CallR (X : Cx) (f : Value) (r : List V → Hp → VK → Prop) : Prop :=
  ∀ (pins : List (Addr × Obj)) (s : Shared) (σ : St) (H : Hp) (xs : List V) (us : List Value) (Q : VK), Inv X pins σ H s → Vals xs us → r xs H Q →
    wpAny (model X.prog X.w) X.A (call f us) (EP X pins σ Q) X.xe s

def tOp (r : R2) (ta tb : TE) : TE := fun σ H Q => ta σ H fun x H1 => tb σ H1 fun y H2 => r x y H2 Q
def tUn (r : V → Hp → VK → Prop) (ta : TE) : TE := fun σ H Q => ta σ H fun x H1 => r x H1 Q
/-- ints in, under C, and a value out -/
def rI (C : Int → Int → Prop) (g : Int → Int → V) : R2 := fun x y H Q => ∃ i j, x = .int i ∧ y = .int j ∧ C i j ∧ Q (g i j) H
def rI0 (g : Int → Int → V) : R2 := fun x y H Q => ∃ i j, x = .int i ∧ y = .int j ∧ Q (g i j) H
def rU (g : Int → V) : V → Hp → VK → Prop := fun x H Q => ∃ i, x = .int i ∧ Q (g i) H

section
variable {X : Cx} {a b c : Expr} {ta tb tc : TE} {pos : Pos}

theorem binT (ha : PE X a ta) (hb : PE X b tb) {pins : List (Addr × Obj)} {s : Shared} {σ : St} {H : Hp} {R : V → V → Hp → Prop} (I : Inv X pins σ H s)
    (h : ta σ H fun x H1 => tb σ H1 fun y H2 => R x y H2) {Q : Value → Shared → Prop} {f : Value → Value → Sem Value}
    (hf : ∀ v u s2 x y H2, Inv X pins σ H2 s2 → RelV x v → RelV y u → R x y H2 → wpAny (model X.prog X.w) X.A (f v u) Q X.xe s2) :
    wpAny (model X.prog X.w) X.A (eval a X.env) (fun v s₁ => wpAny (model X.prog X.w) X.A (eval b X.env) (fun u s₂ => wpAny (model X.prog X.w) X.A (f v u) Q X.xe s₂) X.xe s₁) X.xe s := by
  refine thn (ha pins s σ H _ I h) fun v s1 ⟨x, H1, I1, r1, q1⟩ => ?_
  refine thn (hb pins s1 σ H1 _ I1 q1) fun u s2 ⟨y, H2, I2, r2, q2⟩ => ?_
  exact hf v u s2 x y H2 I2 r1 r2 q2

theorem pe_op {op : Operator} {r : R2} (ho : OpR X (binaryOp op) r) (ha : PE X a ta) (hb : PE X b tb) : PE X (.BinOp a op b pos) (tOp r ta tb) := by
  intro pins s σ H Q I h
  exact wpAny_BinOp (binT ha hb I h fun v u s2 x y H2 I2 rx ry q => ho pins s2 σ H2 x y v u Q I2 rx ry q)
theorem pe_un {op : UnaryOp} {r : V → Hp → VK → Prop} (ho : UnR X (unaryOp op) r) (ha : PE X a ta) : PE X (.UnaryOp op a pos) (tUn r ta) := by
  intro pins s σ H Q I h
  exact UnaryOp_ (thn (ha pins s σ H _ I h) fun v s1 ⟨x, H1, I1, r1, q1⟩ => ho pins s1 σ H1 x v Q I1 r1 q1)

/-! ### ints -/
theorem opI {f : Value → Value → Sem Value} {C : Int → Int → Prop} {g : Int → Int → Int}
    (rule : ∀ (i j : Int) (t u : Tok) (s : Shared) (Q : Value → Shared → Prop) (E : Value → Shared → Prop), C i j → Q (.int (g i j) s.toks) { s with toks := s.toks + 1 } → wpAny (model X.prog X.w) X.A (f (.int i t) (.int j u)) Q E s) :
    OpR X f (rI C fun i j => .int (g i j)) := by
  intro pins s σ H x y v u Q I rx ry h
  obtain ⟨i, j, rfl, rfl, hc, q⟩ := h
  obtain ⟨t, rfl⟩ := rx
  obtain ⟨t', rfl⟩ := ry
  exact rule i j t t' s _ _ hc ⟨.int (g i j), H, I.tok _, ⟨_, rfl⟩, q⟩
theorem opI0 {f : Value → Value → Sem Value} {g : Int → Int → Int}
    (rule : ∀ (i j : Int) (t u : Tok) (s : Shared) (Q : Value → Shared → Prop) (E : Value → Shared → Prop), Q (.int (g i j) s.toks) { s with toks := s.toks + 1 } → wpAny (model X.prog X.w) X.A (f (.int i t) (.int j u)) Q E s) :
    OpR X f (rI0 fun i j => .int (g i j)) := by
  intro pins s σ H x y v u Q I rx ry h
  obtain ⟨i, j, rfl, rfl, q⟩ := h
  obtain ⟨t, rfl⟩ := rx
  obtain ⟨t', rfl⟩ := ry
  exact rule i j t t' s _ _ ⟨.int (g i j), H, I.tok _, ⟨_, rfl⟩, q⟩
theorem opB0 {f : Value → Value → Sem Value} {g : Int → Int → Bool}
    (rule : ∀ (i j : Int) (t u : Tok) (s : Shared) (Q : Value → Shared → Prop) (E : Value → Shared → Prop), Q (.bool (g i j)) s → wpAny (model X.prog X.w) X.A (f (.int i t) (.int j u)) Q E s) :
    OpR X f (rI0 fun i j => .bl (g i j)) := by
  intro pins s σ H x y v u Q I rx ry h
  obtain ⟨i, j, rfl, rfl, q⟩ := h
  obtain ⟨t, rfl⟩ := rx
  obtain ⟨t', rfl⟩ := ry
  exact rule i j t t' s _ _ ⟨.bl (g i j), H, I, rfl, q⟩

def CDiv (i j : Int) : Prop := 0 < j ∧ j < 1073741824
def CPow (i j : Int) : Prop := 0 ≤ j ∧ j ≤ 1000000 ∧ i.natAbs < 2 ^ 64
def CMul (i j : Int) : Prop := (-(2 ^ 64) < i ∧ i < 2 ^ 64) ∨ (-(2 ^ 64) < j ∧ j < 2 ^ 64)
theorem CMul.ok {i j : Int} (h : CMul i j) : IntMulOk i j := by
  rcases h with ⟨h1, h2⟩ | ⟨h1, h2⟩
  · exact .of_left (intBits_le_64 h1 h2)
  · exact .of_right (intBits_le_64 h1 h2)

theorem op_add : OpR X (binaryOp .Add) (rI0 fun i j => .int (i + j)) := opI0 fun _ _ _ _ _ _ _ q => add_int q
theorem op_sub : OpR X (binaryOp .Sub) (rI0 fun i j => .int (i - j)) := opI0 fun _ _ _ _ _ _ _ q => sub_int q
theorem op_mul : OpR X (binaryOp .Mult) (rI CMul fun i j => .int (i * j)) := opI fun _ _ _ _ _ _ _ hc q => mul_int q hc.ok
/-- // by a positive divisor -/
theorem op_fdiv : OpR X (binaryOp .FloorDiv) (rI CDiv fun i j => .int (i / j)) := opI fun i j _ _ _ _ _ hc q => by
  have h1 : (0 : Int) < j := hc.1
  have h2 : j < 1073741824 := hc.2
  exact floordiv_int (by omega) (by rw [Int.fdiv_eq_ediv_of_nonneg i (by omega)]; exact q) (.inl (PyProof.noPylong_small (by omega)))
/-- % by a positive divisor of any size -/
theorem op_mod : OpR X (binaryOp .Mod) (rI (fun _ j => 0 < j) fun i j => .int (i % j)) := opI fun i j _ _ _ _ _ hc q => by
  have h1 : (0 : Int) < j := hc
  exact mod_int' (by omega) (by rw [Int.fmod_eq_emod_of_nonneg i (by omega)]; exact q)
theorem op_pow : OpR X (binaryOp .Pow) (rI CPow fun i j => .int (i ^ j.toNat)) := opI fun _ _ _ _ _ _ _ hc q => pow_int_small hc.1 hc.2.1 hc.2.2 q


theorem unI {f : Value → Sem Value} {g : Int → Int}
    (rule : ∀ (i : Int) (t : Tok) (s : Shared) (Q : Value → Shared → Prop) (E : Value → Shared → Prop), Q (.int (g i) s.toks) { s with toks := s.toks + 1 } → wpAny (model X.prog X.w) X.A (f (.int i t)) Q E s) :
    UnR X f (rU fun i => .int (g i)) := by
  intro pins s σ H x v Q I rx h
  obtain ⟨i, rfl, q⟩ := h
  obtain ⟨t, rfl⟩ := rx
  exact rule i t s _ _ ⟨.int (g i), H, I.tok _, ⟨_, rfl⟩, q⟩
theorem un_neg : UnR X (unaryOp .USub) (rU fun i => .int (-i)) := unI fun _ _ _ _ _ q => neg_int q

/-! ### bools among ints: n += (a < b) -/
end

/-! ### comparisons -/
/-- the scalars that == tells apart as data does -/
def scal : V → V → Bool
  | .non, .non => true | .non, .int _ => true | .int _, .non => true | .non, .bl _ => true | .bl _, .non => true | .non, .str _ => true | .str _, .non => true
  | .int _, .int _ => true | .bl _, .bl _ => true | .str _, .str _ => true | .byt _, .byt _ => true
  | .int _, .str _ => true | .str _, .int _ => true | .bl _, .str _ => true | .str _, .bl _ => true
  | _, _ => false
def rEq : R2 := fun x y H Q => scal x y = true ∧ Q (.bl (decide (x = y))) H

theorem dec_int {i j : Int} : decide (V.int i = V.int j) = (i == j) := by
  rw [Bool.eq_iff_iff]
  simp
theorem dec_bl {i j : Bool} : decide (V.bl i = V.bl j) = (i == j) := by
  rw [Bool.eq_iff_iff]
  simp
theorem dec_str {i j : Str} : decide (V.str i = V.str j) = (i == j) := by
  rw [Bool.eq_iff_iff]
  simp
theorem dec_byt {i j : Array UInt8} : decide (V.byt i = V.byt j) = (i.toList == j.toList) := by
  rw [Bool.eq_iff_iff]
  cases i
  cases j
  simp

section
variable {X : Cx} {a b c : Expr} {ta tb tc : TE} {pos : Pos}
theorem fin_bl {pins : List (Addr × Obj)} {σ : St} {H : Hp} {s : Shared} {Q : VK} {k k' : Bool} (I : Inv X pins σ H s) (q : Q (.bl k) H) (e : k = k') : EP X pins σ Q (.bool k') s := by
  subst e
  exact ⟨.bl k, H, I, rfl, q⟩
theorem op_eq : OpR X (compareOp .Eq) rEq := by
  intro pins s σ H x y v u Q I rx ry h
  obtain ⟨hs, q⟩ := h
  cases x with
  | non =>
    cases rx
    cases y with
    | non => cases ry; exact PySem.EqNone.eq_none_none (fin_bl I q (by simp))
    | bl j => cases ry; exact PySem.EqNone.eq_none_bool (fin_bl I q (by simp))
    | int j => obtain ⟨t', rfl⟩ := ry; exact PySem.EqNone.eq_none_int (fin_bl I q (by simp))
    | str j => obtain ⟨t', rfl⟩ := ry; exact PySem.EqNone.eq_none_str (fin_bl I q (by simp))
    | _ => exact absurd (show false = true from hs) Bool.false_ne_true
  | bl i =>
    cases rx
    cases y with
    | non => cases ry; exact PySem.EqNone.eq_bool_none (fin_bl I q (by simp))
    | bl j => cases ry; exact eq_bool (fin_bl I q dec_bl)
    | str j => obtain ⟨t', rfl⟩ := ry; exact PySem.EqMixed.eq_bool_str (fin_bl I q (by simp))
    | _ => exact absurd (show false = true from hs) Bool.false_ne_true
  | int i =>
    obtain ⟨t, rfl⟩ := rx
    cases y with
    | non => cases ry; exact PySem.EqNone.eq_int_none (fin_bl I q (by simp))
    | int j => obtain ⟨t', rfl⟩ := ry; exact eq_int (fin_bl I q dec_int)
    | str j => obtain ⟨t', rfl⟩ := ry; exact PySem.EqMixed.eq_int_str (fin_bl I q (by simp))
    | _ => exact absurd (show false = true from hs) Bool.false_ne_true
  | str i =>
    obtain ⟨t, rfl⟩ := rx
    cases y with
    | non => cases ry; exact PySem.EqNone.eq_str_none (fin_bl I q (by simp))
    | bl j => cases ry; exact PySem.EqMixed.eq_str_bool (fin_bl I q (by simp))
    | int j => obtain ⟨t', rfl⟩ := ry; exact PySem.EqMixed.eq_str_int (fin_bl I q (by simp))
    | str j => obtain ⟨t', rfl⟩ := ry; exact eq_str (fin_bl I q dec_str)
    | _ => exact absurd (show false = true from hs) Bool.false_ne_true
  | byt i =>
    obtain ⟨t, rfl⟩ := rx
    cases y with
    | byt j => obtain ⟨t', rfl⟩ := ry; exact PySem.W.eq_bytes (fin_bl I q dec_byt)
    | _ => exact absurd (show false = true from hs) Bool.false_ne_true
  | _ => cases y <;> exact absurd (show false = true from hs) Bool.false_ne_true

theorem op_lt : OpR X (compareOp .Lt) (rI0 fun i j => .bl (decide (i < j))) := opB0 fun _ _ _ _ _ _ _ q => lt_int q
theorem op_le : OpR X (compareOp .LtE) (rI0 fun i j => .bl (decide (i ≤ j))) := opB0 fun _ _ _ _ _ _ _ q => le_int q
theorem op_gt : OpR X (compareOp .Gt) (rI0 fun i j => .bl (decide (j < i))) := opB0 fun _ _ _ _ _ _ _ q => gt_int q

/-- is None, is not None: the right side a value none -/
theorem op_isN : OpR X (compareOp .Is) (fun x y H Q => y = .non ∧ Q (.bl (decide (x = .non))) H) := by
  intro pins s σ H x y v u Q I rx ry h
  obtain ⟨rfl, q⟩ := h
  cases ry
  refine is_none_gen (fin_bl I q ?_)
  cases x <;> first
    | (cases rx; rfl)
    | (obtain ⟨t, rfl⟩ := rx; rfl)
theorem op_notN : OpR X (compareOp .IsNot) (fun x y H Q => y = .non ∧ Q (.bl (!decide (x = .non))) H) := by
  intro pins s σ H x y v u Q I rx ry h
  obtain ⟨rfl, q⟩ := h
  cases ry
  refine isnot_none_gen (fin_bl I q ?_)
  cases x <;> first
    | (cases rx; rfl)
    | (obtain ⟨t, rfl⟩ := rx; rfl)



theorem nomark (b : Expr) {op : CmpOp} (h : op ≠ .In := by decide) (h2 : op ≠ .NotIn := by decide) : behindInMarks op b = false := by
  have e1 : (op == CmpOp.In) = false := by cases op <;> first | rfl | exact absurd rfl h
  have e2 : (op == CmpOp.NotIn) = false := by cases op <;> first | rfl | exact absurd rfl h2
  cases b <;> simp [behindInMarks, e1, e2]
/-- a comparison as a value; hm: nomark b, or (for in, not in) by with_unfolding_all rfl -/
theorem pe_cmpR {op : CmpOp} {r : R2} (ho : OpR X (compareOp op) r) (ha : PE X a ta) (hb : PE X b tb) (hm : behindInMarks op b = false) : PE X (.Compare a [op] [b] pos) (tOp r ta tb) := by
  intro pins s σ H Q I h
  exact wpAny_Compare1 (binT ha hb I h fun v u s2 x y H2 I2 rx ry q => ho pins s2 σ H2 x y v u Q I2 rx ry q) hm
/-- a reading of a value as a test -/
def tTest (t : TE) : TT := fun σ H Q => t σ H fun x H' => ∃ k, x = .bl k ∧ Q k H'
theorem pt_cmpR {op : CmpOp} {r : R2} (ho : OpR X (compareOp op) r) (ha : PE X a ta) (hb : PE X b tb) (hm : behindInMarks op b = false) : PT X (.Compare a [op] [b] pos) (tTest (tOp r ta tb)) := by
  intro pins s σ H Q I h
  refine wpAny_isTrue_Compare1 (thn (ha pins s σ H _ I h) fun v s1 ⟨x, H1, I1, r1, q1⟩ => thn (hb pins s1 σ H1 _ I1 q1) fun u s2 ⟨y, H2, I2, r2, q2⟩ =>
    thn (ho pins s2 σ H2 x y v u _ I2 r1 r2 q2) fun c s3 ⟨z, H3, I3, r3, k, e, q3⟩ => ?_) hm
  subst e
  cases r3
  exact wpAny_truthy_bool ⟨H3, I3, q3⟩
/-- a op1 b op2 c -/
def tChain (r r' : R2) (ta tb tc : TE) : TE := fun σ H Q => ta σ H fun x H1 => tb σ H1 fun y H2 => r x y H2 fun z H3 => ∃ k, z = .bl k ∧
  (if k = true then tc σ H3 fun w' H4 => r' y w' H4 Q else Q (.bl false) H3)
theorem pe_chain {op op' : CmpOp} {r r' : R2} (ho : OpR X (compareOp op) r) (ho' : OpR X (compareOp op') r') (ha : PE X a ta) (hb : PE X b tb) (hc : PE X c tc)
    (hm : lastMarks [op, op'] [b, c] = false := by with_unfolding_all rfl) : PE X (.Compare a [op, op'] [b, c] pos) (tChain r r' ta tb tc) := by
  intro pins s σ H Q I h
  refine Compare_chain (thn (ha pins s σ H _ I h) fun v s1 ⟨x, H1, I1, r1, q1⟩ => chain_link (thn (hb pins s1 σ H1 _ I1 q1) fun u s2 ⟨y, H2, I2, r2, q2⟩ =>
    thn (ho pins s2 σ H2 x y v u _ I2 r1 r2 q2) fun d s3 ⟨z, H3, I3, r3, k, e, q3⟩ => ?_)) hm
  subst e
  cases r3
  refine wpAny_truthy_bool ?_
  cases k with
  | false => exact ite_ff ⟨.bl false, H3, I3, rfl, q3⟩
  | true => exact ite_tt (chain_last (thn (hc pins s3 σ H3 _ I3 q3) fun w' s4 ⟨z', H4, I4, r4, q4⟩ => ho' pins s4 σ H4 y z' u w' Q I4 r2 r4 q4))

/-! ### truth -/
theorem line63 : (sizeLine : Nat) < 2 ^ 63 := by rw [sizeLine_eq]; decide

/-! ### strs and bytes -/
theorem op_add_str : OpR X (binaryOp .Add) (fun x y H Q => ∃ i j, x = .str i ∧ y = .str j ∧ i.length + j.length ≤ sizeLine ∧ Q (.str (i ++ j)) H) := by
  intro pins s σ H x y v u Q I rx ry h
  obtain ⟨i, j, rfl, rfl, hz, q⟩ := h
  obtain ⟨t, rfl⟩ := rx
  obtain ⟨t', rfl⟩ := ry
  exact add_str (fun t' tk => ⟨.str (i ++ j), H, I.tok _, ⟨_, rfl⟩, q⟩) hz


/-! ### scalar builtins, by CallR -/
theorem vals1 {x : V} {us : List Value} (r : Vals [x] us) : ∃ u, us = [u] ∧ RelV x u := by
  cases r with
  | cons r1 r2 => cases r2; exact ⟨_, rfl, r1⟩
theorem vals2 {x y : V} {us : List Value} (r : Vals [x, y] us) : ∃ u w', us = [u, w'] ∧ RelV x u ∧ RelV y w' := by
  cases r with
  | cons r1 r2 =>
    cases r2 with
    | cons r3 r4 => cases r4; exact ⟨_, _, rfl, r1, r3⟩
theorem call_max2 (hc : X.calm = true) : CallR X (.builtin "max") (fun xs H Q => ∃ i j, xs = [.int i, .int j] ∧ Q (.int (if j > i then j else i)) H) := by
  intro pins s σ H xs us Q I r h
  obtain ⟨i, j, rfl, q⟩ := h
  obtain ⟨u, w', rfl, ⟨t, rfl⟩, ⟨t', rfl⟩⟩ := vals2 r
  refine max_two_ints (I.ok.hd hc) fun h' tk k => ⟨_, H, I.kept k, ?_, q⟩
  by_cases hj : j > i
  · rw [if_pos hj, if_pos hj]; exact ⟨_, rfl⟩
  · rw [if_neg hj, if_neg hj]; exact ⟨_, rfl⟩
end
end L2

namespace L2
open PySem PySem.Spec PyProof.Rows

/-! ### an instance, its attributes a map -/
structure ObjM (h : Heap) (x dx C : Addr) (mA : Str → Option Value) : Prop where
  obj : h.get? x = some (PySem.W.instObj C dx)
  ns : h.Ns1 dx mA
  ne : dx ≠ x

theorem lookIn_ns {h : Heap} {dx : Addr} {mA : Str → Option Value} (n : h.Ns1 dx mA) : ∃ od, h.get? dx = some od ∧ ∀ name, PySem.W.lookIn name od = some (mA name) := by
  obtain ⟨o, es, ep, ho, hd, hk, _, hm⟩ := n
  refine ⟨o, ho, fun name => ?_⟩
  have e := hm name
  unfold nsFind findBy at e
  rw [← Array.find?_toList] at e
  unfold PySem.W.lookIn
  rw [hd]
  dsimp only
  split
  · rename_i y q
    rw [q] at e
    exact congrArg some e
  · rename_i q
    rw [q] at e
    have a : es.toList.any (·.refKey) = false := by
      rw [List.any_eq_false]
      intro y hy
      obtain ⟨z, t, hkey⟩ := hk y (Array.mem_toList_iff.mp hy)
      simp [DictEntry.refKey, hkey]
    have a' : ¬ es.toList.any (·.refKey) = true := by rw [a]; exact Bool.false_ne_true
    rw [if_neg a']
    exact congrArg some e

theorem ObjM.look {h : Heap} {x dx C : Addr} {mA : Str → Option Value} (I : ObjM h x dx C mA) : ∃ od, PySem.W.InstAt h x (PySem.W.instObj C dx) C (some od) ∧ ∀ name, PySem.W.lookIn name od = some (mA name) :=
  let ⟨od, ho, hl⟩ := lookIn_ns I.ns
  ⟨od, ⟨I.obj, rfl, rfl, ho⟩, hl⟩

section
variable {prog : Program} {w : World} {A : Around} {E : Value → Shared → Prop} {s : Shared} {K : PySem.W.Frag} {x dx C f : Addr} {mA : Str → Option Value} {name : Str} {v : Value}

theorem get_map {expr : Bool} {Q : Value → Shared → Prop} (X : K.In s.heap) (I : ObjM s.heap x dx C mA) (hg : PySem.W.plainGet K C name = true) (hh : PySem.W.hasDictIn K C = true)
    (ha : PySem.W.findIn K (.ref C) name = some none) (hv : mA name = some v) (hv' : PySem.W.handedIn v = true) (h : Q v { s with toks := s.toks + 1 }) :
    wpAny (model prog w) A (getAttr (.ref x) name expr) Q E s := by
  obtain ⟨od, J, hl⟩ := I.look
  exact PySem.W.get_value X J (PySem.W.plainGet_of hg).1 (PySem.W.findObj_own hh ha rfl (by rw [hl, hv])) hv' h


theorem get_meth {pl : Sem Bool} {Q : Value × List Value → Shared → Prop} (X : K.In s.heap) (I : ObjM s.heap x dx C mA) (hg : PySem.W.plainGet K C name = true)
    (hf : PySem.W.findIn K (.ref C) name = some (some (.ref f))) (ht : PySem.W.isFn K (.ref f) = true) (hv : mA name = none) (h : Q (.ref f, [.ref x]) s) :
    wpAny (model prog w) A (getMethod (.ref x) name pl) Q E s := by
  obtain ⟨od, J, hl⟩ := I.look
  exact PySem.W.method_fn X J (PySem.W.plainGet_of hg).1 (PySem.W.plainGet_of hg).2 hf (beq_iff_eq.mp ht) (by show (PySem.W.lookIn name od).map (·.isSome) = some false; rw [hl, hv]; rfl) h

theorem set_map {ns : List Str} {Q : Unit → Shared → Prop} (X : K.In s.heap) (I : ObjM s.heap x dx C mA)
    (hs : PySem.W.findIn K (.ref C) "__setattr__" = some (some (.builtin "object.__setattr__"))) (hp : PySem.W.plainOver K C = true) (ht : PySem.W.takerIn K C name = some none) (hh : PySem.W.hasDictIn K C = true)
    (hw : PySem.Within mA ns) (hsz : ns.length ≤ sizeLine)
    (h : ∀ h', ObjM h' x dx C (fun y => if y = name then some v else mA y) → Heap.SameBut dx s.heap h' → Q () { s with heap := h', toks := s.toks + 2 }) :
    wpAny (model prog w) A (setAttr (.ref x) name v) Q E s := by
  obtain ⟨od, J, hl⟩ := I.look
  refine PySem.W.set_plain X J hs (PySem.W.osa_open (s := { s with toks := s.toks + 1 }) (r := none) X J hp ht fun b => ?_)
  obtain ⟨cd, hc, hd'⟩ := PySem.W.any_some hh
  have hx : s.heap.get? x = some ⟨.ref C, some dx, .plain, #[]⟩ := I.obj
  refine wpAny_bind (wpAny_pure (wpAny_bind (wpAny_bind (wpAny_loadPart hx (wpAny_bind (PySem.W.Looks.here (s := { s with toks := s.toks + 1 }) (PySem.W.looks_clsIn X hc) ?_))))))
  rw [hd']
  refine wpAny_pure (a := some dx) (wpAny_bind (wpAny_pure (wpAny_bind ?_)))
  refine wpAny_nsSet1 (s := { s with toks := s.toks + 1 }) I.ns fun h' hn2 hs2 => ?_
  obtain ⟨oD, esD, epD, hoD, hdD, hcD⟩ := hn2.count (PySem.Within.cons name v hw)
  refine wpAny_bind (wpAny_lookBehind hoD (by rw [hdD]; exact pastItsLine_dict (Nat.le_trans hcD (by rw [List.length_cons]; omega))) ?_)
  exact wpAny_pure (h _ ⟨(hs2.2 _ (Ne.symm I.ne)).trans I.obj, hn2, I.ne⟩ hs2)

/-- C(..): the dict at the heap's end, the instance behind it; then its __init__ -/
theorem make_map {R : Result → Shared → Prop} {vs : List Value} {kw : List (Str × Value)} (X : K.In s.heap) (hm : PySem.W.makesIn K C = true)
    (hi : PySem.W.findIn K (.ref C) "__init__" = some (some (.ref f))) (hf : PySem.W.typeIn K (.ref f) = some (.type "function"))
    (h : codeAny (model prog w) (A.under (.builtin "type.__call__" ⟨.ref C :: vs, kw⟩)) (.call (.ref f) ⟨.ref (s.heap.objs.size + 1) :: vs, kw⟩) (PySem.W.InitBack (s.heap.objs.size + 1) R)
      { s with heap := (s.heap.push PySem.W.emptyDict).push (PySem.W.instObj C s.heap.objs.size) }) :
    codeAny (model prog w) A (.call (.ref C) ⟨vs, kw⟩) R s := by
  obtain ⟨hh, g, d, t, os⟩ := s
  exact PySem.W.make_core (PySem.W.makes_of X hm) (PySem.W.looks_findIn X hi) (fun self => PySem.W.bind_fn X self hf) (.inl rfl) h
end

/-! ### the attributes as a list of pairs -/
def putF (f : Str) (v : V) : List (Str × V) → List (Str × V)
  | [] => [(f, v)]
  | (g, x) :: r => if g = f then (g, v) :: r else (g, x) :: putF f v r
theorem lookup_putF (f g : Str) (v : V) : ∀ fs : List (Str × V), (putF f v fs).lookup g = if g = f then some v else fs.lookup g
  | [] => by
    show List.lookup g [(f, v)] = _
    by_cases h : g = f
    · have hb : (g == f) = true := beq_iff_eq.mpr h
      simp only [List.lookup, hb, if_pos h]
    · have hb : (g == f) = false := beq_eq_false_iff_ne.mpr h
      simp only [List.lookup, hb, if_neg h]
  | (k, x) :: r => by
    have ih := lookup_putF f g v r
    rw [show putF f v ((k, x) :: r) = (if k = f then (k, v) :: r else (k, x) :: putF f v r) from rfl]
    by_cases hk : k = f
    · rw [if_pos hk]
      by_cases h : g = k
      · have hb : (g == k) = true := beq_iff_eq.mpr h
        simp only [List.lookup, hb, if_pos (h.trans hk)]
      · have hb : (g == k) = false := beq_eq_false_iff_ne.mpr h
        simp only [List.lookup, hb, if_neg (fun e : g = f => h (e.trans hk.symm))]
    · rw [if_neg hk]
      by_cases h : g = k
      · have hb : (g == k) = true := beq_iff_eq.mpr h
        simp only [List.lookup, hb, if_neg (fun e : g = f => hk (h.symm.trans e))]
      · have hb : (g == k) = false := beq_eq_false_iff_ne.mpr h
        simp only [List.lookup, hb]
        exact ih
theorem keys_putF (f : Str) (v : V) : ∀ fs : List (Str × V), f ∈ (putF f v fs).map (·.1) ∧ ∀ g, g ∈ fs.map (·.1) → g ∈ (putF f v fs).map (·.1)
  | [] => ⟨by simp [putF], fun g h => by simp at h⟩
  | (k, x) :: r => by
    obtain ⟨i1, i2⟩ := keys_putF f v r
    rw [show putF f v ((k, x) :: r) = (if k = f then (k, v) :: r else (k, x) :: putF f v r) from rfl]
    by_cases hk : k = f
    · rw [if_pos hk]
      subst hk
      exact ⟨by simp, fun g h => by simpa using h⟩
    · rw [if_neg hk]
      refine ⟨?_, fun g h => ?_⟩
      · rw [List.map_cons]
        exact List.mem_cons_of_mem _ i1
      · rw [List.map_cons] at h ⊢
        rcases List.mem_cons.mp h with e | e
        · exact List.mem_cons.mpr (.inl e)
        · exact List.mem_cons_of_mem _ (i2 g e)
theorem length_putF (f : Str) (v : V) : ∀ fs : List (Str × V), (putF f v fs).length ≤ fs.length + 1
  | [] => by simp [putF]
  | (k, x) :: r => by
    have ih := length_putF f v r
    rw [show putF f v ((k, x) :: r) = (if k = f then (k, v) :: r else (k, x) :: putF f v r) from rfl]
    by_cases hk : k = f
    · rw [if_pos hk, List.length_cons, List.length_cons]; omega
    · rw [if_neg hk, List.length_cons, List.length_cons]; omega

theorem RelO.some_of {v : V} {o : Option Value} (r : RelO (some v) o) : ∃ u, o = some u ∧ RelV v u := by
  cases o with
  | none => exact (show False from r).elim
  | some u => exact ⟨u, rfl, r⟩
theorem RelO.none_of {o : Option Value} (r : RelO none o) : o = none := by
  cases o with
  | none => rfl
  | some u => exact (show False from r).elim
theorem handed_of {v : V} {u : Value} (r : RelV v u) : PySem.W.handedIn u = true := by
  cases v with
  | non => cases (show u = Value.none from r); rfl
  | bl b => cases (show u = Value.bool b from r); rfl
  | int i => obtain ⟨t, e⟩ := (show ∃ t, u = Value.int i t from r); cases e; rfl
  | str x => obtain ⟨t, e⟩ := (show ∃ t, u = Value.str x t from r); cases e; rfl
  | byt b => obtain ⟨t, e⟩ := (show ∃ t, u = Value.bytes b t from r); cases e; rfl
  | flt b => obtain ⟨t, e⟩ := (show ∃ t, u = Value.float b t from r); cases e; rfl
  | ref a => cases (show u = Value.ref a from r); rfl
  | ty n => cases (show u = Value.type n from r); rfl

section
variable {P : Program} {w : World} {H H' : Hp} {h h' : Heap} {a C dx : Addr} {fs fs' : List (Str × V)}
theorem ins_get (hok : HOk P w H h) (e : H a = some (.ins C dx fs)) : ∃ mA, ObjM h a dx C mA ∧ (∀ f, RelO (fs.lookup f) (mA f)) ∧ PySem.Within mA (fs.map (·.1)) ∧ fs.length ≤ 1000 ∧ H dx = some (.own a) := by
  obtain ⟨d, z, ne, ob, mA, n, r, q⟩ := (show ObjOk P w H h a (.ins C dx fs) from hok a _ e)
  exact ⟨mA, ⟨ob, n, ne⟩, r, q, z, d⟩
end

/-! ### what of the text a class must have -/
structure Cls (K : PySem.W.Frag) (C : Addr) : Prop where
  pg : PySem.W.plainGet K C Str.empty = true
  hd : PySem.W.hasDictIn K C = true
  po : PySem.W.plainOver K C = true
  sa : PySem.W.findIn K (.ref C) "__setattr__" = some (some (.builtin "object.__setattr__"))
theorem Cls.get {K : PySem.W.Frag} {C : Addr} (c : Cls K C) (f : Str) : PySem.W.plainGet K C f = true := c.pg
/-- no class of it has the name -/
def NoAttr (K : PySem.W.Frag) (C : Addr) (f : Str) : Prop := PySem.W.findIn K (.ref C) f = some none
theorem NoAttr.taker {K : PySem.W.Frag} {C : Addr} {f : Str} (n : NoAttr K C f) : PySem.W.takerIn K C f = some none := by
  unfold PySem.W.takerIn
  rw [show PySem.W.findIn K (.ref C) f = some none from n]
  rfl
/-- a method: a plain def of the class or of one above it -/
structure Meth (K : PySem.W.Frag) (C : Addr) (m : Str) (f : Addr) : Prop where
  at_ : PySem.W.findIn K (.ref C) m = some (some (.ref f))
  fn : PySem.W.isFn K (.ref f) = true
  kp : PySem.W.keepIn K (.ref f) = true

section
variable {X : Cx} {pins : List (Addr × Obj)} {σ : St} {H : Hp} {s : Shared} {a C dx : Addr} {fs : List (Str × V)} {f : Str} {v : V} {A : Around} {E : Value → Shared → Prop}

theorem getattr_ok {b : Bool} {Q : Value → Shared → Prop} (I : Inv X pins σ H s) (e : H a = some (.ins C dx fs)) (c : Cls X.K C) (n : NoAttr X.K C f) (l : fs.lookup f = some v)
    (h : ∀ u s', Inv X pins σ H s' → RelV v u → Q u s') : wpAny (model X.prog X.w) A (getAttr (.ref a) f b) Q E s := by
  obtain ⟨mA, O, r, _, _, _⟩ := ins_get I.hok e
  obtain ⟨u, hu, ru⟩ := RelO.some_of (v := v) (o := mA f) (by rw [← l]; exact r f)
  exact get_map I.kIn O (c.get f) c.hd n hu (handed_of ru) (h u _ (I.tok _) ru)


theorem getmeth_ok {m : Str} {g : Addr} {pl : Sem Bool} {Q : Value × List Value → Shared → Prop} (I : Inv X pins σ H s) (e : H a = some (.ins C dx fs)) (c : Cls X.K C) (k : Meth X.K C m g) (l : fs.lookup m = none)
    (h : Q (.ref g, [.ref a]) s) : wpAny (model X.prog X.w) A (getMethod (.ref a) m pl) Q E s := by
  obtain ⟨mA, O, r, _, _, _⟩ := ins_get I.hok e
  have hn : mA m = none := RelO.none_of (by rw [← l]; exact r m)
  exact get_meth I.kIn O (c.get m) k.at_ k.fn hn h

theorem setattr_ok {y : V} {u : Value} {Q : Unit → Shared → Prop} (I : Inv X pins σ H s) (e : H a = some (.ins C dx fs)) (c : Cls X.K C) (n : NoAttr X.K C f) (hl : fs.length < 1000) (ry : RelV y u)
    (h : ∀ s', Inv X pins σ (upd H a (.ins C dx (putF f y fs))) s' → Q () s') : wpAny (model X.prog X.w) A (setAttr (.ref a) f u) Q E s := by
  obtain ⟨mA, O, r, wi, _, ho⟩ := ins_get I.hok e
  have hz : (fs.map (·.1)).length ≤ sizeLine := by rw [List.length_map, sizeLine_eq]; omega
  refine set_map I.kIn O c.sa c.po n.taker c.hd wi hz fun h' O' sb => h _ ?_
  have hd : ∃ o, h'.get? dx = some o := let ⟨o, _, _, e', _⟩ := O'.ns; ⟨o, e'⟩
  refine I.write (x := a) (e := dx) (by rw [e]; exact True.intro) (.inr ho) (fun b q hb z => (sb.2 b hb).trans z) hd ?_
  refine ⟨by rw [upd_ne O.ne]; exact ho, ?_, O.ne, O'.obj, _, O'.ns, fun g => ?_, fun g hg => ?_⟩
  · have := length_putF f y fs; omega
  · show RelO ((putF f y fs).lookup g) (if g = f then some u else mA g)
    rw [lookup_putF]
    by_cases q : g = f
    · rw [if_pos q, if_pos q]; exact ry
    · rw [if_neg q, if_neg q]; exact r g
  · by_cases q : g = f
    · rw [q]; exact (keys_putF f y fs).1
    · refine (keys_putF f y fs).2 g (wi g fun z => hg ?_)
      show (if g = f then some u else mA g) = none
      rw [if_neg q]; exact z

/-- a new instance, tracked, without attributes -/
theorem Inv.made (I : Inv X pins σ H s) : Inv X pins σ (upd (upd H s.heap.objs.size (.own (s.heap.objs.size + 1))) (s.heap.objs.size + 1) (.ins C s.heap.objs.size []))
    { s with heap := (s.heap.push PySem.W.emptyDict).push (PySem.W.instObj C s.heap.objs.size) } := by
  have e1 : (s.heap.push PySem.W.emptyDict).get? s.heap.objs.size = some PySem.W.emptyDict := Heap.get?_push_size s.heap rfl
  have e2 : ((s.heap.push PySem.W.emptyDict).push (PySem.W.instObj C s.heap.objs.size)).get? (s.heap.objs.size + 1) = some (PySem.W.instObj C s.heap.objs.size) := by
    have := Heap.get?_push_size (s.heap.push PySem.W.emptyDict) (o := PySem.W.instObj C s.heap.objs.size) rfl
    rwa [Heap.size_push] at this
  have e3 : (s.heap.push PySem.W.emptyDict).Ns s.heap.objs.size (fun _ => none) := ⟨PySem.W.emptyDict, #[], _, e1, rfl, (fun e he => absurd he (by simp)), fun _ => rfl⟩
  have I1 := I.laid (a := s.heap.objs.size) (o := .own (s.heap.objs.size + 1)) (h' := s.heap.push PySem.W.emptyDict) (t' := s.toks) (fun b u q => Heap.get?_push_of_some _ q) (Nat.le_refl _) ⟨_, e1⟩
  refine I1.laid (a := s.heap.objs.size + 1) (o := .ins C s.heap.objs.size []) (t' := s.toks) (fun b u q => Heap.get?_push_of_some _ q) (Nat.le_of_eq (Heap.size_push _ _)) ?_
  have ne : s.heap.objs.size ≠ s.heap.objs.size + 1 := Nat.ne_of_lt (Nat.lt_succ_self _)
  refine ⟨by rw [upd_ne ne, upd_same], Nat.zero_le _, ne, e2, fun _ => none, (Heap.Ns1.of_empty e3).at fun o q => Heap.get?_push_of_some _ q, fun _ => True.intro, fun y hy => absurd rfl hy⟩

/-- e.f where nothing but the object is asked: through attributeBase (super) and the last hold -/
theorem attr_of {prog : Program} {w : World} {env : Env} {e : Expr} {f : Str} {pos : Pos} {s : Shared} {Q : Value → Shared → Prop} (hb : attributeBase e f env (eval e env) = eval e env)
    (h : wpAny (model prog w) A (eval e env) (fun o s₁ => wpAny (model prog w) A (getAttr o f true) Q E s₁) E s) : wpAny (model prog w) A (eval (.Attribute e f pos) env) Q E s :=
  Attribute_any_ h (by rw [arm_eval_Attribute, hb])
end

/-! ### readings and rules -/
/-- e.f, an attribute of the instance -/
def tFld (K : PySem.W.Frag) (ta : TE) (f : Str) : TE := fun σ H Q => ta σ H fun x H1 => ∃ a C dx fs v, x = .ref a ∧ H1 a = some (.ins C dx fs) ∧ Cls K C ∧ NoAttr K C f ∧ fs.lookup f = some v ∧ Q v H1
/-- e.f = value -/
def sFld (K : PySem.W.Frag) (ta tv : TE) (f : Str) : TS := fun D σ H => tv σ H fun y H1 => ta σ H1 fun x H2 => ∃ a C dx fs, x = .ref a ∧ H2 a = some (.ins C dx fs) ∧ Cls K C ∧ NoAttr K C f ∧ fs.length < 1000 ∧
  D.nx σ (upd H2 a (.ins C dx (putF f y fs)))

section
variable {X : Cx} {o e value : Expr} {f : Str} {pos pos' tpos : Pos} {ta tv : TE}
theorem pe_fld (he : PE X e ta) (hb : attributeBase e f X.env (eval e X.env) = eval e X.env) : PE X (.Attribute e f pos) (tFld X.K ta f) := by
  intro pins s σ H Q I h
  refine attr_of hb (thn (he pins s σ H _ I h) fun u s1 ⟨x, H1, I1, rx, a, C, dx, fs, v, ex, ea, c, n, l, q⟩ => ?_)
  subst ex
  obtain rfl : u = Value.ref a := rx
  exact getattr_ok I1 ea c n l fun u' s2 I2 ru => ⟨v, H1, I2, ru, q⟩
theorem ps_fld (ha : PE X o ta) (hv : PE X value tv) (hs : swapsWith value (some (.Attribute o f pos')) pos.line X.env = pure false) : PS X (.Assign [.Attribute o f pos'] value pos) (sFld X.K ta tv f) := by
  intro pins s σ H D I h
  refine plainObj_wpAny_Assign_Attribute (thn (hv pins s σ H _ I h) fun u s1 ⟨y, H1, I1, ry, q⟩ => thn (ha pins s1 σ H1 _ I1 q) fun ov s2 ⟨x, H2, I2, rx, a, C, dx, fs, ex, ea, c, n, l, q2⟩ => ?_) hs
  subst ex
  obtain rfl : ov = Value.ref a := rx
  exact setattr_ok I2 ea c n l ry fun s3 I3 => ⟨σ, _, I3, q2⟩

end

/-! ### isinstance -/
section
variable {X : Cx} {pins : List (Addr × Obj)} {σ : St} {H : Hp} {s : Shared} {A : Around} {E : Value → Shared → Prop} {Q : Value → Shared → Prop} {c : Value} {b : Bool}
/-- the type of a value, as the fragment's deciders take it; for an instance its class -/
inductive TyOf (K : PySem.W.Frag) (H : Hp) : V → Value → Prop where
  | non : TyOf K H .non (.type "NoneType")
  | bl (x : Bool) : TyOf K H (.bl x) (.type "bool")
  | int (i : Int) : TyOf K H (.int i) (.type "int")
  | str (x : Str) : TyOf K H (.str x) (.type "str")
  | flt (x : UInt64) : TyOf K H (.flt x) (.type "float")
  | lst {a : Addr} {xs : List V} (e : H a = some (.lst xs)) : TyOf K H (.ref a) (.type "list")
  | frz {a : Addr} {o : Obj} {xs : List V} (e : H a = some (.frz o (.lst xs))) : TyOf K H (.ref a) (.type "list")
  | tup {a : Addr} {xs : List V} (e : H a = some (.tup xs)) : TyOf K H (.ref a) (.type "tuple")
  | dK {a : Addr} {kvs : List (Key × V)} (e : H a = some (.dK kvs)) : TyOf K H (.ref a) (.type "dict")
  | dT {a : Addr} {kvs : List (List Key × V)} (e : H a = some (.dT kvs)) : TyOf K H (.ref a) (.type "dict")
  | ins {a C dx : Addr} {fs : List (Str × V)} (e : H a = some (.ins C dx fs)) (cl : Cls K C) (ha : PySem.W.findIn K (.ref C) "__class__" = some (some (.builtin "object.__class__")))
      (hn : PySem.W.specialIn K (.builtin "object.__class__") "__get__" = some (some (.builtin "getset_descriptor.__get__"))) (htk : PySem.W.takesIn K (.builtin "object.__class__") = some true)
      (hm : PySem.W.mroIn K C (.type "object") = some true) : TyOf K H (.ref a) (.ref C)
/-- isinstance(x, c) for one class c, a built-in or an own one: kitOne's answer -/
theorem isinst_ok {x : V} {u t : Value} (I : Inv X pins σ H s) (rx : RelV x u) (ty : TyOf X.K H x t) (e : PySem.W.kitOne X.K t c = some b) (h : ∀ tk, Q (.bool b) { s with toks := tk }) :
    wpAny (model X.prog X.w) A (call (.builtin "isinstance") [u, c]) Q E s := by
  cases ty with
  | non => cases (show u = Value.none from rx); exact PySem.W.kia_one PySem.W.kitx_none I.kIn True.intro e (fun z => nomatch z) h
  | bl y => cases (show u = Value.bool y from rx); exact PySem.W.kia_one PySem.W.kitx_bool I.kIn True.intro e (fun z => nomatch z) h
  | int i => obtain ⟨t, q⟩ := (show ∃ t, u = Value.int i t from rx); cases q; exact PySem.W.kia_one PySem.W.kitx_int I.kIn True.intro e (fun z => nomatch z) h
  | str y => obtain ⟨t, q⟩ := (show ∃ t, u = Value.str y t from rx); cases q; exact PySem.W.kia_one PySem.W.kitx_str I.kIn True.intro e (fun z => nomatch z) h
  | flt y => obtain ⟨t, q⟩ := (show ∃ t, u = Value.float y t from rx); cases q; exact PySem.W.kia_one PySem.W.kitx_float I.kIn True.intro e (fun z => nomatch z) h
  | @lst a xs ea =>
    cases (show u = Value.ref a from rx)
    obtain ⟨_, _, n, _, h1⟩ := (show ObjOk X.prog X.w H s.heap a (.lst xs) from I.hok a _ ea)
    exact PySem.W.kia_one PySem.W.kitx_list I.kIn ⟨_, h1, rfl⟩ e (fun z => nomatch z) h
  | @frz a ob xs ea =>
    cases (show u = Value.ref a from rx)
    obtain ⟨_, _, _, n, _, h1⟩ := (show ObjOk X.prog X.w H s.heap a (.frz ob (.lst xs)) from I.hok a _ ea)
    exact PySem.W.kia_one PySem.W.kitx_list I.kIn ⟨_, h1, rfl⟩ e (fun z => nomatch z) h
  | @tup a xs ea =>
    cases (show u = Value.ref a from rx)
    obtain ⟨_, _, _, p⟩ := (show ObjOk X.prog X.w H s.heap a (.tup xs) from I.hok a _ ea)
    obtain ⟨o, h1, h2, _⟩ := p
    exact PySem.W.kia_one PySem.W.kitx_tuple I.kIn ⟨o, h1, h2⟩ e (fun z => nomatch z) h
  | @dK a kvs ea =>
    cases (show u = Value.ref a from rx)
    obtain ⟨_, _, vs, _, p⟩ := (show ObjOk X.prog X.w H s.heap a (.dK kvs) from I.hok a _ ea)
    obtain ⟨o, es, ep, h1, h2, _⟩ := p
    exact PySem.W.kia_one PySem.W.kitx_dict I.kIn ⟨o, h1, h2.1⟩ e (fun z => nomatch z) h
  | @dT a kvs ea =>
    cases (show u = Value.ref a from rx)
    obtain ⟨_, _, xs, _, o, es, ep, h1, h2, _⟩ := (show ObjOk X.prog X.w H s.heap a (.dT kvs) from I.hok a _ ea)
    exact PySem.W.kia_one PySem.W.kitx_dict I.kIn ⟨o, h1, h2.1⟩ e (fun z => nomatch z) h
  | @ins a C dx fs ea cl ha hn htk hm =>
    cases (show u = Value.ref a from rx)
    obtain ⟨mA, O, _⟩ := ins_get I.hok ea
    obtain ⟨od, J, _⟩ := O.look
    exact PySem.W.kia_one (PySem.W.kitx_own (cl.get _) cl.hd ha hn htk hm) I.kIn J e (fun z => nomatch z) h
end
end L2

namespace L2
open PySem PySem.Spec PyProof.Rows

/-! ### room -/
structure Room (k : Nat) (A : Around) : Prop where
  hd : A.handled = none
  dp : A.depth + 3 * k + 5 < recursionLimit
  un : A.units + 16 * k + 200 < cLine
theorem Room.mono {j k : Nat} {A : Around} (r : Room k A) (h : j ≤ k) : Room j A := ⟨r.hd, by have := r.dp; omega, by have := r.un; omega⟩
theorem Room.deeper {k : Nat} {A : Around} (r : Room (k + 1) A) (env : Env) : Room k (A.deeper env) :=
  ⟨r.hd, by have := r.dp; show A.depth + 1 + 3 * k + 5 < _; omega, by have := r.un; show A.units + 3 + 16 * k + 200 < _; omega⟩
theorem make_depth {A : Around} {C : Addr} {us : List Value} {kw : List (Str × Value)} : (A.under (.builtin "type.__call__" ⟨.ref C :: us, kw⟩)).depth = A.depth + 1 := by
  first | rfl | simp [Around.under, Code.weight, Code.isCreation, Code.isGuard, Code.isCaller, Code.frames, Code.isFrame, guardIds]
theorem make_units {A : Around} {C : Addr} {us : List Value} {kw : List (Str × Value)} : (A.under (.builtin "type.__call__" ⟨.ref C :: us, kw⟩)).units = A.units + 1 := by
  first | rfl | simp [Around.under, Code.cUnits, Code.frames, Code.isFrame]
theorem Room.make {k : Nat} {A : Around} (r : Room (k + 1) A) (C : Addr) (us : List Value) (kw : List (Str × Value)) : Room k (A.under (.builtin "type.__call__" ⟨.ref C :: us, kw⟩)) :=
  ⟨r.hd, by have := r.dp; rw [make_depth]; omega, by have := r.un; rw [make_units]; omega⟩
theorem Room.depth {k : Nat} {A : Around} (r : Room k A) : A.depth < recursionLimit := by have := r.dp; omega
theorem Room.units0 {k : Nat} {A : Around} (r : Room k A) : A.units < cLine := by have := r.un; omega

/-! ### argument lists and displays -/
def tNil : TA := fun _ H Q => Q [] H
def tCons (ta : TE) (tr : TA) : TA := fun σ H Q => ta σ H fun x H1 => tr σ H1 fun xs H2 => Q (x :: xs) H2
section
variable {X : Cx} {e : Expr} {es : List Expr} {te : TE} {t : TA} {pos : Pos}
theorem pa_nil : PA X [] tNil := fun _ _ _ _ H Q I h => Calls.spliced_nil ⟨[], H, I, .nil, h⟩
theorem pa_cons (ha : PE X e te) (hr : PA X es t) (hs : starEach (e :: es) X.env = (false, eval e X.env) :: starEach es X.env := by rfl) : PA X (e :: es) (tCons te t) := by
  intro pos pins s σ H Q I h
  rw [hs]
  show wpAny _ _ (spliced ((false, eval e X.env) :: backTo pos (starEach es X.env))) _ _ s
  refine Calls.spliced_cons (thn (ha pins s σ H _ I h) fun u s1 ⟨x, H1, I1, r1, q1⟩ => ?_)
  exact thn (hr pos pins s1 σ H1 _ I1 q1) fun us s2 ⟨xs, H2, I2, r2, q2⟩ => ⟨x :: xs, H2, I2, .cons r1 r2, q2⟩

/-- a tuple, a list of written items -/
def tTup (t : TA) : TE := fun σ H Q => t σ H fun xs H1 => xs.length ≤ sizeLine ∧ ∀ p, H1 p = none → Q (.ref p) (upd H1 p (.tup xs))
def tLst (t : TA) : TE := fun σ H Q => t σ H fun xs H1 => xs.length ≤ sizeLine ∧ ∀ p, H1 p = none → Q (.ref p) (upd H1 p (.lst xs))
theorem pe_tup {x1} (h : PA X es t) : PE X (.Tuple es x1 pos) (tTup t) := by
  intro pins s σ H Q I hq
  refine wpAny_Tuple_spliced (thn (h pos pins s σ H _ I hq) fun us s1 ⟨xs, H1, I1, r, z, q⟩ => ⟨by rw [← r.length]; exact z, ?_⟩)
  have hf : H1 s1.heap.objs.size = none := I1.hok.fresh (Nat.le_refl _)
  refine ⟨.ref s1.heap.objs.size, upd H1 s1.heap.objs.size (.tup xs), I1.laid (t' := s1.toks) (fun b u e => Heap.get?_push_of_some _ e) (Nat.le_refl _) ?_, rfl, q _ hf⟩
  exact ⟨z, us, r, ⟨_, Heap.get?_push_size _ rfl, rfl, _, rfl⟩⟩
theorem pe_lst (h : PA X es t) : PE X (.List es pos) (tLst t) := by
  intro pins s σ H Q I hq
  refine wpAny_List_spliced (thn (h pos pins s σ H _ I hq) fun us s1 ⟨xs, H1, I1, r, z, q⟩ => ⟨by rw [← r.length]; exact z, ?_⟩)
  have hf : H1 s1.heap.objs.size = none := I1.hok.fresh (Nat.le_refl _)
  refine ⟨.ref s1.heap.objs.size, upd H1 s1.heap.objs.size (.lst xs), I1.laid (t' := s1.toks) (fun b u e => Heap.get?_push_of_some _ e) (Nat.le_refl _) ?_, rfl, q _ hf⟩
  exact ⟨z, us, 0, r, Heap.get?_push_size _ rfl⟩
end

/-! ### what a def promises -/
/-- a def's promise: the bound arguments in the parameters' order, the heap, the wanted end, the wanted exception -/
abbrev Sp := List V → Hp → VK → XK → Prop
/-- how an exception lies behind a call (file 08 gives it): the callers' frames, abstract heap and state ahead of the call, the wish, the exception, the state -/
abbrev CXT := List Env → Hp → Shared → XK → Value → Shared → Prop

/-- the state at a call -/
structure Env0 (P : Program) (w : World) (K : PySem.W.Frag) (mg : Str → Option Value) (base : Heap) (A : Around) (outer : List Env) (s : Shared) (H : Hp) : Prop where
  frames : A.frames = some outer
  mod : Mod K mg base
  bs : ∀ b o, base.get? b = some o → s.heap.get? b = some o ∧ H b = none
  bsz : base.objs.size ≤ s.heap.objs.size
  funs : s.heap.FunFrames base outer
  frf : ∀ b ∈ frs outer, H b = none
  hok : HOk P w H s.heap
  bare : AllBare s.gens
/-- a call's end -/
def CE (outer : List Env) (P : Program) (w : World) (H : Hp) (s : Shared) (Q : VK) (u : Value) (s' : Shared) : Prop :=
  ∃ v H', s'.os = s.os ∧ AllBare s'.gens ∧ Un (frs outer) [] H H' s.heap s'.heap ∧ HOk P w H' s'.heap ∧ RelV v u ∧ Q v H'
def CR (CX : CXT) (outer : List Env) (P : Program) (w : World) (H : Hp) (s : Shared) (Q : VK) (E : XK) (r : Result) (s' : Shared) : Prop :=
  match r with
  | .ok (.ret u) => CE outer P w H s Q u s'
  | .ok _ => False
  | .error e => CX outer H s E e s'
structure FnOk (P : Program) (w : World) (K : PySem.W.Frag) (mg : Str → Option Value) (base : Heap) (CX : CXT) (k : Nat) (f : Addr) (fd : FuncData) (ps : List Str) (sp : Sp) : Prop where
  len : ∀ vs H Q E, sp vs H Q E → vs.length = ps.length
  run : ∀ (A : Around) (outer : List Env) (s : Shared) (H : Hp) (args : Args) (us : List Value) (vs : List V) (Q : VK) (E : XK), Room k A → Env0 P w K mg base A outer s H → BindsTo s fd args (ps.zip us) → Vals vs us → sp vs H Q E →
    codeAny (model P w) A (.call (.ref f) args) (CR CX outer P w H s Q E) s

theorem Env0.make {P : Program} {w : World} {K : PySem.W.Frag} {mg : Str → Option Value} {base : Heap} {A : Around} {outer : List Env} {s : Shared} {H : Hp} (e : Env0 P w K mg base A outer s H) (C : Addr) (us : List Value) (kw : List (Str × Value)) :
    Env0 P w K mg base (A.under (.builtin "type.__call__" ⟨.ref C :: us, kw⟩)) outer s H := ⟨by first | exact e.frames | (simpa [Around.under, Code.envs, Code.isFrame, pushEnvs] using e.frames), e.mod, e.bs, e.bsz, e.funs, e.frf, e.hok, e.bare⟩

section
variable {X : Cx} {pins : List (Addr × Obj)} {σ : St} {H : Hp} {s s' : Shared}
/-- from a body: what a callee wants -/
theorem Inv.env0 (I : Inv X pins σ H s) : Env0 X.prog X.w X.K X.mg X.base X.A X.stack s H :=
  ⟨I.ok.frames, I.ok.mod, I.bs, Nat.le_trans I.ok.bsz I.sz, I.stack, I.stkFree, I.hok, I.bare⟩
/-- behind a call -/
theorem Inv.after {Q : VK} {u : Value} (I : Inv X pins σ H s) (h : CE X.stack X.prog X.w H s Q u s') : EP X pins σ Q u s' := by
  obtain ⟨v, H', os, bare, un, hok, r, q⟩ := h
  obtain ⟨hh, g, d, t, os'⟩ := s'
  obtain rfl : os' = s.os := os
  exact ⟨v, H', I.call (h' := hh) (g' := g) (d' := d) (t' := t) (ch := []) un hok bare (fun b z => absurd z (by simp)), r, q⟩
end

/-! ### calls -/
/-- f(..): the written arguments, then the defaults dvs; E: what is wanted of an exception -/
def tCall (sp : Sp) (dvs : List V) (E : XK) (t : TA) : TE := fun σ H Q => t σ H fun vs H1 => sp (vs ++ dvs) H1 Q E
/-- C(..): a new instance and its dict, then __init__ -/
def tMake (C : Addr) (sp : Sp) (dvs : List V) (E : XK) (t : TA) : TE := fun σ H Q => t σ H fun vs H1 => ∀ x dx, H1 x = none → H1 dx = none → dx ≠ x →
  sp (.ref x :: (vs ++ dvs)) (upd (upd H1 dx (.own x)) x (.ins C dx [])) (fun v H2 => v = .non ∧ Q (.ref x) H2) E

/-- how the parameters are bound: us the positional arguments, kw the keywords' values by name, ds the defaults that fill up -/
def Binds (K : PySem.W.Frag) (fd : FuncData) (ps : List Str) (ds : List Value) : Prop :=
  ∀ (s : Shared) (us : List Value), K.In s.heap → (us ++ ds).length = ps.length → BindsTo s fd ⟨us, []⟩ (ps.zip (us ++ ds))
/-- every parameter is given -/
theorem Binds.all {K : PySem.W.Frag} {fd : FuncData} {ps : List Str} (h : ∀ us : List Value, us.length = ps.length → bindArgs fd ⟨us, []⟩ = pure (ps.zip us)) : Binds K fd ps [] := fun s us _ hl => by
  rw [List.append_nil] at hl ⊢
  exact .of_eq (h us hl)

/-- an exception of a callee reaches what this body wants of exceptions -/
def Passes (CX : CXT) (X : Cx) (E : XK) : Prop := ∀ (pins : List (Addr × Obj)) (σ : St) (H : Hp) (s : Shared) (e : Value) (s' : Shared), Inv X pins σ H s → CX X.stack H s E e s' → X.xe e s'

section
variable {X : Cx} {CX : CXT} {k : Nat} {f C : Addr} {fd : FuncData} {ps : List Str} {sp : Sp} {dvs : List V} {ds : List Value} {E : XK} {x m : Str} {p pos apos : Pos} {e o : Expr} {es : List Expr} {ta : TE} {t : TA}

/-- the callee runs -/
theorem run_fn {pins : List (Addr × Obj)} {σ : St} {H : Hp} {s : Shared} {Q : VK} {us : List Value} {vs : List V} (F : FnOk X.prog X.w X.K X.mg X.base CX k f fd ps sp) (hr : Room k X.A) (hb : Binds X.K fd ps ds) (hd : Vals dvs ds) (hx : Passes CX X E)
    (I : Inv X pins σ H s) (r : Vals vs us) (h : sp (vs ++ dvs) H Q E) : wpAny (model X.prog X.w) X.A (call (.ref f) us) (EP X pins σ Q) X.xe s := by
  have r2 : Vals (vs ++ dvs) (us ++ ds) := r.append hd
  have hl : (us ++ ds).length = ps.length := by rw [← r2.length]; exact F.len _ _ _ _ h
  refine wpAny_call (codeAny_mono (F.run X.A X.stack s H ⟨us, []⟩ (us ++ ds) (vs ++ dvs) Q E hr I.env0 (hb s us I.kIn hl) r2 h) fun r s' hq => ?_)
  cases r with
  | error e => exact hx pins σ H s e s' I hq
  | ok fl =>
    cases fl with
    | ret u => exact I.after hq
    | next => exact False.elim hq
    | brk => exact False.elim hq
    | cont => exact False.elim hq

theorem pe_call (F : FnOk X.prog X.w X.K X.mg X.base CX k f fd ps sp) (hr : Room k X.A) (hg : Gl X x) (hm : X.mg x = some (.ref f)) (hk : PySem.W.keepIn X.K (.ref f) = true) (hb : Binds X.K fd ps ds) (hd : Vals dvs ds) (hx : Passes CX X E)
    (ha : PA X (e :: es) t) (hdb : (x == ("__debug__" : Str)) = false := by decide) (he : starEach (e :: es) X.env = (false, eval e X.env) :: starEach es X.env := by rfl) (hpl : (backTo pos (starEach es X.env)).any (·.1) = false := by rfl) :
    PE X (.Call (.Name x p) (e :: es) [] pos) (tCall sp dvs E t) := by
  intro pins s σ H Q I h
  refine wpAny_Call_Name_kw (ld_glob I hg hm ?_ hdb)
  refine PySem.W.callWith_K (h₀ := X.base) I.ok.mod.kin hk (thn (ha pos pins s σ H _ I h) fun us s1 ⟨vs, H1, I1, r, q⟩ => ⟨I1.kIn, ?_⟩) he hpl
  exact run_fn F hr hb hd hx I1 r q


/-- what a class must have to be made -/
structure Mk (K : PySem.W.Frag) (C f : Addr) : Prop where
  makes : PySem.W.makesIn K C = true
  init : PySem.W.findIn K (.ref C) "__init__" = some (some (.ref f))
  fn : PySem.W.isFn K (.ref f) = true
  kp : PySem.W.keepIn K (.ref C) = true

theorem run_make {pins : List (Addr × Obj)} {σ : St} {H : Hp} {s : Shared} {Q : VK} {us : List Value} {vs : List V} (M : Mk X.K C f) (F : FnOk X.prog X.w X.K X.mg X.base CX k f fd ps sp) (hr : Room (k + 1) X.A) (hb : Binds X.K fd ps ds) (hd : Vals dvs ds)
    (hx : Passes CX X E) (I : Inv X pins σ H s) (r : Vals vs us)
    (h : ∀ x dx, H x = none → H dx = none → dx ≠ x → sp (.ref x :: (vs ++ dvs)) (upd (upd H dx (.own x)) x (.ins C dx [])) (fun v H2 => v = .non ∧ Q (.ref x) H2) E) :
    wpAny (model X.prog X.w) X.A (call (.ref C) us) (EP X pins σ Q) X.xe s := by
  have hq := h (s.heap.objs.size + 1) s.heap.objs.size (I.hok.fresh (Nat.le_succ _)) (I.hok.fresh (Nat.le_refl _)) (Nat.ne_of_lt (Nat.lt_succ_self _))
  have I2 := Inv.made (C := C) I
  have r2 : Vals (V.ref (s.heap.objs.size + 1) :: (vs ++ dvs)) (Value.ref (s.heap.objs.size + 1) :: (us ++ ds)) := .cons rfl (r.append hd)
  have hl : (Value.ref (s.heap.objs.size + 1) :: us ++ ds).length = ps.length := by
    have e := r2.length
    rw [F.len _ _ _ _ hq] at e
    exact e.symm
  refine wpAny_call (make_map (f := f) I.kIn M.makes M.init (beq_iff_eq.mp M.fn) (codeAny_mono (F.run _ X.stack _ _ ⟨Value.ref (s.heap.objs.size + 1) :: us, []⟩ (Value.ref (s.heap.objs.size + 1) :: (us ++ ds)) _ _ E (hr.make C us [])
    (I2.env0.make C us []) (hb _ (Value.ref (s.heap.objs.size + 1) :: us) I2.kIn hl) r2 hq) fun r s' hq' => ?_))
  cases r with
  | error e => exact hx pins σ _ _ e s' I2 hq'
  | ok fl =>
    cases fl with
    | ret u =>
      obtain ⟨v, H', I3, rv, ev, q3⟩ := I2.after hq'
      subst ev
      exact ⟨rv, ⟨V.ref (s.heap.objs.size + 1), H', I3, rfl, q3⟩⟩
    | next => exact False.elim hq'
    | brk => exact False.elim hq'
    | cont => exact False.elim hq'
theorem pe_make (M : Mk X.K C f) (F : FnOk X.prog X.w X.K X.mg X.base CX k f fd ps sp) (hr : Room (k + 1) X.A) (hg : Gl X x) (hm : X.mg x = some (.ref C)) (hb : Binds X.K fd ps ds) (hd : Vals dvs ds) (hx : Passes CX X E)
    (ha : PA X (e :: es) t) (hdb : (x == ("__debug__" : Str)) = false := by decide) (he : starEach (e :: es) X.env = (false, eval e X.env) :: starEach es X.env := by rfl) (hpl : (backTo pos (starEach es X.env)).any (·.1) = false := by rfl) :
    PE X (.Call (.Name x p) (e :: es) [] pos) (tMake C sp dvs E t) := by
  intro pins s σ H Q I h
  refine wpAny_Call_Name_kw (ld_glob I hg hm ?_ hdb)
  refine PySem.W.callWith_K (h₀ := X.base) I.ok.mod.kin M.kp (thn (ha pos pins s σ H _ I h) fun us s1 ⟨vs, H1, I1, r, q⟩ => ⟨I1.kIn, ?_⟩) he hpl
  exact run_make M F hr hb hd hx I1 r q
end

/-! ### keywords -/
section
variable {X : Cx} {CX : CXT} {k : Nat} {f C : Addr} {fd : FuncData} {ps ks : List Str} {sp : Sp} {E : XK} {x m : Str} {p pos apos kpos : Pos} {e o : Expr} {es : List Expr} {kws : List Keyword} {te ta : TE} {t tk : TA} {nm : Option Str}

variable {g : List Value → List Value → List Value} {gV : List V → List V → List V}
end

/-! ### a def's body keeps its promise -/
/-- names: the parameters first -/
structure FnScope (N P : List Str) (sc : Scope) : Prop where
  kind : sc.kind = .function
  co : sc.isCoroutine = false
  gen : sc.isGenerator = false
  nd : N.Nodup
  pre : N.take P.length = P
  par : ∀ x ∈ P, sc.names.lookup x = some .local ∨ sc.names.lookup x = some .cell
  nofree : ∀ y ∈ sc.names, y.2 ≠ .free

theorem bindL_out {kindOf : Str → Option NameKind} {x : Str} : ∀ {binds : List (Str × Value)} {m : Str → Option Value}, (∀ v, (x, v) ∉ binds) → bindL kindOf binds m x = m x
  | [], _, _ => rfl
  | (n, v) :: r, m, h => by
    unfold bindL
    rw [bindL_out fun w hw => h w (List.mem_cons_of_mem _ hw)]
    split
    · have : x ≠ n := by rintro rfl; exact h v List.mem_cons_self
      simp [this]
    · rfl
theorem bindC_out {kindOf : Str → Option NameKind} {x : Str} : ∀ {binds : List (Str × Value)} {m : Str → Option Value}, (∀ v, (x, v) ∉ binds) → bindC kindOf binds m x = m x
  | [], _, _ => rfl
  | (n, v) :: r, m, h => by
    unfold bindC
    rw [bindC_out fun w hw => h w (List.mem_cons_of_mem _ hw)]
    split
    · rfl
    · have : x ≠ n := by rintro rfl; exact h v List.mem_cons_self
      simp [this]
theorem bindL_get {kindOf : Str → Option NameKind} {x : Str} {v : Value} : ∀ {P : List Str} {vs : List Value} {i : Nat} {m : Str → Option Value}, P.Nodup → P[i]? = some x → vs[i]? = some v → kindOf x = some .local →
    bindL kindOf (P.zip vs) m x = some v
  | [], _, _, _, _, h, _, _ => by simp at h
  | _ :: _, [], _, _, _, _, h, _ => by simp at h
  | p :: P, w :: vs, 0, m, nd, h1, h2, hk => by
    simp at h1 h2; subst h1; subst h2
    show bindL kindOf ((p, w) :: P.zip vs) m p = _
    unfold bindL
    rw [bindL_out fun v hv => (List.nodup_cons.mp nd).1 (List.of_mem_zip hv).1, if_pos hk]
    simp
  | p :: P, w :: vs, i + 1, m, nd, h1, h2, hk => by
    show bindL kindOf ((p, w) :: P.zip vs) m x = _
    unfold bindL
    exact bindL_get (i := i) (List.nodup_cons.mp nd).2 (by simpa using h1) (by simpa using h2) hk
theorem bindC_get {kindOf : Str → Option NameKind} {x : Str} {v : Value} : ∀ {P : List Str} {vs : List Value} {i : Nat} {m : Str → Option Value}, P.Nodup → P[i]? = some x → vs[i]? = some v → kindOf x ≠ some .local →
    bindC kindOf (P.zip vs) m x = some v
  | [], _, _, _, _, h, _, _ => by simp at h
  | _ :: _, [], _, _, _, _, h, _ => by simp at h
  | p :: P, w :: vs, 0, m, nd, h1, h2, hk => by
    simp at h1 h2; subst h1; subst h2
    show bindC kindOf ((p, w) :: P.zip vs) m p = _
    unfold bindC
    rw [bindC_out fun v hv => (List.nodup_cons.mp nd).1 (List.of_mem_zip hv).1, if_neg hk]
    simp
  | p :: P, w :: vs, i + 1, m, nd, h1, h2, hk => by
    show bindC kindOf ((p, w) :: P.zip vs) m x = _
    unfold bindC
    exact bindC_get (i := i) (List.nodup_cons.mp nd).2 (by simpa using h1) (by simpa using h2) hk

/-- the names' values at the entry -/
def start (N : List Str) (vs : List V) : St := vs.map some ++ List.replicate (N.length - vs.length) none

/-- the context of a def's body, at its entry; an exception leaves the frame, then lies as CX says -/
def cxOf (CX : CXT) (P : Program) (w : World) (K : PySem.W.Frag) (mg : Str → Option Value) (base : Heap) (N : List Str) (qual : Str) (scope : Scope) (f : Addr) (cd : Value) (A : Around) (outer : List Env) (s : Shared) (H : Hp) (E : XK) : Cx where
  prog := P
  w := w
  K := K
  mg := mg
  base := base
  A := A.deeper (envOfC qual scope s.heap.objs.size f cd)
  N := N
  s₀ := s
  H₀ := H
  env := envOfC qual scope s.heap.objs.size f cd
  outer := outer
  stack := envOfC qual scope s.heap.objs.size f cd :: outer
  ex := []
  calm := true
  fn := fun _ => true
  pn := []
  xe := fun e s' => wpAny (model P w) (A.deeper (envOfC qual scope s.heap.objs.size f cd)) (leaving (envOfC qual scope s.heap.objs.size f cd) e) (fun _ s'' => CX outer H s E e s'') (fun e' s'' => CX outer H s E e' s'') s'

theorem cell_has {sc : Scope} {n : Nat} {x : Str} (h : sc.names.lookup x = some .cell) : ∃ c, (cellsFrom n sc.names []).lookup x = some c := by
  have q := PySem.W.cellsFrom_some sc.names n [] (.inl h)
  exact Option.isSome_iff_exists.mp q

theorem inv_start {CX : CXT} {P : Program} {w : World} {K : PySem.W.Frag} {mg : Str → Option Value} {base : Heap} {N ps : List Str} {qual : Str} {scope : Scope} {f : Addr} {cd : Value} {A : Around} {outer : List Env} {s s1 : Shared} {H : Hp} {E : XK} {us : List Value} {vs : List V}
    (S : FnScope N ps scope) (hd : A.handled = none) (e0 : Env0 P w K mg base A outer s H) (hl : vs.length = ps.length) (r : Vals vs us)
    (x : InCallC s s.heap.objs.size (bindL (envOfC qual scope s.heap.objs.size f cd).kindOf (ps.zip us) fun _ => none) (cellsFrom (s.heap.objs.size + 1) scope.names []) (bindC (envOfC qual scope s.heap.objs.size f cd).kindOf (ps.zip us) fun _ => none) s1) :
    Inv (cxOf CX P w K mg base N qual scope f cd A outer s H E) [] (start N vs) H s1 := by
  have hpl : ps.length ≤ N.length := by have := congrArg List.length S.pre; rw [List.length_take] at this; omega
  obtain ⟨h1, tk, rfl, hk⟩ := x.done
  have noA : ∀ b : Addr, b ∉ (cxOf CX P w K mg base N qual scope f cd A outer s H E).ex := fun b z => absurd (show b ∈ ([] : List Addr) from z) (by simp)
  refine ⟨⟨e0.mod, S.kind, rfl, rfl, Nat.le_refl _, fun y z c h1 h2 => ?_, fun y hy => ?_, fun y c _ h => ?_, fun _ => hd, Around.frames_deeper e0.frames, .inr ⟨rfl, rfl⟩, fun b z => absurd z (noA b), e0.bs, e0.bsz, fun b _ _ => noA b, fun b z => absurd z (noA b), e0.funs, e0.frf⟩,
    rfl, e0.bare, Un.kept hk, ⟨_, x.toInCall.ns, fun i y v h1 h2 h3 => ?_⟩, fun y c h => ⟨_, x.cell y c h⟩, e0.hok.fresh (Nat.le_refl _), fun y c h => ?_, fun p hp => absurd (show p ∈ ([] : List (Addr × Obj)) from hp) (by simp), e0.hok.kept hk, ?_⟩
  · exact name_of_addr x.apart (PySem.mem_of_lookup h1) (PySem.mem_of_lookup h2)
  · have hy : scope.names.lookup y = some .cell ∨ scope.names.lookup y = some .free := hy
    rcases hy with hy | hy
    · exact cell_has hy
    · exact absurd rfl (S.nofree _ (PySem.mem_of_lookup hy))
  · exact Nat.le_of_lt (x.above y c (PySem.mem_of_lookup h))
  · have hi : i < vs.length := by
      unfold start at h2
      by_cases hi : i < vs.length
      · exact hi
      · rw [List.getElem?_append_right (by simpa using hi)] at h2
        rw [List.getElem?_replicate] at h2
        split at h2 <;> cases h2
    have ha : vs[i]? = some v := by
      unfold start at h2
      rw [List.getElem?_append_left (by simpa using hi), List.getElem?_map] at h2
      cases e : vs[i]? with
      | none => rw [e] at h2; cases h2
      | some a => rw [e] at h2; cases h2; rfl
    obtain ⟨u, hu, rv⟩ := r.get ha
    have hp : ps[i]? = some y := by
      rw [← S.pre, List.getElem?_take_of_lt (by omega)]; exact h1
    have ndP : ps.Nodup := by rw [← S.pre]; exact S.nd.sublist (List.take_sublist _ _)
    refine ⟨u, rv, ?_⟩
    rcases S.par y (List.mem_of_getElem? hp) with k | k
    · exact .inl ⟨k, bindL_get ndP hp hu k⟩
    · obtain ⟨c, e⟩ := cell_has (n := s.heap.objs.size + 1) k
      refine .inr ⟨.inl k, c, e, ?_⟩
      have q := x.cell y c e
      rw [bindC_get ndP hp hu (by show scope.names.lookup y ≠ _; rw [k]; decide)] at q
      exact q
  · exact e0.hok.fresh (Nat.le_of_lt (x.above y c (PySem.mem_of_lookup h)))
  · unfold start
    show _ = N.length
    rw [List.length_append, List.length_map, List.length_replicate]
    omega

/-- THE RULE: a def (or a method) of the text, by its body. The body's reading t is chosen for each entry; it is run at the parameters' values -/
theorem fn_of {CX : CXT} {P : Program} {w : World} {K : PySem.W.Frag} {mg : Str → Option Value} {base : Heap} {k : Nat} {f : Addr} {name qual : Str} {params : Arguments} {body : List Stmt} {scope : Scope} {dV kV doc pm cdv ct oc : Value} {an od : Option Addr}
    {osl : Array (Option Value)} {N ps : List Str} {sp : Sp} (lk : K.lookup f = some ⟨oc, od, .func (PySem.W.fnOf name qual params body scope dV kV doc pm an cdv ct), osl⟩) (hcd : PySem.W.codeIn K cdv qual = true) (S : FnScope N ps scope)
    (len : ∀ vs H Q E, sp vs H Q E → vs.length = ps.length)
    (hbody : ∀ (A : Around) (outer : List Env) (s : Shared) (H : Hp) (vs : List V) (Q : VK) (E : XK), Room k (A.deeper (envOfC qual scope s.heap.objs.size f cdv)) → sp vs H Q E →
      ∃ t, PSs (cxOf CX P w K mg base N qual scope f cdv A outer s H E) body t ∧ t { nx := fun _ H' => Q .non H', rt := Q } (start N vs) H) :
    FnOk P w K mg base CX (k + 1) f (PySem.W.fnOf name qual params body scope dV kV doc pm an cdv ct) ps sp := by
  refine ⟨len, fun A outer s H args us vs Q E hr e0 hb r hsp => ?_⟩
  have hl := len _ _ _ _ hsp
  have KX : K.In s.heap := e0.mod.kin.keeps fun b o e => (e0.bs b o e).1
  have lim : s.heap.NoLimit := e0.mod.nolimit.keeps fun b o e => (e0.bs b o e).1
  have hkind : ∀ y ∈ ps.zip us, scope.names.lookup y.1 = some .local ∨ (scope.names.lookup y.1 = some .cell ∧ ((cellsFrom (s.heap.objs.size + 1) scope.names []).lookup y.1).isSome = true) := fun ⟨n, v⟩ hy => by
    rcases S.par n (List.of_mem_zip hy).1 with q | q
    · exact .inl q
    · exact .inr ⟨q, PySem.W.cellsFrom_some _ _ _ (.inl q)⟩
  refine codeAny_call_function hr.depth (KX _ _ lk) rfl S.co S.gen rfl (PySem.W.codeRec_of KX hcd) (hb _ _ _ _ ?_)
  refine wpAny_newFunctionEnv_cells S.kind hkind fun env he s1 x => ?_
  subst he
  refine ⟨lim.keeps x.toInCall.keep, codeAny_func ?_⟩
  obtain ⟨t, ht, hq⟩ := hbody A outer s H vs Q E (hr.deeper _) hsp
  have I : Inv (cxOf CX P w K mg base N qual scope f cdv A outer s H E) [] (start N vs) H s1 := inv_start S hr.hd e0 hl r x
  refine wpAny_mono (ht [] s1 (start N vs) H _ I hq) (fun fl s' hs => ?_) fun e s' hs => hs
  have fin : ∀ {σ' : St} {H' : Hp} {v : V} {u : Value}, Inv (cxOf CX P w K mg base N qual scope f cdv A outer s H E) [] σ' H' s' → RelV v u → Q v H' → CE outer P w H s Q u s' :=
    fun {σ' H' v u} J rv q => ⟨v, H', J.os, J.bare, J.base, J.hok, rv, q⟩
  cases fl with
  | ret u =>
    obtain ⟨v, σ', H', J, rv, q⟩ := hs
    exact fin J rv q
  | next =>
    obtain ⟨σ', H', J, q⟩ := hs
    exact fin (v := V.non) (u := Value.none) J rfl q
  | brk =>
    obtain ⟨_, _, _, q⟩ := hs
    exact False.elim q
  | cont =>
    obtain ⟨_, _, _, q⟩ := hs
    exact False.elim q
end L2

namespace L2
open PySem PySem.Spec PyProof.Rows
section
variable {X : Cx} {x : Str} {p pos : Pos} {e : Expr} {es : List Expr} {t : TA} {id T : String} {r : List V → Hp → VK → Prop}

def tCB (r : List V → Hp → VK → Prop) (t : TA) : TE := fun σ H Q => t σ H fun vs H1 => r vs H1 Q
/-- f(e, ..), f a built-in function -/
theorem pe_callB (hc : CallR X (.builtin id) r) (hg : Gl X x) (hm : X.mg x = none) (hv : bootBuiltins x = some (.builtin id)) (ha : PA X (e :: es) t) (hn : x ≠ "__name__" := by decide) (hdb : (x == ("__debug__" : Str)) = false := by decide)
    (he : starEach (e :: es) X.env = (false, eval e X.env) :: starEach es X.env := by rfl) (hpl : (backTo pos (starEach es X.env)).any (·.1) = false := by rfl) : PE X (.Call (.Name x p) (e :: es) [] pos) (tCB r t) := by
  intro pins s σ H Q I h
  refine wpAny_Call_Name_kw (ld_blt I hg hm hv ?_ hn hdb)
  exact PyProof.Rows.callWith_builtin1 (thn (ha pos pins s σ H _ I h) fun us s1 ⟨vs, H1, I1, r1, q1⟩ => hc pins s1 σ H1 vs us Q I1 r1 q1) he hpl
/-- T(e, ..), T a built-in type -/
theorem pe_callTy (hc : CallR X (.type T) r) (hg : Gl X x) (hm : X.mg x = none) (hv : bootBuiltins x = some (.type T)) (ha : PA X (e :: es) t) (hn : x ≠ "__name__" := by decide) (hdb : (x == ("__debug__" : Str)) = false := by decide)
    (he : starEach (e :: es) X.env = (false, eval e X.env) :: starEach es X.env := by rfl) (hpl : (backTo pos (starEach es X.env)).any (·.1) = false := by rfl) : PE X (.Call (.Name x p) (e :: es) [] pos) (tCB r t) := by
  intro pins s σ H Q I h
  refine wpAny_Call_Name_kw (ld_blt I hg hm hv ?_ hn hdb)
  exact PyProof.Rows.callWith_type1 (thn (ha pos pins s σ H _ I h) fun us s1 ⟨vs, H1, I1, r1, q1⟩ => hc pins s1 σ H1 vs us Q I1 r1 q1) he hpl
end
end L2

namespace HT
open PySem PyProof.Rows



section
open PySem.SeqAt
open PySem.AutoSeq1 (wpAny_loadPart')
open PySem.MeetsSeq PySem.MeetsSeq2 PySem.MeetsSeq3

end

section
variable {prog : Program} {w : World} {A : Around} {E : Value → Shared → Prop} {s : Shared}



/-! ### t[a:b], not the whole -/
/-- a slice's bound as a place among n (d where it is left out) -/
def sIx (n d : Nat) : Option Int → Nat
  | none => d
  | some v => if v < 0 then (v + (n : Int)).toNat else min v.toNat n
theorem sIx_nat (n d k : Nat) : sIx n d (some (k : Int)) = min k n := by
  show (if (k : Int) < 0 then ((k : Int) + (n : Int)).toNat else min (k : Int).toNat n) = min k n
  rw [if_neg (by omega), Int.toNat_natCast]

end
end HT

namespace L2
open PySem PySem.Spec PyProof.Rows

/-! ### the parts of a slice -/
abbrev TO := St → Hp → (Option Int → Hp → Prop) → Prop
/-- a slice's part (left out, or an int) -/
def PO (X : Cx) (e : Option Expr) (t : TO) : Prop :=
  ∀ (pins : List (Addr × Obj)) (s : Shared) (σ : St) (H : Hp) (Q : Option Int → Hp → Prop), Inv X pins σ H s → t σ H Q →
    wpAny (model X.prog X.w) X.A (evalPart e X.env) (fun u s' => ∃ o H', Inv X pins σ H' s' ∧ IsPart u o ∧ Q o H') X.xe s
def tNoPart : TO := fun _ H Q => Q none H
def tPart (t : TE) : TO := fun σ H Q => t σ H fun x H1 => ∃ i, x = .int i ∧ Q (some i) H1


section
variable {X : Cx} {e : Expr} {te : TE} {lo hi : Option Expr} {tl th : TO} {pos p2 : Pos}

theorem po_none : PO X none tNoPart := by
  intro pins s σ H Q I h
  rw [evalPart_none]
  exact wpAny_pure ⟨none, H, I, .none, h⟩
theorem po_some (h : PE X e te) : PO X (some e) (tPart te) := by
  intro pins s σ H Q I hw
  rw [evalPart_some]
  refine thn (h pins s σ H _ I hw) fun u s1 ⟨x, H1, I1, r1, q1⟩ => ?_
  obtain ⟨i, rfl, q⟩ := q1
  obtain ⟨t, rfl⟩ := r1
  exact ⟨some i, H1, I1, .int i t, q⟩

/-- what a slice of a value is, by values: the slice object stands at sl -/
def SlR (X : Cx) (r : V → Option Int → Option Int → Hp → VK → Prop) : Prop :=
  ∀ (pins : List (Addr × Obj)) (s : Shared) (σ : St) (H : Hp) (x : V) (v vl vu : Value) (lo hi : Option Int) (sl : Addr) (Q : VK), Inv X pins σ H s → RelV x v → s.heap.IsSliceOf sl vl vu .none → IsPart vl lo → IsPart vu hi → r x lo hi H Q →
    ∃ T id, typeLookup (.type T) "__getitem__" = pure (some (.builtin id)) ∧ s.TypeIs v T ∧ wpAny (model X.prog X.w) X.A (getItem v (.ref sl)) (EP X pins σ Q) X.xe s
def tSl (r : V → Option Int → Option Int → Hp → VK → Prop) (te : TE) (tl th : TO) : TE := fun σ H Q => te σ H fun x H1 => tl σ H1 fun l H2 => th σ H2 fun u H3 => r x l u H3 Q
/-- a[lo:hi], any a -/
theorem pe_slice {r : V → Option Int → Option Int → Hp → VK → Prop} (hr : SlR X r) (he : PE X e te) (hl : PO X lo tl) (hu : PO X hi th) : PE X (.Subscript e (.Slice lo hi none p2) pos) (tSl r te tl th) := by
  intro pins s σ H Q I h
  refine Subscript_ (thn (he pins s σ H _ I h) fun v s1 ⟨x, H1, I1, r1, q1⟩ => ?_)
  refine wpAny_Slice (thn (hl pins s1 σ H1 _ I1 q1) fun vl s2 ⟨l, H2, I2, pl, q2⟩ => thn (hu pins s2 σ H2 _ I2 q2) fun vu s3 ⟨u, H3, I3, pu, q3⟩ => ?_)
  rw [evalPart_none]
  refine wpAny_pure ?_
  have I4 : Inv X pins σ H3 { s3 with heap := s3.heap.push { cls := .type "slice", data := .fields #[vl, vu, .none] } } := I3.kept (t' := s3.toks) fun b ob q => Heap.get?_push_of_some _ q
  obtain ⟨T, id, hT, ht, hg⟩ := hr pins { s3 with heap := s3.heap.push { cls := .type "slice", data := .fields #[vl, vu, .none] } } σ H3 x v vl vu l u s3.heap.objs.size Q I4 r1 (Heap.IsSliceOf.new ..) pl pu q3
  show wpAny (model X.prog X.w) X.A (subscriptTail e (.Slice lo hi none p2) v (.ref s3.heap.objs.size)) (EP X pins σ Q) X.xe { s3 with heap := s3.heap.push { cls := .type "slice", data := .fields #[vl, vu, .none] } }
  exact tail_any (ops := [.ref s3.heap.objs.size, v]) ht hT hg (by with_unfolding_all rfl)

/-- the items of xs[lo:hi] -/
def cutV (xs : List V) (lo hi : Option Int) : List V := (xs.drop (HT.sIx xs.length 0 lo)).take (HT.sIx xs.length xs.length hi - HT.sIx xs.length 0 lo)
theorem cutV_length (xs : List V) (lo hi : Option Int) : (cutV xs lo hi).length ≤ xs.length := by
  unfold cutV
  rw [List.length_take, List.length_drop]
  omega

/-! ### t < u, t + u -/
end
end L2

namespace L2
open PySem PySem.Spec PyProof.Rows

/-! ### places -/
/-- the place that an index of any sign means -/
def ixN (n : Nat) (i : Int) : Option Nat := if 0 ≤ i then (if i < n then some i.toNat else none) else if -(n : Int) ≤ i then some (i + n).toNat else none
def atI {α : Type} (xs : List α) (i : Int) : Option α := (ixN xs.length i).bind fun j => xs[j]?
theorem ixN_seq {n : Nat} {i : Int} {j : Nat} (h : ixN n i = some j) : seqIndex? i n = some j ∧ j < n ∧ -(n : Int) ≤ i ∧ i < n := by
  unfold ixN at h
  by_cases h0 : 0 ≤ i
  · rw [if_pos h0] at h
    by_cases h1 : i < n
    · rw [if_pos h1] at h
      have e : i.toNat = j := Option.some.inj h
      exact ⟨by rw [seqIndex_of h0 h1, e], by omega, by omega, h1⟩
    · rw [if_neg h1] at h; cases h
  · rw [if_neg h0] at h
    by_cases h1 : -(n : Int) ≤ i
    · rw [if_pos h1] at h
      have e : (i + n).toNat = j := Option.some.inj h
      exact ⟨by rw [seqIndex_neg (by omega) h1, e], by omega, h1, by omega⟩
    · rw [if_neg h1] at h; cases h
theorem atI_get {α : Type} {xs : List α} {i : Int} {v : α} (h : atI xs i = some v) : ∃ j, seqIndex? i xs.length = some j ∧ xs[j]? = some v ∧ j < xs.length ∧ -(xs.length : Int) ≤ i ∧ i < xs.length := by
  unfold atI at h
  cases e : ixN xs.length i with
  | none => rw [e] at h; cases h
  | some j =>
    rw [e] at h
    obtain ⟨h1, h2, h3, h4⟩ := ixN_seq e
    exact ⟨j, h1, h, h2, h3, h4⟩
theorem atI_nat {α : Type} {xs : List α} {j : Nat} {v : α} (h : xs[j]? = some v) : atI xs (j : Int) = some v := by
  have hj : j < xs.length := (List.getElem?_eq_some_iff.mp h).1
  have e : ixN xs.length (j : Int) = some j := by
    unfold ixN
    rw [if_pos (by omega), if_pos (by omega)]; simp
  unfold atI; rw [e]; exact h
theorem atI_last {α : Type} (xs : List α) (v : α) : atI (xs ++ [v]) (-1) = some v := by
  have hl : (xs ++ [v]).length = xs.length + 1 := by simp
  have e : ixN (xs ++ [v]).length (-1) = some xs.length := by
    unfold ixN
    rw [hl, if_neg (by decide), if_pos (by omega)]
    congr 1
    omega
  unfold atI
  rw [e]
  show (xs ++ [v])[xs.length]? = some v
  simp

/-! ### what may be subscripted -/
/-- what stands as an index of a plain subscript -/
def PlainIx (b : Expr) : Prop := ∀ o i, subscripted b false o i = operate [o, i] (getItem o i)
/-- a subscript by values -/
def IxR (X : Cx) (r : R2) : Prop :=
  ∀ (value slice : Expr) (pins : List (Addr × Obj)) (s : Shared) (σ : St) (H : Hp) (x y : V) (v u : Value) (Q : VK), Inv X pins σ H s → RelV x v → RelV y u → r x y H Q →
    subscripted slice false v u = operate [v, u] (getItem v u) → wpAny (model X.prog X.w) X.A (subscriptTail value slice v u) (EP X pins σ Q) X.xe s
/-- a call of a builtin's method by values: the receiver, the arguments -/
def MtR (X : Cx) (id : String) (r : V → List V → Hp → VK → Prop) : Prop :=
  ∀ (pins : List (Addr × Obj)) (s : Shared) (σ : St) (H : Hp) (x : V) (xs : List V) (v : Value) (us : List Value) (Q : VK), Inv X pins σ H s → RelV x v → Vals xs us → r x xs H Q →
    wpAny (model X.prog X.w) X.A (call (.builtin id) (v :: us)) (EP X pins σ Q) X.xe s
section
variable {X : Cx} {a b : Expr} {ta tb : TE} {pos : Pos}
/-- a[b] -/
theorem pe_ix {r : R2} (hr : IxR X r) (ha : PE X a ta) (hb : PE X b tb) (hs : PlainIx b) : PE X (.Subscript a b pos) (tOp r ta tb) := by
  intro pins s σ H Q I h
  exact Subscript_ (binT ha hb I h fun v u s2 x y H2 I2 rx ry q => hr a b pins s2 σ H2 x y v u Q I2 rx ry q (hs _ _))

def rIxL (K : PySem.W.Frag) : R2 := fun x y H Q => ∃ p xs i v, x = .ref p ∧ y = .int i ∧ SqL K H p xs ∧ atI xs i = some v ∧ Q v H
def rIxT (K : PySem.W.Frag) : R2 := fun x y H Q => ∃ p xs i v, x = .ref p ∧ y = .int i ∧ SqT K H p xs ∧ atI xs i = some v ∧ Q v H
def rIxS : R2 := fun x y H Q => ∃ z i c, x = .str z ∧ y = .int i ∧ z.length ≤ sizeLine ∧ atI z.cps.toList i = some c ∧ Q (.str ⟨#[c]⟩) H
theorem ix_list : IxR X (rIxL X.K) := by
  intro value slice pins s σ H x y v u Q I rx ry h hs
  obtain ⟨p, xs, i, z, rfl, rfl, hq, he, q⟩ := h
  cases rx
  obtain ⟨t, rfl⟩ := ry
  obtain ⟨its, r, pl, hz⟩ := I.list hq
  obtain ⟨j, h1, h2, h3, h4, h5⟩ := atI_get he
  obtain ⟨w, ew, rw'⟩ := r.get h2
  have hl := r.length
  have hn := line63
  have fin : EP X pins σ Q w s := ⟨z, H, I, rw', q⟩
  by_cases h0 : 0 ≤ i
  · have hj : i.toNat = j := by
      rw [seqIndex_of h0 h5] at h1
      exact Option.some.inj h1
    exact item_listR pl.isList h0 (by omega) (by rw [hj]; simpa using ew) fin hs
  · have hj : (i + (its.toArray.size : Int)).toNat = j := by
      rw [seqIndex_neg (by omega) h4] at h1
      rw [List.size_toArray, ← hl]
      exact Option.some.inj h1
    exact subscriptTail_builtinR (x := w) pl.isList.typeIs slot_list_getitem.lookup
      (wpAny_getItem_list_neg (Q := fun r s' => r = w ∧ EP X pins σ Q r s') pl.isList (by omega) (by rw [List.size_toArray] <;> omega) (by omega) (by rw [hj]; simpa using ew) ⟨rfl, fin⟩) hs
theorem ix_tup : IxR X (rIxT X.K) := by
  intro value slice pins s σ H x y v u Q I rx ry h hs
  obtain ⟨p, xs, i, z, rfl, rfl, hq, he, q⟩ := h
  cases rx
  obtain ⟨t, rfl⟩ := ry
  obtain ⟨its, r, pl, hz⟩ := I.tuple hq
  obtain ⟨j, h1, h2, h3, h4, h5⟩ := atI_get he
  obtain ⟨w, ew, rw'⟩ := r.get h2
  have hl := r.length
  have hn := line63
  have fin : EP X pins σ Q w s := ⟨z, H, I, rw', q⟩
  exact subscriptTail_builtinR (x := w) pl.typeIs slot_tuple_getitem.lookup
    (getItem_tuple (j := j) (Q := fun r s' => r = w ∧ EP X pins σ Q r s') pl (by omega) (by omega) (by rw [List.size_toArray, ← hl]; exact h1) (by simpa using ew) ⟨rfl, fin⟩) hs
theorem ix_str : IxR X rIxS := by
  intro value slice pins s σ H x y v u Q I rx ry h hs
  obtain ⟨z, i, c, rfl, rfl, hz, he, q⟩ := h
  obtain ⟨t, rfl⟩ := rx
  obtain ⟨t', rfl⟩ := ry
  obtain ⟨j, h1, h2, h3, h4, h5⟩ := atI_get he
  have hl : z.cps.toList.length = z.length := by simp [Str.length]
  rw [hl] at h1 h4 h5
  have hn := line63
  exact tail_any (typeIs_str s z t) slot_str_getitem.lookup (getItem_str (c := c) (by
    have e1 : decide (i < -(2 ^ 63 : Int)) = false := decide_eq_false (by omega)
    have e2 : decide (i ≥ 2 ^ 63) = false := decide_eq_false (by omega)
    rw [e1, e2, Bool.or_false]) (by rw [h1]; simpa using h2) ⟨.str ⟨#[c]⟩, H, I.tok _, ⟨_, rfl⟩, q⟩) hs

/-! ### xs[i] = v, any sign -/

/-! ### slices -/
theorem slice_bounds (lo hi : Option Int) (n : Nat) : (sliceBounds lo hi none n).1 = ((HT.sIx n 0 lo : Nat) : Int) ∧ (sliceBounds lo hi none n).2.1 = ((HT.sIx n n hi : Nat) : Int) ∧ (sliceBounds lo hi none n).2.2 = 1 := by
  refine ⟨?_, ?_, rfl⟩
  · cases lo with
    | none => simp [sliceBounds, HT.sIx]
    | some i =>
      simp only [sliceBounds, HT.sIx, Option.getD_none, show (1 : Int) > 0 by decide, if_true]
      by_cases h : i < 0
      · simp only [h, if_true] <;> omega
      · simp only [h, if_false] <;> omega
  · cases hi with
    | none => simp [sliceBounds, HT.sIx]
    | some i =>
      simp only [sliceBounds, HT.sIx, Option.getD_none, show (1 : Int) > 0 by decide, if_true]
      by_cases h : i < 0
      · simp only [h, if_true] <;> omega
      · simp only [h, if_false] <;> omega
theorem slicePick_cut (its : List Value) (lo hi : Option Int) : slicePick its.toArray lo hi none = ((its.drop (HT.sIx its.length 0 lo)).take (HT.sIx its.length its.length hi - HT.sIx its.length 0 lo)).toArray := by
  obtain ⟨h1, h2, h3⟩ := slice_bounds lo hi its.toArray.size
  unfold slicePick
  rw [h1, h2, h3]
  simp only [sliceRange_one, pick_run, List.size_toArray] <;> rfl
/-- xs[lo:hi] of a list: a new list -/
def rSlL (K : PySem.W.Frag) : V → Option Int → Option Int → Hp → VK → Prop := fun x lo hi H Q => ∃ a xs, x = .ref a ∧ SqL K H a xs ∧ ∀ p, H p = none → Q (.ref p) (upd H p (.lst (cutV xs lo hi)))
theorem sl_list : SlR X (rSlL X.K) := by
  intro pins s σ H x v vl vu lo hi sl Q I rx hs pl pu h
  obtain ⟨a, xs, rfl, hx, q⟩ := h
  cases rx
  obtain ⟨its, r, ht, hz⟩ := I.list hx
  have hlen := r.length
  refine ⟨"list", _, slot_list_getitem.lookup, ht.isList.typeIs, ?_⟩
  refine wpAny_getItem_list_slice ht.isList hs pl pu .none (by simp) ?_ (by rw [List.size_toArray] <;> omega)
  rw [slicePick_cut, ← hlen]
  refine ⟨.ref s.heap.objs.size, _, I.laid (t' := s.toks) (o := .lst (cutV xs lo hi)) (fun b ob q => Heap.get?_push_of_some _ q) (Nat.le_refl _) ?_, rfl, q _ (I.hok.fresh (Nat.le_refl _))⟩
  exact ⟨Nat.le_trans (cutV_length xs lo hi) hz, _, 0, (r.drop (HT.sIx xs.length 0 lo)).take (HT.sIx xs.length xs.length hi - HT.sIx xs.length 0 lo), Heap.get?_push_size _ rfl⟩

/-! ### in, not in: flat items -/
def flatV : V → Bool
  | .non => true
  | .bl _ => true
  | .int _ => true
  | .str _ => true
  | _ => false
/-- == of flat values -/
def eqV : V → V → Bool
  | .non, .non => true
  | .bl a, .bl b => a == b
  | .bl a, .int b => (if a then 1 else 0) == b
  | .int a, .bl b => a == (if b then 1 else 0)
  | .int a, .int b => a == b
  | .str a, .str b => a == b
  | _, _ => false
theorem eqAt_V {A : Around} {s : Shared} {y x : V} {u v : Value} (ry : RelV y u) (rx : RelV x v) (fy : flatV y = true) (fx : flatV x = true) : SeqAt.EqAt A s u v (eqV y x) := by
  cases y with
  | non =>
    cases ry
    cases x with
    | non => cases rx; exact SeqAt.EqAt.same _
    | bl b => cases rx; exact SeqAt.EqAt.none_bool b
    | int b => obtain ⟨t, rfl⟩ := rx; exact SeqAt.EqAt.none_int b t
    | str b => obtain ⟨t, rfl⟩ := rx; exact SeqAt.EqAt.none_str b t
    | _ => exact absurd (show false = true from fx) Bool.false_ne_true
  | bl a =>
    cases ry
    cases x with
    | non => cases rx; exact SeqAt.EqAt.bool_none a
    | bl b => cases rx; exact SeqAt.EqAt.bool_bool a b
    | int b => obtain ⟨t, rfl⟩ := rx; exact SeqAt.EqAt.bool_int a b t
    | str b => obtain ⟨t, rfl⟩ := rx; exact SeqAt.EqAt.bool_str a b t
    | _ => exact absurd (show false = true from fx) Bool.false_ne_true
  | int a =>
    obtain ⟨t', rfl⟩ := ry
    cases x with
    | non => cases rx; exact SeqAt.EqAt.int_none a t'
    | bl b => cases rx; exact SeqAt.EqAt.int_bool a t' b
    | int b => obtain ⟨t, rfl⟩ := rx; exact SeqAt.EqAt.int_int a t' b t
    | str b => obtain ⟨t, rfl⟩ := rx; exact SeqAt.EqAt.int_str a t' b t
    | _ => exact absurd (show false = true from fx) Bool.false_ne_true
  | str a =>
    obtain ⟨t', rfl⟩ := ry
    cases x with
    | non => cases rx; exact SeqAt.EqAt.str_none a t'
    | bl b => cases rx; exact SeqAt.EqAt.str_bool a t' b
    | int b => obtain ⟨t, rfl⟩ := rx; exact SeqAt.EqAt.str_int a t' b t
    | str b => obtain ⟨t, rfl⟩ := rx; exact SeqAt.EqAt.str_str a t' b t
    | _ => exact absurd (show false = true from fx) Bool.false_ne_true
  | _ => exact absurd (show false = true from fy) Bool.false_ne_true
/-- the items' answers, read off the values (a value's own answer does not lean on its token) -/
def eqU (x : V) (u : Value) : Bool := match u with
  | .none => eqV .non x
  | .bool b => eqV (.bl b) x
  | .int i _ => eqV (.int i) x
  | .str z _ => eqV (.str z) x
  | _ => false
theorem eqU_of {x y : V} {u : Value} (r : RelV y u) (f : flatV y = true) : eqU x u = eqV y x := by
  cases y with
  | non => cases r; rfl
  | bl b => cases r; rfl
  | int i => obtain ⟨t, rfl⟩ := r; rfl
  | str z => obtain ⟨t, rfl⟩ := r; rfl
  | _ => exact absurd (show false = true from f) Bool.false_ne_true
theorem any_eqU {x : V} : ∀ {xs : List V} {us : List Value}, Vals xs us → xs.all flatV = true → us.any (eqU x) = xs.any fun y => eqV y x
  | _, _, .nil, _ => rfl
  | y :: xs, u :: us, .cons r t, f => by
    rw [List.all_cons, Bool.and_eq_true] at f
    rw [List.any_cons, List.any_cons, eqU_of r f.1, any_eqU t f.2]
theorem mem_eqAt {A : Around} {s : Shared} {x : V} {v : Value} (rx : RelV x v) (fx : flatV x = true) : ∀ {xs : List V} {us : List Value}, Vals xs us → xs.all flatV = true → ∀ u ∈ us, SeqAt.EqAt A s u v (eqU x u)
  | _, _, .nil, _ => fun u hu => by cases hu
  | y :: xs, u :: us, .cons r t, f => fun u' hu => by
    rw [List.all_cons, Bool.and_eq_true] at f
    rcases List.mem_cons.mp hu with rfl | hu
    · rw [eqU_of r f.1]; exact eqAt_V r rx f.1 fx
    · exact mem_eqAt rx fx t f.2 u' hu
def inV (x : V) (xs : List V) : Bool := xs.any fun y => eqV y x
/-- x in a list or tuple of flat items -/
def rIn (K : PySem.W.Frag) (neg : Bool) : R2 := fun x y H Q => ∃ p xs, y = .ref p ∧ (SqL K H p xs ∨ SqT K H p xs) ∧ flatV x = true ∧ xs.all flatV = true ∧ Q (.bl (if neg then !inV x xs else inV x xs)) H
theorem op_in_seq : OpR X (compareOp .In) (rIn X.K false) := by
  intro pins s σ H x y v u Q I rx ry h
  obtain ⟨p, xs, rfl, hq, fx, fs, q⟩ := h
  cases ry
  rcases hq with hq | hq
  · obtain ⟨its, r, pl, hz⟩ := I.list hq
    refine SeqAt.in_listAt (eqU x) pl.isList (fun w hw => mem_eqAt rx fx r fs w (by simpa using hw)) ⟨.bl _, H, I, rfl, ?_⟩
    rw [show its.toArray.any (eqU x) = its.any (eqU x) by simp, any_eqU r fs]
    exact q
  · obtain ⟨its, r, pl, hz⟩ := I.tuple hq
    refine SeqAt.in_tupleAt (eqU x) pl (fun w hw => mem_eqAt rx fx r fs w (by simpa using hw)) ⟨.bl _, H, I, rfl, ?_⟩
    rw [show its.toArray.any (eqU x) = its.any (eqU x) by simp, any_eqU r fs]
    exact q

/-! ### len, list(x), tuple(x) of any list or tuple that is read -/
theorem call_len_seq : CallR X (.builtin "len") (fun xs H Q => ∃ p ys, xs = [.ref p] ∧ (SqL X.K H p ys ∨ SqT X.K H p ys) ∧ Q (.int ys.length) H) := by
  intro pins s σ H xs us Q I r h
  obtain ⟨p, ys, rfl, hq, q⟩ := h
  obtain ⟨u, rfl, rx⟩ := vals1 r
  cases rx
  have hn := line63
  rcases hq with hq | hq
  · obtain ⟨its, r', pl, hz⟩ := I.list hq
    have hlen := r'.length
    exact Calls.call_len_list pl.isList (by simp only [List.size_toArray] <;> omega) ⟨.int ys.length, H, I.tok _, ⟨s.toks + 1, by rw [List.size_toArray, hlen]⟩, q⟩
  · obtain ⟨its, r', pl, hz⟩ := I.tuple hq
    have hlen := r'.length
    exact len_tuple pl (by simp only [List.size_toArray] <;> omega) ⟨.int ys.length, H, I.tok _, ⟨s.toks + 1, by rw [List.size_toArray, hlen]⟩, q⟩
theorem call_len_str : CallR X (.builtin "len") (fun xs H Q => ∃ z, xs = [.str z] ∧ z.length ≤ sizeLine ∧ Q (.int z.length) H) := by
  intro pins s σ H xs us Q I r h
  obtain ⟨z, rfl, hz, q⟩ := h
  obtain ⟨u, rfl, t, rfl⟩ := vals1 r
  have hn := line63
  exact len_str (by omega) ⟨.int z.length, H, I.tok _, ⟨_, rfl⟩, q⟩
theorem call_list_of : CallR X (.type "list") (fun xs H Q => ∃ p ys, xs = [.ref p] ∧ (SqL X.K H p ys ∨ SqT X.K H p ys) ∧ ∀ l, H l = none → Q (.ref l) (upd H l (.lst ys))) := by
  intro pins s σ H xs us Q I r h
  obtain ⟨p, ys, rfl, hq, q⟩ := h
  obtain ⟨u, rfl, rx⟩ := vals1 r
  cases rx
  have fin : ∀ (its : List Value), Vals ys its → ys.length ≤ sizeLine → ∀ (h' : Heap) (c' : Nat), (∀ b o', s.heap.get? b = some o' → h'.get? b = some o') →
      h'.get? s.heap.objs.size = some { cls := .type "list", dict := none, data := .seq its.toArray c', slots := #[] } → EP X pins σ Q (.ref s.heap.objs.size) { s with heap := h' } := fun its r' hz h' c' kp e =>
    ⟨.ref s.heap.objs.size, _, I.laid (t' := s.toks) kp (Nat.le_refl _) (show ObjOk X.prog X.w _ h' _ (.lst ys) from ⟨hz, its, c', r', e⟩), rfl, q _ (I.hok.fresh (Nat.le_refl _))⟩
  rcases hq with hq | hq
  · obtain ⟨its, r', pl, hz⟩ := I.list hq
    have hlen := r'.length
    obtain ⟨o, ho, hc, n, hd⟩ := pl.isList
    exact call_list_seq p (.inl rfl) ho hc hd (fun h' c' kp e => fin its r' hz h' c' kp e) (by simp only [List.size_toArray] <;> omega)
  · obtain ⟨its, r', pl, hz⟩ := I.tuple hq
    have hlen := r'.length
    obtain ⟨o, ho, hc, n, hd⟩ := pl
    exact call_list_seq p (.inr rfl) ho hc hd (fun h' c' kp e => fin its r' hz h' c' kp e) (by simp only [List.size_toArray] <;> omega)

/-! ### the call of a builtin's method: o.m(..) -/
/-- the value is of that builtin type -/
def tyV (K : PySem.W.Frag) (T : String) (x : V) (H : Hp) : Prop := match x with
  | .str _ => T = "str"
  | .int _ => T = "int"
  | .ref p => (T = "list" ∧ ∃ xs, SqL K H p xs) ∨ (T = "tuple" ∧ ∃ o, K.lookup p = some o ∧ o.cls = .type "tuple" ∧ o.dict = none) ∨
      (T = "dict" ∧ ((∃ kvs, H p = some (.dK kvs)) ∨ ∃ kvs, H p = some (.dT kvs))) ∨ (T = "set" ∧ ∃ S n, H p = some (.set S n))
  | _ => False
theorem tyV_is {pins : List (Addr × Obj)} {σ : St} {H : Hp} {s : Shared} {T : String} {x : V} {v : Value} (I : Inv X pins σ H s) (r : RelV x v) (ty : tyV X.K T x H) :
    s.TypeIs v T ∧ ∀ a, v = .ref a → ∃ ob, s.heap.get? a = some ob ∧ ob.dict = none := by
  cases x with
  | str z =>
    obtain ⟨t, rfl⟩ := r
    cases (show T = "str" from ty)
    exact ⟨typeIs_str s z t, fun _ e => nomatch e⟩
  | int i =>
    obtain ⟨t, rfl⟩ := r
    cases (show T = "int" from ty)
    exact ⟨typeIs_int s i t, fun _ e => nomatch e⟩
  | ref p =>
    cases r
    rcases ty with ⟨rfl, xs, hq⟩ | ⟨rfl, o, hk, hc, hd⟩ | ⟨rfl, hk⟩ | ⟨rfl, S, n, hk⟩
    · obtain ⟨its, _, pl, _⟩ := I.list hq
      refine ⟨pl.isList.typeIs, fun a e => ?_⟩
      cases e
      obtain ⟨o, n, e, c, hd, _⟩ := pl
      exact ⟨o, e, hd⟩
    · refine ⟨⟨o, I.kIn p o hk, hc⟩, fun a e => ?_⟩
      cases e
      exact ⟨o, I.kIn _ o hk, hd⟩
    · have z : ∃ o, s.heap.get? p = some o ∧ o.ExactDict := by
        rcases hk with ⟨kvs, hk⟩ | ⟨kvs, hk⟩
        · obtain ⟨_, _, _, _, o, _, _, e, ex, _⟩ := I.hok p _ hk
          exact ⟨o, e, ex⟩
        · obtain ⟨_, _, _, _, o, _, _, e, ex, _⟩ := I.hok p _ hk
          exact ⟨o, e, ex⟩
      obtain ⟨o, e, ex⟩ := z
      refine ⟨⟨o, e, ex.1⟩, fun a e2 => ?_⟩
      cases e2
      exact ⟨o, e, ex.2.1⟩
    · obtain ⟨o, _, _, _, e, ex, _⟩ := I.hok p _ hk
      refine ⟨⟨o, e, ex.1⟩, fun a e2 => ?_⟩
      cases e2
      exact ⟨o, e, ex.2.1⟩
  | _ => exact False.elim ty
def tBM (K : PySem.W.Frag) (T : String) (r : V → List V → Hp → VK → Prop) (to : TE) (t : TA) : TE := fun σ H Q => to σ H fun x H1 => tyV K T x H1 ∧ t σ H1 fun xs H2 => r x xs H2 Q
variable {o e : Expr} {es : List Expr} {to : TE} {t : TA} {name : Str} {apos cpos : Pos} {T id : String} {r : V → List V → Hp → VK → Prop}
theorem pe_bm (pa : PlainAttrs T) (slot : Slot T name id) (hty : typeOf (.builtin id) = pure (.type "method_descriptor")) (hm : MtR X id r) (ho : PE X o to) (ha : PA X (e :: es) t)
    (hbase : attributeBase o name X.env (eval o X.env) = eval o X.env := by rfl)
    (hfew : ((backTo cpos (starEach (e :: es) X.env)).all (fun x => !x.1) && (backToKw cpos (keywordEach [] X.env)).all (fun x => x.1.isSome)
      && decide ((e :: es).length + ([] : List Keyword).length + (if ([] : List Keyword).isEmpty then 0 else 1) < 30)) = true := by rfl)
    (hline : (apos.endLine == cpos.line) = true := by rfl) (hs : starEach (e :: es) X.env = (false, eval e X.env) :: starEach es X.env := by rfl) (hplain : (backTo cpos (starEach es X.env)).any (·.1) = false := by rfl) :
    PE X (.Call (.Attribute o name apos) (e :: es) [] cpos) (tBM X.K T r to t) := by
  intro pins s σ H Q I h
  refine wpAny_Call_method_late hbase hfew hline rfl (thn (ho pins s σ H _ I h) fun v s1 ⟨x, H1, I1, r1, ty, q1⟩ => ?_)
  obtain ⟨h1, h2⟩ := tyV_is I1 r1 ty
  refine ⟨T, id, pa, slot, hty, h1, h2, ?_⟩
  have hA := ha cpos pins s1 σ H1 _ I1 q1
  rw [hs] at hA ⊢
  refine Calls.callWith_builtin (by show (false || (backTo cpos (starEach es X.env)).any (·.1)) = false; rw [hplain] <;> rfl) (Calls.evalArgs_plain ?_)
  exact thn hA fun us s2 ⟨vs, H2, I2, r2, q2⟩ => hm pins s2 σ H2 x vs v us Q I2 r1 r2 q2
/- xs.append(e), list.index on a module's tuple .. are MtR facts of 06m -/
end
end L2

namespace L2
open PySem PySem.Spec PyProof.Rows

def MtM (X : Cx) (id : String) (r : V → List V → Hp → VK → Prop) : Prop :=
  ∀ (pins : List (Addr × Obj)) (s : Shared) (σ : St) (H : Hp) (x : V) (xs : List V) (v : Value) (us : List Value) (Q : VK), Inv X pins σ H s → RelV x v → Vals xs us → r x xs H Q →
    wpAny (model X.prog X.w) X.A (call (.builtin id) (v :: us)) (EP X pins σ Q) X.xe s

/-! ### lists of values -/
theorem Vals.one : ∀ {x : V} {us : List Value}, Vals [x] us → ∃ u, us = [u] ∧ RelV x u
  | _, _, .cons r .nil => ⟨_, rfl, r⟩

section
variable {X : Cx} {pins : List (Addr × Obj)} {σ : St} {H : Hp} {s : Shared} {l b : Addr} {xs ys zs : List V}

/-! ### the two steps: a tracked list is rewritten, a new list is laid -/
theorem Inv.lset {its its' : List Value} {n : Nat} {f : Array Value → Array Value} {t' : Nat} (I : Inv X pins σ H s) (hH : H l = some (.lst xs))
    (e : s.heap.get? l = some { cls := .type "list", data := .seq its.toArray n }) (hf : f its.toArray = its'.toArray) (hv : Vals ys its') (hz : ys.length ≤ sizeLine) :
    Inv X pins σ (upd H l (.lst ys)) { s with heap := s.heap.update l (Obj.mapSeq f), toks := t' } := by
  have q := PySem.IsL.update e f
  rw [hf] at q
  refine I.write (x := l) (e := l) (by rw [hH]; exact trivial) (.inl rfl) (fun b' u hb hu => (Heap.get?_update_other s.heap (Obj.mapSeq f) (Ne.symm hb)).trans hu) ⟨_, q⟩ ?_
  exact ⟨hz, its', _, hv, q⟩
theorem Inv.lnew {its : List Value} {t' : Nat} (I : Inv X pins σ H s) (hv : Vals ys its) (hz : ys.length ≤ sizeLine) :
    Inv X pins σ (upd H s.heap.objs.size (.lst ys)) { s with heap := s.heap.push { cls := .type "list", data := .seq its.toArray }, toks := t' } :=
  I.laid (fun _ _ q => Heap.get?_push_of_some _ q) (Nat.le_refl _) ⟨hz, its, 0, hv, Heap.get?_push_size _ rfl⟩
theorem Inv.fresh (I : Inv X pins σ H s) : H s.heap.objs.size = none := I.hok.fresh (Nat.le_refl _)
theorem Inv.lstM (I : Inv X pins σ H s) (hH : H l = some (.lst xs)) : xs.length ≤ sizeLine ∧ ∃ (its : List Value) (n : Nat), Vals xs its ∧ xs.length = its.length ∧ s.heap.get? l = some { cls := .type "list", data := .seq its.toArray n } := by
  obtain ⟨z, its, n, r, e⟩ := I.hok l _ hH
  exact ⟨z, its, n, r, r.length, e⟩

end

section
variable {X : Cx}

/-! ### methods -/
def rAppend : V → List V → Hp → VK → Prop := fun x vs H Q => ∃ l xs y, x = .ref l ∧ vs = [y] ∧ H l = some (.lst xs) ∧ xs.length < sizeLine ∧ Q .non (upd H l (.lst (xs ++ [y])))
theorem mt_append : MtM X "list.append" rAppend := by
  intro pins s σ H x vs v us Q I rx rv h
  obtain ⟨l, xs, y, rfl, rfl, hH, hz, q⟩ := h
  cases rx
  obtain ⟨u, rfl, ru⟩ := rv.one
  obtain ⟨z, its, n, r, hl, e⟩ := I.lstM hH
  refine call_meets F.slot_list_append ⟨_, e, rfl⟩ F.entry_list_append (F.args_list_append_2 _ _) (PySem.list_append l its.toArray n u (by rw [List.size_toArray]; omega)) ⟨e, ?_⟩
  refine ⟨.non, _, I.lset (its' := its ++ [u]) hH e (by simp) (r.append (.cons ru .nil)) ?_, rfl, q⟩
  rw [List.length_append, List.length_singleton]
  omega






/-! ### list + list, list += list, list * int -/
def rCat : R2 := fun x y H Q => ∃ l b xs zs, x = .ref l ∧ y = .ref b ∧ H l = some (.lst xs) ∧ H b = some (.lst zs) ∧ xs.length + zs.length ≤ sizeLine ∧ ∀ p, H p = none → Q (.ref p) (upd H p (.lst (xs ++ zs)))
theorem op_cat : OpR X (binaryOp .Add) rCat := by
  intro pins s σ H x y v u Q I rx ry h
  obtain ⟨l, b, xs, zs, rfl, rfl, hH, hB, hz, q⟩ := h
  cases rx
  cases ry
  obtain ⟨z, its, n, r, hl, e⟩ := I.lstM hH
  obtain ⟨z2, its2, n2, r2, hl2, e2⟩ := I.lstM hB
  refine PySem.P.add_list e e2 ?_ (by rw [List.size_toArray, List.size_toArray]; omega)
  have ea : its.toArray ++ its2.toArray = (its ++ its2).toArray := by simp
  rw [ea]
  exact ⟨.ref _, _, I.lnew (t' := s.toks) (r.append r2) (by rw [List.length_append]; omega), rfl, q _ I.fresh⟩

/-! ### del xs[i] -/
end

/-! ### xs[a:b] = ys -/
section
variable {prog : Program} {w : World} {A : Around} {E : Value → Shared → Prop} {s : Shared}
set_option maxRecDepth 100000 in
end

section
variable {X : Cx}
end
end L2

namespace Att
open PySem PySem.W PySem.Calls PyProof.Rows

/-! ### the script -/
theorem ints_of_wellAll {P : Params} {h : Heap} : ∀ (ns : List Int) (vs : List Value), WellAll P h vs (ns.map WData.int) → IntsAre vs ns := by
  intro ns
  induction ns with
  | nil =>
    intro vs w
    rw [List.map_nil] at w
    cases w
    exact .nil
  | cons n ns ih =>
    intro vs w
    rw [List.map_cons] at w
    cases w with
    | cons a b =>
      cases a
      exact .cons _ _ (ih _ b)

theorem script_of {l : OpenLaw} {n : Nat} (hn : l.most = some n) {P : Params} {h : Heap} {args : List WData} {vals : List Value}
    (hpre : l.row.toRowW.claim.pre args = true) (hwl : WellAll P h vals args) :
    ∃ a vs ns, vals = [Value.ref a] ∧ args = [WData.list (ns.map WData.int)] ∧ h.get? a = some { cls := .type "list", data := .seq vs.toArray } ∧ IntsAre vs ns ∧ ns.length ≤ n := by
  have hsh : WShape.hasAll [] args [.list .int] = true := (pre_splitW hpre).1
  have hc : l.pre.holds [] { args := args } = true := (pre_splitW hpre).2
  obtain ⟨d, r, rfl, h1, h2⟩ := hasAllW_cons hsh
  obtain rfl := hasAllW_nil h2
  obtain ⟨xs, rfl, h3⟩ := hasW_list h1
  obtain ⟨ns, rfl⟩ := items_int h3
  have hlen : ns.length ≤ n := by
    unfold OpenLaw.pre at hc
    have h4 : (WTm.not (.lt (.lit (.int (n : Int))) (.len (.arg 0)))).holds [] { args := [.list (ns.map .int)] } = true := by
      have h4 := (holds_andW hc).1
      rw [hn] at h4
      exact h4
    have h5 := condW_of h4 (w_not (w_lt w_lit (w_len_list (w_arg rfl))))
    rw [List.length_map] at h5
    refine Nat.le_of_not_lt fun q => ?_
    have q' : (n : Int) < ((ns.length : Nat) : Int) := by omega
    first
      | (rw [decide_eq_true q'] at h5; exact absurd h5 (by decide))
      | (simp at h5; omega)
  cases hwl with
  | cons w1 w2 =>
    cases w2
    cases w1 with
    | list ho hall => exact ⟨_, _, ns, rfl, rfl, ho, ints_of_wellAll ns _ hall, hlen⟩

theorem post_true (l : OpenLaw) (args : List WData) : l.row.toRowW.claim.post args (.bool true) args = true :=
  postW_of (r := l.row.toRowW) (X := (true == true))
    (show WShape.has [] (.bool true) .bool = true by first | rfl | decide | simp [WShape.has, WShape.arms, WShape.armsAll])
    (show (WTm.eq .res (.lit (.bool true))).value [] { args := args, res := some (.bool true), after := args } = some (.bool (true == true)) from w_eq_bool (w_res rfl) w_lit) rfl

/-! ### the attachment: holds_open's last premise (the goal 'hc' behind k_head) from a wpAny of the law's body -/

/-- the same from a codeAny of the CALL (for a layer whose function contracts speak of calls) -/
theorem attach_call {l : OpenLaw} {n : Nat} {q : Program} {loose : List Str} {XP : (Str → Option Value) → Heap → Prop} {YP : World → Heap → Prop} {d : DefRec}
    (hn : l.most = some n) (hdf : d.params.defaults = [])
    (call : ∀ (w : World) (s₀ s₁ : Shared) (mg mb : Str → Option Value) (fa : Addr) (o : Obj) (pm cd doc : Value) (a : Addr) (vs : List Value) (ns : List Int),
      Ground q loose [] XP w s₀ mg mb s₁.heap → YP w s₁.heap →
      s₁.heap.get? fa = some o → o.data = .func (docDef d.name d.params d.body d.scope pm cd doc) → s₁.heap.CodeRec cd d.name → mg d.name = some (.ref fa) →
      s₁.heap.get? a = some { cls := .type "list", data := .seq vs.toArray } → IntsAre vs ns → ns.length ≤ n → s₁.gens = #[] →
      codeAny (model l.prog w) callerA (.call (.ref fa) ⟨[.ref a], []⟩) (fun r s' => r = .ok (.ret (.bool true)) ∧ OldK s₁.heap s'.heap ∧ s'.os = s₁.os ∧ AllBare s'.gens) s₁) :
    WalkO q loose XP YP l.row.toRowW d [] (fun f vs => PySem.call f vs) := by
  intro w s₀ s₁ mg mb G Y fa o pm cd doc dV kV ho hd hcd hD hmg hg args vals as hpre hlay hrd hwl hlo
  obtain rfl : dV = .none := Dflts.none hD hdf
  obtain rfl : kV = .none := Dflts.noKw hD
  obtain ⟨a, vs, ns, rfl, rfl, hobj, hints, hlen⟩ := script_of hn hpre hwl
  refine enter_call (codeAny_mono (call w s₀ s₁ mg mb fa o pm cd doc a vs ns G Y ho (fd_plain hd) hcd hmg hobj hints hlen hg) fun r s' hq => ?_)
  obtain ⟨rfl, h2, h3, h4⟩ := hq
  exact ⟨.inl ⟨.bool true, .bool true, [], rfl, fun _ => rfl, .bool true, post_true l _, fun _ => ⟨List.Pairwise.nil, fun _ hm => (nomatch hm)⟩⟩, h2, h3, h4⟩


/-! ### rules over ANY heap (no ledger) from facts about the written part K: the library's own take a ledger (News) for what they write -/
section
variable {prog : Program} {w : World} {A : Around} {E : Value → Shared → Prop} {s : Shared} {K : Frag}





/-! the whole heap as the ledger: makes every rule that writes through a ledger a rule over any heap -/

end
end Att

namespace L2
open PySem PySem.Spec PyProof.Rows

theorem vals_ints : ∀ {vs : List Value} {ns : List Int}, IntsAre vs ns → Vals (ns.map V.int) vs
  | _, _, .nil => .nil
  | _, _, .cons n t h => .cons ⟨t, rfl⟩ (vals_ints h)

/-- nothing is tracked but the script, known to the object (or it is an object of the module) -/
def Only (H : Hp) : Prop := ∀ b, H b = none ∨ ∃ o xs, H b = some (.frz o (.lst xs))

/-- THE HEAD: the law's promise, at the heap behind the top. F, the promise of the law's def, may use that base is part of the heap (so K.In base, base.Ns mainGlobals mg stand in Mod) -/
theorem law_call {P : Program} {w : World} {K : PySem.W.Frag} {mg mb : Str → Option Value} {CX : CXT} {k : Nat} {fa a : Addr} {fd : FuncData} {x : Str} {sp : Sp} {s₁ : Shared} {vs : List Value} {ns : List Int}
    (KX : K.In s₁.heap) (hns : s₁.heap.Ns mainGlobals mg) (hb : s₁.heap.Ns builtinsNs mb) (hbb : ∀ x : Str, x ≠ "__name__" → mb x = bootBuiltins x) (hlim : s₁.heap.NoLimit) (hg : s₁.gens = #[])
    (ha : s₁.heap.get? a = some { cls := .type "list", data := .seq vs.toArray }) (hi : IntsAre vs ns) (hl : ns.length ≤ sizeLine) (hr : Room k callerA)
    (F : ∀ base : Heap, K.In base → base.Ns mainGlobals mg → FnOk P w K mg base CX k fa fd [x] sp) (hbind : ∀ (s : Shared) (u : Value), BindsTo s fd ⟨[u], []⟩ [(x, u)])
    (hsp : ∀ H : Hp, Only H → SqL K H a (ns.map V.int) → sp [.ref a] H (fun v _ => v = .bl true) fun _ _ _ => False)
    (hCX : ∀ H e s', CX [] H s₁ (fun _ _ _ => False) e s' → False) :
    codeAny (model P w) callerA (.call (.ref fa) ⟨[.ref a], []⟩) (fun r s' => r = .ok (.ret (.bool true)) ∧ OldK s₁.heap s'.heap ∧ s'.os = s₁.os ∧ AllBare s'.gens) s₁ := by
  have rv := vals_ints hi
  have lenV := hi.length
  -- from an abstract heap in which nothing but the script may be tracked
  have core : ∀ H : Hp, Only H → SqL K H a (ns.map V.int) → HOk P w H s₁.heap → (∀ b, H b ≠ none → b = a) → (H a ≠ none → K.lookup a = none) →
      codeAny (model P w) callerA (.call (.ref fa) ⟨[.ref a], []⟩) (fun r s' => r = .ok (.ret (.bool true)) ∧ OldK s₁.heap s'.heap ∧ s'.os = s₁.os ∧ AllBare s'.gens) s₁ := by
    intro H hO hS hok hA hK
    have base_of : ∀ {b : Addr} {o : Obj}, s₁.heap.get? b = some o → H b = none → (hidT s₁.heap H).get? b = some o := fun e n => hidT_get e n
    have noA : ∀ {b : Addr} {o : Obj} {es : Array DictEntry} {ep : Nat}, s₁.heap.get? b = some o → o.data = .dict es ep → H b = none := fun {b o es ep} e d => by
      cases q : H b with
      | none => rfl
      | some u =>
        have e' : b = a := hA b (by rw [q]; simp)
        subst e'
        rw [ha] at e; cases e
        have d' : Data.seq vs.toArray _ = Data.dict es ep := d
        cases d'
    have nsK : ∀ {b : Addr} {m : Str → Option Value}, s₁.heap.Ns b m → (hidT s₁.heap H).Ns b m := fun {b m} ⟨o, es, ep, e, d, r⟩ => ⟨o, es, ep, base_of e (noA e d), d, r⟩
    have hKb : K.In (hidT s₁.heap H) := fun b o e => base_of (KX b o e) (by
      cases q : H b with
      | none => rfl
      | some u =>
        have e' : b = a := hA b (by rw [q]; simp)
        subst e'
        rw [hK (by rw [q]; simp)] at e; cases e)
    have hM : Mod K mg (hidT s₁.heap H) := ⟨hKb, nsK hns, ⟨mb, nsK hb, hbb⟩, let ⟨mc, h1, h2⟩ := hlim; ⟨mc, nsK h1, h2⟩⟩
    have e0 : Env0 P w K mg (hidT s₁.heap H) callerA [] s₁ H := ⟨rfl, hM, fun b o e => of_hidT e, Nat.le_of_eq (hidT_size _ _), trivial, fun b hb => absurd (show b ∈ ([] : List Addr) from hb) (by simp), hok, .of_eq hg⟩
    refine codeAny_mono ((F _ hKb (nsK hns)).run callerA [] s₁ H ⟨[.ref a], []⟩ [.ref a] [.ref a] _ _ hr e0 (hbind s₁ (.ref a)) (.cons rfl .nil) (hsp H hO hS)) fun r s' h => ?_
    cases r with
    | error e => exact (hCX H e s' h).elim
    | ok fl =>
      cases fl with
      | next => exact False.elim h
      | brk => exact False.elim h
      | cont => exact False.elim h
      | ret u =>
        obtain ⟨v, H', os, bare, un, hok', r', q⟩ := h
        have q' : v = .bl true := q
        subst q'
        obtain rfl : u = Value.bool true := r'
        refine ⟨rfl, OldK.of_keep fun b o e => ?_, os, bare⟩
        cases q : H b with
        | none => exact un.keep b o e q (by intro z; exact absurd (show b ∈ ([] : List Addr) from z) (by simp)) (by simp)
        | some u =>
          rcases hO b with z | ⟨ob, xs, z⟩
          · rw [q] at z; cases z
          · have z2 := un.frzs b ob _ z
            obtain ⟨e1, _⟩ := hok b _ z
            obtain ⟨e2, _⟩ := hok' b _ z2
            rw [e] at e1; cases e1
            exact e2
  cases hk : K.lookup a with
  | some o =>
    -- the script is one of the module's own objects
    have e := KX a o hk
    rw [ha] at e
    cases e
    refine core (fun _ => none) (fun _ => .inl rfl) (.inr ⟨_, vs.toArray, _, hk, rfl, rfl, rfl, by rw [List.size_toArray, lenV]; exact hl, by simpa using rv⟩) (fun b u z => by have z' : (none : Option HO) = some u := z; cases z') (fun b z => absurd rfl z) fun z => absurd rfl z
  | none =>
    refine core (fun b => if b = a then some (.frz { cls := .type "list", data := .seq vs.toArray } (.lst (ns.map V.int))) else none) (fun b => ?_) (.inl (.inr ⟨{ cls := .type "list", data := .seq vs.toArray }, if_pos rfl⟩)) (fun b u z => ?_) (fun b z => ?_) fun _ => hk
    · by_cases hb : b = a
      · exact .inr ⟨_, _, if_pos hb⟩
      · exact .inl (if_neg hb)
    · by_cases hb : b = a
      · have z' := (if_pos hb).symm.trans z
        cases z'
        subst hb
        exact ⟨ha, by rw [List.length_map]; exact hl, vs, _, rv, ha⟩
      · have z' := (if_neg hb).symm.trans z
        cases z'
    · by_cases hb : b = a
      · exact hb
      · exact absurd (if_neg hb) z
end L2

namespace L2
open PySem PySem.Spec PyProof.Rows


/-- the goal that k_head leaves (case hc), from the law's promise. F gives the function object fd (K's own) once, then the promise over every base -/
theorem walk_of {l : PySem.W.OpenLaw} {n k : Nat} {q : Program} {loose : List Str} {XP : (Str → Option Value) → Heap → Prop} {YP : World → Heap → Prop} {d : DefRec} {K : Params → PySem.W.Frag} {CX : World → CXT} {sp : World → Sp} {x : Str}
    (hn : l.most = some n) (hn2 : n ≤ sizeLine) (hdf : d.params.defaults = []) (hr : Room k callerA)
    (hY : ∀ (w : World) (h : Heap), YP w h → (K w.params).In h)
    (F : ∀ (w : World) (mg : Str → Option Value) (fa : Addr) (h : Heap), (K w.params).In h → h.Ns mainGlobals mg → mg d.name = some (.ref fa) →
      ∃ fd : FuncData, (∀ (s : Shared) (u : Value), BindsTo s fd ⟨[u], []⟩ [(x, u)]) ∧
        ∀ base : Heap, (K w.params).In base → base.Ns mainGlobals mg → FnOk l.prog w (K w.params) mg base (CX w) k fa fd [x] (sp w))
    (hsp : ∀ (w : World) (H : Hp) (a : Addr) (ns : List Int), ns.length ≤ n → Only H → SqL (K w.params) H a (ns.map V.int) → sp w [.ref a] H (fun v _ => v = .bl true) fun _ _ _ => False)
    (hCX : ∀ (w : World) (H : Hp) (s : Shared) (e : Value) (s' : Shared), CX w [] H s (fun _ _ _ => False) e s' → False) :
    PySem.W.WalkO q loose XP YP l.row.toRowW d [] (fun f vs => PySem.call f vs) := by
  refine Att.attach_call hn hdf fun w s₀ s₁ mg mb fa o pm cd doc a vs ns G Y ho hd hcd hmg hobj hints hlen hg => ?_
  have KX := hY w _ Y
  obtain ⟨fd, hb, hF⟩ := F w mg fa _ KX G.T.g hmg
  exact law_call KX G.T.g G.T.b G.T.builtins G.T.nolimit hg hobj hints (Nat.le_trans hlen hn2) hr hF hb (fun H hO hS => hsp w H a ns hlen hO hS) fun H e s' => hCX w H s₁ e s'
end L2

/- THE LAST THEOREM (shape; LID, My.* are yours):
   My.Adr: a structure of the addresses that your layer names (classes, functions); My.Txt K t: a structure (Prop) of the equations over K;
   My.txt_mk : {K} {implicit addresses ..} (e1 : nsIn K mainGlobals "law" = some (some (.ref f))) (e2 : K.lookup f = some ⟨oc, od, .func (fnOf "law" "law" params body scope dV kV doc pm an cdv ct), sl⟩) (e3 : codeIn K cdv "law" = true) .. : ∃ t, My.Txt K t

set_option maxRecDepth 100000 in
set_option maxHeartbeats 0 in
theorem PySem.Challenge.cw_LID_holds : PySem.Challenge.rw_LID.Holds := by
  w_on; o_law; k_head; (case hw => w_witness2)
  k_fill
  refine L2.walk_of (l := PySem.Challenge.rw_LID) (n := 63) (k := 40) (x := "script") (CX := fun w => ..) (sp := fun _ => My.sp_law) rfl (by decide) rfl ⟨rfl, by decide, by decide⟩ (fun w h Y => PySem.W.kIn_of Y) ?F ?S ?C
  case F =>
    intro w mg fa h KX G hmg
    have T : ∃ t, My.Txt (L2.KOf KX) t := by
      dsimp only [L2.KOf]                          -- K must stand as «<heap const> w.params» for k_is
      refine' My.txt_mk ?e1 ?e2 ?e3 ..
      (case e1 => PySem.W.k_is)                    -- in the order: a name -> its address -> its object -> its parts
      (case e2 => PySem.W.k_is)
      ..
    obtain ⟨t, T⟩ := T
    have e0 := hmg.symm.trans (PySem.W.mg_of KX G T.law)
    cases e0                                       -- fa is the law's own address
    exact ⟨_, fun s u => .of_eq rfl, fun base kb nb => My.law_fn T kb nb⟩     -- if «.of_eq rfl» comes too early: refine' ⟨_, ?b, fun base kb nb => My.law_fn T kb nb⟩; exact fun s u => .of_eq rfl
  case S => exact fun w H a ns hl hO hS => ..
  case C => exact ..
(the tactic k_is has no namespace: write k_is) -/

/-! SHORT WORDS over the layer: a def of the text, its body, what a loop and a test want. -/
namespace L2
open PySem PySem.Spec PyProof.Rows

/-! ### the text by places -/
/-- the j-th statement of a class's body -/
def inClass (s : Stmt) (j : Nat) : Stmt := match s with
  | .ClassDef _ _ _ body _ _ _ _ _ _ _ => body.getD j (.Pass ⟨0, 0, 0, 0⟩)
  | _ => .Pass ⟨0, 0, 0, 0⟩
def defArgs (s : Stmt) : Arguments := match s with
  | .FunctionDef _ a _ _ _ _ _ _ _ _ => a
  | _ => { posonlyargs := [], args := [], vararg := none, kwonlyargs := [], kw_defaults := [], kwarg := none, defaults := [] }
def defBody (s : Stmt) : List Stmt := match s with
  | .FunctionDef _ _ b _ _ _ _ _ _ _ => b
  | _ => []
def defScope (s : Stmt) : Scope := match s with
  | .FunctionDef _ _ _ _ _ _ sc _ _ _ => sc
  | _ => { kind := .function, names := [], isGenerator := false, isCoroutine := false }

/-! ### no exception leaves a def -/
abbrev CX0 : CXT := fun _ _ _ _ _ _ => False
abbrev E0 : XK := fun _ _ _ => False
theorem pass0 {X : Cx} : Passes CX0 X E0 := fun _ _ _ _ _ _ _ h => h.elim

/-! ### a def (or method) of the text as it stands behind the top -/
section
variable {P : Program} {w : World} {K : PySem.W.Frag} {mg : Str → Option Value} {base : Heap}
end
theorem small1000 {n : Nat} (h : n ≤ 1000) : n < sizeLine := Nat.lt_of_le_of_lt h (by decide)

/-! ### expressions in short: the name that stands in the i-th slot -/
section
variable {X : Cx}
theorem pv (i : Nat) {x : Str} {pos : Pos} (hN : X.N[i]? = some x := by rfl) (hv : Vis X.env.scope x := by first | exact Or.inl rfl | exact Or.inr (Or.inl rfl) | exact Or.inr (Or.inr rfl)) (hd : (x == ("__debug__" : Str)) = false := by decide)
    (hcd : (x == ("__classdict__" : Str)) = false := by decide) : PE X (.Name x pos) (tVar i) := pe_var hN hv hd hcd
end

/-! ### tests -/
theorem ite2 {c A B : Prop} [Decidable c] (h1 : c → A) (h2 : ¬ c → B) : if c then A else B := by
  by_cases h : c
  · rw [if_pos h]
    exact h1 h
  · rw [if_neg h]
    exact h2 h

/-! ### heaps -/
/-- all that was tracked is as it was -/
def Same (H H' : Hp) : Prop := ∀ b o, H b = some o → H' b = some o
theorem Same.refl (H : Hp) : Same H H := fun _ _ h => h
theorem Same.trans {H H1 H2 : Hp} (a : Same H H1) (b : Same H1 H2) : Same H H2 := fun c o h => b c o (a c o h)
theorem Same.seq {K : PySem.W.Frag} {H H' : Hp} {a : Addr} {xs : List V} (e : Same H H') (h : SqL K H a xs) : SqL K H' a xs := by
  rcases h with (h | ⟨o, h⟩) | h
  · exact .inl (.inl (e _ _ h))
  · exact .inl (.inr ⟨o, e _ _ h⟩)
  · exact .inr h

end L2

set_option Elab.async false
set_option linter.all false
set_option maxRecDepth 100000
namespace L2
open PySem PySem.Spec PyProof.Rows

/-! ## an untracked list is tracked, a tracked one is let go -/
section
variable {X : Cx} {pins : List (Addr × Obj)} {σ : St} {H : Hp} {s : Shared} {D : Addr} {ys : List V}
theorem HOk.adds {P : Program} {w : World} {h : Heap} {o : HO} (x : HOk P w H h) (hn : H D = none) (new : ObjOk P w (upd H D o) h D o) : HOk P w (upd H D o) h := fun b u e => by
  by_cases hb : b = D
  · subst hb; rw [upd_same] at e; cases e; exact new
  · rw [upd_ne hb] at e
    exact (x b u e).stay (fun c v _ q => q) (fun c q => by rw [upd_ne (ne_of_none q hn)]; exact q) fun c xs q => by rw [upd_ne (ne_of_none q hn)]; exact q
theorem HOk.drops {P : Program} {w : World} {h : Heap} (x : HOk P w (upd H D (.lst ys)) h) (hn : H D = none) : HOk P w H h := fun b u e => by
  have hb : b ≠ D := ne_of_none e hn
  refine (x b u (by rw [upd_ne hb]; exact e)).stay (fun c v _ q => q) (fun c q => ?_) fun c xs q => ?_
  · by_cases hc : c = D
    · subst hc; rw [upd_same] at q; cases q
    · rw [upd_ne hc] at q; exact q
  · by_cases hc : c = D
    · subst hc; rw [upd_same] at q; cases q
    · rw [upd_ne hc] at q; exact q
theorem Inv.track {its : List Value} {n : Nat} (I : Inv X pins σ H s) (hn : H D = none) (e : s.heap.get? D = some { cls := .type "list", data := .seq its.toArray n }) (r : Vals ys its) (hz : ys.length ≤ sizeLine)
    (h0 : X.s₀.heap.objs.size ≤ D) (h1 : D ≠ X.env.locals) (h2 : ∀ x c, X.env.cells.lookup x = some c → c ≠ D) (h3 : ∀ p ∈ X.pn ++ pins, p.1 ≠ D) : Inv X pins σ (upd H D (.lst ys)) s where
  ok := I.ok
  os := I.os
  bare := I.bare
  base := by
    have lt : ∀ b o, X.s₀.heap.get? b = some o → b ≠ D := fun b o q => Nat.ne_of_lt (Nat.lt_of_lt_of_le (Heap.lt_size q) h0)
    refine ⟨I.base.keep, I.base.slot, fun b o q n' hx => ?_, I.base.there, fun b xs q => ?_, fun b o u q => ?_, fun b ps q => ?_⟩
    · rw [upd_ne (lt b o q)]; exact I.base.free b o q n' hx
    · have z := I.base.tups b xs q
      rw [upd_ne (ne_of_none z hn)]; exact z
    · have z := I.base.frzs b o u q
      rw [upd_ne (ne_of_none z hn)]; exact z
    · obtain ⟨more, z⟩ := I.base.tbls b ps q
      exact ⟨more, by rw [upd_ne (ne_of_none z hn)]; exact z⟩
  loc := I.loc
  cell := I.cell
  free := by rw [upd_ne (Ne.symm h1)]; exact I.free
  freeC := fun x c q => by rw [upd_ne (h2 x c q)]; exact I.freeC x c q
  pin := fun p hp => by
    obtain ⟨a, b, c⟩ := I.pin p hp
    exact ⟨a, by rw [upd_ne (h3 p hp)]; exact b, c⟩
  hok := I.hok.adds hn ⟨hz, its, n, r, e⟩
  len := I.len
theorem Inv.untrack (I : Inv X pins σ (upd H D (.lst ys)) s) (hn : H D = none) : Inv X pins σ H s where
  ok := I.ok
  os := I.os
  bare := I.bare
  base := by
    have low : ∀ b u, upd H D (.lst ys) b = some u → (∀ xs, u ≠ .lst xs) → H b = some u := fun b u q nl => by
      by_cases hb : b = D
      · subst hb; rw [upd_same] at q; cases q; exact absurd rfl (nl ys)
      · rw [upd_ne hb] at q; exact q
    refine ⟨I.base.keep, I.base.slot, fun b o q n' hx => ?_, I.base.there, fun b xs q => ?_, fun b o u q => ?_, fun b ps q => ?_⟩
    · have z := I.base.free b o q n' hx
      by_cases hb : b = D
      · subst hb; exact hn
      · rw [upd_ne hb] at z; exact z
    · exact low _ _ (I.base.tups b xs q) (fun _ z => by cases z)
    · exact low _ _ (I.base.frzs b o u q) (fun _ z => by cases z)
    · obtain ⟨more, z⟩ := I.base.tbls b ps q
      exact ⟨more, low _ _ z (fun _ z => by cases z)⟩
  loc := I.loc
  cell := I.cell
  free := by
    have z := I.free
    by_cases hb : X.env.locals = D
    · rw [hb]; exact hn
    · rw [upd_ne hb] at z; exact z
  freeC := fun x c q => by
    have z := I.freeC x c q
    by_cases hb : c = D
    · rw [hb]; exact hn
    · rw [upd_ne hb] at z; exact z
  pin := fun p hp => by
    obtain ⟨a, b, c⟩ := I.pin p hp
    refine ⟨a, ?_, c⟩
    by_cases hb : p.1 = D
    · rw [hb]; exact hn
    · rw [upd_ne hb] at b; exact b
  hok := I.hok.drops hn
  len := I.len
end

/-! ## the block of a comprehension -/
/-- the block's context; no exception leaves it -/
def blockCx (X : Cx) (scope : Scope) (cl : List (Str × Addr)) (N : List Str) (C : Addr) (s0 : Shared) (H0 : Hp) (fp : List Addr) : Cx where
  prog := X.prog
  w := X.w
  K := X.K
  mg := X.mg
  base := X.base
  A := X.A
  N := N
  s₀ := s0
  H₀ := H0
  env := compEnvC scope cl C X.env
  outer := X.stack
  stack := X.stack
  ex := fp
  fn := fun _ => false
  calm := X.calm
  pn := []
  xe := fun _ _ => False

/-- the names of the block: nl names of its own (none at its start), then captured ones, at the places ci of the frame around -/
structure Blk (X : Cx) (scope : Scope) (cl : List (Str × Addr)) (N : List Str) (nl : Nat) (ci : List Nat) : Prop where
  kind : scope.kind = .function
  names : ∀ y ∈ scope.names, y.2 = .local → scope.names.lookup y.1 = some .local
  nocell : ∀ y ∈ scope.names, y.2 ≠ .cell
  clos : closureFor scope X.env = pure cl
  sub : ∀ n c, cl.lookup n = some c → X.env.cells.lookup n = some c
  has : ∀ n, ((relabel scope X.env).names.lookup n = some .cell ∨ (relabel scope X.env).names.lookup n = some .free) → ∃ c, cl.lookup n = some c
  len : N.length = nl + ci.length
  cap : ∀ (j i : Nat), ci[j]? = some i → ∃ n, N[nl + j]? = some n ∧ X.N[i]? = some n ∧ (X.env.scope.names.lookup n = some .cell ∨ X.env.scope.names.lookup n = some .free) ∧
    ((relabel scope X.env).names.lookup n = some .cell ∨ (relabel scope X.env).names.lookup n = some .free) ∧ cl.lookup n = X.env.cells.lookup n

def capSt (nl : Nat) (ci : List Nat) (σ : St) : St := List.replicate nl none ++ ci.map fun i => (σ[i]?).join

theorem capSt_get {nl : Nat} {ci : List Nat} {σ : St} {k : Nat} {v : V} (h : (capSt nl ci σ)[k]? = some (some v)) : ∃ j i, k = nl + j ∧ ci[j]? = some i ∧ σ[i]? = some (some v) := by
  unfold capSt at h
  by_cases hk : k < nl
  · rw [List.getElem?_append_left (by simpa using hk), List.getElem?_replicate] at h
    split at h <;> cases h
  · rw [List.getElem?_append_right (by simpa using hk), List.length_replicate, List.getElem?_map] at h
    cases e : ci[k - nl]? with
    | none => rw [e] at h; cases h
    | some i =>
      rw [e] at h
      have h' : (σ[i]?).join = some v := by simpa using h
      refine ⟨k - nl, i, by omega, e, ?_⟩
      cases q : σ[i]? with
      | none => rw [q] at h'; cases h'
      | some o => rw [q] at h'; simp at h'; rw [h']

theorem capSt_length {nl : Nat} {ci : List Nat} {σ : St} : (capSt nl ci σ).length = nl + ci.length := by unfold capSt; simp

section
variable {X : Cx} {scope : Scope} {cl : List (Str × Addr)} {N : List Str} {nl : Nat} {ci : List Nat} {pins : List (Addr × Obj)} {σ : St} {H2 : Hp} {s2 : Shared} {fp : List Addr}

/-- the block begins: s4 is s2 with new objects only, among them the frame C -/
theorem block_start (B : Blk X scope cl N nl ci) (I : Inv X pins σ H2 s2) (f2 : ∀ b ∈ fp, FpOk X pins H2 b) (fo : ∀ b ∈ fp, ∃ o, s2.heap.get? b = some o) {C : Addr} {h4 : Heap} {t4 : Nat} {m4 : Str → Option Value} (hC : s2.heap.objs.size ≤ C) (hns : h4.Ns C m4)
    (hk : ∀ b o, s2.heap.get? b = some o → h4.get? b = some o) : Inv (blockCx X scope cl N C s2 H2 fp) [] (capSt nl ci σ) H2 { s2 with heap := h4, toks := t4 } := by
  have lt2 : ∀ b ∈ fp, b < s2.heap.objs.size := fun b hb => by obtain ⟨o, e⟩ := fo b hb; exact Heap.lt_size e
  have ok : (blockCx X scope cl N C s2 H2 fp).Ok := by
    refine ⟨I.ok.mod, B.kind, I.ok.glob, I.ok.blt, hC, fun x y c h1 h2 => I.ok.inj x y c (B.sub x c h1) (B.sub y c h2), fun x hx => B.has x hx, fun x c hf _ => (by cases hf), I.ok.hd, I.ok.frames, .inl rfl, fun b hb => ⟨?_, ?_⟩, I.bs, ?_, fun b o e hb => ?_, fun b hb z => ?_, I.stack, I.stkFree⟩
    · exact Nat.ne_of_lt (Nat.lt_of_lt_of_le (lt2 b hb) hC)
    · exact fun x c h => (f2 b hb).2.2.2.2.1 x c (B.sub x c h)
    · exact Nat.le_trans I.ok.bsz I.sz
    · rcases (f2 b hb).2.2.2.1 with z | z
      · exact I.ok.noex b o e z
      · exact absurd (Nat.lt_of_lt_of_le (Heap.lt_size e) (Nat.le_trans I.ok.bsz z)) (Nat.lt_irrefl _)
    · rcases List.mem_cons.mp (I.stkSub b z) with q | q
      · exact (f2 b hb).2.1 q
      · exact (f2 b hb).2.2.1 q
  refine ⟨ok, rfl, I.bare, Un.kept hk, ⟨m4, hns, fun k x v e1 e2 e3 => ?_⟩, fun x c e => ?_, I.hok.fresh hC, fun x c e => I.freeC x c (B.sub x c e), fun p hp => (by cases hp), I.hok.kept hk, ?_⟩
  · obtain ⟨j, i, rfl, hj, hσ⟩ := capSt_get e2
    obtain ⟨n, hn1, hn2, hk1, hk2, hl⟩ := B.cap j i hj
    have en : x = n := by
      have e1' : N[nl + j]? = some x := e1
      rw [hn1] at e1'; exact (Option.some.inj e1').symm
    subst en
    obtain ⟨m, hm, hloc⟩ := I.loc
    have vis : Vis X.env.scope x := .inr hk1
    obtain ⟨u, ru, lk⟩ := hloc i x v hn2 hσ vis
    refine ⟨u, ru, .inr ⟨hk2, ?_⟩⟩
    rcases lk with ⟨kl, _⟩ | ⟨_, c, ec, hc⟩
    · have kl' : X.env.scope.names.lookup x = some .local := kl
      rcases hk1 with z | z <;> · rw [z] at kl'; cases kl'
    · refine ⟨c, hl.trans ec, ?_⟩
      obtain ⟨o, ho, hd⟩ := hc
      exact ⟨o, hk _ _ ho, hd⟩
  · obtain ⟨v, o, ho, hd⟩ := I.cell x c (B.sub x c e)
    exact ⟨v, o, hk _ _ ho, hd⟩
  · show (capSt nl ci σ).length = N.length
    rw [capSt_length, B.len]

/-- behind the block -/
theorem block_end {C : Addr} {σ' : St} {H' : Hp} {s' : Shared} {pb : List (Addr × Obj)} (I : Inv X pins σ H2 s2) (f2 : ∀ b ∈ fp, FpOk X pins H2 b) (J : Inv (blockCx X scope cl N C s2 H2 fp) pb σ' H' s') : Inv X pins σ H' s' :=
  I.call' J.os J.base J.hok J.bare fun b hb => ⟨(f2 b hb).2.2.2.1, (f2 b hb).2.1, (f2 b hb).2.2.2.2.1, (f2 b hb).2.2.2.2.2⟩
end

section
variable {prog : Program} {w : World} {A : Around} {R : Result → Shared → Prop} {s : Shared}
theorem compLoop_go {elt target iter : Expr} {ifs : List Expr} {scope : Scope} {pos : Pos} {it acc : Value} {env : Env} (I : Nat → Shared → Prop)
    (turn : ∀ n s, I n s → wpAny (model prog w) A (pyNext it) (fun r s₁ => match r with
      | none => R (.ok .next) s₁
      | some v => wpAny (model prog w) A (letOwnedTupleGo target it v) (fun _ s₁' => wpAny (model prog w) A (assign target env v) (fun _ s₂ =>
          wpAny (model prog w) A (forIn ifs true fun c r => if r = true then do let ok ← isTrue c env (eval c env); pure (ForInStep.yield ok) else pure (ForInStep.yield r)) (fun ok s₃ =>
            if ok = true then wpAny (model prog w) A (eval elt env) (fun x s₄ =>
              wpAny (model prog w) A (call (.builtin "list.append") [acc, x]) (fun _ s₅ => ∃ m, m < n ∧ I m s₅) (notedBy (model prog w) A env fun e s' => R (.error e) s') s₄) (notedBy (model prog w) A env fun e s' => R (.error e) s') s₃
            else ∃ m, m < n ∧ I m s₃) (notedBy (model prog w) A env fun e s' => R (.error e) s') s₂) (notedBy (model prog w) A env fun e s' => R (.error e) s') s₁') (notedBy (model prog w) A env fun e s' => R (.error e) s') s₁) (notedBy (model prog w) A env fun e s' => R (.error e) s') s)
    (n : Nat) (h : I n s) :
    codeAny (model prog w) A (.compLoop (.ListComp elt [⟨target, iter, ifs, 0⟩] scope pos) 0 it acc env) R s := by
  refine codeAny_loop rfl I (fun n s hI => ?_) n h
  show wpAny _ A ((compTurn (.ListComp elt [⟨target, iter, ifs, 0⟩] scope pos) 0 it acc env).onRaise (fun x => do noteFrame x env; theTreesLotGoes x)) _ _ s
  refine wpAny_noted ?_
  rw [compTurn_list]
  refine wpAny_bind (wpAny_standAt (wpAny_bind (wpAny_mono (turn n s hI) (fun r s₁ h₁ => ?_) fun _ _ h' => h')))
  cases r with
  | none => exact wpAny_pure h₁
  | some v =>
    refine wpAny_bind (wpAny_mono h₁ (fun _ s₁' h₁' => ?_) fun _ _ h' => h')
    refine wpAny_bind (wpAny_mono h₁' (fun _ s₂ h₂ => wpAny_bind (wpAny_mono h₂ (fun ok s₃ h₃ => ?_) fun _ _ h' => h')) fun _ _ h' => h')
    cases ok with
    | false => exact wpAny_pure ⟨rfl, h₃⟩
    | true =>
      exact wpAny_bind (wpAny_bind (wpAny_mono h₃ (fun x s₄ h₄ => wpAny_bind (wpAny_mono h₄ (fun _ s₅ h₅ => wpAny_pure (wpAny_pure ⟨rfl, h₅⟩)) fun _ _ h' => h')) fun _ _ h' => h'))
end

/-- the tests of a clause -/
def PF (X : Cx) (ifs : List Expr) (t : TT) : Prop :=
  ∀ (pins : List (Addr × Obj)) (s : Shared) (σ : St) (H : Hp) (Q : Bool → Hp → Prop), Inv X pins σ H s → t σ H Q →
    wpAny (model X.prog X.w) X.A (forIn ifs true fun c r => if r = true then do let ok ← isTrue c X.env (eval c X.env); pure (ForInStep.yield ok) else pure (ForInStep.yield r)) (TP X pins σ Q) X.xe s
def tAll : TT := fun _ H Q => Q true H
theorem pf_nil {X : Cx} : PF X [] tAll := fun _ _ _ H _ I h => wpAny_tests_nil ⟨H, I, h⟩
theorem pf_one {X : Cx} {c : Expr} {t : TT} (h : PT X c t) : PF X [c] t := fun pins s σ H Q I q => wpAny_tests_one (h pins s σ H Q I q)

/-- W: the invariant by the turn, a measure, the items so far and the heap -/
def tCompW (J : It) (g : TG) (ti : TT) (te : TE) (σ0 : St) (fin : List V → Hp → Prop) (H1 : Hp) : Prop :=
  ∃ W : Nat → Nat → List V → Hp → Prop, (∃ m, W 0 m [] H1) ∧ ∀ i m ys H, W i m ys H →
    (J.stop i H ∧ fin ys H) ∨
    (J.go i H ∧ ∀ x H', J.yld i H x H' → g x σ0 H' fun σ2 H2 => (σ2.length = σ0.length ∧ ∀ (j : Nat) v, σ0[j]? = some (some v) → σ2[j]? = some (some v)) ∧
      ti σ2 H2 fun b H3 => if b = true then te σ2 H3 fun y H4 => ys.length < sizeLine ∧ ∃ m', m' < m ∧ W (i + 1) m' (ys ++ [y]) H4 else ∃ m', m' < m ∧ W (i + 1) m' ys H3)
def tComp (wi : TI) (nl : Nat) (ci : List Nat) (g : TG) (ti : TT) (te : TE) : TE := fun σ H Q =>
  wi σ H fun J H1 => tCompW J g ti te (capSt nl ci σ) (fun ys H' => ∀ p, H' p = none → Q (.ref p) (upd H' p (.lst ys))) H1

section
variable {X : Cx} {scope : Scope} {cl : List (Str × Addr)} {N : List Str} {nl : Nat} {ci : List Nat} {tg elt iter : Expr} {ifs : List Expr} {pos : Pos} {wi : TI} {g : TG} {ti : TT} {te : TE}

theorem block_run {pins : List (Addr × Obj)} {σ : St} {H2 : Hp} {s2 : Shared} {fp : List Addr} {it : Addr} {J : It} {tn : Nat → Heap → Prop} {E : Value → Shared → Prop} {RR : Value → Addr → Result → Shared → Prop} {fin : List V → Hp → Prop}
    (hc : X.calm = true) (B : Blk X scope cl N nl ci) (hg : ∀ C s0 H0 fp, PG (blockCx X scope cl N C s0 H0 fp) tg g) (hi : ∀ C s0 H0 fp, PF (blockCx X scope cl N C s0 H0 fp) ifs ti) (he : ∀ C s0 H0 fp, PE (blockCx X scope cl N C s0 H0 fp) elt te)
    (I2 : Inv X pins σ H2 s2) (T : Turn X.prog X.w X.K tg J fp it tn) (st2 : tn 0 s2.heap) (f2 : ∀ b ∈ fp, FpOk X pins H2 b) (hW : tCompW J g ti te (capSt nl ci σ) fin H2)
    (hfin : ∀ (D C : Addr) (s' : Shared) (H' : Hp) (ys : List V) (oC : Obj) (m : Str → Option Value), H' D = none → Inv X (pins ++ [(C, oC)]) σ (upd H' D (.lst ys)) s' → s'.heap.Ns C m → s2.heap.objs.size ≤ C → fin ys H' → RR (.ref D) C (.ok .next) s') :
    wpAny (model X.prog X.w) X.A (newList []) (fun acc s₃ => wpAny (model X.prog X.w) X.A (newFunctionEnv scope X.env.globals cl [] X.env.qual none .none (some X.env)) (fun cenv s₄ =>
      codeAny (model X.prog X.w) X.A (.compStart (.ListComp elt [⟨tg, iter, ifs, 0⟩] scope pos) 0 (.ref it) acc { cenv with scope := relabel scope X.env }) (RR acc cenv.locals) s₄) E s₃) E s2 := by
  obtain ⟨W, ⟨m0, w0⟩, turn⟩ := hW
  refine wpAny_newObj_type (wpAny_newFunctionEnv B.nocell (by intro y hy; simp at hy) (fun h1 hns1 hsb1 => ?_) B.kind)
  dsimp only at hns1 hsb1 ⊢
  generalize hH2 : s2.heap.push { cls := .type "list", dict := none, data := .seq ([] : List Value).toArray } = G2 at hns1 hsb1 ⊢
  have hCs : G2.objs.size = s2.heap.objs.size + 1 := by rw [← hH2, Heap.size_push]
  generalize hCe : G2.objs.size = C at hns1 hsb1 hCs ⊢
  have hDC : s2.heap.objs.size ≠ C := by rw [hCs]; exact Nat.ne_of_lt (Nat.lt_succ_self _)
  have hCle : s2.heap.objs.size ≤ C := by rw [hCs]; exact Nat.le_succ _
  have old : ∀ b o, s2.heap.get? b = some o → h1.get? b = some o := fun b o e => hsb1.extBut b o (by rw [hCs]; exact Nat.ne_of_lt (Nat.lt_succ_of_lt (Heap.lt_size e))) (Heap.get?_push_of_some _ (hH2 ▸ Heap.get?_push_of_some _ e))
  have hacc : h1.get? s2.heap.objs.size = some { cls := .type "list", data := .seq ([] : List Value).toArray 0 } := hsb1.extBut _ _ hDC (Heap.get?_push_of_some _ (hH2 ▸ Heap.get?_push_size _ rfl))
  have fo : ∀ b ∈ fp, ∃ o, s2.heap.get? b = some o := fun b hb => let ⟨o, e, _⟩ := T.obj 0 _ st2 b hb; ⟨o, e⟩
  have lt2 : ∀ b ∈ fp, b < s2.heap.objs.size := fun b hb => let ⟨o, e⟩ := fo b hb; Heap.lt_size e
  have hDfp : s2.heap.objs.size ∉ fp := fun z => Nat.lt_irrefl _ (lt2 _ z)
  have hCfp : C ∉ fp := fun z => Nat.lt_irrefl _ (Nat.lt_of_lt_of_le (lt2 _ z) hCle)
  generalize hDe : s2.heap.objs.size = D at hCs hDC hCle hacc hDfp lt2
  have loop : ∀ s3 : Shared, s3 = { s2 with heap := h1, toks := s2.toks + ([] : List (Str × Value)).length } →
      codeAny (model X.prog X.w) X.A (.compLoop (.ListComp elt [⟨tg, iter, ifs, 0⟩] scope pos) 0 (.ref it) (.ref D) (compEnvC scope cl C X.env)) (RR (.ref D) C) s3 := by
    rintro s3 rfl
    have I4 : Inv (blockCx X scope cl N C s2 H2 fp) [] (capSt nl ci σ) H2 { s2 with heap := h1, toks := s2.toks + ([] : List (Str × Value)).length } := block_start B I2 f2 fo (by rw [hDe]; exact hCle) hns1 old
    have fpk : ∀ {H' : Hp}, (∀ b ∈ fp, H' b = none) → ∀ b ∈ fp, FpOk (blockCx X scope cl N C s2 H2 fp) [] H' b := fun hn b hb =>
      ⟨hn b hb, (I4.ok.exf b hb).1, I4.ok.exfs b hb, .inl hb, (I4.ok.exf b hb).2, fun p hp => by cases hp⟩
    have hDX : ∀ x c, (blockCx X scope cl N C s2 H2 fp).env.cells.lookup x = some c → c ≠ D := fun x c e => by
      obtain ⟨v, o, ho, _⟩ := I2.cell x c (B.sub x c e)
      rw [← hDe]; exact Nat.ne_of_lt (Heap.lt_size ho)
    have hDL : D ≠ (blockCx X scope cl N C s2 H2 fp).env.locals := hDC
    have hDf : D ∉ (blockCx X scope cl N C s2 H2 fp).fs := fun z => by
      rcases List.mem_cons.mp (I2.stkSub D z) with q | q
      · exact Nat.lt_irrefl _ (by have := I2.lt; rw [hDe, ← q] at this; exact this)
      · exact I2.nofs (by rw [hDe]; exact Nat.le_refl _) q
    refine compLoop_go (fun n s' => ∃ i ys its k H', W i n ys H' ∧ Inv (blockCx X scope cl N C s2 H2 fp) [] (capSt nl ci σ) H' s' ∧ tn i s'.heap ∧ (∀ b ∈ fp, H' b = none) ∧ H' D = none ∧
      s'.heap.get? D = some { cls := .type "list", data := .seq its.toArray k } ∧ Vals ys its ∧ ys.length ≤ sizeLine) ?_ m0 ?_
    · rintro n s' ⟨i, ys, its, k, H', w', I', st', fr', hD', eD, rv, hz⟩
      have IP : Inv (blockCx X scope cl N C s2 H2 fp) [(D, { cls := .type "list", data := .seq its.toArray k })] (capSt nl ci σ) H' s' := I'.pins_of fun p hp => by
        obtain rfl : p = _ := by simpa using hp
        exact ⟨eD, hD', hDL, hDf, fun v z => by cases z⟩
      have fpD : ∀ {H'' : Hp}, (∀ b ∈ fp, H'' b = none) → ∀ b ∈ fp, FpOk (blockCx X scope cl N C s2 H2 fp) [(D, { cls := .type "list", data := .seq its.toArray k })] H'' b := fun hn b hb =>
        ⟨hn b hb, (I4.ok.exf b hb).1, I4.ok.exfs b hb, .inl hb, (I4.ok.exf b hb).2, fun p hp => by
          obtain rfl : p = _ := by simpa [blockCx] using hp
          exact fun z => hDfp ((show D = b from z) ▸ hb)⟩
      rcases turn i n ys H' w' with ⟨stop, q⟩ | ⟨go, step⟩
      · refine thn (T.done (blockCx X scope cl N C s2 H2 fp) rfl rfl rfl hc i _ s' (capSt nl ci σ) H' _ IP (fpD fr') st' stop) fun r s'' ⟨hr, I''⟩ => ?_
        subst hr
        have eD2 := (I''.pin (D, _) (List.mem_append_right _ List.mem_cons_self)).1
        have J1 : Inv (blockCx X scope cl N C s2 H2 fp) [] (capSt nl ci σ) (upd H' D (.lst ys)) s'' :=
          (I''.pins_of (pins' := []) fun p hp => by cases hp).track hD' eD2 rv hz (by show s2.heap.objs.size ≤ D; rw [hDe]; exact Nat.le_refl _) hDL hDX fun p hp => by cases hp
        have K1 : Inv X pins σ (upd H' D (.lst ys)) s'' := block_end I2 f2 J1
        obtain ⟨mC, nsC, _⟩ := J1.loc
        obtain ⟨oC, es, ep, hoC, hdC, rC⟩ := id nsC
        refine hfin D C s'' H' ys oC mC hD' (K1.pins_of fun p hp => ?_) nsC (by rw [hDe]; exact hCle) q
        rcases List.mem_append.mp hp with hp | hp
        · exact K1.pin p (List.mem_append_right _ hp)
        · obtain rfl : p = (C, oC) := by simpa using hp
          refine ⟨hoC, J1.free, Nat.ne_of_gt (Nat.lt_of_lt_of_le I2.lt (by rw [hDe]; exact hCle)), I2.nofs (by rw [hDe]; exact hCle), fun v z => ?_⟩
          rw [hdC] at z; cases z
      · refine thn (T.item (blockCx X scope cl N C s2 H2 fp) rfl rfl rfl hc i _ s' (capSt nl ci σ) H' _ IP (fpD fr') st' go) fun r s4 ⟨u, hr, h4⟩ => ?_
        subst hr
        refine thn h4 fun _ s5 ⟨x, H5, I5, r5, y5, st5, fr5⟩ => ?_
        have I5' := I5.pinned (fpD fr5) (T.obj _ _ st5)
        refine wpAny_mono (hg C s2 H2 fp _ s5 (capSt nl ci σ) H5 x u _ I5' r5 (step x H5 y5)) (fun _ s6 ⟨σ6, H6, I6, ⟨hl6, hk6⟩, q6⟩ => ?_) fun _ _ f => f.elim
        refine wpAny_mono (hi C s2 H2 fp _ s6 σ6 H6 _ I6 q6) (fun b s7 ⟨H7, I7, q7⟩ => ?_) fun _ _ f => f.elim
        have pinD : ∀ {pp : List (Addr × Obj)} {σx : St} {Hx : Hp} {sx : Shared}, Inv (blockCx X scope cl N C s2 H2 fp) ([(D, ({ cls := .type "list", data := .seq its.toArray k } : Obj))] ++ pinsAt fp s5.heap) σx Hx sx →
            sx.heap.get? D = some { cls := .type "list", data := .seq its.toArray k } ∧ Hx D = none ∧ tn (i + 1) sx.heap ∧ (∀ b ∈ fp, Hx b = none) := fun {pp σx Hx sx} Ix => by
          refine ⟨(Ix.pin (D, _) (List.mem_append_right _ (List.mem_append_left _ List.mem_cons_self))).1, (Ix.pin (D, _) (List.mem_append_right _ (List.mem_append_left _ List.mem_cons_self))).2.1, T.keep _ _ _ st5 fun b hb o e => (Ix.pin (b, o) (List.mem_append_right _ (List.mem_append_right _ (mem_pinsAt hb e)))).1, fun b hb => ?_⟩
          obtain ⟨o, e, d⟩ := T.obj _ _ st5 b hb
          exact (Ix.pin (b, o) (List.mem_append_right _ (List.mem_append_right _ (mem_pinsAt hb e)))).2.1
        cases b with
        | false =>
          rw [if_neg Bool.false_ne_true] at q7 ⊢
          obtain ⟨m', hm', w7⟩ := q7
          obtain ⟨e7, n7, st7, fr7⟩ := pinD (pp := []) I7
          exact ⟨m', hm', i + 1, ys, its, k, H7, w7, (I7.pins_of (pins' := []) fun p hp => by cases hp).weak hl6.symm hk6, st7, fr7, n7, e7, rv, hz⟩
        | true =>
          rw [if_pos rfl] at q7 ⊢
          refine wpAny_mono (he C s2 H2 fp _ s7 σ6 H7 _ I7 q7) (fun y' s8 ⟨y, H8, I8, r8, hlt, m', hm', w8⟩ => ?_) fun _ _ f => f.elim
          obtain ⟨e8, n8, st8, fr8⟩ := pinD (pp := []) I8
          have I8f : Inv (blockCx X scope cl N C s2 H2 fp) (pinsAt fp s5.heap) σ6 H8 s8 := I8.pins_of fun p hp => I8.pin p (List.mem_append_right _ (List.mem_append_right _ hp))
          have I8t := I8f.track n8 e8 rv hz (by show s2.heap.objs.size ≤ D; rw [hDe]; exact Nat.le_refl _) hDL hDX fun p hp => by
            have hp' : p ∈ pinsAt fp s5.heap := by simpa [blockCx] using hp
            exact fun z => hDfp (z ▸ (of_pinsAt hp').1)
          refine wpAny_mono (mt_append (X := blockCx X scope cl N C s2 H2 fp) (pinsAt fp s5.heap) s8 σ6 _ (.ref D) [y] (.ref D) [y'] (fun _ H9 => H9 = upd H8 D (.lst (ys ++ [y]))) I8t rfl (.cons r8 .nil)
            ⟨D, ys, y, rfl, rfl, upd_same, hlt, upd_upd⟩) (fun _ s9 ⟨_, H9, I9, _, e9⟩ => ?_) fun _ _ f => f.elim
          subst e9
          obtain ⟨hz9, its9, k9, rv9, e9⟩ := I9.hok D _ upd_same
          have I9u := I9.untrack n8
          refine ⟨m', hm', i + 1, ys ++ [y], its9, k9, H8, w8, (I9u.pins_of (pins' := []) fun p hp => by cases hp).weak hl6.symm hk6, ?_, fr8, n8, e9, rv9, hz9⟩
          exact T.keep _ _ _ st5 fun b hb o e => (I9u.pin (b, o) (List.mem_append_right _ (mem_pinsAt hb e))).1
    · exact ⟨0, [], [], 0, H2, w0, I4, T.keep _ _ _ st2 fun b hb o e => old b o e, fun b hb => (f2 b hb).1, I2.hok.fresh (by rw [hDe]; exact Nat.le_refl _), hacc, .nil, Nat.zero_le _⟩
  exact codeAny_compStart_list (loop _ rfl) (T.self _ 0 _ _ _ (T.keep _ _ _ st2 fun b hb o e => old b o e) (loop _ rfl))

/-- [elt for target in iter if ..] -/
theorem pe_comp (hc : X.calm = true) (B : Blk X scope cl N nl ci) (hp : PI X tg iter wi) (hg : ∀ C s0 H0 fp, PG (blockCx X scope cl N C s0 H0 fp) tg g) (hi : ∀ C s0 H0 fp, PF (blockCx X scope cl N C s0 H0 fp) ifs ti)
    (he : ∀ C s0 H0 fp, PE (blockCx X scope cl N C s0 H0 fp) elt te) (hs : ∀ x, foldedSetIterable iter X.env x = pure x := by intro _; rfl) : PE X (.ListComp elt [⟨tg, iter, ifs, 0⟩] scope pos) (tComp wi nl ci g ti te) := by
  intro pins s σ H Q I h
  rw [eval_ListComp]
  refine wpAny_comprehension_free (use := none) rfl hs B.clos B.kind B.names (thn (hp pins s σ H _ I h) fun v s1 h1 => thn h1 fun itv s2 h2 => ?_)
  obtain ⟨it, fp, tn, J, H2, e, I2, T, st2, f2, hW⟩ := h2
  subst e
  refine block_run (RR := fun acc C => compPost (model X.prog X.w) X.A X.xe none (EP X pins σ Q) acc C) hc B hg hi he I2 T st2 f2 hW ?_
  intro D C s' H' ys oC m hD K1 hn hC q
  refine ⟨m, hn, fun h' hs' => ?_⟩
  have hL : C ≠ X.env.locals := (K1.pin (C, oC) (by simp)).2.2.1
  have I9 : Inv X pins σ (upd H' D (.lst ys)) { s' with heap := h', toks := s'.toks } := K1.unpinned.turned (t' := s'.toks) (it := C) (fun b o hb e => hs'.extBut b o hb e) (K1.pin (C, oC) (by simp)).2.1 hL (.inr (Nat.le_trans I2.sz hC)) (fun x c e z => ?_) fun p hp z => ?_
  · exact ⟨.ref D, _, I9, rfl, q D hD⟩
  · obtain ⟨v, o, ho, _⟩ := I2.cell x c e
    exact absurd (Nat.lt_of_lt_of_le (Heap.lt_size ho) (z ▸ hC)) (Nat.lt_irrefl _)
  · exact absurd (Nat.lt_of_lt_of_le (Heap.lt_size (I2.pin p hp).1) (z ▸ hC)) (Nat.lt_irrefl _)

/-- name = [elt for ..] on one row -/
theorem ps_setComp {i : Nat} {x : Str} {pos' spos : Pos} (hN : X.N.Nodup) (hix : X.N[i]? = some x) (hx : Loc X.env.scope x) (hc : X.calm = true) (B : Blk X scope cl N nl ci) (hp : PI X tg iter wi) (hg : ∀ C s0 H0 fp, PG (blockCx X scope cl N C s0 H0 fp) tg g)
    (hi : ∀ C s0 H0 fp, PF (blockCx X scope cl N C s0 H0 fp) ifs ti) (he : ∀ C s0 H0 fp, PE (blockCx X scope cl N C s0 H0 fp) elt te)
    (hsw : swapsWith (.ListComp elt [⟨tg, iter, ifs, 0⟩] scope pos) (some (.Name x pos')) spos.line X.env = pure true := by rfl) (hs : ∀ x, foldedSetIterable iter X.env x = pure x := by intro _; rfl)
    (hf : X.fn x = true ∨ X.env.scope.names.lookup x = some .local := by first | exact .inl rfl | exact .inr rfl | assumption) :
    PS X (.Assign [.Name x pos'] (.ListComp elt [⟨tg, iter, ifs, 0⟩] scope pos) spos) (tAsg (tComp wi nl ci g ti te) (gName i)) := by
  intro pins s σ H D I h
  rw [exec_Assign_Name_used _ _ _ _ hsw]
  refine wpAny_bind (wpAny_standAt (wpAny_bind ?_))
  show wpAny _ X.A (do let _ ← comprehension (.ListComp elt [⟨tg, iter, ifs, 0⟩] scope pos) scope X.env _ (newList []) false (eval iter X.env) (some (assign (.Name x pos') X.env))) _ _ s
  refine wpAny_bind (wpAny_mono (wpAny_comprehension_free (use := some (assign (.Name x pos') X.env)) (Q := fun _ s' => SP X pins D .next s') rfl hs B.clos B.kind B.names
    (thn (hp pins s σ H _ I h) fun v s1 h1 => thn h1 fun itv s2 h2 => ?_)) (fun _ s' hq => wpAny_pure (wpAny_pure hq)) fun _ _ e => e)
  obtain ⟨it, fp, tn, J, H2, e, I2, T, st2, f2, hW⟩ := h2
  subst e
  refine block_run (RR := fun acc C => compPost (model X.prog X.w) X.A X.xe (some (assign (.Name x pos') X.env)) (fun _ s' => SP X pins D .next s') acc C) hc B hg hi he I2 T st2 f2 hW ?_
  intro Dd C s' H' ys oC m hD K1 hn hC q
  show wpAny _ X.A (assign (.Name x pos') X.env (.ref Dd)) _ _ _
  refine thn (pg_name (i := i) hN hix hx hf (pins ++ [(C, oC)]) s' σ (upd H' Dd (.lst ys)) (.ref Dd) (.ref Dd) (fun σ' H'' => D.nx σ' H'') K1 rfl (q Dd hD)) fun _ s'' ⟨σ', H'', K2, q2⟩ => ?_
  have eC := K2.pin (C, oC) (by simp)
  obtain ⟨oC', es, ep, hoC, hdC, rC⟩ := id hn
  have eo : oC' = oC := by
    have := (K1.pin (C, oC) (by simp)).1
    rw [hoC] at this; exact Option.some.inj this
  subst eo
  refine ⟨m, ⟨oC', es, ep, eC.1, hdC, rC⟩, fun h' hs' => ?_⟩
  have hL : C ≠ X.env.locals := eC.2.2.1
  have I9 : Inv X pins σ' H'' { s'' with heap := h', toks := s''.toks } := K2.unpinned.turned (t' := s''.toks) (it := C) (fun b o hb e => hs'.extBut b o hb e) eC.2.1 hL (.inr (Nat.le_trans I2.sz hC)) (fun x c e z => ?_) fun p hp z => ?_
  · exact ⟨σ', H'', I9, q2⟩
  · obtain ⟨v, o, ho, _⟩ := I2.cell x c e
    exact absurd (Nat.lt_of_lt_of_le (Heap.lt_size ho) (z ▸ hC)) (Nat.lt_irrefl _)
  · exact absurd (Nat.lt_of_lt_of_le (Heap.lt_size (I2.pin p hp).1) (z ▸ hC)) (Nat.lt_irrefl _)
end
end L2

set_option Elab.async false
set_option linter.all false
set_option maxRecDepth 100000
namespace L2
open PySem PySem.Spec PyProof.Rows

/-! ## the signs of a text, walked -/
def Its (x : Str) : It := ⟨fun i _ => i < x.cps.size, fun i H v H' => H' = H ∧ ∃ c, x.cps[i]? = some c ∧ v = .str ⟨#[c]⟩, fun i _ => i = x.cps.size⟩
theorem turn_str {P : Program} {w : World} {K : PySem.W.Frag} {tg : Expr} (it : Addr) (x : Str) (t : Tok) (ty : String)
    (hty : ["enumerate", "zip", "dict_itemiterator", "dict_reverseitemiterator", "odict_iterator", "itertools.zip_longest", "itertools.pairwise"].contains ty = false)
    (W : ∀ A' : Around, A'.handled = none → Walks P w A' it [it] [it] x.cps.size (SignAt x) (fun i h => h.IsStrIter it ty x t i))
    (hself : ∀ (A : Around) (i : Nat) (s : Shared) (Q : Value → Shared → Prop) (E : Value → Shared → Prop), s.heap.IsStrIter it ty x t i → Q (.ref it) s → wpAny (model P w) A (pyIter (.ref it)) Q E s) :
    Turn P w K tg (Its x) [it] it (fun i h => h.IsStrIter it ty x t i) where
  mem := by simp
  obj := fun i h st b hb => by
    have e : b = it := by simpa using hb
    subst e
    obtain ⟨o, e, c, d⟩ := st
    exact ⟨o, e, fun v z => by rw [d] at z; cases z⟩
  keep := fun i h h' st k => let ⟨o, ho, r⟩ := st; ⟨o, k it (by simp) o ho, r⟩
  item := by
    intro X hP hw hK hc i pins s σ H E I hf st hg
    subst hP hw hK
    obtain ⟨f0, f1, f2, f3, f4, f5⟩ := hf it (by simp)
    refine (W X.A (I.ok.hd hc)).item i s _ _ hg st fun v h' tk hv st' kk => ?_
    obtain ⟨c, u, hc', rfl⟩ := hv
    have I1 : Inv X pins σ H { s with heap := h', toks := tk } := I.turned (fun b o hb e => kk b o (by simpa using hb) e) f0 f1 f3 f4 f5
    obtain ⟨o, e, c1, d⟩ := id st'
    exact ⟨_, rfl, go_of (s := { s with heap := h', toks := tk }) e c1 d hty ⟨.str ⟨#[c]⟩, H, I1, ⟨u, rfl⟩, ⟨rfl, c, hc', rfl⟩, st', fun b hb => (hf b hb).1⟩⟩
  done := by
    intro X hP hw hK hc i pins s σ H E I hf st hg
    subst hP hw hK
    obtain ⟨f0, f1, f2, f3, f4, f5⟩ := hf it (by simp)
    have e : i = x.cps.size := hg
    subst e
    exact (W X.A (I.ok.hd hc)).done s _ _ st fun h' tk kk => ⟨rfl, I.turned (fun b o hb e => kk b o (by simpa using hb) e) f0 f1 f3 f4 f5⟩
  self := hself
def iStr (tl : TE) : TI := fun σ H R => tl σ H fun x H1 => ∃ z, x = .str z ∧ R (Its z) H1
theorem pi_str {X : Cx} {tg l : Expr} {tl : TE} (hl : PE X l tl) : PI X tg l (iStr tl) := by
  intro pins s σ H R I h
  refine thn (hl pins s σ H _ I h) fun v s1 ⟨x, H1, I1, rx, z, ez, q⟩ => ?_
  subst ez
  obtain ⟨t, rfl⟩ := rx
  cases ha : z.cps.all (· < 128)
  · refine wpAny_pyIter_wide ha ⟨s1.heap.objs.size, [s1.heap.objs.size], _, Its z, H1, rfl, I1.kept (t' := s1.toks) fun b u e => Heap.get?_push_of_some _ e, turn_str _ z t "str_iterator" (by decide) (fun A' hA => Walks.strWide hA _ z t) (fun _ _ _ _ _ st h => wpAny_pyIter_striter_wide st h), ⟨_, Heap.get?_push_size _ rfl, rfl, rfl⟩, fun b hb => ?_, q⟩
    have e : b = s1.heap.objs.size := by simpa using hb
    subst e
    exact I1.fpOk (Nat.le_refl _) (I1.hok.fresh (Nat.le_refl _))
  · refine wpAny_pyIter_ascii ha ⟨s1.heap.objs.size, [s1.heap.objs.size], _, Its z, H1, rfl, I1.kept (t' := s1.toks) fun b u e => Heap.get?_push_of_some _ e, turn_str _ z t "str_ascii_iterator" (by decide) (fun A' hA => Walks.strAscii hA _ z t) (fun _ _ _ _ _ st h => wpAny_pyIter_striter_ascii st h), ⟨_, Heap.get?_push_size _ rfl, rfl, rfl⟩, fun b hb => ?_, q⟩
    have e : b = s1.heap.objs.size := by simpa using hb
    subst e
    exact I1.fpOk (Nat.le_refl _) (I1.hok.fresh (Nat.le_refl _))

/-! ## comprehensions whose items are told by their places, the heap as it was -/
theorem comp_of {J : It} {g : TG} {ti : TT} {te : TE} {σ0 : St} {fin : List V → Hp → Prop} {H1 : Hp} (n : Nat) (f : Nat → V) (hn : n ≤ sizeLine) (Ok : Hp → Prop) (h0 : Ok H1)
    (hst : ∀ H, Ok H → J.stop n H) (hgo : ∀ i H, i < n → Ok H → J.go i H)
    (hstep : ∀ i H x H', i < n → Ok H → J.yld i H x H' → g x σ0 H' fun σ2 H2 => (σ2.length = σ0.length ∧ ∀ (j : Nat) v, σ0[j]? = some (some v) → σ2[j]? = some (some v)) ∧ ti σ2 H2 fun b H3 => b = true ∧ te σ2 H3 fun y H4 => y = f i ∧ Ok H4)
    (mono : ∀ σ H (Q Q' : Bool → Hp → Prop), (∀ b H', Q b H' → Q' b H') → ti σ H Q → ti σ H Q') (mono2 : ∀ σ H (Q Q' : VK), (∀ b H', Q b H' → Q' b H') → te σ H Q → te σ H Q') (mono3 : ∀ x σ H (Q Q' : St → Hp → Prop), (∀ σ' H', Q σ' H' → Q' σ' H') → g x σ H Q → g x σ H Q')
    (hfin : ∀ H, Ok H → fin ((List.range n).map f) H) : tCompW J g ti te σ0 fin H1 := by
  refine ⟨fun i m ys H => m = n - i ∧ i ≤ n ∧ ys = (List.range i).map f ∧ Ok H, ⟨n, by simp, Nat.zero_le _, rfl, h0⟩, ?_⟩
  rintro i m ys H ⟨rfl, hi, rfl, ok⟩
  by_cases hlt : i < n
  · refine .inr ⟨hgo i H hlt ok, fun x H' y => ?_⟩
    refine mono3 _ _ _ _ _ (fun σ' H'' q => ⟨q.1, mono _ _ _ _ (fun b H3 q => ?_) q.2⟩) (hstep i H x H' hlt ok y)
    obtain ⟨rfl, q⟩ := q
    rw [if_pos rfl]
    refine mono2 _ _ _ _ (fun v H4 q => ?_) q
    obtain ⟨rfl, ok4⟩ := q
    refine ⟨by rw [List.length_map, List.length_range]; omega, n - (i + 1), by omega, rfl, hlt, ?_, ok4⟩
    rw [List.range_succ, List.map_append]; rfl
  · have e : i = n := by omega
    subst e
    exact .inl ⟨hst H ok, hfin H ok⟩

/-! ## calls -/
section
variable {X : Cx}
theorem all_getD : ∀ bs : List Bool, (List.range bs.length).all (fun i => bs.getD i true) = bs.all id
  | [] => rfl
  | b :: bs => by
    rw [List.length_cons, List.range_succ_eq_map, List.all_cons, List.all_map, List.all_cons, ← all_getD bs]
    rfl
theorem call_all_bools (hc : X.calm = true) : CallR X (.builtin "all") (fun xs H Q => ∃ (p : Addr) (bs : List Bool), xs = [.ref p] ∧ SqL X.K H p (bs.map V.bl) ∧ Q (.bl (bs.all id)) H) := by
  intro pins s σ H xs us Q I r h
  obtain ⟨p, bs, rfl, hq, q⟩ := h
  obtain ⟨u, rfl, rx⟩ := vals1 r
  cases rx
  obtain ⟨its, r', pl, hz⟩ := I.list hq
  have hl := pl.isList
  have hlt : p < s.heap.objs.size := by obtain ⟨_, e, _⟩ := hl; exact Heap.lt_size e
  have hlen : bs.length = its.length := by have := r'.length; rw [List.length_map] at this; exact this
  refine call_all_walk (wpAny_pyIter_list hl ?_)
  refine ⟨s.heap.objs.size, _, _, its.toArray.size, _, _, fun i => bs.getD i true, rfl, Walks.list (show X.A.in1.handled = none from I.ok.hd hc) s.heap.objs.size p (Nat.ne_of_lt hlt) its.toArray, ⟨⟨_, Heap.get?_push_size _ rfl, rfl, rfl⟩, hl.push _⟩, ?_, ?_⟩
  · intro i v s' Q' E' hi hQ
    have hi' : its[i]? = some v := by simpa using hi
    have hib : i < bs.length := by rw [hlen]; exact (List.getElem?_eq_some_iff.mp hi').1
    obtain ⟨u, hu, ru⟩ := r'.get (i := i) (x := V.bl bs[i]) (by rw [List.getElem?_map, List.getElem?_eq_getElem hib]; rfl)
    rw [hi'] at hu; cases hu
    have : v = Value.bool bs[i] := ru
    subst this
    refine wpAny_truthy_bool ?_
    have eb : bs.getD i true = bs[i] := by rw [List.getD_eq_getElem?_getD, List.getElem?_eq_getElem hib]; rfl
    have hQ' : Q' (bs.getD i true) s' := hQ
    rw [eb] at hQ'
    exact hQ'
  · intro h' tk hk
    have eall : (List.range its.toArray.size).all (fun i => bs.getD i true) = bs.all id := by
      rw [List.size_toArray, ← hlen]
      exact all_getD bs
    rw [eall]
    refine ⟨.bl (bs.all id), H, ?_, rfl, q⟩
    have I1 : Inv X pins σ H { s with heap := s.heap.push { cls := .type "list_iterator", data := .fields #[.ref p, .int 0 0] }, toks := s.toks } := I.kept fun b u e => Heap.get?_push_of_some _ e
    obtain ⟨f0, f1, f2, f3, f4, f5⟩ := I.fpOk (Nat.le_refl _) (I.hok.fresh (Nat.le_refl _))
    exact I1.turned (fun b o hb e => hk b o (by simpa using hb) e) f0 f1 f3 f4 f5

theorem call_isinst : CallR X (.builtin "isinstance") (fun xs H Q => ∃ x c t u b, xs = [x, c] ∧ TyOf X.K H x t ∧ RelV c u ∧ PySem.W.kitOne X.K t u = some b ∧ Q (.bl b) H) := by
  intro pins s σ H xs us Q I r h
  obtain ⟨x, c, t, u, b, rfl, ty, rc, e, q⟩ := h
  obtain ⟨v1, v2, rfl, r1, r2⟩ := vals2 r
  have e2 : v2 = u := by
    cases c with
    | non => exact (show v2 = _ from r2).trans (show u = _ from rc).symm
    | bl b => exact (show v2 = _ from r2).trans (show u = _ from rc).symm
    | ref b => exact (show v2 = _ from r2).trans (show u = _ from rc).symm
    | ty b => exact (show v2 = _ from r2).trans (show u = _ from rc).symm
    | int i =>
      obtain ⟨t1, rfl⟩ := (show ∃ t, u = _ from rc)
      cases ty <;> simp [PySem.W.kitOne, PySem.W.kitCls] at e
    | str i =>
      obtain ⟨t1, rfl⟩ := (show ∃ t, u = _ from rc)
      cases ty <;> simp [PySem.W.kitOne, PySem.W.kitCls] at e
    | byt i =>
      obtain ⟨t1, rfl⟩ := (show ∃ t, u = _ from rc)
      cases ty <;> simp [PySem.W.kitOne, PySem.W.kitCls] at e
    | flt i =>
      obtain ⟨t1, rfl⟩ := (show ∃ t, u = _ from rc)
      cases ty <;> simp [PySem.W.kitOne, PySem.W.kitCls] at e
  subst e2
  exact isinst_ok I r1 ty e fun tk => ⟨.bl b, H, I.tok tk, rfl, q⟩

theorem op_le_str : OpR X (compareOp .LtE) (fun x y H Q => ∃ i j, x = .str i ∧ y = .str j ∧ Q (.bl (!decide (j.cps.toList < i.cps.toList))) H) := by
  intro pins s σ H x y v u Q I rx ry h
  obtain ⟨i, j, rfl, rfl, q⟩ := h
  obtain ⟨t, rfl⟩ := rx
  obtain ⟨t', rfl⟩ := ry
  exact P.le_str ⟨.bl _, H, I, rfl, q⟩

/-- z[lo:hi] of a text -/
theorem isPart_str {v : Value} {o : Option Int} (p : IsPart v o) : ∃ l : Option (Int × Tok), v = partValue l ∧ o = l.map (·.1) := by
  cases p with
  | none => exact ⟨none, rfl, rfl⟩
  | int i u => exact ⟨some (i, u), rfl, rfl⟩
def rSlS : V → Option Int → Option Int → Hp → VK → Prop := fun x lo hi H Q => ∃ z, x = .str z ∧ z.length ≤ sizeLine ∧ Q (.str (Txt.slice z lo hi)) H
theorem sl_str : SlR X rSlS := by
  intro pins s σ H x v vl vu lo hi sl Q I rx hs pl pu h
  obtain ⟨z, rfl, hz, q⟩ := h
  obtain ⟨t, rfl⟩ := rx
  obtain ⟨l, rfl, rfl⟩ := isPart_str pl
  obtain ⟨u, rfl, rfl⟩ := isPart_str pu
  refine ⟨"str", _, F.slot_str_getitem.lookup, typeIs_str _ _ _, ?_⟩
  exact wpAny_getItem_str_slice (l := l) (u := u) (st := none) hs rfl (post_val_or_str ⟨Nat.le_trans (Txt.slice_le z _ _) hz, fun t' k => ⟨.str _, H, I.tok k, ⟨t', rfl⟩, q⟩⟩)

end
end L2

set_option Elab.async false
set_option linter.all false
set_option maxRecDepth 100000
namespace L2
open PySem PySem.Spec PyProof.Rows

/-! ## the names of a block -/
def blkOk (xs : List (Str × NameKind)) (XN : List Str) (ns : List (Str × NameKind)) (N : List Str) (nl : Nat) (ci : List Nat) : Bool :=
  (ns.all fun y => y.2 != .cell && (y.2 != .local || ns.lookup y.1 == some .local) && (y.2 != .free || (xs.lookup y.1 == some .cell && ns.lookup y.1 == some .free))) &&
  (N.length == nl + ci.length) &&
  (List.range ci.length).all fun j => match ci[j]?, N[nl + j]? with
    | some i, some n => XN[i]? == some n && xs.lookup n == some .cell && ns.lookup n == some .free
    | _, _ => false
def clOf (ns : List (Str × NameKind)) (cs : List (Str × Addr)) : List (Str × Addr) → List (Str × Addr)
  | acc => ns.foldl (fun acc y => if y.2 == .free then (y.1, (cs.lookup y.1).getD 0) :: acc else acc) acc
theorem closureFor_go {env : Env} : ∀ (ns : List (Str × NameKind)) (acc : List (Str × Addr)), (∀ y ∈ ns, y.2 = .free → ∃ c, env.cells.lookup y.1 = some c) →
    (forIn ns acc fun x r => (do
      let (name, kind) := x
      if (kind == NameKind.free) = true then do
          let c ← cellOf env name
          pure (ForInStep.yield ((name, c) :: r))
        else pure (ForInStep.yield r)) : Sem (List (Str × Addr))) = pure (clOf ns env.cells acc)
  | [], acc, _ => rfl
  | (n, k) :: r, acc, h => by
    have ih := fun acc => closureFor_go r acc fun y hy => h y (List.mem_cons_of_mem _ hy)
    rw [List.forIn_cons]
    by_cases hk : k = .free
    · subst hk
      obtain ⟨c, e⟩ := h (n, .free) List.mem_cons_self rfl
      have e1 : cellOf env n = pure c := by unfold cellOf; rw [e]
      simp only [beq_self_eq_true, if_true, e1]
      show (forIn r ((n, c) :: acc) _ : Sem (List (Str × Addr))) = _
      rw [ih]
      show _ = pure (clOf ((n, NameKind.free) :: r) env.cells acc)
      simp only [clOf, List.foldl_cons, beq_self_eq_true, if_true, e, Option.getD_some]
    · have hb : (k == NameKind.free) = false := by simpa using hk
      simp only [hb, Bool.false_eq_true, if_false]
      show (forIn r acc _ : Sem (List (Str × Addr))) = _
      rw [ih]
      simp only [clOf, List.foldl_cons, hb, Bool.false_eq_true, if_false]
theorem clOf_lookup {cs : List (Str × Addr)} : ∀ (ns : List (Str × NameKind)) (acc : List (Str × Addr)) (n : Str), (∀ y ∈ ns, y.2 = .free → ∃ c, cs.lookup y.1 = some c) →
    ((n, NameKind.free) ∈ ns ∨ acc.lookup n = cs.lookup n) → (∀ c, acc.lookup n = some c → cs.lookup n = some c) → (clOf ns cs acc).lookup n = cs.lookup n
  | [], acc, n, _, h, _ => by
    rcases h with h | h
    · cases h
    · exact h
  | (m, k) :: r, acc, n, hc, h, hs => by
    have hc' : ∀ y ∈ r, y.2 = .free → ∃ c, cs.lookup y.1 = some c := fun y hy => hc y (List.mem_cons_of_mem _ hy)
    show (clOf r cs (if k == .free then (m, (cs.lookup m).getD 0) :: acc else acc)).lookup n = cs.lookup n
    by_cases hk : k = .free
    · subst hk
      obtain ⟨c, e⟩ := hc (m, .free) List.mem_cons_self rfl
      simp only [beq_self_eq_true, if_true, e, Option.getD_some]
      by_cases hm : n = m
      · subst hm
        have q : List.lookup n ((n, c) :: acc) = some c := by simp [List.lookup_cons]
        exact clOf_lookup r _ n hc' (.inr (q.trans e.symm)) fun c' z => by rw [q] at z; cases z; exact e
      · have hb : (n == m) = false := by simpa using hm
        have q : List.lookup n ((m, c) :: acc) = acc.lookup n := by simp [List.lookup_cons, hb]
        refine clOf_lookup r _ n hc' ?_ fun c' z => hs c' (q ▸ z)
        rcases h with h | h
        · rcases List.mem_cons.mp h with z | z
          · cases z; exact absurd rfl hm
          · exact .inl z
        · exact .inr (q.trans h)
    · have hb : (k == NameKind.free) = false := by simpa using hk
      simp only [hb, Bool.false_eq_true, if_false]
      refine clOf_lookup r _ n hc' ?_ hs
      rcases h with h | h
      · rcases List.mem_cons.mp h with z | z
        · cases z; exact absurd rfl hk
        · exact .inl z
      · exact .inr h
theorem clOf_sub {cs : List (Str × Addr)} : ∀ (ns : List (Str × NameKind)) (acc : List (Str × Addr)), (∀ y ∈ ns, y.2 = .free → ∃ c, cs.lookup y.1 = some c) →
    (∀ n c, acc.lookup n = some c → cs.lookup n = some c) → ∀ n c, (clOf ns cs acc).lookup n = some c → cs.lookup n = some c
  | [], acc, _, hs, n, c, h => hs n c h
  | (m, k) :: r, acc, hc, hs, n, c, h => by
    have hc' : ∀ y ∈ r, y.2 = .free → ∃ c, cs.lookup y.1 = some c := fun y hy => hc y (List.mem_cons_of_mem _ hy)
    have h' : (clOf r cs (if k == .free then (m, (cs.lookup m).getD 0) :: acc else acc)).lookup n = some c := h
    refine clOf_sub r _ hc' ?_ n c h'
    intro n' c' z
    by_cases hk : k = .free
    · subst hk
      obtain ⟨d, e⟩ := hc (m, .free) List.mem_cons_self rfl
      simp only [beq_self_eq_true, if_true, e, Option.getD_some] at z
      by_cases hm : n' = m
      · subst hm
        simp [List.lookup_cons] at z
        subst z; exact e
      · have hb : (n' == m) = false := by simpa using hm
        simp [List.lookup_cons, hb] at z
        exact hs n' c' z
    · have hb : (k == NameKind.free) = false := by simpa using hk
      simp only [hb, Bool.false_eq_true, if_false] at z
      exact hs n' c' z
theorem lookup_relabel_free {env : Env} (hkf : env.scope.kind = .function) : ∀ {names : List (Str × NameKind)} {x : Str}, names.lookup x = some .free → env.kindOf x = some .cell →
    (names.map fun (n, k) => if (k == NameKind.free && env.scope.kind == .function && env.kindOf n == some .cell) then (n, NameKind.cell) else (n, k)).lookup x = some .cell
  | [], _, h, _ => by simp at h
  | (n, k) :: r, x, h, hc => by
    show List.lookup x ((if (k == NameKind.free && env.scope.kind == .function && env.kindOf n == some .cell) = true then (n, NameKind.cell) else (n, k)) :: _) = _
    cases hx : x == n with
    | true =>
      simp only [List.lookup_cons, hx] at h
      cases h
      have e : x = n := by simpa using hx
      subst e
      rw [hkf, hc]
      simp [List.lookup_cons]
    | false =>
      simp only [List.lookup_cons, hx] at h
      have ih := lookup_relabel_free hkf h hc
      split
      · simp only [List.lookup_cons, hx]; exact ih
      · simp only [List.lookup_cons, hx]; exact ih
theorem lookup_relabel_back {env : Env} : ∀ {names : List (Str × NameKind)} {x : Str} {k' : NameKind}, (∀ y ∈ names, y.2 ≠ .cell) → (k' = .cell ∨ k' = .free) →
    (names.map fun (n, k) => if (k == NameKind.free && env.scope.kind == .function && env.kindOf n == some .cell) then (n, NameKind.cell) else (n, k)).lookup x = some k' → (x, NameKind.free) ∈ names
  | [], _, _, _, _, h => by simp at h
  | (n, k) :: r, x, k', hn, hk', h => by
    have h' : List.lookup x ((if (k == NameKind.free && env.scope.kind == .function && env.kindOf n == some .cell) = true then (n, NameKind.cell) else (n, k)) :: r.map _) = some k' := h
    cases hx : x == n with
    | true =>
      have e : x = n := by simpa using hx
      subst e
      by_cases hf : k = .free
      · subst hf; exact List.mem_cons_self
      · have hb : (k == NameKind.free) = false := by simpa using hf
        simp only [hb, Bool.false_and, Bool.false_eq_true, if_false, List.lookup_cons, hx] at h'
        cases h'
        rcases hk' with z | z
        · exact absurd z (hn (x, k) List.mem_cons_self)
        · exact absurd z hf
    | false =>
      have h2 : List.lookup x (r.map fun (n, k) => if (k == NameKind.free && env.scope.kind == .function && env.kindOf n == some .cell) then (n, NameKind.cell) else (n, k)) = some k' := by
        split at h'
        · simp only [List.lookup_cons, hx] at h'; exact h'
        · simp only [List.lookup_cons, hx] at h'; exact h'
      exact List.mem_cons_of_mem _ (lookup_relabel_back (fun y hy => hn y (List.mem_cons_of_mem _ hy)) hk' h2)

/-- the block of a comprehension in a def's body -/
theorem blk {X : Cx} {scope : Scope} {N : List Str} {nl : Nat} {ci : List Nat} (n0 : Nat) (hX : X.env.cells = cellsFrom n0 X.env.scope.names []) (hkf : X.env.scope.kind = .function) (hk : scope.kind = .function)
    (h : blkOk X.env.scope.names X.N scope.names N nl ci = true) : Blk X scope (clOf scope.names X.env.cells []) N nl ci := by
  unfold blkOk at h
  rw [Bool.and_eq_true, Bool.and_eq_true] at h
  obtain ⟨⟨h1, h2⟩, h3⟩ := h
  rw [List.all_eq_true] at h1
  have h1' : ∀ y ∈ scope.names, y.2 ≠ .cell ∧ (y.2 = .local → scope.names.lookup y.1 = some .local) ∧ (y.2 = .free → X.env.scope.names.lookup y.1 = some .cell ∧ scope.names.lookup y.1 = some .free) := fun y hy => by
    have q := h1 y hy
    simp only [Bool.and_eq_true, Bool.or_eq_true, bne_iff_ne, ne_eq, beq_iff_eq] at q
    obtain ⟨⟨q1, q2⟩, q3⟩ := q
    exact ⟨q1, fun e => q2.resolve_left fun z => z e, fun e => q3.resolve_left fun z => z e⟩
  have hcs : ∀ y ∈ scope.names, y.2 = .free → ∃ c, X.env.cells.lookup y.1 = some c := fun y hy e => by
    rw [hX]
    exact cell_has ((h1' y hy).2.2 e).1
  refine ⟨hk, fun y hy => (h1' y hy).2.1, fun y hy => (h1' y hy).1, ?_, ?_, ?_, by simpa using h2, ?_⟩
  · unfold closureFor
    refine (congrArg (fun m : Sem (List (Str × Addr)) => m >>= fun cs => pure cs) (closureFor_go scope.names [] hcs)).trans ?_
    rfl
  · exact clOf_sub scope.names [] hcs fun n c z => by cases z
  · intro n hn
    have hm : (n, NameKind.free) ∈ scope.names := by
      rcases hn with z | z
      · exact lookup_relabel_back (fun y hy => (h1' y hy).1) (.inl rfl) z
      · exact lookup_relabel_back (fun y hy => (h1' y hy).1) (.inr rfl) z
    obtain ⟨c, e⟩ := hcs _ hm rfl
    exact ⟨c, (clOf_lookup scope.names [] n hcs (.inl hm) fun c z => by cases z).trans e⟩
  · intro j i hj
    have hjl : j < ci.length := (List.getElem?_eq_some_iff.mp hj).1
    rw [List.all_eq_true] at h3
    have q := h3 j (List.mem_range.mpr hjl)
    rw [hj] at q
    cases e : N[nl + j]? with
    | none => rw [e] at q; cases q
    | some n =>
      rw [e] at q
      simp only [Bool.and_eq_true, beq_iff_eq] at q
      obtain ⟨⟨q1, q2⟩, q3⟩ := q
      refine ⟨n, rfl, q1, .inl q2, .inl (lookup_relabel_free hkf q3 q2), ?_⟩
      exact clOf_lookup scope.names [] n hcs (.inl (PySem.mem_of_lookup q3)) fun c z => by cases z

/-! ## a def of the text, by its promise -/
structure Fc (P : Program) (w : World) (K : PySem.W.Frag) (mg : Str → Option Value) (base : Heap) (x : Str) (k : Nat) (ps : List Str) (sp : Sp) : Prop where
  ex : ∃ f fd, mg x = some (.ref f) ∧ PySem.W.keepIn K (.ref f) = true ∧ Binds K fd ps [] ∧ FnOk P w K mg base CX0 k f fd ps sp
theorem pe_f {X : Cx} {x : Str} {k k' : Nat} {ps : List Str} {sp : Sp} {e : Expr} {es : List Expr} {t : TA} {p pos : Pos} (F : Fc X.prog X.w X.K X.mg X.base x k ps sp) (hr : Room k' X.A) (ha : PA X (e :: es) t) (hk : k ≤ k' := by decide) (hg : Gl X x := by rfl)
    (hdb : (x == ("__debug__" : Str)) = false := by decide) (he : starEach (e :: es) X.env = (false, eval e X.env) :: starEach es X.env := by rfl) (hpl : (backTo pos (starEach es X.env)).any (·.1) = false := by rfl) :
    PE X (.Call (.Name x p) (e :: es) [] pos) (tCall sp [] E0 t) := by
  obtain ⟨f, fd, hm, kp, b, G⟩ := F.ex
  exact pe_call G (hr.mono hk) hg hm kp b .nil pass0 ha hdb he hpl
theorem pe_ty {X : Cx} {x : Str} {n : String} {pos : Pos} (hg : Gl X x) (hm : X.mg x = none) (hv : bootBuiltins x = some (.type n)) (hn : x ≠ "__name__" := by decide) (hd : (x == ("__debug__" : Str)) = false := by decide) : PE X (.Name x pos) (tC (.ty n)) := pe_bltn hg hm hv rfl hn hd
theorem pe_gint {X : Cx} {x : Str} {i : Int} {t : Tok} {pos : Pos} (hg : Gl X x) (hm : X.mg x = some (.int i t)) (hd : (x == ("__debug__" : Str)) = false := by decide) : PE X (.Name x pos) (tC (.int i)) := pe_glob hg hm ⟨t, rfl⟩ hd
theorem bt_isinstance : bootBuiltins "isinstance" = some (.builtin "isinstance") := by decide +kernel
theorem bt_all : bootBuiltins "all" = some (.builtin "all") := by decide +kernel
theorem bt_len : bootBuiltins "len" = some (.builtin "len") := by decide +kernel
theorem bt_max : bootBuiltins "max" = some (.builtin "max") := by decide +kernel
theorem bt_int : bootBuiltins "int" = some (.type "int") := by decide +kernel
theorem bt_str : bootBuiltins "str" = some (.type "str") := by decide +kernel
theorem bt_bool : bootBuiltins "bool" = some (.type "bool") := by decide +kernel
theorem bt_list : bootBuiltins "list" = some (.type "list") := by decide +kernel
theorem bt_dict : bootBuiltins "dict" = some (.type "dict") := by decide +kernel

/-! ## which of the built-in types a value is of -/
inductive BTy (K : PySem.W.Frag) (H : Hp) : V → String → Prop where
  | non : BTy K H .non "NoneType"
  | bl (x : Bool) : BTy K H (.bl x) "bool"
  | int (i : Int) : BTy K H (.int i) "int"
  | str (x : Str) : BTy K H (.str x) "str"
  | lst {a : Addr} {xs : List V} (e : H a = some (.lst xs)) : BTy K H (.ref a) "list"
  | tup {a : Addr} {xs : List V} (e : H a = some (.tup xs)) : BTy K H (.ref a) "tuple"
  | dK {a : Addr} {kvs : List (Key × V)} (e : H a = some (.dK kvs)) : BTy K H (.ref a) "dict"
theorem BTy.ty {K : PySem.W.Frag} {H : Hp} {x : V} {n : String} (b : BTy K H x n) : TyOf K H x (.type n) := by
  cases b with
  | non => exact .non
  | bl => exact .bl _
  | int => exact .int _
  | str => exact .str _
  | lst e => exact .lst e
  | tup e => exact .tup e
  | dK e => exact .dK e
def isB (n c : String) : Bool := n == c || (n == "bool" && c == "int")
theorem kit_b {K : PySem.W.Frag} {H : Hp} {x : V} {n : String} (b : BTy K H x n) (c : String) (hc : c = "int" ∨ c = "bool" ∨ c = "str") : PySem.W.kitOne K (.type n) (.type c) = some (isB n c) := by
  cases b <;> rcases hc with rfl | rfl | rfl <;> kernel_rfl
end L2

set_option Elab.async false
set_option linter.all false
set_option maxRecDepth 100000
namespace L2
open PySem PySem.Spec PyProof.Rows

/-! ## comprehensions over a range, a list, a text: the items by an invariant -/
theorem comp_name {J : It} {te : TE} {σ0 : St} {fin : List V → Hp → Prop} {H1 : Hp} (n : Nat) (Ok : Nat → List V → Hp → Prop) (hn : n ≤ sizeLine) (h00 : σ0[0]? = some none) (h0 : Ok 0 [] H1) (hlen : ∀ i ys H, Ok i ys H → ys.length ≤ i)
    (hst : ∀ ys H, Ok n ys H → J.stop n H ∧ fin ys H) (hstep : ∀ i ys H, i < n → Ok i ys H → J.go i H ∧ ∀ x H', J.yld i H x H' → ∀ R : VK, (∀ y H4, Ok (i + 1) (ys ++ [y]) H4 → R y H4) → te (σ0.set 0 (some x)) H' R) : tCompW J (gName 0) tAll te σ0 fin H1 := by
  refine ⟨fun i m ys H => m = n - i ∧ i ≤ n ∧ Ok i ys H, ⟨n, by simp, Nat.zero_le _, h0⟩, ?_⟩
  rintro i m ys H ⟨rfl, hi, ok⟩
  by_cases hlt : i < n
  · obtain ⟨go, st⟩ := hstep i ys H hlt ok
    refine .inr ⟨go, fun x H' y => ⟨⟨by simp, fun j v hv => ?_⟩, ?_⟩⟩
    · cases j with
      | zero => rw [h00] at hv; cases hv
      | succ j => rw [List.getElem?_set_ne (by omega)]; exact hv
    · unfold tAll
      dsimp only
      rw [if_pos rfl]
      exact st x H' y _ fun z H4 ok4 => ⟨by have := hlen i ys H ok; omega, n - (i + 1), by omega, rfl, hlt, ok4⟩
  · have e : i = n := by omega
    subst e
    exact .inl (hst ys H ok)
theorem comp_range {lo : Int} {n : Nat} {te : TE} {σ0 : St} {fin : List V → Hp → Prop} {H1 : Hp} (Ok : Nat → List V → Hp → Prop) (hn : n ≤ sizeLine) (h00 : σ0[0]? = some none) (h0 : Ok 0 [] H1) (hlen : ∀ i ys H, Ok i ys H → ys.length ≤ i) (hfin : ∀ ys H, Ok n ys H → fin ys H)
    (hstep : ∀ i ys H, i < n → Ok i ys H → ∀ R : VK, (∀ y H4, Ok (i + 1) (ys ++ [y]) H4 → R y H4) → te (σ0.set 0 (some (.int (lo + i)))) H R) : tCompW (Itr lo n) (gName 0) tAll te σ0 fin H1 :=
  comp_name n Ok hn h00 h0 hlen (fun ys H ok => ⟨Nat.le_refl _, hfin ys H ok⟩) fun i ys H hi ok => ⟨hi, fun x H' y => by
    obtain ⟨e1, e2⟩ := y
    subst e1 e2
    exact hstep i ys _ hi ok⟩

/-! ## two lists of flat values that are one -/
section
variable {X : Cx}
theorem eqV_self {x : V} (h : flatV x = true) : eqV x x = true := by
  cases x <;> first | rfl | (simp [eqV]; done) | exact absurd h Bool.false_ne_true
theorem all_true (n : Nat) : (List.range n).all (fun _ => true) = true := by simp
end

/-! ## defs with defaults, methods, classes -/
structure FunV (K : PySem.W.Frag) (x qual : Str) (st : Stmt) (f : Addr) (fd : FuncData) : Prop where
  ex : ∃ (oc : Value) (od : Option Addr) (dV kV doc pm : Value) (an : Option Addr) (cdv ct : Value) (osl : Array (Option Value)),
    fd = PySem.W.fnOf x qual (defArgs st) (defBody st) (defScope st) dV kV doc pm an cdv ct ∧ K.lookup f = some ⟨oc, od, .func fd, osl⟩ ∧ PySem.W.codeIn K cdv qual = true
  kp : PySem.W.keepIn K (.ref f) = true
section
variable {P : Program} {w : World} {K : PySem.W.Frag} {mg : Str → Option Value} {base : Heap}
theorem FunV.ok {x qual : Str} {st : Stmt} {f : Addr} {fd : FuncData} {N ps : List Str} {k : Nat} {sp : Sp} (F : FunV K x qual st f fd) (S : FnScope N ps (defScope st)) (len : ∀ vs H Q E, sp vs H Q E → vs.length = ps.length)
    (hbody : ∀ (cdv : Value) (A : Around) (outer : List Env) (s : Shared) (H : Hp) (vs : List V) (Q : VK) (E : XK), Room k (A.deeper (envOfC qual (defScope st) s.heap.objs.size f cdv)) → sp vs H Q E →
      ∃ t, PSs (cxOf CX0 P w K mg base N qual (defScope st) f cdv A outer s H E).nox (defBody st) t ∧ t { nx := fun _ H' => Q .non H', rt := Q } (start N vs) H) : FnOk P w K mg base CX0 (k + 1) f fd ps sp := by
  obtain ⟨oc, od, dV, kV, doc, pm, an, cdv, ct, osl, rfl, lk, hcd⟩ := F.ex
  refine fn_of lk hcd S len fun A outer s H vs Q E hr h => ?_
  obtain ⟨t, h1, h2⟩ := hbody cdv A outer s H vs Q E hr h
  exact ⟨t, PSs.nox h1, h2⟩
theorem funV_mk {x qual : Str} {st : Stmt} {f : Addr} {oc : Value} {od an : Option Addr} {osl : Array (Option Value)} {dV kV doc pm cdv ct : Value} (l : K.lookup f = some ⟨oc, od, .func (PySem.W.fnOf x qual (defArgs st) (defBody st) (defScope st) dV kV doc pm an cdv ct), osl⟩) (c : PySem.W.codeIn K cdv qual = true)
    (k : PySem.W.keepIn K (.ref f) = true) : FunV K x qual st f (PySem.W.fnOf x qual (defArgs st) (defBody st) (defScope st) dV kV doc pm an cdv ct) := ⟨⟨oc, od, dV, kV, doc, pm, an, cdv, ct, osl, rfl, l, c⟩, k⟩

/-- a method of a class by its promise -/
structure Mc (P : Program) (w : World) (K : PySem.W.Frag) (mg : Str → Option Value) (base : Heap) (C : Addr) (nm : Str) (k : Nat) (sp : Sp) : Prop where
  ex : ∃ f fd ps, Cls K C ∧ Meth K C nm f ∧ Binds K fd ps [] ∧ FnOk P w K mg base CX0 k f fd ps sp
/-- a class by the promise of its __init__, called with all but the defaults dvs -/
structure Kc (P : Program) (w : World) (K : PySem.W.Frag) (mg : Str → Option Value) (base : Heap) (x : Str) (C : Addr) (k : Nat) (dvs : List V) (sp : Sp) : Prop where
  ex : ∃ f fd ps ds, mg x = some (.ref C) ∧ Mk K C f ∧ Vals dvs ds ∧ Binds K fd ps ds ∧ FnOk P w K mg base CX0 k f fd ps sp
end
section
variable {X : Cx} {k k' : Nat} {sp : Sp} {x m : Str} {p pos apos : Pos} {e o : Expr} {es : List Expr} {ta : TE} {t : TA} {C : Addr} {dvs : List V}
def tMD (M : Addr → Sp → Prop) (m : Str) (ta : TE) (t : TA) : TE := fun σ H Q => ta σ H fun x H1 => ∃ a C dx fs sp, x = .ref a ∧ H1 a = some (.ins C dx fs) ∧ fs.lookup m = none ∧ M C sp ∧ t σ H1 fun vs H2 => sp (x :: vs) H2 Q E0
theorem pe_md (k : Nat) {pl : Sem Bool} (hr : Room k' X.A) (ho : PE X o ta) (ha : PA X (e :: es) t) (hk : k ≤ k' := by decide)
    (hst : starEach (e :: es) X.env = (false, eval e X.env) :: starEach es X.env := by rfl) (hpl : (backTo pos (starEach es X.env)).any (·.1) = false := by rfl)
    (ht : eval (.Call (.Attribute o m apos) (e :: es) [] pos) X.env = (do
      let ov ← eval o X.env
      standAt apos.atName
      let (f, first) ← holding [ov] (getMethod ov m pl)
      callWith pos f first (backTo pos (starEach (e :: es) X.env)) (backToKw pos (keywordEach [] X.env))) := by rfl) :
    PE X (.Call (.Attribute o m apos) (e :: es) [] pos) (tMD (fun C sp => Mc X.prog X.w X.K X.mg X.base C m k sp) m ta t) := by
  intro pins s σ H Q I h
  refine PySem.W.methodCall_KW (pl := pl) (thn (ho pins s σ H _ I h) fun u s1 ⟨x, H1, I1, rx, a, C, dx, fs, sp, ex, ea, l, M, q⟩ => ?_) ht
  subst ex
  obtain rfl : u = Value.ref a := rx
  obtain ⟨f, fd, ps, c, hm, hb, F⟩ := M.ex
  refine getmeth_ok I1 ea c hm l ?_
  refine PySem.W.callWith_K (first := [.ref a]) (h₀ := X.base) I.ok.mod.kin hm.kp (thn (ha pos pins s1 σ H1 _ I1 q) fun us s2 ⟨vs, H2, I2, r, q2⟩ => ⟨I2.kIn, ?_⟩) hst hpl
  exact run_fn (us := .ref a :: us) (vs := .ref a :: vs) (dvs := []) F (hr.mono hk) hb .nil pass0 I2 (.cons rfl r) (by rw [List.append_nil]; exact q2)
theorem pe_md0 (k : Nat) {pl : Sem Bool} (hr : Room k' X.A) (ho : PE X o ta) (hk : k ≤ k' := by decide)
    (ht : eval (.Call (.Attribute o m apos) [] [] pos) X.env = (do
      let ov ← eval o X.env
      standAt apos.atName
      let (f, first) ← holding [ov] (getMethod ov m pl)
      callWith pos f first (backTo pos (starEach [] X.env)) (backToKw pos (keywordEach [] X.env))) := by rfl) :
    PE X (.Call (.Attribute o m apos) [] [] pos) (tMD (fun C sp => Mc X.prog X.w X.K X.mg X.base C m k sp) m ta tNil) := by
  intro pins s σ H Q I h
  refine PySem.W.methodCall_KW (pl := pl) (thn (ho pins s σ H _ I h) fun u s1 ⟨x, H1, I1, rx, a, C, dx, fs, sp, ex, ea, l, M, q⟩ => ?_) ht
  subst ex
  obtain rfl : u = Value.ref a := rx
  obtain ⟨f, fd, ps, c, hm, hb, F⟩ := M.ex
  refine getmeth_ok I1 ea c hm l ?_
  exact PySem.W.callWith_K0 (first := [.ref a]) I1.kIn hm.kp (run_fn (us := [.ref a]) (vs := [.ref a]) (dvs := []) F (hr.mono hk) hb .nil pass0 I1 (.cons rfl .nil) q)
theorem pe_mk (F : Kc X.prog X.w X.K X.mg X.base x C k dvs sp) (hr : Room k' X.A) (ha : PA X (e :: es) t) (hk : k + 1 ≤ k' := by decide) (hg : Gl X x := by rfl)
    (hdb : (x == ("__debug__" : Str)) = false := by decide) (he : starEach (e :: es) X.env = (false, eval e X.env) :: starEach es X.env := by rfl) (hpl : (backTo pos (starEach es X.env)).any (·.1) = false := by rfl) :
    PE X (.Call (.Name x p) (e :: es) [] pos) (tMake C sp dvs E0 t) := by
  obtain ⟨f, fd, ps, ds, hm, M, hd, hb, G⟩ := F.ex
  exact pe_make M G (hr.mono hk) hg hm hb hd pass0 ha hdb he hpl
end
end L2

set_option Elab.async false
set_option linter.all false
set_option maxRecDepth 100000
namespace L2
open PySem PySem.Spec PyProof.Rows

/-! ## readings by name, so that a rule finds its place by its head -/
def rAddS : R2 := fun x y H Q => ∃ i j, x = .str i ∧ y = .str j ∧ i.length + j.length ≤ sizeLine ∧ Q (.str (i ++ j)) H
def rIsN : R2 := fun x y H Q => y = .non ∧ Q (.bl (decide (x = .non))) H
def rNotN : R2 := fun x y H Q => y = .non ∧ Q (.bl (!decide (x = .non))) H
def rLeS : R2 := fun x y H Q => ∃ i j, x = .str i ∧ y = .str j ∧ Q (.bl (!decide (j.cps.toList < i.cps.toList))) H
def rIsi (K : PySem.W.Frag) : List V → Hp → VK → Prop := fun xs H Q => ∃ x c t u b, xs = [x, c] ∧ TyOf K H x t ∧ RelV c u ∧ PySem.W.kitOne K t u = some b ∧ Q (.bl b) H
def rAll (K : PySem.W.Frag) : List V → Hp → VK → Prop := fun xs H Q => ∃ (p : Addr) (bs : List Bool), xs = [.ref p] ∧ SqL K H p (bs.map V.bl) ∧ Q (.bl (bs.all id)) H
def rLenS : List V → Hp → VK → Prop := fun xs H Q => ∃ z, xs = [.str z] ∧ z.length ≤ sizeLine ∧ Q (.int z.length) H
def rLenL (K : PySem.W.Frag) : List V → Hp → VK → Prop := fun xs H Q => ∃ p ys, xs = [.ref p] ∧ (SqL K H p ys ∨ SqT K H p ys) ∧ Q (.int ys.length) H
def rMax2 : List V → Hp → VK → Prop := fun xs H Q => ∃ i j, xs = [.int i, .int j] ∧ Q (.int (if j > i then j else i)) H
def rListOf (K : PySem.W.Frag) : List V → Hp → VK → Prop := fun xs H Q => ∃ p ys, xs = [.ref p] ∧ (SqL K H p ys ∨ SqT K H p ys) ∧ ∀ l, H l = none → Q (.ref l) (upd H l (.lst ys))
section
variable {X : Cx}
theorem op_addS : OpR X (binaryOp .Add) rAddS := op_add_str
theorem op_isn : OpR X (compareOp .Is) rIsN := op_isN
theorem op_notn : OpR X (compareOp .IsNot) rNotN := op_notN
theorem op_leS : OpR X (compareOp .LtE) rLeS := op_le_str
theorem call_isi : CallR X (.builtin "isinstance") (rIsi X.K) := call_isinst
theorem call_all (hc : X.calm = true) : CallR X (.builtin "all") (rAll X.K) := call_all_bools hc
theorem call_lenS : CallR X (.builtin "len") rLenS := call_len_str
theorem call_lenL : CallR X (.builtin "len") (rLenL X.K) := call_len_seq
theorem call_maxI (hc : X.calm = true) : CallR X (.builtin "max") rMax2 := call_max2 hc
theorem call_listL : CallR X (.type "list") (rListOf X.K) := call_list_of
/-- i ** j, both written -/
theorem pe_powc {i j : Int} (n : Int) {k1 k2 p1 p2 pos} (h : i ^ j.toNat = n) (c : CPow i j) : PE X (.BinOp (.Constant (.int i) k1 p1) .Pow (.Constant (.int j) k2 p2) pos) (tC (.int n)) := by
  subst h
  intro pins s σ H Q I q
  exact pe_op op_pow pe_int pe_int pins s σ H Q I ⟨i, j, rfl, rfl, c, q⟩
end

/-! ## what is wanted behind, by name -/
def BoolP (P : Bool → Hp → Prop) : VK := fun x H => ∃ k, x = .bl k ∧ P k H
def IntP (O : Option Int → Hp → Prop) : VK := fun x H => ∃ i, x = .int i ∧ O (some i) H
def NewL (Q : VK) : List V → Hp → Prop := fun xs H => xs.length ≤ sizeLine ∧ ∀ p, H p = none → Q (.ref p) (upd H p (.lst xs))
def NewT (Q : VK) : List V → Hp → Prop := fun xs H => xs.length ≤ sizeLine ∧ ∀ p, H p = none → Q (.ref p) (upd H p (.tup xs))
def NewF (Q : VK) : List V → Hp → Prop := fun ys H => ∀ p, H p = none → Q (.ref p) (upd H p (.lst ys))
def FldP (K : PySem.W.Frag) (f : Str) (Q : VK) : VK := fun x H => ∃ a C dx fs v, x = .ref a ∧ H a = some (.ins C dx fs) ∧ Cls K C ∧ NoAttr K C f ∧ fs.lookup f = some v ∧ Q v H
def SFldP (K : PySem.W.Frag) (f : Str) (y : V) (q : Hp → Prop) : VK := fun x H => ∃ a C dx fs, x = .ref a ∧ H a = some (.ins C dx fs) ∧ Cls K C ∧ NoAttr K C f ∧ fs.length < 1000 ∧ q (upd H a (.ins C dx (putF f y fs)))
def MdP (M : Addr → Sp → Prop) (m : Str) (t : TA) (σ : St) (Q : VK) : VK := fun x H => ∃ a C dx fs sp, x = .ref a ∧ H a = some (.ins C dx fs) ∧ fs.lookup m = none ∧ M C sp ∧ t σ H fun vs H2 => sp (x :: vs) H2 Q E0
def MakeP (C : Addr) (sp : Sp) (dvs : List V) (E : XK) (Q : VK) : List V → Hp → Prop := fun vs H1 => ∀ x dx, H1 x = none → H1 dx = none → dx ≠ x →
  sp (.ref x :: (vs ++ dvs)) (upd (upd H1 dx (.own x)) x (.ins C dx [])) (fun v H2 => v = .non ∧ Q (.ref x) H2) E
def BmP (K : PySem.W.Frag) (T : String) (r : V → List V → Hp → VK → Prop) (t : TA) (σ : St) (Q : VK) : VK := fun x H1 => tyV K T x H1 ∧ t σ H1 fun xs H2 => r x xs H2 Q
def ItLP (K : PySem.W.Frag) (R : It → Hp → Prop) : VK := fun x H1 => ∃ a, x = .ref a ∧ (∃ xs, SqL K H1 a xs) ∧ R (Itl K a) H1
def It1P (R : It → Hp → Prop) : List V → Hp → Prop := fun vs H1 => ∃ j : Int, vs = [.int j] ∧ -(2 ^ 62) ≤ j ∧ j < 2 ^ 62 ∧ R (Itr 0 j.toNat) H1
def It2P (R : It → Hp → Prop) : List V → Hp → Prop := fun vs H1 => ∃ i j : Int, vs = [.int i, .int j] ∧ (-(2 ^ 62) ≤ i ∧ i < 2 ^ 62 ∧ -(2 ^ 62) ≤ j ∧ j < 2 ^ 62) ∧ R (Itr i (j - i).toNat) H1

/-! ## rules: what must be shown of a reading -/
section
variable {nx bk ct : St → Hp → Prop} {rt : VK} {σ : St} {H : Hp} {Q : VK} {t u : TS} {te ta tb tc : TE} {g : TG} {c d : TT} {v : V} {K : PySem.W.Frag} {E : XK}
-- statements
theorem rd_seq (h : t ⟨u ⟨nx, rt, bk, ct⟩, rt, bk, ct⟩ σ H) : tSeq t u ⟨nx, rt, bk, ct⟩ σ H := h
theorem rd_seqIf {v : TS} (h : tSeq (tIfS c t u) v ⟨nx, rt, bk, ct⟩ σ H) : tSeq (tIfS c t u) v ⟨nx, rt, bk, ct⟩ σ H := h
theorem rd_next (h : nx σ H) : tNext ⟨nx, rt, bk, ct⟩ σ H := h
theorem rd_asg (h : te σ H fun x H1 => g x σ H1 nx) : tAsg te g ⟨nx, rt, bk, ct⟩ σ H := h
theorem rd_ret (h : te σ H rt) : tRet te ⟨nx, rt, bk, ct⟩ σ H := h
theorem rd_drop (h : te σ H fun _ H1 => nx σ H1) : tDrop te ⟨nx, rt, bk, ct⟩ σ H := h
theorem rd_if (h : c σ H fun b H1 => if b = true then t ⟨nx, rt, bk, ct⟩ σ H1 else u ⟨nx, rt, bk, ct⟩ σ H1) : tIfS c t u ⟨nx, rt, bk, ct⟩ σ H := h
/-- what a loop wants -/
def ForP (J : It) (g : TG) (tb : TS) (D : Ends) (σ : St) (H : Hp) : Prop :=
  ∃ W : Nat → Nat → St → Hp → Prop, (∃ m, W 0 m σ H) ∧ ∀ i m σ H, W i m σ H →
    (J.stop i H ∧ D.nx σ H) ∨ (J.go i H ∧ ∃ N : St → Hp → Prop, (∀ σ' H', N σ' H' → ∃ m', m' < m ∧ W (i + 1) m' σ' H') ∧ ∀ x H', J.yld i H x H' → g x σ H' fun σ2 H2 => tb { D with nx := N, ct := N, bk := D.nx } σ2 H2)
theorem rd_for {wi : TI} {tb : TS} (h : wi σ H fun J H1 => ForP J g tb ⟨nx, rt, bk, ct⟩ σ H1) : tFor wi g tb ⟨nx, rt, bk, ct⟩ σ H := h
-- names
theorem rd_v0 {l : St} (h : Q v H) : tVar 0 (some v :: l) H Q := ⟨v, rfl, h⟩
theorem rd_v1 {a0} {l : St} (h : Q v H) : tVar 1 (a0 :: some v :: l) H Q := ⟨v, rfl, h⟩
theorem rd_v2 {a0 a1} {l : St} (h : Q v H) : tVar 2 (a0 :: a1 :: some v :: l) H Q := ⟨v, rfl, h⟩
theorem rd_v3 {a0 a1 a2} {l : St} (h : Q v H) : tVar 3 (a0 :: a1 :: a2 :: some v :: l) H Q := ⟨v, rfl, h⟩
theorem rd_v4 {a0 a1 a2 a3} {l : St} (h : Q v H) : tVar 4 (a0 :: a1 :: a2 :: a3 :: some v :: l) H Q := ⟨v, rfl, h⟩
theorem rd_v5 {a0 a1 a2 a3 a4} {l : St} (h : Q v H) : tVar 5 (a0 :: a1 :: a2 :: a3 :: a4 :: some v :: l) H Q := ⟨v, rfl, h⟩
theorem rd_v6 {a0 a1 a2 a3 a4 a5} {l : St} (h : Q v H) : tVar 6 (a0 :: a1 :: a2 :: a3 :: a4 :: a5 :: some v :: l) H Q := ⟨v, rfl, h⟩
theorem rd_v7 {a0 a1 a2 a3 a4 a5 a6} {l : St} (h : Q v H) : tVar 7 (a0 :: a1 :: a2 :: a3 :: a4 :: a5 :: a6 :: some v :: l) H Q := ⟨v, rfl, h⟩
theorem rd_v8 {a0 a1 a2 a3 a4 a5 a6 a7} {l : St} (h : Q v H) : tVar 8 (a0 :: a1 :: a2 :: a3 :: a4 :: a5 :: a6 :: a7 :: some v :: l) H Q := ⟨v, rfl, h⟩
theorem rd_v9 {a0 a1 a2 a3 a4 a5 a6 a7 a8} {l : St} (h : Q v H) : tVar 9 (a0 :: a1 :: a2 :: a3 :: a4 :: a5 :: a6 :: a7 :: a8 :: some v :: l) H Q := ⟨v, rfl, h⟩
theorem rd_v10 {a0 a1 a2 a3 a4 a5 a6 a7 a8 a9} {l : St} (h : Q v H) : tVar 10 (a0 :: a1 :: a2 :: a3 :: a4 :: a5 :: a6 :: a7 :: a8 :: a9 :: some v :: l) H Q := ⟨v, rfl, h⟩
theorem rd_v11 {a0 a1 a2 a3 a4 a5 a6 a7 a8 a9 a10} {l : St} (h : Q v H) : tVar 11 (a0 :: a1 :: a2 :: a3 :: a4 :: a5 :: a6 :: a7 :: a8 :: a9 :: a10 :: some v :: l) H Q := ⟨v, rfl, h⟩
theorem rd_v12 {a0 a1 a2 a3 a4 a5 a6 a7 a8 a9 a10 a11} {l : St} (h : Q v H) : tVar 12 (a0 :: a1 :: a2 :: a3 :: a4 :: a5 :: a6 :: a7 :: a8 :: a9 :: a10 :: a11 :: some v :: l) H Q := ⟨v, rfl, h⟩
variable {q : St → Hp → Prop}
theorem rd_s1 {a0 a} {l : St} (h : q (a0 :: some v :: l) H) : gName 1 v (a0 :: a :: l) H q := h
theorem rd_s2 {a0 a1 a} {l : St} (h : q (a0 :: a1 :: some v :: l) H) : gName 2 v (a0 :: a1 :: a :: l) H q := h
theorem rd_s3 {a0 a1 a2 a} {l : St} (h : q (a0 :: a1 :: a2 :: some v :: l) H) : gName 3 v (a0 :: a1 :: a2 :: a :: l) H q := h
theorem rd_s4 {a0 a1 a2 a3 a} {l : St} (h : q (a0 :: a1 :: a2 :: a3 :: some v :: l) H) : gName 4 v (a0 :: a1 :: a2 :: a3 :: a :: l) H q := h
theorem rd_s5 {a0 a1 a2 a3 a4 a} {l : St} (h : q (a0 :: a1 :: a2 :: a3 :: a4 :: some v :: l) H) : gName 5 v (a0 :: a1 :: a2 :: a3 :: a4 :: a :: l) H q := h
theorem rd_s6 {a0 a1 a2 a3 a4 a5 a} {l : St} (h : q (a0 :: a1 :: a2 :: a3 :: a4 :: a5 :: some v :: l) H) : gName 6 v (a0 :: a1 :: a2 :: a3 :: a4 :: a5 :: a :: l) H q := h
theorem rd_s7 {a0 a1 a2 a3 a4 a5 a6 a} {l : St} (h : q (a0 :: a1 :: a2 :: a3 :: a4 :: a5 :: a6 :: some v :: l) H) : gName 7 v (a0 :: a1 :: a2 :: a3 :: a4 :: a5 :: a6 :: a :: l) H q := h
theorem rd_s8 {a0 a1 a2 a3 a4 a5 a6 a7 a} {l : St} (h : q (a0 :: a1 :: a2 :: a3 :: a4 :: a5 :: a6 :: a7 :: some v :: l) H) : gName 8 v (a0 :: a1 :: a2 :: a3 :: a4 :: a5 :: a6 :: a7 :: a :: l) H q := h
theorem rd_s9 {a0 a1 a2 a3 a4 a5 a6 a7 a8 a} {l : St} (h : q (a0 :: a1 :: a2 :: a3 :: a4 :: a5 :: a6 :: a7 :: a8 :: some v :: l) H) : gName 9 v (a0 :: a1 :: a2 :: a3 :: a4 :: a5 :: a6 :: a7 :: a8 :: a :: l) H q := h
theorem rd_s10 {a0 a1 a2 a3 a4 a5 a6 a7 a8 a9 a} {l : St} (h : q (a0 :: a1 :: a2 :: a3 :: a4 :: a5 :: a6 :: a7 :: a8 :: a9 :: some v :: l) H) : gName 10 v (a0 :: a1 :: a2 :: a3 :: a4 :: a5 :: a6 :: a7 :: a8 :: a9 :: a :: l) H q := h
theorem rd_s11 {a0 a1 a2 a3 a4 a5 a6 a7 a8 a9 a10 a} {l : St} (h : q (a0 :: a1 :: a2 :: a3 :: a4 :: a5 :: a6 :: a7 :: a8 :: a9 :: a10 :: some v :: l) H) : gName 11 v (a0 :: a1 :: a2 :: a3 :: a4 :: a5 :: a6 :: a7 :: a8 :: a9 :: a10 :: a :: l) H q := h
theorem rd_s12 {a0 a1 a2 a3 a4 a5 a6 a7 a8 a9 a10 a11 a} {l : St} (h : q (a0 :: a1 :: a2 :: a3 :: a4 :: a5 :: a6 :: a7 :: a8 :: a9 :: a10 :: a11 :: some v :: l) H) : gName 12 v (a0 :: a1 :: a2 :: a3 :: a4 :: a5 :: a6 :: a7 :: a8 :: a9 :: a10 :: a11 :: a :: l) H q := h
-- expressions
theorem rd_C (h : Q v H) : tC v σ H Q := h
theorem rd_op {r : R2} (h : ta σ H fun x H1 => tb σ H1 fun y H2 => r x y H2 Q) : tOp r ta tb σ H Q := h
theorem rd_un {r : V → Hp → VK → Prop} (h : ta σ H fun x H1 => r x H1 Q) : tUn r ta σ H Q := h
theorem rd_I0 {f : Int → Int → V} {i j : Int} (h : Q (f i j) H) : rI0 f (.int i) (.int j) H Q := ⟨i, j, rfl, rfl, h⟩
theorem rd_U {f : Int → V} {i : Int} (h : Q (f i) H) : rU f (.int i) H Q := ⟨i, rfl, h⟩
theorem rd_div {f : Int → Int → V} {i j : Int} (h0 : 0 < j) (h1 : j < 1073741824) (h : Q (f i j) H) : rI CDiv f (.int i) (.int j) H Q := ⟨i, j, rfl, rfl, ⟨h0, h1⟩, h⟩
theorem rd_mod {f : Int → Int → V} {i j : Int} (h0 : 0 < j) (h : Q (f i j) H) : rI (fun _ j => 0 < j) f (.int i) (.int j) H Q := ⟨i, j, rfl, rfl, h0, h⟩
theorem rd_mulL {f : Int → Int → V} {i j : Int} (h0 : -18446744073709551616 < i) (h1 : i < 18446744073709551616) (h : Q (f i j) H) : rI CMul f (.int i) (.int j) H Q := ⟨i, j, rfl, rfl, .inl ⟨by omega, by omega⟩, h⟩
theorem rd_mulR {f : Int → Int → V} {i j : Int} (h0 : -18446744073709551616 < j) (h1 : j < 18446744073709551616) (h : Q (f i j) H) : rI CMul f (.int i) (.int j) H Q := ⟨i, j, rfl, rfl, .inr ⟨by omega, by omega⟩, h⟩
theorem dec_i {i j : Int} : decide (V.int i = V.int j) = decide (i = j) := by simp
theorem dec_s {i j : Str} : decide (V.str i = V.str j) = decide (i = j) := by simp
theorem rd_eqI {i j : Int} (h : Q (.bl (decide (i = j))) H) : rEq (.int i) (.int j) H Q := ⟨rfl, by rw [dec_i]; exact h⟩
theorem rd_eqS {i j : Str} (h : Q (.bl (decide (i = j))) H) : rEq (.str i) (.str j) H Q := ⟨rfl, by rw [dec_s]; exact h⟩
theorem rd_isNV (h : Q (.bl (decide (v = .non))) H) : rIsN v .non H Q := ⟨rfl, h⟩
theorem rd_ntNN (h : Q (.bl false) H) : rNotN .non .non H Q := ⟨rfl, h⟩
theorem rd_ntNS {i : Str} (h : Q (.bl true) H) : rNotN (.str i) .non H Q := ⟨rfl, by rw [decide_eq_false (fun z => by cases z)]; exact h⟩
theorem rd_addS {i j : Str} (hl : i.length + j.length ≤ sizeLine) (h : Q (.str (i ++ j)) H) : rAddS (.str i) (.str j) H Q := ⟨i, j, rfl, rfl, hl, h⟩
theorem rd_call {sp : Sp} {t : TA} (h : t σ H fun vs H1 => sp vs H1 Q E) : tCall sp [] E t σ H Q := by
  unfold tCall
  simp only [List.append_nil]
  exact h
theorem rd_cb {r : List V → Hp → VK → Prop} {t : TA} (h : t σ H fun vs H1 => r vs H1 Q) : tCB r t σ H Q := h
theorem rd_lst {t : TA} (h : t σ H (NewL Q)) : tLst t σ H Q := h
theorem rd_tup {t : TA} (h : t σ H (NewT Q)) : tTup t σ H Q := h
theorem rd_new' {o : HO} {R : V → Hp → Prop} (h : ∀ p H', H p = none → Same H H' → H' p = some o → R (.ref p) H') : ∀ p, H p = none → R (.ref p) (upd H p o) :=
  fun p hp => h p _ hp (fun b u e => by rw [upd_ne (ne_of_none e hp)]; exact e) upd_same
theorem rd_newL {xs : List V} (hn : xs.length ≤ sizeLine) (h : ∀ p H', H p = none → Same H H' → H' p = some (.lst xs) → Q (.ref p) H') : NewL Q xs H := ⟨hn, rd_new' h⟩
theorem rd_newT {xs : List V} (hn : xs.length ≤ sizeLine) (h : ∀ p H', H p = none → Same H H' → H' p = some (.tup xs) → Q (.ref p) H') : NewT Q xs H := ⟨hn, rd_new' h⟩
theorem rd_newF {xs : List V} (h : ∀ p H', H p = none → Same H H' → H' p = some (.lst xs) → Q (.ref p) H') : NewF Q xs H := rd_new' h
theorem rd_fld {f : Str} (h : ta σ H (FldP K f Q)) : tFld K ta f σ H Q := h
theorem rd_fldV {a C dx : Addr} {fs : List (Str × V)} {f : Str} (e : H a = some (.ins C dx fs)) (cl : Cls K C) (na : NoAttr K C f) (l : fs.lookup f = some v) (h : Q v H) : FldP K f Q (.ref a) H := ⟨a, C, dx, fs, v, rfl, e, cl, na, l, h⟩
theorem rd_sfld {f : Str} (h : ta σ H fun y H1 => tb σ H1 (SFldP K f y (nx σ))) : sFld K tb ta f ⟨nx, rt, bk, ct⟩ σ H := h
theorem rd_sfldV {a C dx : Addr} {fs : List (Str × V)} {f : Str} {y : V} {w : Hp → Prop} (e : H a = some (.ins C dx fs)) (cl : Cls K C) (na : NoAttr K C f) (l : decide (fs.length < 1000) = true)
    (h : ∀ H', (∀ b o, H b = some o → b ≠ a → H' b = some o) → H' a = some (.ins C dx (putF f y fs)) → w H') : SFldP K f y w (.ref a) H :=
  ⟨a, C, dx, fs, rfl, e, cl, na, of_decide_eq_true l, h _ (fun b o q hb => by rw [upd_ne hb]; exact q) upd_same⟩
theorem rd_md {M : Addr → Sp → Prop} {m : Str} {t : TA} (h : ta σ H (MdP M m t σ Q)) : tMD M m ta t σ H Q := h
theorem rd_mdV {M : Addr → Sp → Prop} {m : Str} {t : TA} {a C dx : Addr} {fs : List (Str × V)} {sp : Sp} (e : H a = some (.ins C dx fs)) (l : fs.lookup m = none) (F : M C sp) (h : t σ H fun vs H2 => sp (.ref a :: vs) H2 Q E0) : MdP M m t σ Q (.ref a) H :=
  ⟨a, C, dx, fs, sp, rfl, e, l, F, h⟩
theorem rd_make {C : Addr} {sp : Sp} {dvs : List V} {t : TA} (h : t σ H (MakeP C sp dvs E Q)) : tMake C sp dvs E t σ H Q := h
/-- a new object by what its __init__ promises -/
theorem rd_makeV {C : Addr} {sp : Sp} {dvs vs : List V} {fs : List (Str × V)}
    (hsp : ∀ p dx H0 (Q' : VK), H0 p = some (.ins C dx []) → (∀ H', (∀ b o, H0 b = some o → b ≠ p → H' b = some o) → H' p = some (.ins C dx fs) → Q' .non H') → Same H H0 → sp (.ref p :: (vs ++ dvs)) H0 Q' E)
    (k : ∀ p dx H', H p = none → Same H H' → H' p = some (.ins C dx fs) → Q (.ref p) H') : MakeP C sp dvs E Q vs H := by
  intro x dx nx nd ne
  have s0 : Same H (upd (upd H dx (.own x)) x (.ins C dx [])) := fun b o e => by
    rw [upd_ne (ne_of_none e nx), upd_ne (ne_of_none e nd)]; exact e
  exact hsp x dx _ _ upd_same (fun H' sb e => ⟨rfl, k x dx H' nx (fun b o q => sb b o (s0 b o q) (ne_of_none q nx)) e⟩) s0
theorem rd_comp {wi : TI} {nl : Nat} {ci : List Nat} {ti : TT} (h : wi σ H fun J H1 => tCompW J g ti te (capSt nl ci σ) (NewF Q) H1) : tComp wi nl ci g ti te σ H Q := h
theorem rd_sl {r : V → Option Int → Option Int → Hp → VK → Prop} {tl th : TO} (h : te σ H fun x H1 => tl σ H1 fun l H2 => th σ H2 fun u H3 => r x l u H3 Q) : tSl r te tl th σ H Q := h
theorem rd_slS {z : Str} {lo hi : Option Int} (hz : z.length ≤ sizeLine) (h : (Txt.slice z lo hi).length ≤ z.length → Q (.str (Txt.slice z lo hi)) H) : rSlS (.str z) lo hi H Q := ⟨z, rfl, hz, h (Txt.slice_le _ _ _)⟩
theorem rd_slL {a : Addr} {xs : List V} {lo hi : Option Int} (e : SqL K H a xs) (h : ∀ p H', H p = none → Same H H' → H' p = some (.lst (cutV xs lo hi)) → Q (.ref p) H') : rSlL K (.ref a) lo hi H Q := ⟨a, xs, rfl, e, rd_new' h⟩
theorem rd_ixL {p : Addr} {xs : List V} {i : Int} (e : SqL K H p xs) (l : atI xs i = some v) (h : Q v H) : rIxL K (.ref p) (.int i) H Q := ⟨p, xs, i, v, rfl, rfl, e, l, h⟩
theorem rd_ix2i {p : Addr} {a b i : Int} (e : SqL K H p [.int a, .int b]) (h0 : 0 ≤ i) (h1 : i < 2) (h : ∀ v, (i = 0 ∧ v = a) ∨ (i = 1 ∧ v = b) → Q (.int v) H) : rIxL K (.ref p) (.int i) H Q := by
  have : i = 0 ∨ i = 1 := by omega
  rcases this with rfl | rfl
  · exact ⟨p, _, 0, _, rfl, rfl, e, rfl, h a (.inl ⟨rfl, rfl⟩)⟩
  · exact ⟨p, _, 1, _, rfl, rfl, e, rfl, h b (.inr ⟨rfl, rfl⟩)⟩
def cutI (ns : List Int) (lo hi : Option Int) : List Int := (ns.drop (HT.sIx ns.length 0 lo)).take (HT.sIx ns.length ns.length hi - HT.sIx ns.length 0 lo)
theorem cutV_ints (ns : List Int) (lo hi : Option Int) : cutV (ns.map V.int) lo hi = (cutI ns lo hi).map V.int := by
  unfold cutV cutI
  rw [List.length_map, List.map_take, List.map_drop]
theorem rd_slI {a : Addr} {ns : List Int} {lo hi : Option Int} (e : SqL K H a (ns.map V.int)) (h : ∀ p H', H p = none → Same H H' → H' p = some (.lst ((cutI ns lo hi).map V.int)) → Q (.ref p) H') : rSlL K (.ref a) lo hi H Q :=
  rd_slL e (by rw [cutV_ints]; exact h)
theorem rd_catL {l b : Addr} {xs zs : List V} (e : H l = some (.lst xs)) (e2 : H b = some (.lst zs)) (hn : xs.length + zs.length ≤ sizeLine) (h : ∀ p H', H p = none → Same H H' → H' p = some (.lst (xs ++ zs)) → Q (.ref p) H') : rCat (.ref l) (.ref b) H Q :=
  ⟨l, b, xs, zs, rfl, rfl, e, e2, hn, rd_new' h⟩
theorem rd_bm {T : String} {r : V → List V → Hp → VK → Prop} {to : TE} {t : TA} (h : to σ H (BmP K T r t σ Q)) : tBM K T r to t σ H Q := h
theorem rd_bmL {r : V → List V → Hp → VK → Prop} {t : TA} {p : Addr} {xs : List V} (e : SqL K H p xs) (h : t σ H fun xs H2 => r (.ref p) xs H2 Q) : BmP K "list" r t σ Q (.ref p) H := ⟨.inl ⟨rfl, xs, e⟩, h⟩
-- built-ins
/-- what isinstance asks of a class -/
structure ICls (K : PySem.W.Frag) (C : Addr) : Prop where
  cl : Cls K C
  ha : PySem.W.findIn K (.ref C) "__class__" = some (some (.builtin "object.__class__"))
  hn : PySem.W.specialIn K (.builtin "object.__class__") "__get__" = some (some (.builtin "getset_descriptor.__get__"))
  tk : PySem.W.takesIn K (.builtin "object.__class__") = some true
  hm : PySem.W.mroIn K C (.type "object") = some true
theorem rd_lenS {z : Str} (hz : z.length ≤ sizeLine) (h : Q (.int z.length) H) : rLenS [.str z] H Q := ⟨z, rfl, hz, h⟩
theorem rd_lenL {p : Addr} {ys : List V} (e : SqL K H p ys) (h : Q (.int ys.length) H) : rLenL K [.ref p] H Q := ⟨p, ys, rfl, .inl e, h⟩
theorem rd_max2 {i j : Int} (h : Q (.int (max i j)) H) : rMax2 [.int i, .int j] H Q := ⟨i, j, rfl, by
  have e : (if j > i then j else i) = max i j := by omega
  rw [e]; exact h⟩
theorem rd_listOf {p : Addr} {ys : List V} (e : SqL K H p ys) (h : ∀ l H', H l = none → Same H H' → H' l = some (.lst ys) → Q (.ref l) H') : rListOf K [.ref p] H Q := ⟨p, ys, rfl, .inl e, rd_new' h⟩
-- tests
variable {B : Bool → Hp → Prop}
theorem rd_test (h : te σ H (BoolP B)) : tTest te σ H B := h
theorem rd_tB (h : te σ H (BoolP B)) : tB te σ H B := h
theorem rd_and (h : c σ H fun k H1 => if k = true then d σ H1 B else B false H1) : tAnd c d σ H B := h
theorem rd_or (h : c σ H fun k H1 => if k = true then B true H1 else d σ H1 B) : tOr c d σ H B := h
theorem rd_not (h : c σ H fun k H1 => B (!k) H1) : tNot c σ H B := h
theorem rd_exb {b : Bool} {P : Bool → Hp → Prop} (h : P b H) : BoolP P (.bl b) H := ⟨b, rfl, h⟩
theorem rd_ifT {A B : Prop} (h : A) : if true = true then A else B := by rw [if_pos rfl]; exact h
theorem rd_ifF {A B : Prop} (h : B) : if false = true then A else B := by rw [if_neg Bool.false_ne_true]; exact h
theorem rd_ifnT {A B : Prop} (h : B) : if (!true) = true then A else B := rd_ifF h
theorem rd_ifnF {A B : Prop} (h : A) : if (!false) = true then A else B := rd_ifT h
theorem rd_ifN {p A B : Prop} [Decidable p] (hp : ¬ p) (h : B) : if decide p = true then A else B := by rw [if_neg (by rw [decide_eq_false hp]; exact Bool.false_ne_true)]; exact h
theorem rd_if2 {p A B : Prop} [Decidable p] (h1 : p → A) (h2 : ¬ p → B) : if decide p = true then A else B := ite2 (fun h => h1 (of_decide_eq_true h)) fun h => h2 fun z => h (decide_eq_true z)
-- argument lists, slices' parts
variable {L : List V → Hp → Prop} {O : Option Int → Hp → Prop} {tr : TA}
theorem rd_nil (h : L [] H) : tNil σ H L := h
theorem rd_cons (h : te σ H fun x H1 => tr σ H1 fun xs H2 => L (x :: xs) H2) : tCons te tr σ H L := h
theorem rd_noPart (h : O none H) : tNoPart σ H O := h
theorem rd_part (h : te σ H (IntP O)) : tPart te σ H O := h
theorem rd_exi {i : Int} (h : O (some i) H) : IntP O (.int i) H := ⟨i, rfl, h⟩
-- targets
variable {vs : List V} {gs : TGs}
theorem rd_gnil (h : q σ H) : gNil [] σ H q := ⟨rfl, h⟩
theorem rd_gcons (h : g v σ H fun σ' H' => gs vs σ' H' q) : gCons g gs (v :: vs) σ H q := ⟨v, vs, rfl, h⟩
theorem rd_gtup {a : Addr} {n : Nat} (e : SqT K H a vs) (hl : vs.length = n) (h : gs vs σ H q) : gTup K n gs (.ref a) σ H q := ⟨a, vs, rfl, e, hl, h⟩
-- what is walked
variable {R : It → Hp → Prop}
theorem rd_iList (h : te σ H (ItLP K R)) : iList K te σ H R := h
theorem rd_iListV {a : Addr} {xs : List V} (e : SqL K H a xs) (h : R (Itl K a) H) : ItLP K R (.ref a) H := ⟨a, rfl, ⟨xs, e⟩, h⟩
theorem rd_iRng1 (h : tr σ H (It1P R)) : iRng1 tr σ H R := h
theorem rd_iRng1V {j : Int} (h0 : -4611686018427387904 ≤ j) (h1 : j < 4611686018427387904) (h : R (Itr 0 j.toNat) H) : It1P R [.int j] H := ⟨j, rfl, by omega, by omega, h⟩
theorem rd_iRng2 (h : tr σ H (It2P R)) : iRng2 tr σ H R := h
theorem rd_iRng2V {i j : Int} (h0 : -4611686018427387904 ≤ i) (h1 : i < 4611686018427387904) (h2 : -4611686018427387904 ≤ j) (h3 : j < 4611686018427387904) (h : R (Itr i (j - i).toNat) H) : It2P R [.int i, .int j] H := ⟨i, j, rfl, ⟨by omega, by omega, by omega, by omega⟩, h⟩
-- loops
/-- for over a list that stays -/
theorem rd_forL {a : Addr} {tb : TS} (xs : List V) (Pv : Nat → St → Hp → Prop) (h0 : Pv 0 σ H) (hl : ∀ i σ H, i ≤ xs.length → Pv i σ H → SqL K H a xs)
    (hs : ∀ i x σ H, xs[i]? = some x → Pv i σ H → g x σ H fun σ2 H2 => tb ⟨Pv (i + 1), rt, nx, Pv (i + 1)⟩ σ2 H2) (hd : ∀ σ H, Pv xs.length σ H → nx σ H) : ForP (Itl K a) g tb ⟨nx, rt, bk, ct⟩ σ H :=
  for_list (D := ⟨nx, rt, bk, ct⟩) Pv h0 hl hs hd
/-- for over a list of ints that stays -/
theorem rd_forI {a : Addr} {tb : TS} (ns : List Int) (Pv : Nat → St → Hp → Prop) (h0 : Pv 0 σ H) (hl : ∀ i σ H, Pv i σ H → SqL K H a (ns.map V.int))
    (hs : ∀ i n σ H, ns[i]? = some n → Pv i σ H → g (.int n) σ H fun σ2 H2 => tb ⟨Pv (i + 1), rt, nx, Pv (i + 1)⟩ σ2 H2) (hd : ∀ σ H, Pv ns.length σ H → nx σ H) : ForP (Itl K a) g tb ⟨nx, rt, bk, ct⟩ σ H := by
  refine rd_forL (ns.map V.int) Pv h0 (fun i σ H _ p => hl i σ H p) (fun i x σ H hx p => ?_) (fun σ H p => hd σ H (by rw [List.length_map] at p; exact p))
  rw [List.getElem?_map] at hx
  cases e : ns[i]? with
  | none => rw [e] at hx; cases hx
  | some n =>
    rw [e] at hx
    cases hx
    exact hs i n σ H e p
theorem rd_forR {lo : Int} {n : Nat} {tb : TS} (Pv : Nat → St → Hp → Prop) (h0 : Pv 0 σ H)
    (hs : ∀ i σ H, i < n → Pv i σ H → g (.int (lo + i)) σ H fun σ2 H2 => tb ⟨Pv (i + 1), rt, nx, Pv (i + 1)⟩ σ2 H2) (hd : ∀ σ H, Pv n σ H → nx σ H) : ForP (Itr lo n) g tb ⟨nx, rt, bk, ct⟩ σ H :=
  for_range (D := ⟨nx, rt, bk, ct⟩) Pv h0 hs hd
theorem rd_forRS {lo : Int} {n : Nat} {tb : TS} (S : St → Prop) (h0 : S σ)
    (hs : ∀ (i : Nat) σ' H', i < n → Same H H' → S σ' → g (.int (lo + i)) σ' H' fun σ2 H2 => tb ⟨fun σ3 H3 => Same H H3 ∧ S σ3, rt, nx, fun σ3 H3 => Same H H3 ∧ S σ3⟩ σ2 H2) (hd : ∀ σ' H', Same H H' → S σ' → nx σ' H') : ForP (Itr lo n) g tb ⟨nx, rt, bk, ct⟩ σ H :=
  rd_forR (fun _ σ' H' => Same H H' ∧ S σ') ⟨Same.refl _, h0⟩ (fun i σ' H' hi p => hs i σ' H' hi p.1 p.2) fun σ' H' p => hd σ' H' p.1 p.2
end

/-! ## comprehensions [e for x in ..], one name, each item by what it makes of x, the heap may grow -/
section
variable {K : PySem.W.Frag} {te : TE} {σ : St} {ci : List Nat} {rest : St} {fin : List V → Hp → Prop} {H : Hp} {a : Addr}
theorem capSt1 (hr : ci.map (fun i => (σ[i]?).join) = rest) : capSt 1 ci σ = none :: rest := by
  unfold capSt
  rw [hr]; rfl
/-- over a range: the i-th item has P i -/
theorem comp_rangeP {lo : Int} {n : Nat} (P : Nat → V → Prop) (hn : n ≤ sizeLine) (hr : ci.map (fun i => (σ[i]?).join) = rest)
    (hs : ∀ i H1, i < n → Same H H1 → ∀ R : VK, (∀ y H2, P i y → Same H1 H2 → R y H2) → te (some (.int (lo + i)) :: rest) H1 R)
    (hf : ∀ ys H1, Same H H1 → ys.length = n → (∀ i y, ys[i]? = some y → P i y) → fin ys H1) : tCompW (Itr lo n) (gName 0) tAll te (capSt 1 ci σ) fin H := by
  rw [capSt1 hr]
  refine comp_range (fun i ys H1 => Same H H1 ∧ ys.length = i ∧ ∀ j y, ys[j]? = some y → P j y) hn rfl ⟨Same.refl _, rfl, fun j y h => by simp at h⟩ (fun i ys H1 ok => Nat.le_of_eq ok.2.1) (fun ys H1 ok => hf ys H1 ok.1 ok.2.1 ok.2.2) ?_
  intro i ys H1 hi ⟨s1, hl, hp⟩ R hR
  refine hs i H1 hi s1 R fun y H2 hy s2 => hR y H2 ⟨s1.trans s2, by simp [hl], fun j z hz => ?_⟩
  by_cases hj : j < ys.length
  · rw [List.getElem?_append_left hj] at hz
    exact hp j z hz
  · rw [List.getElem?_append_right (by omega)] at hz
    have hj0 : j - ys.length = 0 := by
      cases e : j - ys.length with
      | zero => rfl
      | succ k => rw [e] at hz; simp at hz
    rw [hj0] at hz
    have : z = y := by simpa using hz.symm
    subst this
    have : j = i := by omega
    subst this
    exact hy
end

section
variable {K : PySem.W.Frag} {te : TE} {σ : St} {ci : List Nat} {rest : St} {fin : List V → Hp → Prop} {H : Hp} {a : Addr}
theorem map_of_get {α β : Type} {xs : List α} {ys : List β} {f : α → β} (hl : ys.length = xs.length) (h : ∀ (i : Nat) y, ys[i]? = some y → ∃ x, xs[i]? = some x ∧ y = f x) : ys = xs.map f := by
  apply List.ext_getElem?
  intro i
  rw [List.getElem?_map]
  cases e : ys[i]? with
  | none =>
    have : xs[i]? = none := by
      rw [List.getElem?_eq_none_iff] at e ⊢
      omega
    rw [this]; rfl
  | some y =>
    obtain ⟨x, hx, rfl⟩ := h i y e
    rw [hx]; rfl
/-- [e for k in range(n)], each item by what it is -/
theorem comp_rng {lo : Int} {n : Nat} (f : Nat → V) (hn : n ≤ sizeLine) (hr : ci.map (fun i => (σ[i]?).join) = rest)
    (hs : ∀ i H1, i < n → Same H H1 → ∀ R : VK, (∀ H2, Same H1 H2 → R (f i) H2) → te (some (.int (lo + i)) :: rest) H1 R)
    (hf : ∀ H1, Same H H1 → fin ((List.range n).map f) H1) : tCompW (Itr lo n) (gName 0) tAll te (capSt 1 ci σ) fin H := by
  refine comp_rangeP (fun i y => y = f i) hn hr (fun i H1 hi s1 R hR => hs i H1 hi s1 R fun H2 s2 => hR _ H2 rfl s2) ?_
  intro ys H1 s1 hl hp
  have e : ys = (List.range n).map f := by
    refine map_of_get (by rw [hl, List.length_range]) fun i y hy => ?_
    have hi : i < n := by
      rw [← hl]
      exact (List.getElem?_eq_some_iff.mp hy).1
    exact ⟨i, by simp [hi], hp i y hy⟩
  rw [e]
  exact hf H1 s1
end

/-! ## heaps -/
theorem Same.at {H H' : Hp} {b : Addr} {o : HO} (s : Same H H') (h : H b = some o) : H' b = some o := s b o h
/-- all but what stands at p -/
def SameBut (p : Addr) (H H' : Hp) : Prop := ∀ b o, H b = some o → b ≠ p → H' b = some o
theorem SameBut.upd {p : Addr} {H : Hp} {o : HO} : SameBut p H (upd H p o) := fun b u e hb => by rw [upd_ne hb]; exact e
theorem SameBut.trans {p : Addr} {H H1 H2 : Hp} (a : SameBut p H H1) (b : SameBut p H1 H2) : SameBut p H H2 := fun c o h hc => b c o (a c o h hc) hc
theorem Same.but {p : Addr} {H H' : Hp} (s : Same H H') : SameBut p H H' := fun b o e _ => s b o e
theorem SameBut.same {p : Addr} {H H0 H' : Hp} (n : H0 p = none) (s : Same H0 H) (b : SameBut p H H') : Same H0 H' := fun c o e => b c o (s c o e) (ne_of_none e n)

theorem rd_start {t : TS} {D : Ends} {N : List Str} {vs : List V} {σ : St} {H : Hp} (e : start N vs = σ) (h : t D σ H) : t D (start N vs) H := e ▸ h
theorem SameBut.refl {p : Addr} {H : Hp} : SameBut p H H := fun _ _ e _ => e
theorem SameBut.snoc {p : Addr} {H H1 H2 : Hp} (b : ∀ c o, H1 c = some o → c ≠ p → H2 c = some o) (a : SameBut p H H1) : SameBut p H H2 := fun c o h hc => b c o (a c o h hc) hc
theorem SameBut.snocS {p : Addr} {H H1 H2 : Hp} (b : Same H1 H2) (a : SameBut p H H1) : SameBut p H H2 := fun c o h hc => b c o (a c o h hc)
theorem Same.snoc {H H1 H2 : Hp} (b : Same H1 H2) (a : Same H H1) : Same H H2 := a.trans b
theorem lk_same {f : Str} {v : V} {fs : List (Str × V)} : (putF f v fs).lookup f = some v := by rw [lookup_putF, if_pos rfl]
theorem lk_ne {f g : Str} {v : V} {o : Option V} {fs : List (Str × V)} (h : decide (g = f) = false) (l : fs.lookup g = o) : (putF f v fs).lookup g = o := by rw [lookup_putF, if_neg (of_decide_eq_false h)]; exact l
theorem lk_nil {f : Str} : ([] : List (Str × V)).lookup f = none := rfl

/-! ## defs' arguments, classes -/
section
variable {K : PySem.W.Frag} {x qual : Str} {st : Stmt} {kV doc pm cdv ct : Value} {an : Option Addr} {ps : List Str}
theorem binds_n (h : ∀ us : List Value, us.length = ps.length → bindArgs (PySem.W.fnOf x qual (defArgs st) (defBody st) (defScope st) .none kV doc pm an cdv ct) ⟨us, []⟩ = pure (ps.zip us)) :
    Binds K (PySem.W.fnOf x qual (defArgs st) (defBody st) (defScope st) .none kV doc pm an cdv ct) ps [] := .all h
theorem binds_d (k : Nat) {T : Addr} {ds : List Value} {oc : Value} {od : Option Addr} {sl : Array (Option Value)} {items : Array Value} {n : Nat} (lt : K.lookup T = some ⟨oc, od, .seq items n, sl⟩)
    (h : ∀ us : List Value, us.length = k → ∃ k, bindArgs (PySem.W.fnOf x qual (defArgs st) (defBody st) (defScope st) (.ref T) kV doc pm an cdv ct) ⟨us, []⟩ = seqItems? (.ref T) >>= k ∧ k (some items) = pure (ps.zip (us ++ ds))) (hk : k + ds.length = ps.length := by rfl) :
    Binds K (PySem.W.fnOf x qual (defArgs st) (defBody st) (defScope st) (.ref T) kV doc pm an cdv ct) ps ds := fun s us hK hl => by
  obtain ⟨k, h1, h2⟩ := h us (by rw [List.length_append] at hl; omega)
  exact .of_defaults (T := T) (items := items) (n := n) rfl (hK T _ lt) rfl h1 h2
end

/-! ## numbers as texts -/
theorem lit_len (s : String) : (Str.ofString s).length = s.length := by
  rw [Str.ofString_eq_toList]
  show (s.toList.map Char.toNat).toArray.size = _
  rw [List.size_toArray, List.length_map, String.length_toList]

/-! ## texts -/
def sgB (c : Nat) : Bool := decide (97 ≤ c) && decide (c ≤ 122)
def lowB (z : Str) : Bool := z.cps.toList.all sgB
def nameB (z : Str) : Bool := decide (1 ≤ (z.length : Int)) && decide ((z.length : Int) ≤ 8) && lowB z
theorem nameB_len {z : Str} (h : nameB z = true) : z.length ≤ 8 := by
  unfold nameB at h
  simp only [Bool.and_eq_true, decide_eq_true_eq] at h
  omega
theorem nameB_of {z : Str} (h0 : 1 ≤ z.length) (h1 : z.length ≤ 8) (h2 : lowB z = true) : nameB z = true := by
  unfold nameB
  simp only [Bool.and_eq_true, decide_eq_true_eq]
  exact ⟨⟨by omega, by omega⟩, h2⟩
theorem lowB_one {c : Nat} {z : Str} (h : lowB z = true) (hc : c ∈ z.cps.toList) : lowB ⟨#[c]⟩ = true := by
  unfold lowB at h ⊢
  rw [List.all_eq_true] at h
  show [c].all sgB = true
  rw [List.all_cons, h c hc]; rfl
theorem slice_mem {z : Str} {l u : Option Int} {c : Nat} (h : c ∈ (Txt.slice z l u).cps.toList) : c ∈ z.cps.toList := by
  unfold Txt.slice at h
  split at h
  · exact h
  · rw [List.toList_toArray] at h
    obtain ⟨i, _, hi⟩ := List.mem_filterMap.mp h
    rw [← Array.getElem?_toList] at hi
    exact List.mem_of_getElem? hi
theorem lowB_slice {z : Str} {l u : Option Int} (h : lowB z = true) : lowB (Txt.slice z l u) = true := by
  unfold lowB at h ⊢
  rw [List.all_eq_true] at h ⊢
  exact fun c hc => h c (slice_mem hc)
theorem str_app_cps (x y : Str) : (x ++ y).cps.toList = x.cps.toList ++ y.cps.toList := by
  show (x.cps ++ y.cps).toList = _
  simp
theorem str_app_len (x y : Str) : (x ++ y).length = x.length + y.length := by
  show (x.cps ++ y.cps).size = _
  rw [Array.size_append]; rfl
theorem one_len (c : Nat) : (⟨#[c]⟩ : Str).length = 1 := rfl
theorem lowB_app {x y : Str} (h : lowB x = true) (h' : lowB y = true) : lowB (x ++ y) = true := by
  unfold lowB at h h' ⊢
  rw [str_app_cps, List.all_append, h, h']; rfl
end L2

set_option Elab.async false
set_option linter.all false
set_option maxRecDepth 100000
namespace L2
open PySem PySem.Spec PyProof.Rows

/-! ## a, b, .. = a list -/
section
variable {prog : Program} {w : World} {A : Around} {E : Value → Shared → Prop} {s : Shared}
end
section
variable {X : Cx} {pos : Pos}
end

/-! ## lists of ints from nought on -/
section
variable {nx bk ct : St → Hp → Prop} {rt : VK} {σ : St} {H : Hp} {g : TG} {K : PySem.W.Frag} {a : Addr} {tb : TS} {xs : List V}
end
theorem rd_modF {H : Hp} {Q : VK} {i j : Int} (h0 : 0 < j) (h : 0 ≤ i % j → i % j < j → Q (.int (i % j)) H) : rI (fun _ j => 0 < j) (fun i j => .int (i % j)) (.int i) (.int j) H Q := ⟨i, j, rfl, rfl, h0, h (Int.emod_nonneg _ (by omega)) (Int.emod_lt_of_pos _ h0)⟩
end L2

set_option Elab.async false
set_option linter.all false
set_option maxRecDepth 100000
namespace L2
open PySem PySem.Spec PyProof.Rows PySem.W

/-! ## isinstance of an exception of an own class -/
section
variable {prog : Program} {w : World} {A : Around} {E : Value → Shared → Prop} {h : Heap} {g : Array GenState} {d : Drawn} {t : Nat} {os : OsState} {a C : Addr} {o : Obj} {vs : Array Value} {K : Frag}
end
end L2

set_option Elab.async false
set_option linter.all false
set_option maxRecDepth 100000
namespace L2
open PySem PySem.Spec PyProof.Rows PySem.W

/-! ## exceptions that leave a def -/
section
variable {P : Program} {w : World} {H H' : Hp} {h h' : Heap} {a : Addr} {o : HO}
end


section
variable {X : Cx} {pins : List (Addr × Obj)} {σ : St} {H H1 : Hp} {s s1 : Shared} {h2 B : Heap}
end


end L2

set_option Elab.async false
set_option linter.all false
set_option maxRecDepth 100000
namespace L2
open PySem PySem.Spec PyProof.Rows PySem.W

/-! ## raise C(..), C an exception class of the text -/
section
variable {X : Cx} {E : XK} {x : Str} {C : Addr} {np cpos pos : Pos} {e : Expr} {es : List Expr} {t : TA}
end

/-! ## defs that may raise, by their promises -/
section
variable {X : Cx} {k k' : Nat} {sp : Sp} {x m : Str} {p pos apos : Pos} {e o : Expr} {es : List Expr} {ta : TE} {t : TA} {C : Addr} {dvs : List V} {E : XK} {ps : List Str}
end
section
variable {P : Program} {w : World} {K : PySem.W.Frag} {mg : Str → Option Value} {base : Heap}
end
end L2

set_option Elab.async false
set_option linter.all false
set_option maxRecDepth 100000
namespace L2
open PySem PySem.Spec PyProof.Rows PySem.W

/-! ## try: .. except C as n: .. -/
section
variable {X : Cx} {pins : List (Addr × Obj)} {σ : St} {H : Hp} {s : Shared} {ea : Addr}
end


section
variable {X : Cx} {k k' : Nat} {sp : Sp} {x m : Str} {p pos apos : Pos} {e o : Expr} {es : List Expr} {ta : TE} {t : TA} {C f : Addr} {dvs : List V} {ds : List Value} {R : XK} {ps : List Str} {fd : FuncData}
end


section
variable {X : Cx} {i : Nat} {n x : Str} {T : Addr} {np hpos pos epos : Pos} {e : Expr} {tc : XK → TE} {b₀ : Stmt} {suite : List Stmt} {ts : TS}
end

/-! ## isinstance of a handled exception -/
end L2

set_option Elab.async false
set_option linter.all false
set_option maxRecDepth 100000
namespace L2
open PySem PySem.Spec PyProof.Rows PySem.W

/-! ## f-strings of texts and ints -/
section
variable {X : Cx} {x : Str} {j : Nat} {p pos : Pos} {e v1 v2 : Expr} {es : List Expr} {te : TE} {t : TJ}
end
/-! ### how they read -/
end L2
namespace L2
open PySem PySem.W
section
variable {K : Frag} {C D : Addr} {cd : ClassData} {b : Bool}
end
variable {K : Frag} {H : Hp} {Q : VK}
end L2
namespace L2
open PySem PySem.W
end L2

set_option Elab.async false
set_option linter.all false
set_option maxRecDepth 100000
set_option maxHeartbeats 4000000
/-! Closures: a lambda that keeps one name of the def that makes it; handed on, called from elsewhere. -/
namespace L2
open PySem PySem.Spec PyProof.Rows



section
variable {X : Cx} {pins : List (Addr × Obj)} {σ : St} {H : Hp} {s : Shared}

end

section
variable {X : Cx} {CX : CXT} {k k' : Nat} {sp : Sp} {E : XK} {x y : Str} {p pos : Pos} {e : Expr} {es : List Expr} {t : TA} {i : Nat} {c : Addr}
end

/-! ### the lambda's own frame -/


section
variable {P : Program} {w : World} {K : PySem.W.Frag} {mg : Str → Option Value} {base : Heap}
end

/-! ### a function in a name, called -/
section
variable {X : Cx} {k k' : Nat} {x : Str} {p pos : Pos} {e : Expr} {es : List Expr} {t : TA}
end

/-! ### a lambda made -/
section
variable {X : Cx} {args : Arguments} {body : Expr} {lsc : Scope} {pos : Pos} {y : Str} {c cL PL : Addr}
end
end L2

set_option Elab.async false
set_option linter.all false
set_option maxRecDepth 100000
set_option maxHeartbeats 4000000
/-! Closures: the head of a law whose def makes a lambda (the table of its code object is tracked); numbers by bits. -/
namespace L2
open PySem PySem.Spec PyProof.Rows

section
variable {P : Program} {w : World} {K : PySem.W.Frag} {mg : Str → Option Value} {base : Heap}
end



/-! ### numbers by bits -/
section
variable {X : Cx} {o : Expr} {to : TE} {ap pos : Pos}

/-! ### list(range(n)) -/
end

/-! ### D.m(self, ..) with defaults -/
section
variable {X : Cx} {k k' : Nat} {sp : Sp} {x m : Str} {p pos apos : Pos} {e : Expr} {es : List Expr} {t : TA} {dvs : List V}
end
end L2

set_option Elab.async false
set_option linter.all false
set_option maxRecDepth 100000
set_option maxHeartbeats 4000000
/-! Closures that leave the def that makes them: the cell is tracked behind the return. try: name = call. -/
namespace L2
open PySem PySem.Spec PyProof.Rows


section
variable {P : Program} {w : World}
end

section
variable {P : Program} {w : World} {K : PySem.W.Frag} {mg : Str → Option Value} {base : Heap}
end

/-! ### a return that tells the names -/
section
variable {X : Cx} {st : Stmt} {rest : List Stmt} {t : TS} {u : Ends → (St → V → Hp → Prop) → St → Hp → Prop} {e : Expr} {te : TE} {pos : Pos}
end
section
variable {P : Program} {w : World} {K : PySem.W.Frag} {mg : Str → Option Value} {base : Heap}
end


section
open PySem.W
variable {X : Cx} {i j : Nat} {n x y : Str} {T : Addr} {np yp hpos pos epos : Pos} {e : Expr} {tc : XK → TE} {b₀ : Stmt} {suite : List Stmt} {ts : TS}
end
end L2

set_option Elab.async false
set_option linter.all false
set_option maxRecDepth 100000
set_option maxHeartbeats 4000000
/-! The head of a law one of whose helpers makes a lambda. -/
namespace L2
open PySem PySem.Spec PyProof.Rows
end L2

set_option Elab.async false
set_option linter.all false
set_option maxRecDepth 100000
set_option maxHeartbeats 4000000
namespace L2
open PySem PySem.Spec PyProof.Rows
section
variable {X : Cx}
end
end L2

set_option Elab.async false
set_option linter.all false
set_option maxRecDepth 100000
namespace L2
open PySem PySem.Spec PyProof.Rows

/-! ### lists of pairs as tables -/
section
variable {κ : Type} [DecidableEq κ]
def valV (kvs : List (κ × V)) (k : κ) : Option V := (kvs.find? fun kv => decide (kv.1 = k)).map (·.2)
/-- in its place, or at the end -/
def putK (kvs : List (κ × V)) (k : κ) (v : V) : List (κ × V) :=
  if (kvs.any fun kv => decide (kv.1 = k)) = true then kvs.map (fun kv => if kv.1 = k then (kv.1, v) else kv) else kvs ++ [(k, v)]

theorem valV_pos {p : κ × V} {r : List (κ × V)} {k : κ} (e : p.1 = k) : valV (p :: r) k = some p.2 := by simp [valV, List.find?_cons, e]
theorem valV_neg {p : κ × V} {r : List (κ × V)} {k : κ} (e : ¬ p.1 = k) : valV (p :: r) k = valV r k := by simp [valV, List.find?_cons, e]
theorem valV_any (k : κ) : ∀ kvs : List (κ × V), (kvs.any fun kv => decide (kv.1 = k)) = (valV kvs k).isSome
  | [] => rfl
  | p :: r => by
    rw [List.any_cons]
    by_cases e : p.1 = k
    · simp only [valV_pos e, decide_eq_true e, Bool.true_or, Option.isSome_some]
    · rw [valV_neg e, decide_eq_false e, Bool.false_or]; exact valV_any k r
theorem valV_map (k j : κ) (y : V) : ∀ kvs : List (κ × V), valV (kvs.map fun kv => if kv.1 = k then (kv.1, y) else kv) j = (valV kvs j).map fun x => if j = k then y else x
  | [] => rfl
  | p :: r => by
    have ih := valV_map k j y r
    rw [List.map_cons]
    by_cases h : p.1 = k
    · rw [if_pos h]
      by_cases e : p.1 = j
      · rw [valV_pos (p := (p.1, y)) e, valV_pos e, Option.map_some, if_pos (e.symm.trans h)]
      · rw [valV_neg (p := (p.1, y)) e, valV_neg e, ih]
    · rw [if_neg h]
      by_cases e : p.1 = j
      · rw [valV_pos (p := p) e, valV_pos e, Option.map_some, if_neg (fun z => h (e.trans z))]
      · rw [valV_neg (p := p) e, valV_neg e, ih]
theorem valV_snoc (k j : κ) (y : V) : ∀ kvs : List (κ × V), valV kvs k = none → valV (kvs ++ [(k, y)]) j = if j = k then some y else valV kvs j
  | [], _ => by
    by_cases e : k = j
    · rw [if_pos e.symm]; exact valV_pos (p := (k, y)) e
    · rw [if_neg (fun z => e z.symm)]; exact valV_neg (p := (k, y)) e
  | p :: r, hn => by
    rw [List.cons_append]
    have hk : ¬ p.1 = k := fun z => by rw [valV_pos z] at hn; cases hn
    rw [valV_neg hk] at hn
    have ih := valV_snoc k j y r hn
    by_cases e : p.1 = j
    · rw [valV_pos e, valV_pos e, if_neg (fun z => hk (e.trans z))]
    · rw [valV_neg e, valV_neg e, ih]
theorem valV_put (kvs : List (κ × V)) (k j : κ) (y : V) : valV (putK kvs k y) j = if j = k then some y else valV kvs j := by
  unfold putK
  by_cases a : (kvs.any fun kv => decide (kv.1 = k)) = true
  · rw [if_pos a, valV_map]
    rw [valV_any] at a
    by_cases e : j = k
    · obtain ⟨x, hx⟩ := Option.isSome_iff_exists.mp a
      rw [if_pos e, e, hx, Option.map_some, if_pos rfl]
    · rw [if_neg e]
      cases valV kvs j with
      | none => rfl
      | some x => rw [Option.map_some, if_neg e]
  · rw [if_neg a]
    refine valV_snoc k j y kvs ?_
    rw [valV_any] at a
    cases q : valV kvs k with
    | none => rfl
    | some x => rw [q] at a; exact (a rfl).elim
theorem length_putK (kvs : List (κ × V)) (k : κ) (v : V) : (putK kvs k v).length ≤ kvs.length + 1 := by
  unfold putK
  split
  · rw [List.length_map]; omega
  · rw [List.length_append, List.length_cons, List.length_nil]; omega
theorem putK_new {kvs : List (κ × V)} {k : κ} (v : V) (h : valV kvs k = none) : putK kvs k v = kvs ++ [(k, v)] := by
  unfold putK
  rw [valV_any, h]
  exact if_neg (by decide)

theorem RelO.isSome_eq {o : Option V} {u : Option Value} (r : RelO o u) : o.isSome = u.isSome := by
  cases o with
  | none => cases u with
    | none => rfl
    | some _ => exact (show False from r).elim
  | some _ => cases u with
    | none => exact (show False from r).elim
    | some _ => rfl
theorem RelO.getD {o : Option V} {u : Option Value} {d : V} {d' : Value} (r : RelO o u) (rd : RelV d d') : RelV (o.getD d) (u.getD d') := by
  cases o with
  | none => cases u with
    | none => exact rd
    | some _ => exact (show False from r).elim
  | some _ => cases u with
    | none => exact (show False from r).elim
    | some _ => exact r

/-- raw tables of the same keys -/
theorem KV.val {kvs : List (κ × V)} {vs : List (κ × Value)} (r : KV kvs vs) (k : κ) : RelO (valV kvs k) (valueAt vs k) := by
  unfold KV at r
  induction r with
  | nil => exact True.intro
  | @cons p q ps qs h t ih =>
    obtain ⟨h1, h2⟩ := h
    by_cases e : p.1 = k
    · have e' : q.1 = k := h1.symm.trans e
      have b : valueAt (q :: qs) k = some q.2 := by simp [valueAt, List.find?_cons, e']
      rw [valV_pos e, b]; exact h2
    · have e' : ¬ q.1 = k := fun z => e (h1.trans z)
      have b : valueAt (q :: qs) k = valueAt qs k := by simp [valueAt, List.find?_cons, e']
      rw [valV_neg e, b]; exact ih
theorem KV.any {kvs : List (κ × V)} {vs : List (κ × Value)} (r : KV kvs vs) (k : κ) : (kvs.any fun kv => decide (kv.1 = k)) = vs.any fun kv => decide (kv.1 = k) := by
  unfold KV at r
  induction r with
  | nil => rfl
  | cons h t ih => rw [List.any_cons, List.any_cons, ih, h.1]
theorem KV.repl {kvs : List (κ × V)} {vs : List (κ × Value)} (r : KV kvs vs) (k : κ) {y : V} {u : Value} (ry : RelV y u) :
    KV (kvs.map fun kv => if kv.1 = k then (kv.1, y) else kv) (vs.map fun kv => if kv.1 = k then (kv.1, u) else kv) := by
  unfold KV at r ⊢
  induction r with
  | nil => exact .nil
  | @cons p q ps qs h t ih =>
    rw [List.map_cons, List.map_cons]
    refine .cons ?_ ih
    obtain ⟨h1, h2⟩ := h
    by_cases e : p.1 = k
    · rw [if_pos e, if_pos (h1.symm.trans e)]; exact ⟨h1, ry⟩
    · rw [if_neg e, if_neg (fun z => e (h1.trans z))]; exact ⟨h1, h2⟩
theorem KV.put {kvs : List (κ × V)} {vs : List (κ × Value)} (r : KV kvs vs) (k : κ) {y : V} {u : Value} (ry : RelV y u) : KV (putK kvs k y) (stored vs k u) := by
  unfold putK stored
  rw [r.any k]
  by_cases e : (vs.any fun kv => decide (kv.1 = k)) = true
  · rw [if_pos e, if_pos e]; exact r.repl k ry
  · rw [if_neg e, if_neg e]; exact Paired.snoc r ⟨rfl, ry⟩
theorem KV.length {kvs : List (κ × V)} {vs : List (κ × Value)} (r : KV kvs vs) : kvs.length = vs.length := Paired.length r
end


/-! ### a tracked dict, its keys ints and texts or tuples of these -/
theorem kV_is {P : Program} {w : World} {k : Key} {u : Value} (r : RelV (kV k) u) : (mixKind P w).is k u = true := by
  cases k with
  | inl i => obtain ⟨t, e⟩ := (show ∃ t, u = Value.int i t from r); subst e; exact mixKind_int P w i t
  | inr x => obtain ⟨t, e⟩ := (show ∃ t, u = Value.str x t from r); subst e; exact mixKind_str P w x t
theorem items_are {P : Program} {w : World} : ∀ {ks : List Key} {us : List Value}, Vals (ks.map kV) us → ItemsAre (mixKind P w) ks us
  | [], _, r => by rw [List.map_nil] at r; cases r; exact .nil
  | k :: ks, _, r => by
    rw [List.map_cons] at r
    cases r with
    | cons h t => exact .cons (kV_is h) (items_are t)

/-- raw entries of a dict with tuple keys -/
abbrev KT (H : Hp) : List (List Key × V) → List (List Key × Addr × Value) → Prop := Paired fun p q => p.1 = q.1 ∧ H q.2.1 = some (.tup (p.1.map kV)) ∧ RelV p.2 q.2.2
theorem KT.val {H : Hp} {kvs : List (List Key × V)} {xs : List (List Key × Addr × Value)} (r : KT H kvs xs) (k : List Key) : RelO (valV kvs k) ((atKey xs k).map (·.2)) := by
  induction r with
  | nil => exact True.intro
  | @cons p q ps qs h t ih =>
    obtain ⟨h1, _, h2⟩ := h
    by_cases e : p.1 = k
    · have e' : q.1 = k := h1.symm.trans e
      have b : atKey (q :: qs) k = some q.2 := by simp [atKey, List.find?_cons, e']
      rw [valV_pos e, b]; exact h2
    · have e' : ¬ q.1 = k := fun z => e (h1.trans z)
      have b : atKey (q :: qs) k = atKey qs k := by simp [atKey, List.find?_cons, e']
      rw [valV_neg e, b]; exact ih
theorem KT.repl {H : Hp} {kvs : List (List Key × V)} {xs : List (List Key × Addr × Value)} (r : KT H kvs xs) (k : List Key) {y : V} {u : Value} (ry : RelV y u) :
    KT H (kvs.map fun kv => if kv.1 = k then (kv.1, y) else kv) (xs.map (putAt k u)) := by
  induction r with
  | nil => exact .nil
  | @cons p q ps qs h t ih =>
    rw [List.map_cons, List.map_cons]
    refine .cons ?_ ih
    obtain ⟨h1, h2, h3⟩ := h
    unfold putAt
    by_cases e : p.1 = k
    · rw [if_pos e, if_pos (h1.symm.trans e)]; exact ⟨h1, h2, ry⟩
    · rw [if_neg e, if_neg (fun z => e (h1.trans z))]; exact ⟨h1, h2, h3⟩
theorem KT.put {H : Hp} {kvs : List (List Key × V)} {xs : List (List Key × Addr × Value)} (r : KT H kvs xs) (k : List Key) {b : Addr} {y : V} {u : Value} (hb : H b = some (.tup (k.map kV))) (ry : RelV y u) :
    KT H (putK kvs k y) (storedH xs k b u) := by
  have e : (kvs.any fun kv => decide (kv.1 = k)) = (atKey xs k).isSome := by
    rw [valV_any, (r.val k).isSome_eq, Option.isSome_map]
  unfold putK storedH
  rw [e]
  by_cases q : (atKey xs k).isSome = true
  · rw [if_pos q, if_pos q]; exact r.repl k ry
  · rw [if_neg q, if_neg q]; exact Paired.snoc r ⟨rfl, hb, ry⟩
theorem KT.keeps {H H' : Hp} {kvs : List (List Key × V)} {xs : List (List Key × Addr × Value)} (r : KT H kvs xs) (ht : ∀ b ys, H b = some (.tup ys) → H' b = some (.tup ys)) : KT H' kvs xs :=
  Paired.mapP r fun _ _ z => ⟨z.1, ht _ _ z.2.1, z.2.2⟩

section
variable {P : Program} {w : World} {H : Hp} {h : Heap} {a : Addr}
theorem rd_of {u : HO} (ok : HOk P w H h) (e : Rd H a u) : ObjOk P w H h a u := e.ok ok
theorem dk_rd {kvs : List (Key × V)} (ok : HOk P w H h) (e : Rd H a (.dK kvs)) : kvs.length ≤ sizeLine ∧ (a == sysModules) = false ∧ ∃ vs, KV kvs vs ∧ h.DictOf (mixKind P w) a vs :=
  show ObjOk P w H h a (.dK kvs) from rd_of ok e
theorem dk_of {kvs : List (Key × V)} (ok : HOk P w H h) (e : H a = some (.dK kvs)) : kvs.length ≤ sizeLine ∧ (a == sysModules) = false ∧ ∃ vs, KV kvs vs ∧ h.DictOf (mixKind P w) a vs := dk_rd ok (.inl e)
/-- a tracked tuple of ints and texts is a key -/
theorem key_of {ks : List Key} (ok : HOk P w H h) (e : H a = some (.tup (ks.map kV))) : (tupleKind (mixKind P w)).is h ks a := by
  obtain ⟨_, its, r, o, h1, h2, n, h3⟩ := (show ObjOk P w H h a (.tup (ks.map kV)) from ok a _ e)
  exact ⟨o, its.toArray, n, h1, h2, h3, by simpa using items_are r⟩
theorem dt_rd {kvs : List (List Key × V)} (ok : HOk P w H h) (e : Rd H a (.dT kvs)) : kvs.length ≤ sizeLine ∧ (a == sysModules) = false ∧
    ∃ xs, KT H kvs xs ∧ h.DictOfH (tupleKind (mixKind P w)) a xs := by
  obtain ⟨z, y, xs, r, o, es, ep, h1, h2, h3, h4, h5⟩ := (show ObjOk P w H h a (.dT kvs) from rd_of ok e)
  refine ⟨z, y, xs, r, o, es, ep, h1, h2, h3, h4, fun x hx => ?_, h5⟩
  have all : ∀ {l : List (List Key × V)} {m : List (List Key × Addr × Value)}, KT H l m → ∀ x ∈ m, (tupleKind (mixKind P w)).is h x.1 x.2.1 := by
    intro l m q
    induction q with
    | nil => intro x hx; exact nomatch hx
    | @cons p q ps qs hq t ih =>
      intro x hx
      rcases List.mem_cons.mp hx with e | hx
      · subst e
        exact key_of ok (by rw [← hq.1]; exact hq.2.1)
      · exact ih x hx
  exact all r x hx
theorem dt_of {kvs : List (List Key × V)} (ok : HOk P w H h) (e : H a = some (.dT kvs)) : kvs.length ≤ sizeLine ∧ (a == sysModules) = false ∧
    ∃ xs, KT H kvs xs ∧ h.DictOfH (tupleKind (mixKind P w)) a xs := dt_rd ok (.inl e)
end

/-- what the dict at a holds at the key y -/
def DGet (H : Hp) (a : Addr) (y : V) (r : Option V) : Prop :=
  (∃ kvs k, Rd H a (.dK kvs) ∧ y = kV k ∧ r = valV kvs k) ∨ ∃ kvs k b, Rd H a (.dT kvs) ∧ y = .ref b ∧ H b = some (.tup (k.map kV)) ∧ r = valV kvs k
/-- the heap behind a[y] = v -/
def DPut (H : Hp) (a : Addr) (y v : V) (H' : Hp) : Prop :=
  (∃ kvs k, H a = some (.dK kvs) ∧ y = kV k ∧ kvs.length < sizeLine ∧ H' = upd H a (.dK (putK kvs k v))) ∨
  ∃ kvs k b, H a = some (.dT kvs) ∧ y = .ref b ∧ H b = some (.tup (k.map kV)) ∧ kvs.length < sizeLine ∧ H' = upd H a (.dT (putK kvs k v))
theorem DGet.t {H : Hp} {a b : Addr} {kvs : List (List Key × V)} {k : List Key} (e : H a = some (.dT kvs)) (eb : H b = some (.tup (k.map kV))) : DGet H a (.ref b) (valV kvs k) := .inr ⟨kvs, k, b, .inl e, rfl, eb, rfl⟩
theorem DPut.k {H : Hp} {a : Addr} {kvs : List (Key × V)} {k : Key} {v : V} (e : H a = some (.dK kvs)) (hl : kvs.length < sizeLine) : DPut H a (kV k) v (upd H a (.dK (putK kvs k v))) := .inl ⟨kvs, k, e, rfl, hl, rfl⟩
theorem DPut.t {H : Hp} {a b : Addr} {kvs : List (List Key × V)} {k : List Key} {v : V} (e : H a = some (.dT kvs)) (eb : H b = some (.tup (k.map kV))) (hl : kvs.length < sizeLine) :
    DPut H a (.ref b) v (upd H a (.dT (putK kvs k v))) := .inr ⟨kvs, k, b, e, rfl, eb, hl, rfl⟩


section
variable {X : Cx} {pins : List (Addr × Obj)} {σ : St} {H : Hp} {s : Shared} {a : Addr} {y v : V} {u r : Value} {o : Option V} {A : Around} {E : Value → Shared → Prop}

theorem Inv.big (I : Inv X pins σ H s) : sysModules < s.heap.objs.size := by
  have h : mainGlobals < s.heap.objs.size := (I.mod.glob.keeps I.bk).lt
  exact Nat.lt_trans (by decide) h

/-- d[y], there -/
theorem d_getItem {Q : Value → Shared → Prop} (hu : A.units + 1 < cLine) (I : Inv X pins σ H s) (g : DGet H a y (some v)) (ry : RelV y u) (h : ∀ w' s', Inv X pins σ H s' → RelV v w' → Q w' s') :
    wpAny (model X.prog X.w) A (getItem (.ref a) u) Q E s := by
  rcases g with ⟨kvs, k, e, ey, l⟩ | ⟨kvs, k, b, e, ey, eb, l⟩
  · subst ey
    obtain ⟨z, hd, vs, rel, dd⟩ := dk_rd I.hok e
    obtain ⟨w', hw, rw'⟩ := RelO.some_of (v := v) (o := valueAt vs k) (by rw [l]; exact rel.val k)
    exact wpAny_getItem_of (kV_is ry) dd.mapOf hw (h w' _ (I.tok _) rw')
  · subst ey
    cases (show u = Value.ref b from ry)
    obtain ⟨z, hd, xs, rel, dd⟩ := dt_rd I.hok e
    obtain ⟨w', hw, rw'⟩ := RelO.some_of (v := v) (o := (atKey xs k).map (·.2)) (by rw [l]; exact rel.val k)
    obtain ⟨p, hp, hp2⟩ := Option.map_eq_some_iff.mp hw
    refine wpAny_getItem_heap (tupleKind_room_in1 hu) (key_of I.hok eb) dd hp ?_
    rw [hp2]
    exact h w' _ (I.tok _) rw'
/-- y in d -/
theorem d_in {Q : Value → Shared → Prop} (hu : A.units + 1 < cLine) (I : Inv X pins σ H s) (g : DGet H a y o) (ry : RelV y u) (h : ∀ s', Inv X pins σ H s' → Q (.bool o.isSome) s') :
    wpAny (model X.prog X.w) A (compareOp .In u (.ref a)) Q E s := by
  rcases g with ⟨kvs, k, e, ey, l⟩ | ⟨kvs, k, b, e, ey, eb, l⟩
  · subst ey
    obtain ⟨z, hd, vs, rel, dd⟩ := dk_rd I.hok e
    refine wpAny_in_of (kV_is ry) hd dd.mapOf ?_
    rw [← (rel.val k).isSome_eq, ← l]
    exact h _ (I.tok _)
  · subst ey
    cases (show u = Value.ref b from ry)
    obtain ⟨z, hd, xs, rel, dd⟩ := dt_rd I.hok e
    refine wpAny_in_heap (tupleKind_room_in1 hu) (key_of I.hok eb) hd dd ?_
    have q := (rel.val k).isSome_eq
    rw [Option.isSome_map] at q
    rw [← q, ← l]
    exact h _ (I.tok _)
theorem d_notIn {Q : Value → Shared → Prop} (hu : A.units + 1 < cLine) (I : Inv X pins σ H s) (g : DGet H a y o) (ry : RelV y u) (h : ∀ s', Inv X pins σ H s' → Q (.bool (!o.isSome)) s') :
    wpAny (model X.prog X.w) A (compareOp .NotIn u (.ref a)) Q E s := by
  rcases g with ⟨kvs, k, e, ey, l⟩ | ⟨kvs, k, b, e, ey, eb, l⟩
  · subst ey
    obtain ⟨z, hd, vs, rel, dd⟩ := dk_rd I.hok e
    refine wpAny_notIn_of (kV_is ry) hd dd.mapOf ?_
    rw [← (rel.val k).isSome_eq, ← l]
    exact h _ (I.tok _)
  · subst ey
    cases (show u = Value.ref b from ry)
    obtain ⟨z, hd, xs, rel, dd⟩ := dt_rd I.hok e
    refine wpAny_notIn_heap (tupleKind_room_in1 hu) (key_of I.hok eb) hd dd ?_
    have q := (rel.val k).isSome_eq
    rw [Option.isSome_map] at q
    rw [← q, ← l]
    exact h _ (I.tok _)
/-- a dict's object is replaced -/
theorem d_write {h' : Heap} {t' : Nat} {ob : HO} (I : Inv X pins σ H s) (mu : Mut (H a)) (hs : Heap.SameBut a s.heap h') (he : ∃ q, h'.get? a = some q) (new : ObjOk X.prog X.w (upd H a ob) h' a ob) :
    Inv X pins σ (upd H a ob) { s with heap := h', toks := t' } :=
  I.write (x := a) (e := a) mu (.inl rfl) (fun b q hb z => (hs.2 b hb).trans z) he new
theorem dk_new {P : Program} {w : World} {H' : Hp} {h' : Heap} {kvs : List (Key × V)} {vs : List (Key × Value)} (z : kvs.length ≤ sizeLine) (hd : (a == sysModules) = false) (rel : KV kvs vs) (dd : h'.DictOf (mixKind P w) a vs) :
    ObjOk P w H' h' a (.dK kvs) := ⟨z, hd, vs, rel, dd⟩
/-- d[y] = v -/
theorem d_setItem {H' : Hp} {Q : Unit → Shared → Prop} (hu : A.units + 1 < cLine) (I : Inv X pins σ H s) (g : DPut H a y v H') (ry : RelV y u) (rv : RelV v r) (h : ∀ s', Inv X pins σ H' s' → Q () s') :
    wpAny (model X.prog X.w) A (setItem (.ref a) u r) Q E s := by
  rcases g with ⟨kvs, k, e, ey, l, eH⟩ | ⟨kvs, k, b, e, ey, eb, l, eH⟩
  · subst ey eH
    obtain ⟨z, hd, vs, rel, dd⟩ := dk_of I.hok e
    have hz : vs.length ≤ sizeLine := by rw [← rel.length]; exact z
    have hl : (putK kvs k v).length ≤ sizeLine := by have := length_putK kvs k v; omega
    refine wpAny_setItem_pairs (hsz := hz) (kV_is ry) dd fun h' dd' hs => h _ ?_
    have he : ∃ q, h'.get? a = some q := let ⟨q, _, _, hq, _⟩ := dd'; ⟨q, hq⟩
    exact d_write I (by rw [e]; exact True.intro) hs he (dk_new hl hd (rel.put k rv) dd')
  · subst ey eH
    cases (show u = Value.ref b from ry)
    obtain ⟨z, hd, xs, rel, dd⟩ := dt_of I.hok e
    have hz : xs.length ≤ sizeLine := by rw [← Paired.length rel]; exact z
    have hl : (putK kvs k v).length ≤ sizeLine := by have := length_putK kvs k v; omega
    refine wpAny_setItem_heap (hsz := hz) (tupleKind_room_in1 hu) (key_of I.hok eb) dd fun h' dd' hs => h _ ?_
    obtain ⟨q, es, ep, hq, h2, h3, h4, _, h5⟩ := dd'
    refine d_write I (by rw [e]; exact True.intro) hs ⟨q, hq⟩ ⟨hl, hd, _, (rel.put k eb rv).keeps fun c ys ec => ?_, q, es, ep, hq, h2, h3, h4, h5⟩
    rw [upd_ne (ne_of ec e (fun z => nomatch z))]
    exact ec
end

section
variable {X : Cx} {pins : List (Addr × Obj)} {σ : St} {H : Hp} {s : Shared} {a : Addr} {kvs : List (Key × V)} {k : Key} {u : Value} {A : Around} {E : Value → Shared → Prop}
end


/-! ### readings and rules -/
/-- the element of a subscription, not a slice -/
def NoSl (i : Expr) : Prop := ∀ ov iv, subscripted i false ov iv = operate [ov, iv] (getItem ov iv)
theorem subD_of {prog : Program} {w : World} {A : Around} {E : Value → Shared → Prop} {s : Shared} {env : Env} {value slice : Expr} {pos : Pos} {T id : String} {Q : Value → Shared → Prop}
    (hl : typeLookup (.type T) "__getitem__" = pure (some (.builtin id))) (hs : NoSl slice)
    (h : wpAny (model prog w) A (eval value env) (fun o s₁ => wpAny (model prog w) A (eval slice env) (fun i s₂ => s₂.TypeIs o T ∧ wpAny (model prog w) A (getItem o i) Q E s₂) E s₁) E s) :
    wpAny (model prog w) A (eval (.Subscript value slice pos) env) Q E s := by
  refine Subscript_ (wpAny_mono h (fun o s₁ h₁ => wpAny_mono h₁ (fun i s₂ h₂ => ?_) fun _ _ x => x) fun _ _ x => x)
  obtain ⟨hT, h₂⟩ := h₂
  unfold subscriptTail
  refine wpAny_bind ?_
  rw [getitemInPython_of_ne hT.not_modules]
  refine wpAny_bind (wpAny_specialOf hT hl ?_)
  have fin : wpAny (model prog w) A (subscripted slice false o i) (fun r s₃ => wpAny (model prog w) A (letTemporaryGo value o r >>= fun _ => pure r) Q E s₃) E s₂ := by
    rw [hs o i]
    exact wpAny_operating (wpAny_mono h₂ (fun r s₃ h₃ => wpAny_bind (wpAny_letTemporaryGo (wpAny_pure h₃))) fun _ _ x => x)
  first
    | exact wpAny_pure (wpAny_bind fin)
    | exact wpAny_bind (wpAny_pure (wpAny_bind fin))
    | exact wpAny_bind fin

theorem dict_typeIs {X : Cx} {pins : List (Addr × Obj)} {σ : St} {H : Hp} {s : Shared} {a : Addr} {y : V} {o : Option V} (I : Inv X pins σ H s) (g : DGet H a y o) : s.TypeIs (.ref a) "dict" := by
  rcases g with ⟨kvs, k, e, _, _⟩ | ⟨kvs, k, b, e, _, _, _⟩
  · obtain ⟨_, _, vs, _, dd⟩ := dk_rd I.hok e
    exact dd.typeIs
  · obtain ⟨_, _, xs, _, dd⟩ := dt_rd I.hok e
    exact dd.typeIs

/-- d[y] -/
def tDGet (td ty : TE) : TE := fun σ H Q => td σ H fun x H1 => ty σ H1 fun y H2 => ∃ a v, x = .ref a ∧ DGet H2 a y (some v) ∧ Q v H2
/-- y in d, y not in d -/
def tDIn (ty td : TE) : TE := fun σ H Q => ty σ H fun y H1 => td σ H1 fun x H2 => ∃ a o, x = .ref a ∧ DGet H2 a y o ∧ Q (.bl o.isSome) H2
def tDNotIn (ty td : TE) : TE := fun σ H Q => ty σ H fun y H1 => td σ H1 fun x H2 => ∃ a o, x = .ref a ∧ DGet H2 a y o ∧ Q (.bl (!o.isSome)) H2
/-- d[y] = v -/
def sDPut (td ty tv : TE) : TS := fun D σ H => tv σ H fun v H1 => td σ H1 fun x H2 => ty σ H2 fun y H3 => ∃ a H4, x = .ref a ∧ DPut H3 a y v H4 ∧ D.nx σ H4

section
variable {X : Cx} {o i e value : Expr} {pos pos' tpos : Pos} {td ty tv : TE}
theorem pe_dget (hu : X.A.units + 1 < cLine) (ho : PE X o td) (hi : PE X i ty) (hs : NoSl i) : PE X (.Subscript o i pos) (tDGet td ty) := by
  intro pins s σ H Q I h
  refine subD_of PySem.F.slot_dict_getitem.lookup hs (thn (ho pins s σ H _ I h) fun u s1 ⟨x, H1, I1, rx, q1⟩ => thn (hi pins s1 σ H1 _ I1 q1) fun iv s2 ⟨y, H2, I2, ry, a, v, ex, g, q2⟩ => ?_)
  subst ex
  obtain rfl : u = Value.ref a := rx
  exact ⟨dict_typeIs I2 g, d_getItem hu I2 g ry fun w' s3 I3 rw' => ⟨v, H2, I3, rw', q2⟩⟩
theorem pc_din (hu : X.A.units + 1 < cLine) (hi : PE X i ty) (ho : PE X o td) : PC X .In i o (tDIn ty td) := by
  intro pins s σ H Q I h
  refine thn (hi pins s σ H _ I h) fun iv s1 ⟨y, H1, I1, ry, q1⟩ => thn (ho pins s1 σ H1 _ I1 q1) fun u s2 ⟨x, H2, I2, rx, a, ov, ex, g, q2⟩ => ?_
  subst ex
  obtain rfl : u = Value.ref a := rx
  exact d_in hu I2 g ry fun s3 I3 => ⟨.bl ov.isSome, H2, I3, rfl, q2⟩
theorem pc_dnotin (hu : X.A.units + 1 < cLine) (hi : PE X i ty) (ho : PE X o td) : PC X .NotIn i o (tDNotIn ty td) := by
  intro pins s σ H Q I h
  refine thn (hi pins s σ H _ I h) fun iv s1 ⟨y, H1, I1, ry, q1⟩ => thn (ho pins s1 σ H1 _ I1 q1) fun u s2 ⟨x, H2, I2, rx, a, ov, ex, g, q2⟩ => ?_
  subst ex
  obtain rfl : u = Value.ref a := rx
  exact d_notIn hu I2 g ry fun s3 I3 => ⟨.bl (!ov.isSome), H2, I3, rfl, q2⟩
theorem ps_dput (hu : X.A.units + 1 < cLine) (ho : PE X o td) (hi : PE X i ty) (hv : PE X value tv) (hs : swapsWith value (some (.Subscript o i pos')) pos.line X.env = pure false) :
    PS X (.Assign [.Subscript o i pos'] value pos) (sDPut td ty tv) := by
  intro pins s σ H D I h
  refine wpAny_Assign_Subscript (thn (hv pins s σ H _ I h) fun r s1 ⟨v, H1, I1, rv, q1⟩ => thn (ho pins s1 σ H1 _ I1 q1) fun u s2 ⟨x, H2, I2, rx, q2⟩ => thn (hi pins s2 σ H2 _ I2 q2) fun iv s3 ⟨y, H3, I3, ry, a, H4, ex, g, q3⟩ => ?_) hs
  subst ex
  obtain rfl : u = Value.ref a := rx
  exact d_setItem hu I3 g ry rv fun s4 I4 => ⟨σ, H4, I4, q3⟩
end


/-! ### displays -/
theorem dk_empty {P : Program} {w : World} {H : Hp} (h : Heap) (hb : sysModules < h.objs.size) : ObjOk P w H (h.push { cls := .type "dict", data := .dict #[] }) h.objs.size (.dK []) :=
  ⟨Nat.zero_le _, beq_eq_false_iff_ne.mpr (Ne.symm (Nat.ne_of_lt hb)), [], .nil, Heap.DictOf.new h⟩
theorem dt_empty {P : Program} {w : World} {H : Hp} (h : Heap) (hb : sysModules < h.objs.size) : ObjOk P w H (h.push { cls := .type "dict", data := .dict #[] }) h.objs.size (.dT []) :=
  ⟨Nat.zero_le _, beq_eq_false_iff_ne.mpr (Ne.symm (Nat.ne_of_lt hb)), [], .nil, _, #[], 0, Heap.get?_push_size _ rfl, ⟨rfl, rfl, rfl⟩, rfl, rfl, List.nodup_nil⟩
/-- {}, to be a dict of the kind that is wanted -/
def tDNewK : TE := fun _ H Q => ∀ p, H p = none → Q (.ref p) (upd H p (.dK []))
def tDNewT : TE := fun _ H Q => ∀ p, H p = none → Q (.ref p) (upd H p (.dT []))
section
variable {X : Cx} {pos : Pos}
theorem pe_dnewK : PE X (.Dict [] [] pos) tDNewK := fun pins s σ H Q I h =>
  wpAny_Dict_empty ⟨.ref s.heap.objs.size, _, I.laid (a := s.heap.objs.size) (o := .dK []) (t' := s.toks) (fun _ _ q => Heap.get?_push_of_some _ q) (Nat.le_refl _) (dk_empty s.heap I.big), rfl, h _ (I.hok.fresh (Nat.le_refl _))⟩
theorem pe_dnewT : PE X (.Dict [] [] pos) tDNewT := fun pins s σ H Q I h =>
  wpAny_Dict_empty ⟨.ref s.heap.objs.size, _, I.laid (a := s.heap.objs.size) (o := .dT []) (t' := s.toks) (fun _ _ q => Heap.get?_push_of_some _ q) (Nat.le_refl _) (dt_empty s.heap I.big), rfl, h _ (I.hok.fresh (Nat.le_refl _))⟩
end


def mergeK (kvs more : List (Key × V)) : List (Key × V) := more.foldl (fun acc kv => putK acc kv.1 kv.2) kvs
theorem KV.merge : ∀ {more : List (Key × V)} {rs : List (Key × Value)} {kvs : List (Key × V)} {vs : List (Key × Value)}, KV more rs → KV kvs vs → KV (mergeK kvs more) (merged vs rs) := by
  intro more rs kvs vs r
  unfold KV at r
  induction r generalizing kvs vs with
  | nil => intro q; exact q
  | @cons p q ps qs h t ih =>
    intro r0
    have e : KV (putK kvs p.1 p.2) (stored vs q.1 q.2) := by
      have := r0.put p.1 h.2
      rw [← h.1]; exact this
    exact ih e
theorem length_mergeK : ∀ (more kvs : List (Key × V)), (mergeK kvs more).length ≤ kvs.length + more.length
  | [], kvs => by show kvs.length ≤ kvs.length + 0; omega
  | p :: r, kvs => by
    have h1 := length_mergeK r (putK kvs p.1 p.2)
    have h2 := length_putK kvs p.1 p.2
    show (mergeK (putK kvs p.1 p.2) r).length ≤ _
    rw [List.length_cons]; omega


/-! ### methods -/
structure M2 (X : Cx) (o : Expr) (m : Str) (apos : Pos) (e f : Expr) (cpos : Pos) : Prop where
  base : attributeBase o m X.env (eval o X.env) = eval o X.env
  few : ((backTo cpos (starEach [e, f] X.env)).all (fun x => !x.1) && (backToKw cpos (keywordEach [] X.env)).all (fun x => x.1.isSome)
    && decide (([e, f] : List Expr).length + ([] : List Keyword).length + (if ([] : List Keyword).isEmpty then 0 else 1) < 30)) = true
  line : (apos.endLine == cpos.line) = true
  trees : backTo cpos (starEach [e, f] X.env) = [(false, eval e X.env), (false, eval f X.env)]

/-- a is a dict, whatever its keys -/
def IsD (H : Hp) (a : Addr) : Prop := (∃ kvs, Rd H a (.dK kvs)) ∨ ∃ kvs, Rd H a (.dT kvs)
theorem isD_at {X : Cx} {pins : List (Addr × Obj)} {σ : St} {H : Hp} {s : Shared} {a : Addr} (I : Inv X pins σ H s) (d : IsD H a) :
    s.TypeIs (.ref a) "dict" ∧ (∀ b, Value.ref a = .ref b → ∃ ob, s.heap.get? b = some ob ∧ ob.dict = none) ∧ (a == sysModules) = false := by
  rcases d with ⟨kvs, e⟩ | ⟨kvs, e⟩
  · obtain ⟨_, hd, vs, _, dd⟩ := dk_rd I.hok e
    refine ⟨dd.typeIs, fun b q => ?_, hd⟩
    cases q
    obtain ⟨ob, _, _, h1, h2, _⟩ := dd
    exact ⟨ob, h1, h2.2.1⟩
  · obtain ⟨_, hd, xs, _, dd⟩ := dt_rd I.hok e
    refine ⟨dd.typeIs, fun b q => ?_, hd⟩
    cases q
    obtain ⟨ob, _, _, h1, h2, _⟩ := dd
    exact ⟨ob, h1, h2.2.1⟩

section
variable {X : Cx} {pins : List (Addr × Obj)} {σ : St} {H : Hp} {s : Shared} {a : Addr} {y d : V} {u r : Value} {o : Option V} {A : Around} {E : Value → Shared → Prop}
/-- d.get(y, x) -/
theorem d_get2 {Q : Value → Shared → Prop} (hu : A.units + 1 < cLine) (I : Inv X pins σ H s) (g : DGet H a y o) (ry : RelV y u) (rd : RelV d r) (h : ∀ w' s', Inv X pins σ H s' → RelV (o.getD d) w' → Q w' s') :
    wpAny (model X.prog X.w) A (call (.builtin "dict.get") [.ref a, u, r]) Q E s := by
  rcases g with ⟨kvs, k, e, ey, l⟩ | ⟨kvs, k, b, e, ey, eb, l⟩
  · subst ey
    obtain ⟨z, hd, vs, rel, dd⟩ := dk_rd I.hok e
    refine call_meetsIn PySem.F.slot_dict_get dd.typeIs PySem.F.entry_dict_get (PySem.F.args_dict_get_3 _ _ _) (meets_dict_get_default (mixKind X.prog X.w) a (kV_is ry) hd r) ⟨_, dd.mapOf, h _ _ (I.tok _) ?_⟩
    rw [l]
    exact (rel.val k).getD rd
  · subst ey
    cases (show u = Value.ref b from ry)
    obtain ⟨z, hd, xs, rel, dd⟩ := dt_rd I.hok e
    refine call_meetsIn PySem.F.slot_dict_get dd.typeIs PySem.F.entry_dict_get (PySem.F.args_dict_get_3 _ _ _) (meetsH_dict_get_default (tupleKind (mixKind X.prog X.w)) a b hd r) ⟨tupleKind_room_in1 hu, k, xs, key_of I.hok eb, dd, h _ _ (I.tok _) ?_⟩
    rw [l]
    exact (rel.val k).getD rd
end

def tDGet2 (td ty tx : TE) : TE := fun σ H Q => td σ H fun x H1 => ∃ a, x = .ref a ∧ IsD H1 a ∧ ty σ H1 fun y H2 => tx σ H2 fun z H3 => ∃ o, DGet H3 a y o ∧ Q (o.getD z) H3
section
variable {X : Cx} {o e f : Expr} {apos cpos : Pos} {td ty tx : TE}
theorem pe_dget2 (hu : X.A.units + 1 < cLine) (ho : PE X o td) (he : PE X e ty) (hf : PE X f tx) (m : M2 X o "get" apos e f cpos) : PE X (.Call (.Attribute o "get" apos) [e, f] [] cpos) (tDGet2 td ty tx) := by
  intro pins s σ H Q I h
  refine wpAny_Call_method m.base m.few m.line PySem.F.plainAttrs_dict PySem.F.slot_dict_get PySem.F.type_dict_get (thn (ho pins s σ H _ I h) fun u s1 ⟨x, H1, I1, rx, a, ex, d, q1⟩ => ?_)
  subst ex
  obtain rfl : u = Value.ref a := rx
  obtain ⟨t1, t2, _⟩ := isD_at I1 d
  refine ⟨t1, t2, ?_⟩
  rw [m.trees]
  refine Calls.callWith_builtin rfl (Calls.evalArgs_plain (Calls.spliced_cons (thn (he pins s1 σ H1 _ I1 q1) fun iv s2 ⟨y, H2, I2, ry, q2⟩ =>
    Calls.spliced_cons (thn (hf pins s2 σ H2 _ I2 q2) fun fv s3 ⟨z, H3, I3, rz, ov, g, q3⟩ => Calls.spliced_nil ?_))))
  exact d_get2 hu I3 g ry rz fun w' s4 I4 rw' => ⟨_, H3, I4, rw', q3⟩
end

/-! ### dict(d): a copy -/
section
variable {X : Cx} {pins : List (Addr × Obj)} {σ : St} {H : Hp} {s : Shared} {a : Addr} {kvs : List (Key × V)} {A : Around} {E : Value → Shared → Prop}
end


section
variable {X : Cx} {pins : List (Addr × Obj)} {σ : St} {H : Hp} {s : Shared} {a : Addr} {y : V} {u : Value} {A : Around} {E : Value → Shared → Prop}
end
end L2
namespace L2
open PySem PySem.Spec PyProof.Rows
/-! ### a dict's pairs: keys that differ -/
section
variable {κ : Type} [DecidableEq κ]
theorem nd_snoc : ∀ {l : List κ} {k : κ}, l.Nodup → ¬ k ∈ l → (l ++ [k]).Nodup
  | [], k, _, _ => by simp
  | a :: r, k, h, hk => by
    obtain ⟨h1, h2⟩ := List.nodup_cons.mp h
    show (a :: (r ++ [k])).Nodup
    refine List.nodup_cons.mpr ⟨fun m => ?_, nd_snoc h2 fun m => hk (List.mem_cons.mpr (Or.inr m))⟩
    rcases List.mem_append.mp m with q | q
    · exact h1 q
    · exact hk (List.mem_cons.mpr (Or.inl (List.mem_singleton.mp q).symm))
end
end L2

set_option Elab.async false
set_option linter.all false
set_option maxRecDepth 100000
set_option maxHeartbeats 4000000
/-! ### sorted, when the comparisons are known: one order for one list -/
namespace L2
open PySem PySem.W PyProof.Rows
def kasVal {α : Type} (c : Nat → Nat → Bool) : KasT α → α
  | .ret a => a
  | .ask i j k => kasVal c (k (c i j))
/-- all that a tree asks lies below n, all that it ends with is so -/
def KasIn {α : Type} (n : Nat) (R : α → Prop) : KasT α → Prop
  | .ret a => R a
  | .ask i j k => i < n ∧ j < n ∧ ∀ b, KasIn n R (k b)
theorem KasIn.bind {α β : Type} {n : Nat} {R : α → Prop} {S : β → Prop} {f : α → KasT β} (hf : ∀ a, R a → KasIn n S (f a)) : ∀ {t : KasT α}, KasIn n R t → KasIn n S (t.bind f)
  | .ret _, h => hf _ h
  | .ask _ _ _, h => ⟨h.1, h.2.1, fun b => KasIn.bind hf (h.2.2 b)⟩
theorem KasIn.val {α : Type} {n : Nat} {R : α → Prop} (c : Nat → Nat → Bool) : ∀ {t : KasT α}, KasIn n R t → R (kasVal c t)
  | .ret _, h => h
  | .ask i j k, h => KasIn.val c (t := k (c i j)) (h.2.2 (c i j))
theorem KasIn.wp {α : Type} {n : Nat} {R : α → Prop} {c : Nat → Nat → Bool} {cmp : Nat → Nat → (Bool → Shared → Prop) → Shared → Prop} {s : Shared} (hc : ∀ i j, i < n → j < n → ∀ C, C (c i j) s → cmp i j C s) {Q : α → Shared → Prop} :
    ∀ {t : KasT α}, KasIn n R t → Q (kasVal c t) s → t.kasWp cmp Q s
  | .ret _, _, q => q
  | .ask i j k, h, q => hc i j h.1 h.2.1 _ (KasIn.wp hc (t := k (c i j)) (h.2.2 (c i j)) q)
/-- the places 0 .. n - 1 in some order -/
abbrev Places (n : Nat) (p : Array Nat) : Prop := p.Perm (List.range n).toArray
theorem Places.lt {n : Nat} {p : Array Nat} (h : Places n p) (h0 : 0 < n) (i : Nat) : p.getD i 0 < n := by
  by_cases hi : i < p.size
  · have e : p.getD i 0 = p[i] := by simp [Array.getD, hi]
    rw [e]
    have := h.mem_iff.mp (Array.getElem_mem hi)
    simpa using this
  · have e : p.getD i 0 = 0 := by simp [Array.getD, hi]
    rw [e]; exact h0
theorem places_rev {n : Nat} {p : Array Nat} (h : Places n p) (i j : Nat) : Places n (kas_rev p i j) := (mirror_perm _ _ _ _).trans h
theorem in_asc {n : Nat} {p : Array Nat} (h0 : 0 < n) (hp : Places n p) : ∀ (f k : Nat), KasIn n (fun _ => True) (kas_asc p f k)
  | 0, _ => trivial
  | f + 1, k => ⟨hp.lt h0 _, hp.lt h0 _, fun b => by cases b with | true => exact trivial | false => exact in_asc h0 hp f (k + 1)⟩
theorem in_desc {n : Nat} (h0 : 0 < n) : ∀ (f : Nat) {p : Array Nat}, Places n p → ∀ k q, KasIn n (fun r : Array Nat × Nat × Nat => Places n r.1) (kas_desc f p k q)
  | 0, _, hp, _, _ => hp
  | f + 1, p, hp, k, q => by
    refine ⟨hp.lt h0 _, hp.lt h0 _, fun b => ?_⟩
    cases b with
    | true =>
      show KasIn n _ (if q > 0 then _ else _)
      split
      · exact in_desc h0 f (places_rev hp _ _) _ _
      · exact in_desc h0 f hp _ _
    | false =>
      refine ⟨hp.lt h0 _, hp.lt h0 _, fun b => ?_⟩
      cases b with
      | true => exact hp
      | false => exact in_desc h0 f hp _ _
theorem in_tail3 {n k m : Nat} {p : Array Nat} (h0 : 0 < n) (hp : Places n p) : KasIn n (fun r : Nat × Array Nat => Places n r.2) (kas_tail3 k m p) :=
  KasIn.bind (R := fun _ => True) (S := fun r : Nat × Array Nat => Places n r.2) (f := fun j => .ret (j, kas_rev p 0 k)) (fun _ _ => places_rev hp 0 k) (in_asc h0 (places_rev hp 0 k) (m - k) k)
theorem in_descPart {n k m : Nat} {p : Array Nat} (h0 : 0 < n) (hp : Places n p) : KasIn n (fun r : Nat × Array Nat => Places n r.2) (kas_descPart k m p) :=
  KasIn.bind (fun r hr => by
    split
    · exact in_tail3 h0 (places_rev hr _ _)
    · exact in_tail3 h0 hr) (in_desc h0 _ hp _ _)
theorem in_count {n m : Nat} {p : Array Nat} (h0 : 0 < n) (hp : Places n p) : KasIn n (fun r : Nat × Array Nat => Places n r.2) (kas_count m p) :=
  KasIn.bind (fun k _ => by
    split
    · exact hp
    · split
      · refine ⟨hp.lt h0 _, hp.lt h0 _, fun b => ?_⟩
        cases b with
        | true => exact hp
        | false => exact in_descPart h0 (places_rev hp _ _)
      · exact in_descPart h0 hp) (in_asc h0 hp _ _)
theorem in_place {n k : Nat} {p : Array Nat} (h0 : 0 < n) (hp : Places n p) : ∀ (f l r : Nat), KasIn n (fun _ => True) (kas_place p k f l r)
  | 0, _, _ => trivial
  | f + 1, l, r => by
    unfold kas_place
    split
    · exact trivial
    · refine ⟨hp.lt h0 _, hp.lt h0 _, fun b => ?_⟩
      cases b with
      | true => exact in_place h0 hp f _ _
      | false => exact in_place h0 hp f _ _
theorem in_bin {n : Nat} (h0 : 0 < n) : ∀ (f : Nat) {p : Array Nat} (k : Nat), Places n p → KasIn n (Places n) (kas_bin f p k)
  | 0, _, _, hp => hp
  | f + 1, _, k, hp => KasIn.bind (fun _ _ => in_bin h0 f (k + 1) ((bubble_perm _ _ _).trans hp)) (in_place h0 hp _ _ _)
theorem in_sort {n : Nat} (h0 : 0 < n) : KasIn n (Places n) (kas_sort n) :=
  KasIn.bind (fun r hr => by
    split
    · exact in_bin h0 _ _ hr
    · exact hr) (in_count h0 (Array.Perm.refl _))
/-- a list in the order that the comparisons c make of it -/
def orderBy {α : Type} (d : α) (c : Nat → Nat → Bool) (l : List α) : List α := if l.length < 2 then l else (kasVal c (kas_sort l.length)).toList.map fun i => l.getD i d
theorem places_sort {n : Nat} (c : Nat → Nat → Bool) (h : 0 < n) : Places n (kasVal c (kas_sort n)) := (in_sort h).val c
theorem orderBy_length {α : Type} (d : α) (c : Nat → Nat → Bool) (l : List α) : (orderBy d c l).length = l.length := by
  unfold orderBy
  split
  · rfl
  · have h := (places_sort (n := l.length) c (by omega)).size_eq
    rw [List.length_map, Array.length_toList, h]; simp
end L2

set_option Elab.async false
set_option linter.all false
set_option maxRecDepth 100000
set_option maxHeartbeats 4000000
namespace L2
open PySem PySem.W PyProof.Rows PySem.Calls
section
variable {prog : Program} {w : World} {A : Around} {E : Value → Shared → Prop} {s : Shared}
/-- all but a is kept -/
abbrev KeptBut (a : Addr) (h h' : Heap) : Prop := ∀ b o, b ≠ a → h.get? b = some o → h'.get? b = some o
theorem sort_by {a : Addr} {vs : List Value} {n : Nat} {P : PySem.Fin → Shared → Prop} (c : Nat → Nat → Bool) (κ : SortKind) (ho : s.heap.get? a = some (seqObj "list" vs.toArray n)) (h64 : vs.length < 64)
    (hk : 2 ≤ vs.length → ∀ h', KeptBut a s.heap h' → ∀ R : SortKind → Shared → Prop, R κ { s with heap := h' } → wpAny (model prog w) A (keyKind' vs.toArray) R (fun _ _ => False) { s with heap := h' })
    (hc : 2 ≤ vs.length → ∀ h', KeptBut a s.heap h' → ∀ i j, i < vs.length → j < vs.length → ∀ C, C (c i j) { s with heap := h' } → kas_ask prog w A κ vs i j C { s with heap := h' })
    (h : ∀ h' e, KeptBut a s.heap h' → h'.get? a = some (seqObj "list" (orderBy Value.none c vs).toArray e) → P (.done (.ret .none)) { s with heap := h' }) :
    wpAny (model prog w) A (Builtin.«list.sort» ⟨[.ref a], []⟩) P E s := by
  have lt : a < s.heap.objs.size := Heap.lt_size ho
  generalize hg1 : s.heap.update a (Obj.mapSeq fun _ => (#[] : Array Value)) = g1
  have sb1 : Heap.SameBut a s.heap g1 := hg1 ▸ Heap.SameBut.update s.heap a (Obj.mapSeq fun _ => (#[] : Array Value))
  obtain ⟨e1, o1⟩ : ∃ e1, g1.get? a = some (seqObj "list" #[] e1) := hg1 ▸ ⟨_, get?_update_seq ho fun _ => #[]⟩
  have lt1 : a < g1.objs.size := Heap.lt_size o1
  have kp : KeptBut a s.heap ((g1.push (seqObj "tuple" vs.toArray 0)).push (seqObj "list" #[] 0)) := fun b o hb q =>
    Heap.get?_push_of_some _ (Heap.get?_push_of_some _ ((sb1.2 b hb).trans q))
  have o3 : ((g1.push (seqObj "tuple" vs.toArray 0)).push (seqObj "list" #[] 0)).get? a = some (seqObj "list" #[] e1) := Heap.get?_push_of_some _ (Heap.get?_push_of_some _ o1)
  generalize hg3 : (g1.push (seqObj "tuple" vs.toArray 0)).push (seqObj "list" #[] 0) = g3 at kp o3
  have fin : ∀ out : List Value, out.length = vs.length → out = orderBy Value.none c vs → wpAny (model prog w) A (do
      let touched := (← seqEpoch a) != e1
      Builtin.List.listUpdate (.ref a) fun _ => out.toArray
      if let some e := (none : Option Value) then rule "list.sort.comparison-raised"; throw e
      if touched then rule "list.sort.modified"; raiseError "ValueError" "list modified during sort"
      ret .none) P E { s with heap := g3 } := by
    intro out hl ho'
    obtain ⟨e2, o4⟩ : ∃ e2, (g3.update a (Obj.mapSeq fun _ => out.toArray)).get? a = some (seqObj "list" out.toArray e2) := ⟨_, get?_update_seq o3 fun _ => out.toArray⟩
    refine wpAny_bind (seqEpoch_at (s := { s with heap := g3 }) o3 rfl ?_)
    refine wpAny_bind (listUpdate_at (s := { s with heap := g3 }) o3 rfl ?_ (Nat.zero_le _) (by rw [List.size_toArray, sizeLine_eq]; omega))
    simp only [bne_self_eq_false, Bool.false_eq_true, if_false]
    refine wpAny_pure (h _ e2 (fun b o hb q => ?_) (ho' ▸ o4))
    exact ((Heap.SameBut.update g3 a (Obj.mapSeq fun _ => out.toArray)).2 b hb).trans (kp b o hb q)
  rw [list_sort_plain]
  refine wpAny_bind (listItems_at ho rfl (wpAny_bind (listUpdate_at ho rfl ?_ (by rw [List.size_toArray, sizeLine_eq]; omega) (Nat.zero_le _))))
  rw [hg1]
  refine wpAny_bind (seqEpoch_at (s := { s with heap := g1 }) o1 rfl ?_)
  refine wpAny_bind (wpAny_newTuple ?_ (by show vs.length ≤ _; rw [sizeLine_eq]; omega))
  refine wpAny_bind (wpAny_newList ?_ (Nat.zero_le _))
  refine wpAny_holding ?_
  show wpAny (model prog w) A _ P E { s with heap := (g1.push (seqObj "tuple" vs.toArray 0)).push (seqObj "list" #[] 0) }
  rw [hg3]
  dsimp only
  by_cases h2 : vs.toArray.size < 2
  · rw [if_pos h2, if_pos h2]
    have h2' : vs.length < 2 := by rwa [List.size_toArray] at h2
    refine wpAny_bind (wpAny_pure ?_)
    rw [StateT.run_pure]
    refine wpAny_bind (wpAny_pure ?_)
    dsimp only
    have ez : (arrOf (SortSt.mk' general' (vs.toArray.zip vs.toArray) #[] 7 none)).map (·.2) = vs.toArray := by
      show (vs.toArray.zip vs.toArray).map (·.2) = _
      apply Array.toList_inj.mp
      rw [Array.toList_map, Array.toList_zip, List.map_snd_zip]
      exact Nat.le_refl _
    rw [ez]
    exact fin vs rfl (by unfold orderBy; rw [if_pos h2'])
  · rw [if_neg h2, if_neg h2]
    have h2' : 2 ≤ vs.length := by rw [List.size_toArray] at h2; omega
    refine wpAny_bind (wpAny_mono (hk h2' _ kp (fun κ' s' => κ' = κ ∧ s' = { s with heap := g3 }) ⟨rfl, rfl⟩) ?_ fun _ _ x => x.elim)
    rintro _ _ ⟨rfl, rfl⟩
    refine wpAny_bind (wpAny_mono (kat_run (Q := fun st' s' => ∃ p : Array Nat, p = kasVal c (kas_sort vs.length) ∧ arrOf st' = p.map (kas_item (vs.toArray.zip vs.toArray)) ∧ failedOf st' = none ∧ s' = { s with heap := g3 }) (G := fun p s' => p = kasVal c (kas_sort vs.length) ∧ s' = { s with heap := g3 })
      rfl h2' h64 (fun p st' s' _ a2 a3 a4 => ⟨p, a4.1, a2, a3, a4.2⟩) ((in_sort (by omega)).wp (hc h2' _ kp) ⟨rfl, rfl⟩)) ?_ fun _ _ e => e)
    rintro ⟨⟨⟩, st'⟩ _ ⟨p, rfl, har, hf, rfl⟩
    dsimp only
    rw [kat_snds rfl har, hf]
    have hz := (places_sort (n := vs.length) c (by omega)).size_eq
    exact fin _ (by rw [List.length_map, Array.length_toList, hz]; simp) (by unfold orderBy; rw [if_neg (by omega)])
theorem sorted_by {l : Addr} {vs : List Value} {Q : Value → Shared → Prop} (c : Nat → Nat → Bool) (κ : SortKind) (hl : s.heap.IsList l vs.toArray) (h64 : vs.length < 64)
    (hk : 2 ≤ vs.length → ∀ h', (∀ b o, s.heap.get? b = some o → h'.get? b = some o) → ∀ R : SortKind → Shared → Prop, R κ { s with heap := h' } → wpAny (model prog w) A.in1.in1 (keyKind' vs.toArray) R (fun _ _ => False) { s with heap := h' })
    (hc : 2 ≤ vs.length → ∀ h', (∀ b o, s.heap.get? b = some o → h'.get? b = some o) → ∀ i j, i < vs.length → j < vs.length → ∀ C, C (c i j) { s with heap := h' } → kas_ask prog w A.in1.in1 κ vs i j C { s with heap := h' })
    (h : ∀ D h' e, s.heap.objs.size ≤ D → (∀ b o, s.heap.get? b = some o → h'.get? b = some o) → h'.get? D = some (seqObj "list" (orderBy Value.none c vs).toArray e) → Q (.ref D) { s with heap := h' }) :
    wpAny (model prog w) A (call (.builtin "sorted") [.ref l]) Q E s := by
  have hz64 : vs.length ≤ sizeLine := by rw [sizeLine_eq]; omega
  refine Calls.call_function_entry kind_sorted plain_sorted entry_sorted (args_sorted1 _) ?_
  unfold Builtin.«sorted»
  refine wpAny_bind (m := checkCount "sorted" 1 1 _) (wpAny_pure (wpAny_bind (collect_list hl ?_ hz64)))
  refine wpAny_bind (wpAny_newList ?_ hz64)
  generalize hq : (s.heap.push (seqObj "list" #[] 0)).update s.heap.objs.size (Obj.mapSeq (· ++ vs.toArray)) = q
  have qs : q.objs.size = s.heap.objs.size + 1 := by rw [← hq, Heap.size_update, size_push']
  have qk : ∀ b o, s.heap.get? b = some o → q.get? b = some o := fun b o e => by
    have bl : b < s.heap.objs.size := Heap.lt_size e
    rw [← hq, Heap.get?_update_ne _ _ _ _ (Nat.ne_of_lt bl), Heap.get?_push_ne _ _ _ (Nat.ne_of_lt bl)]
    exact e
  have oD : (q.push (seqObj "list" vs.toArray 0)).get? q.objs.size = some (seqObj "list" vs.toArray 0) := Heap.get?_push_size _ rfl
  have kD : ∀ h', KeptBut q.objs.size (q.push (seqObj "list" vs.toArray 0)) h' → ∀ b o, s.heap.get? b = some o → h'.get? b = some o := fun h' k b o e =>
    k b o (Nat.ne_of_lt (by rw [qs]; exact Nat.lt_succ_of_lt (Heap.lt_size e))) (Heap.get?_push_of_some _ (qk b o e))
  refine wpAny_bind (wpAny_holding (wpAny_call_entry slot_list_sort ⟨_, oD, rfl⟩ entry_list_sort ?body (args_list_sort _)))
  case body =>
    refine sort_by (s := { s with heap := q.push (seqObj "list" vs.toArray 0) }) c κ oD h64 (fun h2 h' k => hk h2 h' (kD h' k)) (fun h2 h' k => hc h2 h' (kD h' k)) fun h' e k o' => ?_
    exact ⟨_, rfl, wpAny_pure ⟨_, rfl, h _ h' e (by show s.heap.objs.size ≤ q.objs.size; rw [qs]; exact Nat.le_succ _) (kD h' k) o'⟩⟩
end
end L2

set_option Elab.async false
set_option linter.all false
set_option maxRecDepth 100000
set_option maxHeartbeats 4000000
/-! ### rows: tuples of numbers and texts, sorted -/
namespace L2
open PySem PySem.W PyProof.Rows
def kindK : Key → Bool
  | .inl _ => true
  | .inr _ => false
def ltKey : Key → Key → Bool
  | .inl i, .inl j => decide (i < j)
  | .inr x, .inr y => decide (x.cps.toList < y.cps.toList)
  | _, _ => false
def lexK : List Key → List Key → Bool
  | a :: as, b :: bs => if a = b then lexK as bs else ltKey a b
  | _, _ => false
section
variable {prog : Program} {w : World} {A : Around} {s : Shared}
theorem key_eq {a b : Key} {u v : Value} {Q : Bool → Shared → Prop} {E : Value → Shared → Prop} (k : kindK a = kindK b) (ru : RelV (kV a) u) (rv : RelV (kV b) v) (q : Q (decide (a = b)) s) : wpAny (model prog w) A (eqBool u v) Q E s := by
  cases a <;> cases b <;> first | (cases k; done) | skip
  · obtain ⟨t, rfl⟩ := ru; obtain ⟨t', rfl⟩ := rv
    refine wpAny_eqBool_int ?_
    rename_i i j
    have e : (i == j) = decide ((Sum.inl i : Key) = Sum.inl j) := by
      by_cases z : i = j
      · subst z; simp
      · rw [beq_false_of_ne z, decide_eq_false (fun y => z (Sum.inl.inj y))]
    rw [e]; exact q
  · obtain ⟨t, rfl⟩ := ru; obtain ⟨t', rfl⟩ := rv
    refine wpAny_eqBool_str ?_
    rename_i i j
    have e : decide (i = j) = decide ((Sum.inr i : Key) = Sum.inr j) := by
      by_cases z : i = j
      · subst z; simp
      · rw [decide_eq_false z, decide_eq_false (fun y => z (Sum.inr.inj y))]
    rw [e]; exact q
theorem key_lt {a b : Key} {u v : Value} {Q : Bool → Shared → Prop} {E : Value → Shared → Prop} (k : kindK a = kindK b) (ru : RelV (kV a) u) (rv : RelV (kV b) v) (q : Q (ltKey a b) s) (t : Bool) : wpAny (model prog w) A (oneLt' t u v) Q E s := by
  cases a <;> cases b <;> first | (cases k; done) | skip
  · obtain ⟨t1, rfl⟩ := ru; obtain ⟨t2, rfl⟩ := rv
    cases t with
    | true => exact oneLt_int q
    | false => exact kat_one _ _ (lt_int q)
  · obtain ⟨t1, rfl⟩ := ru; obtain ⟨t2, rfl⟩ := rv
    cases t with
    | true => exact oneLt_str q
    | false => exact kat_one _ _ (lt_str q)
theorem lex_at {Q : Bool → Shared → Prop} : ∀ {as bs : List Key} {us vs : List Value} (i : Nat), as.map kindK = bs.map kindK → Vals (as.map kV) us → Vals (bs.map kV) vs → Q (lexK as bs) s → KatLex prog w A true false Q (us.zip vs) i s
  | [], [], _, _, _, _, .nil, .nil, q => kat_nil q
  | [], _ :: _, _, _, _, k, _, _, _ => by cases k
  | _ :: _, [], _, _, _, k, _, _, _ => by cases k
  | a :: as, b :: bs, _, _, i, k, .cons ra rs, .cons rb rt, q => by
    have k1 : kindK a = kindK b := (List.cons.inj k).1
    refine kat_cons (key_eq k1 ra rb ?_)
    have q' : Q (if a = b then lexK as bs else ltKey a b) s := q
    by_cases z : a = b
    · rw [if_pos z] at q'
      rw [decide_eq_true z]
      exact kat_yes (lex_at (i + 1) (List.cons.inj k).2 rs rt q')
    · rw [if_neg z] at q'
      rw [decide_eq_false z]
      exact kat_no (key_lt k1 ra rb q' _)
end
/-- items that are rows -/
abbrev KRows (H : Hp) : List V → List (List Key) → Prop := Paired fun v r => ∃ p, v = .ref p ∧ H p = some (.tup (r.map kV))
theorem KRows.map {H H' : Hp} (f : ∀ p xs, H p = some (.tup xs) → H' p = some (.tup xs)) : ∀ {vs : List V} {rs : List (List Key)}, KRows H vs rs → KRows H' vs rs
  | _, _, .nil => .nil
  | _, _, .cons ⟨p, e, h⟩ r => .cons ⟨p, e, f _ _ h⟩ (KRows.map f r)
theorem KRows.same {H H' : Hp} {vs : List V} {rs : List (List Key)} (x : KRows H vs rs) (s : Same H H') : KRows H' vs rs := x.map fun p xs h => s _ _ h
theorem KRows.get {H : Hp} : ∀ {vs : List V} {rs : List (List Key)} {i : Nat} {v : V}, KRows H vs rs → vs[i]? = some v → ∃ p r, v = .ref p ∧ rs[i]? = some r ∧ H p = some (.tup (r.map kV))
  | _, _, 0, _, .cons ⟨p, e, h⟩ _, z => by cases z; exact ⟨p, _, e, rfl, h⟩
  | _, _, i + 1, _, .cons _ t, z => KRows.get (i := i) t (by simpa using z)
  | _, _, _, _, .nil, z => by simp at z
/-- the rows' order -/
def rowLt (rs : List (List Key)) (i j : Nat) : Bool := lexK (rs.getD i []) (rs.getD j [])
def sortR (rs : List (List Key)) (vs : List V) : List V := orderBy .non (rowLt rs) vs
section
variable {X : Cx} {pins : List (Addr × Obj)} {σ : St} {H : Hp} {s : Shared}
theorem row_obj (I : Inv X pins σ H s) {p : Addr} {r : List Key} (e : H p = some (.tup (r.map kV))) : ∃ (o : Obj) (us : List Value) (n : Nat), s.heap.get? p = some o ∧ o.cls = .type "tuple" ∧ o.data = .seq us.toArray n ∧ Vals (r.map kV) us := by
  obtain ⟨_, its, r', o, h1, h2, n, h3⟩ := (show ObjOk X.prog X.w H s.heap p (.tup (r.map kV)) from I.hok p _ e)
  exact ⟨o, its, n, h1, h2, h3, r'⟩
theorem rows_tups (I : Inv X pins σ H s) {sh : List Bool} {T : Value} {h' : Heap} (kp : ∀ b o, s.heap.get? b = some o → h'.get? b = some o) (hT : ∀ (k : Key) (u : Value), sh.head? = some (kindK k) → RelV (kV k) u → Looks (model X.prog X.w) h' (typeOf u) T) :
    ∀ {vs : List V} {rs : List (List Key)} {us : List Value}, KRows H vs rs → Vals vs us → (∀ r ∈ rs, r.map kindK = sh) → sh ≠ [] → ∃ fs, KatTups h' us fs ∧ fs.length = us.length ∧ ∀ v ∈ fs, Looks (model X.prog X.w) h' (typeOf v) T
  | _, _, _, .nil, .nil, _, _ => ⟨[], trivial, rfl, fun _ z => nomatch z⟩
  | _ :: _, r :: _, _ :: _, .cons ⟨p, hv, e⟩ q, .cons rv rt, hs, hn => by
    obtain ⟨fs, f1, f2, f3⟩ := rows_tups I kp hT q rt (fun r hr => hs r (List.mem_cons_of_mem _ hr)) hn
    subst hv
    cases rv
    have hr := hs r (.head _)
    cases r with
    | nil => exact absurd hr.symm hn
    | cons k ks =>
      obtain ⟨o, us, n, o1, o2, o3, o4⟩ := row_obj I e
      cases o4 with
      | cons r1 r2 =>
        rename_i u us
        refine ⟨u :: fs, KatTups.cons (kp _ _ o1) o2 o3 (by simp) f1, by simp [f2], fun v hv => ?_⟩
        rcases List.mem_cons.mp hv with rfl | hv
        · exact hT k _ (by rw [← hr]; rfl) r1
        · exact f3 v hv
def rSorted (K : PySem.W.Frag) : List V → Hp → VK → Prop := fun xs H Q => ∃ p vs rs sh, xs = [.ref p] ∧ SqL K H p vs ∧ KRows H vs rs ∧ vs.length < 64 ∧ (∀ r ∈ rs, r.map kindK = sh) ∧ sh ≠ [] ∧ ∀ l, H l = none → Q (.ref l) (upd H l (.lst (sortR rs vs)))
theorem orderBy_vals {xs : List V} {us : List Value} (c : Nat → Nat → Bool) (r : Vals xs us) : Vals (orderBy .non c xs) (orderBy Value.none c us) := by
  have hl := r.length
  unfold orderBy
  rw [hl]
  split
  · exact r
  · have hp := places_sort (n := us.length) c (by omega)
    have hm : ∀ i ∈ (kasVal c (kas_sort us.length)).toList, i < us.length := fun i hi => by
      have h := hp.mem_iff.mp (Array.mem_toList_iff.mp hi)
      simpa using h
    revert hm
    generalize (kasVal c (kas_sort us.length)).toList = l
    intro hm
    induction l with
    | nil => exact .nil
    | cons i l ih =>
      refine .cons ?_ (ih fun j hj => hm j (List.mem_cons_of_mem _ hj))
      have hi := hm i (.head _)
      have hx : xs[i]? = some (xs[i]'(by omega)) := List.getElem?_eq_getElem _
      obtain ⟨u, hu, ru⟩ := r.get hx
      show RelV (xs.getD i .non) (us.getD i Value.none)
      rw [List.getD_eq_getElem?_getD, List.getD_eq_getElem?_getD, hx, hu]
      exact ru
theorem call_sortedR : CallR X (.builtin "sorted") (rSorted X.K) := by
  intro pins s σ H xs us Q I r h
  obtain ⟨p, vs, rs, sh, rfl, hq, kr, h64, hs, hn, q⟩ := h
  obtain ⟨u, rfl, rx⟩ := vals1 r
  cases rx
  obtain ⟨its, rv, pl, hz⟩ := I.list hq
  have hl := rv.length
  have hT : ∃ T : Value, (T == T) = true ∧ (T != Value.type "tuple") = true ∧ ∀ (h' : Heap) (k : Key) (u : Value), sh.head? = some (kindK k) → RelV (kV k) u → Looks (model X.prog X.w) h' (typeOf u) T := by
    cases sh with
    | nil => exact absurd rfl hn
    | cons b sh =>
      cases b with
      | true =>
        refine ⟨.type "int", rfl, by decide, fun h' k u hk ru => ?_⟩
        cases k with
        | inl i => obtain ⟨t, rfl⟩ := ru; exact Looks.of_pure rfl
        | inr x => cases hk
      | false =>
        refine ⟨.type "str", rfl, by decide, fun h' k u hk ru => ?_⟩
        cases k with
        | inl i => cases hk
        | inr x => obtain ⟨t, rfl⟩ := ru; exact Looks.of_pure rfl
  obtain ⟨T, t1, t2, t3⟩ := hT
  refine sorted_by (rowLt rs) (tuples' true) pl.isList (by omega) (fun h2 h' kp R hR => ?_) (fun h2 h' kp i j hi hj C hC => ?_) fun D h' e hD kp o' => ?_
  · obtain ⟨fs, f1, f2, f3⟩ := rows_tups I kp (fun k u => t3 h' k u) kr rv hs hn
    refine kat_kind (s := { s with heap := h' }) f1 (by omega) f3 t1 ?_
    rw [t2]; exact hR
  · obtain ⟨p1, r1, x1, y1, z1⟩ := kr.get (i := i) (List.getElem?_eq_getElem (by omega))
    obtain ⟨p2, r2, x2, y2, z2⟩ := kr.get (i := j) (List.getElem?_eq_getElem (by omega))
    obtain ⟨u1, v1, w1⟩ := rv.get (List.getElem?_eq_getElem (show i < vs.length by omega))
    obtain ⟨u2, v2, w2⟩ := rv.get (List.getElem?_eq_getElem (show j < vs.length by omega))
    rw [x1] at w1; rw [x2] at w2
    cases w1; cases w2
    obtain ⟨o1, us1, n1, g1, c1, d1, l1⟩ := row_obj I z1
    obtain ⟨o2, us2, n2, g2, c2, d2, l2⟩ := row_obj I z2
    have s1 := hs r1 (List.mem_of_getElem? y1)
    have s2 := hs r2 (List.mem_of_getElem? y2)
    have e1 := l1.length
    have e2 := l2.length
    rw [List.length_map] at e1 e2
    have e3 : r1.length = r2.length := by rw [← List.length_map (f := kindK), s1, ← s2, List.length_map]
    unfold kas_ask
    rw [List.getD_eq_getElem?_getD, List.getD_eq_getElem?_getD, v1, v2]
    refine kat_lt (s := { s with heap := h' }) (kp _ _ g1) d1 (kp _ _ g2) d2 ?_
    rw [show decide (us1.toArray.size < us2.toArray.size) = false from decide_eq_false (by rw [List.size_toArray, List.size_toArray]; omega)]
    refine lex_at 0 (s1.trans s2.symm) l1 l2 ?_
    have ec : rowLt rs i j = lexK r1 r2 := by
      unfold rowLt
      rw [List.getD_eq_getElem?_getD, List.getD_eq_getElem?_getD, y1, y2]; rfl
    rw [ec] at hC
    exact hC
  · exact ⟨.ref D, _, I.laid (t' := s.toks) kp hD (show ObjOk X.prog X.w _ h' _ (.lst _) from ⟨by rw [orderBy_length]; exact hz, _, e, orderBy_vals _ rv, o'⟩), rfl, q _ (I.hok.fresh hD)⟩
end
end L2

set_option Elab.async false
set_option linter.all false
set_option maxRecDepth 100000
set_option maxHeartbeats 4000000
/-! ### the keys of a dict, one by one, whatever they are -/
namespace L2
open PySem PySem.W PyProof.Rows
section
variable {prog : Program} {w : World} {A : Around} {E : Value → Shared → Prop} {s : Shared} {d it : Addr} {o : Obj} {es : Array DictEntry} {ep i : Nat}
theorem iter_raw {Q : Value → Shared → Prop} (hd : (d == sysModules) = false) (ho : s.heap.get? d = some o) (hc : o.ExactDict) (hq : o.data = .dict es ep)
    (k : Q (.ref s.heap.objs.size) { s with heap := s.heap.push { cls := .type "dict_keyiterator", data := .fields #[.ref d, .int 0 0, .int es.size 0, .int ep 0] } }) : wpAny (model prog w) A (pyIter (.ref d)) Q E s := by
  have T : s.TypeIs (.ref d) "dict" := ⟨o, ho, hc.1⟩
  refine wpAny_pyIter_slot T F.slot_dict_iter (wpAny_call_entry F.slot_dict_iter T F.entry_dict_iter ?_ (F.args_dict_iter_1 _))
  unfold Builtin.«dict.__iter__» Builtin.Dict.dictSlotNone
  refine wpAny_bind (wpAny_bind (wpAny_notOrdered_dict T (wpAny_pure ?_)))
  show wpAny _ A.in1 (Builtin.Dict.showsAll d >>= _) _ _ s
  unfold Builtin.Dict.showsAll
  rw [if_neg (fun z => by rw [hd] at z; cases z)]
  refine wpAny_bind (wpAny_pure (wpAny_bind (wpAny_dictEntries ho hq (wpAny_bind (wpAny_dictEpoch ho hq ?_)))))
  exact wpAny_bind (wpAny_newObj_type (wpAny_pure ⟨_, rfl, "dict_keyiterator", _, ⟨_, Heap.get?_push_size _ rfl, rfl⟩, F.slot_dict_keyiterator_next.lookup, k⟩))
theorem next_raw {Q : Option Value → Shared → Prop} {e : DictEntry} (hit : s.heap.IsKeyIter it d i es.size ep) (ho : s.heap.get? d = some o) (hq : o.data = .dict es ep) (hx : es[i]? = some e)
    (k : ∀ h', h'.IsKeyIter it d (i + 1) es.size ep → Heap.SameBut it s.heap h' → Q (some e.key) { s with heap := h' }) : wpAny (model prog w) A (pyNext (.ref it)) Q E s := by
  obtain ⟨oi, hi, ci, di⟩ := id hit
  have T := hit.typeIs
  unfold pyNext
  refine wpAny_bind (wpAny_attempt (wpAny_callSpecial?_slot (name := Str.ofString "__next__") T F.slot_dict_keyiterator_next (wpAny_call_entry F.slot_dict_keyiterator_next T F.entry_dict_keyiterator_next ?_ (F.args_dict_keyiterator_next_1 _))))
  refine wpAny_bind (wpAny_pure (wpAny_bind (wpAny_bind ?_)))
  first | refine wpAny_bind (wpAny_typeNameOfWhole_keyiter T (wpAny_pure (wpAny_bind (wpAny_fieldsOf hi di ?_)))) | refine wpAny_bind (wpAny_typeNameOf_keyiter T (wpAny_pure (wpAny_bind (wpAny_fieldsOf hi di ?_))))
  simp only [show Builtin.Dict_items.ownsTuple "dict_keyiterator" = false by decide, Bool.false_eq_true, if_false]
  show wpAny _ A.in1 (if (Value.ref d == Value.none) = true then _ else _) _ _ s
  rw [if_neg (show ¬ (Value.ref d == Value.none) = true from Bool.false_ne_true)]
  refine wpAny_bind (wpAny_pure (wpAny_bind (wpAny_dictEntries ho hq ?_)))
  rw [if_neg (by simp)]
  refine wpAny_bind (wpAny_pure (wpAny_bind (wpAny_dictEpoch ho hq ?_)))
  rw [if_neg (by simp)]
  refine wpAny_pure ?_
  simp only [show ¬ ((i : Int) < 0) from by omega, if_false, Int.toNat_natCast, hx]
  refine wpAny_bind ?_
  first | refine wpAny_bind (wpAny_typeNameOfWhole_keyiter T (wpAny_pure (wpAny_bind (wpAny_isOneOf_keyiter T ?_)))) | refine wpAny_bind (wpAny_typeNameOf_keyiter T (wpAny_pure (wpAny_bind (wpAny_isOneOf_keyiter T ?_))))
  show wpAny _ A.in1 (setField (.ref it) 1 (rawInt ((i : Int) + 1)) >>= _) _ _ s
  refine wpAny_bind (wpAny_setField hi di (by simp) ?_)
  have H2 : (s.heap.update it (Obj.mapFields (·.setIfInBounds 1 (rawInt ((i : Int) + 1))))).IsKeyIter it d (i + 1) es.size ep :=
    ⟨_, Heap.get?_update_self _ hi (Obj.isFreed_of_fields (Obj.data_mapFields di _)), (Obj.cls_mapFields ..).trans ci, (Obj.data_mapFields di _).trans (by simp [rawInt])⟩
  refine wpAny_bind (wpAny_holding (wpAny_bind (wpAny_isOneOf_keyiter (s := { s with heap := s.heap.update it (Obj.mapFields (·.setIfInBounds 1 (rawInt ((i : Int) + 1)))) }) H2.typeIs ?_)))
  show wpAny _ A.in1 (pure e.key) _ _ _
  exact wpAny_pure (wpAny_pure ⟨_, rfl, wpAny_pure (k _ H2 (Heap.SameBut.update ..))⟩)
theorem end_raw {Q : Option Value → Shared → Prop} (hh : A.handled = none) (hit : s.heap.IsKeyIter it d i es.size ep) (ho : s.heap.get? d = some o) (hq : o.data = .dict es ep) (hx : es.size ≤ i)
    (k : ∀ h', Heap.ExtBut it s.heap h' → Q none { s with heap := h' }) : wpAny (model prog w) A (pyNext (.ref it)) Q E s := by
  obtain ⟨oi, hi, ci, di⟩ := id hit
  have T := hit.typeIs
  unfold pyNext
  refine wpAny_bind (wpAny_attempt (wpAny_callSpecial?_slot (name := Str.ofString "__next__") T F.slot_dict_keyiterator_next (wpAny_call_entry F.slot_dict_keyiterator_next T F.entry_dict_keyiterator_next ?_ (F.args_dict_keyiterator_next_1 _))))
  refine wpAny_bind (wpAny_pure (wpAny_bind (wpAny_bind ?_)))
  first | refine wpAny_bind (wpAny_typeNameOfWhole_keyiter T (wpAny_pure (wpAny_bind (wpAny_fieldsOf hi di ?_)))) | refine wpAny_bind (wpAny_typeNameOf_keyiter T (wpAny_pure (wpAny_bind (wpAny_fieldsOf hi di ?_))))
  simp only [show Builtin.Dict_items.ownsTuple "dict_keyiterator" = false by decide, Bool.false_eq_true, if_false]
  show wpAny _ A.in1 (if (Value.ref d == Value.none) = true then _ else _) _ _ s
  rw [if_neg (show ¬ (Value.ref d == Value.none) = true from Bool.false_ne_true)]
  refine wpAny_bind (wpAny_pure (wpAny_bind (wpAny_dictEntries ho hq ?_)))
  rw [if_neg (by simp)]
  refine wpAny_bind (wpAny_pure (wpAny_bind (wpAny_dictEpoch ho hq ?_)))
  rw [if_neg (by simp)]
  refine wpAny_pure ?_
  simp only [show ¬ ((i : Int) < 0) from by omega, if_false, Int.toNat_natCast, Array.getElem?_eq_none hx]
  refine wpAny_bind ?_
  first | refine wpAny_bind (wpAny_typeNameOfWhole_keyiter T (wpAny_pure ?_)) | refine wpAny_bind (wpAny_typeNameOf_keyiter T (wpAny_pure ?_))
  show wpAny _ A.in1 (setField (.ref it) 0 .none >>= _) _ _ s
  refine wpAny_bind (wpAny_setField hi di (by simp) ?_)
  show wpAny _ A.in1 (newExc (.type "StopIteration") [] >>= _) _ _ _
  refine wpAny_bind ?_
  simp only [newExc, newTuple]
  refine wpAny_bind (wpAny_newObj_type (wpAny_bind (m := firstArgMember _ _) (wpAny_of_eq (a := Value.none) (by first | rfl | (simp only [firstArgMember]; rfl)) (wpAny_newObj_type ?_ (by size_fits)))) (by size_fits))
  simp only [raiseNew]
  refine wpAny_bind (wpAny_handled ?_)
  rw [show A.in1.handled = none from hh]
  refine wpAny_bind (wpAny_pure (wpAny_throw ?_))
  refine wpAny_bind (wpAny_isInstance (b := true) (T := "StopIteration") ⟨_, Heap.get?_push_size _ rfl, rfl⟩ isSubtype_stop ?_)
  exact wpAny_pure (k _ (((Heap.SameBut.update ..).extBut.push _).push _))
end
end L2

set_option Elab.async false
set_option linter.all false
set_option maxRecDepth 100000
set_option maxHeartbeats 4000000
/-! ### for k in a dict: the dict is held fast while it is walked -/
namespace L2
open PySem PySem.W PyProof.Rows
/-- the keys of the dict at a, whose object is o -/
def Itk (a : Addr) (o : Obj) (kvs : List (Key × V)) : It :=
  ⟨fun i H => H a = some (.frz o (.dK kvs)) ∧ i < kvs.length, fun i H x H' => H' = H ∧ ∃ k v, kvs[i]? = some (k, v) ∧ x = kV k, fun i H => H a = some (.frz o (.dK kvs)) ∧ kvs.length ≤ i⟩
theorem KT.len {H : Hp} {kvs : List (List Key × V)} {xs : List (List Key × Addr × Value)} (r : KT H kvs xs) : kvs.length = xs.length := Paired.length r
section
variable {X : Cx} {tg : Expr}
theorem Inv.freeze {pins : List (Addr × Obj)} {σ : St} {H : Hp} {s : Shared} {a : Addr} {u : HO} {o : Obj} (I : Inv X pins σ H s) (mu : Mut (some u)) (e : H a = some u) (ho : s.heap.get? a = some o) (new : ObjOk X.prog X.w (upd H a (.frz o u)) s.heap a (.frz o u)) : Inv X pins σ (upd H a (.frz o u)) s :=
  I.write (t' := s.toks) (h' := s.heap) (by rw [e]; exact mu) (.inl rfl) (fun b u _ z => z) ⟨_, ho⟩ new
end
end L2

set_option Elab.async false
set_option linter.all false
set_option maxRecDepth 100000
set_option maxHeartbeats 4000000
namespace L2
open PySem PySem.W PyProof.Rows
/-! ### a slice with a step -/
section
variable {X : Cx} {e c : Expr} {te : TE} {lo hi : Option Expr} {tl th ts : TO} {pos p2 : Pos}
end
/-! ### lists of the same items are the same -/
def selfV : V → Bool
  | .ref _ => true
  | x => flatV x
theorem eqAtsR {A : Around} {s : Shared} {xs : List V} {us ws : List Value} (hf : xs.all selfV = true) (r : Vals xs us) (q : Vals xs ws) (j : Nat) (h1 : j < us.toArray.size) (h2 : j < ws.toArray.size) : SeqAt.EqAt A s us.toArray[j] ws.toArray[j] true := by
  have hj : j < xs.length := by rw [r.length]; simpa using h1
  obtain ⟨u, e1, ru⟩ := r.get (i := j) (x := xs[j]) (List.getElem?_eq_getElem hj)
  obtain ⟨v, e2, rv⟩ := q.get (i := j) (x := xs[j]) (List.getElem?_eq_getElem hj)
  have hfx : selfV xs[j] = true := (List.all_eq_true.mp hf) _ (List.getElem_mem hj)
  have q1 : us.toArray[j] = u := by simpa using (List.getElem?_eq_some_iff.mp e1).2
  have q2 : ws.toArray[j] = v := by simpa using (List.getElem?_eq_some_iff.mp e2).2
  rw [q1, q2]
  revert hfx ru rv
  generalize xs[j] = x
  intro ru rv hfx
  have base : flatV x = true → SeqAt.EqAt A s u v true := fun hx => by
    have := eqAt_V (A := A) (s := s) ru rv hx hx
    rw [eqV_self hx] at this
    exact this
  cases x <;> first | (cases ru; cases rv; exact SeqAt.EqAt.same _) | exact base hfx
def rSameR (K : PySem.W.Frag) (r : Bool) : R2 := fun x y H Q => ∃ a b xs, x = .ref a ∧ y = .ref b ∧ SqL K H a xs ∧ SqL K H b xs ∧ xs.all selfV = true ∧ Q (.bl r) H
section
variable {X : Cx}
theorem op_neR (hu : X.A.units < cLine) : OpR X (compareOp .NotEq) (rSameR X.K false) := by
  intro pins s σ H x y v u Q I rx ry h
  obtain ⟨a, b, xs, rfl, rfl, ha, hb, hf, q⟩ := h
  cases rx; cases ry
  obtain ⟨its, r, pl, hz⟩ := I.list ha
  obtain ⟨its2, r2, pl2, _⟩ := I.list hb
  exact SeqAt.RcNeAt.lists (e := fun _ => true) pl.isList pl2.isList (by simp [← r.length, ← r2.length]) hu (eqAtsR hf r r2) X.prog X.w X.xe _ ⟨.bl false, H, I, by rw [all_true]; rfl, q⟩
end
/-! ### a row in a list of rows, or not: some answer comes -/
section
variable {X : Cx} {pins : List (Addr × Obj)} {σ : St} {H : Hp} {s : Shared}
end
section
variable {X : Cx}
end
end L2

set_option Elab.async false
set_option linter.all false
set_option maxRecDepth 100000
set_option maxHeartbeats 4000000
namespace L2
open PySem PySem.W PyProof.Rows
/-! ### comprehensions with a test, and over the pairs of a dict -/
section
variable {K : PySem.W.Frag} {ti : TT} {te : TE} {σ : St} {ci : List Nat} {rest : St} {fin : List V → Hp → Prop} {H : Hp} {a : Addr}
end
end L2

set_option Elab.async false
set_option linter.all false
set_option maxRecDepth 100000
set_option maxHeartbeats 4000000
namespace L2
open PySem PySem.W PyProof.Rows
theorem bt_sorted : bootBuiltins "sorted" = some (.builtin "sorted") := by decide +kernel
theorem Room.units1 {k : Nat} {A : Around} (r : Room k A) : A.units + 1 < cLine := by have := r.un; omega
/-! ### rows of three: a number, a text, a number -/
section
variable {K : PySem.W.Frag} {H : Hp} {Q : VK}
theorem rd_sameR {a b : Addr} {xs : List V} {r : Bool} (e : SqL K H a xs) (e2 : SqL K H b xs) (h : xs.all selfV = true) (k : Q (.bl r) H) : rSameR K r (.ref a) (.ref b) H Q := ⟨a, b, xs, rfl, rfl, e, e2, h, k⟩
end
/-! the dict's rules, read -/
section
variable {H : Hp} {Q : VK} {σ : St}
theorem rd_dnewT (h : ∀ p H', H p = none → Same H H' → H' p = some (.dT []) → Q (.ref p) H') : tDNewT σ H Q := rd_new' h
theorem putK_mem {κ : Type} [DecidableEq κ] {kvs : List (κ × V)} {k : κ} {v : V} {e : κ × V} (h : e ∈ putK kvs k v) : e ∈ kvs ∨ e.1 = k ∧ e.2 = v := by
  unfold putK at h
  split at h
  · obtain ⟨p, hp, e1⟩ := List.mem_map.mp h
    by_cases z : p.1 = k
    · rw [if_pos z] at e1; subst e1; exact .inr ⟨z, rfl⟩
    · rw [if_neg z] at e1; subst e1; exact .inl hp
  · rcases List.mem_append.mp h with h | h
    · exact .inl h
    · cases List.mem_singleton.mp h; exact .inr ⟨rfl, rfl⟩
end
end L2

set_option Elab.async false
set_option linter.all false
set_option maxRecDepth 100000
set_option maxHeartbeats 4000000
namespace L2
open PySem PySem.W PyProof.Rows
/-! ### dicts of tuples, read; blocks with K told -/
section
variable {X : Cx} {K : PySem.W.Frag}
theorem pg_tupK {es : List Expr} {k : Nat} {t : TGs} {n : Nat} {pos : Pos} (hc : X.calm = true) (h : PGs X es t) (hK : X.K = K := by rfl)
    (hn : (assignEach es X.env).length = n := by rfl) (hst : (assignEach es X.env).findIdx? (·.1) = none := by rfl) : PG X (.Tuple es k pos) (gTup K n t) := by
  subst hK
  exact pg_tup hc h hn hst
theorem ix_tupK (hK : X.K = K := by rfl) : IxR X (rIxT K) := by
  subst hK
  exact ix_tup
end
def DPutP (nx : St → Hp → Prop) (σ : St) (x v : V) : VK := fun y H3 => ∃ a H4, x = .ref a ∧ DPut H3 a y v H4 ∧ nx σ H4
def DGetP (Q : VK) (x : V) : VK := fun y H2 => ∃ a v, x = .ref a ∧ DGet H2 a y (some v) ∧ Q v H2
section
variable {K : PySem.W.Frag} {H : Hp} {Q : VK} {σ : St} {nx rt bk ct : St → Hp → Prop}
theorem rd_dput {td ty tv : TE} {nx : St → Hp → Prop} {rt : VK} {bk ct : St → Hp → Prop} (h : tv σ H fun v H1 => td σ H1 fun x H2 => ty σ H2 (DPutP nx σ x v)) : sDPut td ty tv ⟨nx, rt, bk, ct⟩ σ H := h
theorem rd_dputT {p b : Addr} {v : V} {kvs : List (List Key × V)} (k : List Key) (e : H p = some (.dT kvs)) (eb : H b = some (.tup (k.map kV))) (hl : kvs.length < sizeLine)
    (h : ∀ H', SameBut p H H' → H' p = some (.dT (putK kvs k v)) → nx σ H') : DPutP nx σ (.ref p) v (.ref b) H :=
  ⟨p, _, rfl, DPut.t e eb hl, h _ SameBut.upd upd_same⟩
theorem rd_dget {td ty : TE} (h : td σ H fun x H1 => ty σ H1 (DGetP Q x)) : tDGet td ty σ H Q := h
theorem rd_ixM {p : Addr} {xs : List V} {i : Int} (e : SqL K H p xs) (h0 : 0 ≤ i) (h1 : i < xs.length) (h : ∀ v ∈ xs, Q v H) : rIxL K (.ref p) (.int i) H Q := by
  have hl : i.toNat < xs.length := by omega
  have e1 := atI_nat (xs := xs) (j := i.toNat) (v := xs[i.toNat]) (List.getElem?_eq_getElem hl)
  rw [show ((i.toNat : Nat) : Int) = i by omega] at e1
  exact ⟨p, xs, i, _, rfl, rfl, e, e1, h _ (List.getElem_mem hl)⟩
end
end L2

set_option Elab.async false
set_option linter.all false
set_option maxRecDepth 100000
set_option maxHeartbeats 4000000
/-! ### dicts of plain keys: the keys, the items, one by one -/
namespace L2
open PySem PySem.W PyProof.Rows
theorem entry_itemiter_iter : entryFor table "dict_itemiterator.__iter__" = some Builtin.«dict_keyiterator.__iter__» := entryFor_alias (id' := "dict_keyiterator.__iter__") (by kernel_rfl) rfl (by decide +kernel) (by kernel_rfl)
theorem key_rel {P : Program} {w : World} {k : Key} {u : Value} (h : (mixKind P w).is k u = true) : RelV (kV k) u := by
  rcases keyIs_shape h with ⟨i, t, rfl, rfl⟩ | ⟨x, t, rfl, rfl⟩
  · exact ⟨t, rfl⟩
  · exact ⟨t, rfl⟩
theorem kv_get {κ : Type} : ∀ {kvs : List (κ × V)} {vs : List (κ × Value)} {i : Nat}, KV kvs vs → i < kvs.length → ∃ k v u, kvs[i]? = some (k, v) ∧ vs[i]? = some (k, u) ∧ RelV v u
  | (k, v) :: _, (k', u) :: _, 0, .cons h _, _ => ⟨k, v, u, rfl, by obtain ⟨e, _⟩ := h; cases e; rfl, h.2⟩
  | _, _, i + 1, .cons _ t, hi => by
    obtain ⟨k, v, u, e1, e2, e3⟩ := kv_get (i := i) t (by simpa using hi)
    exact ⟨k, v, u, by simpa using e1, by simpa using e2, e3⟩
  | _, _, _, .nil, hi => by simp at hi
theorem pairs_get {P : Program} {w : World} {κ : Type} [DecidableEq κ] {knd : KeyKind P w κ} : ∀ {es : List DictEntry} {kvs : List (κ × Value)} {i : Nat} {k : κ} {u : Value}, Pairs knd es kvs → kvs[i]? = some (k, u) → ∃ e, es[i]? = some e ∧ knd.is k e.key = true ∧ e.val = u
  | _, _, 0, _, _, .cons h1 h2 _, z => by cases z; exact ⟨_, rfl, h1, h2⟩
  | _, _, i + 1, _, _, .cons _ _ t, z => by
    obtain ⟨e, e1, e2⟩ := pairs_get (i := i) t (by simpa using z)
    exact ⟨e, by simpa using e1, e2⟩
  | _, _, _, _, _, .nil, z => by simp at z
theorem turn_keysK {P : Program} {w : World} {K : PySem.W.Frag} {tg : Expr} (a it : Addr) {o : Obj} {es : Array DictEntry} {ep : Nat} (kvs : List (Key × V)) (hd : o.data = .dict es ep) (hz : es.size = kvs.length) :
    Turn P w K tg (Itk a o kvs) [it] it (fun i h => h.IsKeyIter it a i es.size ep) where
  mem := by simp
  obj := fun i h st b hb => by
    have e : b = it := by simpa using hb
    subst e
    obtain ⟨ob, e, c, d⟩ := st
    exact ⟨ob, e, fun v z => by rw [d] at z; cases z⟩
  keep := fun i h h' st k => st.at fun ob e => k it (by simp) ob e
  item := by
    intro X hP hw hK hc i pins s σ H E I hf st hg
    subst hP hw hK
    obtain ⟨ha, hi⟩ := hg
    obtain ⟨ho, z, y, vs, r, o', es', ep', h1, h2, h3, h4, h5, h6⟩ := (show ObjOk X.prog X.w H s.heap a (.frz o (.dK kvs)) from I.hok a _ ha)
    rw [ho] at h1; cases h1
    rw [hd] at h3; cases h3
    obtain ⟨k, v, u, e1, e2, e3⟩ := kv_get r hi
    obtain ⟨e, f6, f7, f8⟩ := pairs_get h5 e2
    obtain ⟨f0, f1, f2, f3, f4, f5⟩ := hf it (by simp)
    refine next_raw st ho hd (e := e) (by simpa using f6) fun h' st' sb => ?_
    have I1 : Inv X pins σ H { s with heap := h' } := I.turned (t' := s.toks) (fun b o hb e => (sb.2 b hb).trans e) f0 f1 f3 f4 f5
    exact ⟨_, rfl, letGo_keyiter (s' := { s with heap := h' }) st' ⟨kV k, H, I1, key_rel f7, ⟨rfl, k, v, e1, rfl⟩, st', fun b hb => (hf b hb).1⟩⟩
  done := by
    intro X hP hw hK hc i pins s σ H E I hf st hg
    subst hP hw hK
    obtain ⟨ha, hi⟩ := hg
    obtain ⟨ho, hok⟩ := (show ObjOk X.prog X.w H s.heap a (.frz o (.dK kvs)) from I.hok a _ ha)
    obtain ⟨f0, f1, f2, f3, f4, f5⟩ := hf it (by simp)
    exact end_raw (I.ok.hd hc) st ho hd (by omega) fun h' eb => ⟨rfl, I.turned (t' := s.toks) (fun b o hb e => eb b o hb e) f0 f1 f3 f4 f5⟩
  self := fun _ _ _ _ _ st h => wpAny_pyIter_keyiter st h
/-- for .. in a dict of plain keys -/
def iKeysK (td : TE) : TI := fun σ H R => td σ H fun x H1 => ∃ a kvs, x = .ref a ∧ H1 a = some (.dK kvs) ∧ ∀ o, R (Itk a o kvs) (upd H1 a (.frz o (.dK kvs)))
section
variable {X : Cx} {tg : Expr}
theorem pi_keysK {l : Expr} {td : TE} (hl : PE X l td) : PI X tg l (iKeysK td) := by
  intro pins s σ H R I h
  refine thn (hl pins s σ H _ I h) fun v s1 ⟨x, H1, I1, r1, q1⟩ => ?_
  obtain ⟨a, kvs, rfl, hq, q⟩ := q1
  cases r1
  obtain ⟨z, y, vs, r, o, es, ep, h1, h2, h3, h4, h5, h6⟩ := (show ObjOk X.prog X.w H1 s1.heap a (.dK kvs) from I1.hok a _ hq)
  have hz : es.size = kvs.length := by rw [r.length, ← h5.length]; simp
  have new : ObjOk X.prog X.w (upd H1 a (.frz o (.dK kvs))) s1.heap a (.frz o (.dK kvs)) := ⟨h1, z, y, vs, r, o, es, ep, h1, h2, h3, h4, h5, h6⟩
  have I2 : Inv X pins σ (upd H1 a (.frz o (.dK kvs))) s1 := I1.freeze trivial hq h1 new
  refine iter_raw y h1 h2 h3 ?_
  refine ⟨s1.heap.objs.size, [s1.heap.objs.size], _, _, upd H1 a (.frz o (.dK kvs)), rfl, I2.kept (t' := s1.toks) fun b o e => Heap.get?_push_of_some _ e, turn_keysK a _ kvs h3 hz, ⟨_, Heap.get?_push_size _ rfl, rfl, rfl⟩, fun b hb => ?_, q o⟩
  have e : b = s1.heap.objs.size := by simpa using hb
  subst e
  exact I2.fpOk (Nat.le_refl _) (I2.hok.fresh (Nat.le_refl _))
end
/-! the items: each a new tuple of key and value -/
def Iti (a : Addr) (o : Obj) (kvs : List (Key × V)) : It :=
  ⟨fun i H => H a = some (.frz o (.dK kvs)) ∧ i < kvs.length, fun i H x H' => ∃ k v q, kvs[i]? = some (k, v) ∧ x = .ref q ∧ H q = none ∧ H' = upd H q (.tup [kV k, v]), fun i H => H a = some (.frz o (.dK kvs)) ∧ kvs.length ≤ i⟩
theorem turn_itemsK {P : Program} {w : World} {K : PySem.W.Frag} {elts : List Expr} {x1 : Nat} {tpos : Pos} (a it : Addr) {o : Obj} {es : Array DictEntry} {ep : Nat} (kvs : List (Key × V)) (hd : o.data = .dict es ep) :
    Turn P w K (.Tuple elts x1 tpos) (Iti a o kvs) [it] it (fun i h => ∃ ok ov, IsItemIter h it a i kvs.length ep ok ov) where
  mem := by simp
  obj := fun i h st b hb => by
    have e : b = it := by simpa using hb
    subst e
    obtain ⟨ok, ov, e⟩ := st
    exact ⟨_, e, fun v z => by cases z⟩
  keep := fun i h h' st k => let ⟨ok, ov, e⟩ := st; ⟨ok, ov, k it (by simp) _ e⟩
  item := by
    intro X hP hw hK hc i pins s σ H E I hf st hg
    subst hP hw hK
    obtain ⟨ha, hi⟩ := hg
    obtain ⟨ok, ov, st⟩ := st
    obtain ⟨ho, z, y, vs, r, o', es', ep', h1, h2, h3, h4, h5, h6⟩ := (show ObjOk X.prog X.w H s.heap a (.frz o (.dK kvs)) from I.hok a _ ha)
    rw [ho] at h1; cases h1
    rw [hd] at h3; cases h3
    obtain ⟨k, v, u, e1, e2, e3⟩ := kv_get r hi
    obtain ⟨f0, f1, f2, f3, f4, f5⟩ := hf it (by simp)
    have hl := r.length
    refine wpAny_pyNext_items_item (knd := mixKind X.prog X.w) (kvs := vs) (by rw [← hl]; exact st) ⟨o, es, ho, h2, hd, h4, h5, h6⟩ e2 fun key h' kk st' ht hs kp => ?_
    refine ⟨_, rfl, ?_⟩
    refine wpAny_letOwnedTupleGo_items (s := { s with heap := h' }) st' fun h'' st'' sb => ?_
    have hq : H s.heap.objs.size = none := I.hok.fresh (Nat.le_refl _)
    have hne : s.heap.objs.size ≠ it := fun z => by
      have := Heap.lt_size (show s.heap.get? it = some _ from st)
      rw [z] at this
      exact Nat.lt_irrefl _ this
    have tup : Vals [kV k, v] [key, u] := .cons (key_rel kk) (.cons e3 .nil)
    have I1 : Inv X pins σ (upd H s.heap.objs.size (.tup [kV k, v])) { s with heap := s.heap.push { cls := .type "tuple", data := .seq #[key, u] } } :=
      I.laid (t' := s.toks) (fun b u e => Heap.get?_push_of_some _ e) (Nat.le_refl _) ⟨(show 2 ≤ sizeLine by rw [sizeLine_eq]; decide), [key, u], tup, ⟨_, Heap.get?_push_size _ rfl, rfl, 0, rfl⟩⟩
    have n0 : upd H s.heap.objs.size (.tup [kV k, v]) it = none := by rw [upd_ne (Ne.symm hne)]; exact f0
    have I2 : Inv X pins σ (upd H s.heap.objs.size (.tup [kV k, v])) { s with heap := h'' } := Inv.turned (s := { s with heap := s.heap.push { cls := .type "tuple", data := .seq #[key, u] } }) (h' := h'') (t' := s.toks) (it := it) I1 (fun b o hb e => by
      rcases Heap.get?_push_cases e with ⟨rfl, rfl⟩ | e
      · exact (sb.2 _ hb).trans ht
      · exact (sb.2 b hb).trans (kp b o hb e)) n0 f1 f3 f4 f5
    exact ⟨.ref s.heap.objs.size, _, I2, rfl, ⟨k, v, _, e1, rfl, hq, rfl⟩, ⟨key, u, by rw [hl]; exact st''⟩, fun b hb => by
      have e : b = it := by simpa using hb
      rw [e]; exact n0⟩
  done := by
    intro X hP hw hK hc i pins s σ H E I hf st hg
    subst hP hw hK
    obtain ⟨ha, hi⟩ := hg
    obtain ⟨ok, ov, st⟩ := st
    obtain ⟨ho, z, y, vs, r, o', es', ep', h1, h2, h3, h4, h5, h6⟩ := (show ObjOk X.prog X.w H s.heap a (.frz o (.dK kvs)) from I.hok a _ ha)
    rw [ho] at h1; cases h1
    rw [hd] at h3; cases h3
    have hl := r.length
    obtain ⟨f0, f1, f2, f3, f4, f5⟩ := hf it (by simp)
    exact wpAny_pyNext_items_end (knd := mixKind X.prog X.w) (kvs := vs) (I.ok.hd hc) (by rw [← hl]; exact st) ⟨o, es, ho, h2, hd, h4, h5, h6⟩ (List.getElem?_eq_none (by omega)) fun h' eb => ⟨rfl, I.turned (t' := s.toks) (fun b o hb e => eb b o hb e) f0 f1 f3 f4 f5⟩
  self := fun A i s Q E st h => by
    obtain ⟨ok, ov, st⟩ := st
    have T : s.TypeIs (.ref it) "dict_itemiterator" := ⟨_, st, rfl⟩
    refine wpAny_pyIter_slot T F.slot_dict_itemiterator_iter (wpAny_call_entry F.slot_dict_itemiterator_iter T entry_itemiter_iter ?_ (F.args_dict_itemiterator_iter_1 _))
    show wpAny _ _ (ret (.ref it)) _ _ s
    exact wpAny_pure ⟨_, rfl, "dict_itemiterator", _, T, F.slot_dict_itemiterator_next.lookup, h⟩
def iItemsK (td : TE) : TI := fun σ H R => td σ H fun x H1 => ∃ a kvs, x = .ref a ∧ H1 a = some (.dK kvs) ∧ ∀ o, R (Iti a o kvs) (upd H1 a (.frz o (.dK kvs)))
section
variable {X : Cx}
theorem pi_itemsK {l : Expr} {td : TE} {elts : List Expr} {x1 : Nat} {tpos apos cpos : Pos} (hl : PE X l td) (hbase : attributeBase l "items" X.env (eval l X.env) = eval l X.env := by rfl) (hline : (apos.endLine == cpos.line) = true := by rfl) :
    PI X (.Tuple elts x1 tpos) (.Call (.Attribute l "items" apos) [] [] cpos) (iItemsK td) := by
  intro pins s σ H R I h
  refine wpAny_Call_method0_late hbase hline (thn (hl pins s σ H _ I h) fun v s1 ⟨x, H1, I1, r1, q1⟩ => ?_)
  obtain ⟨a, kvs, rfl, hq, q⟩ := q1
  cases r1
  obtain ⟨t1, t2, _⟩ := isD_at I1 (.inl ⟨kvs, .inl hq⟩)
  refine ⟨"dict", "dict.items", F.plainAttrs_dict, F.slot_dict_items, F.type_dict_items, t1, t2, Calls.callWith_builtin rfl (PySem.evalArgs_none ?_)⟩
  obtain ⟨z, y, vs, r, o, es, ep, h1, h2, h3, h4, h5, h6⟩ := (show ObjOk X.prog X.w H1 s1.heap a (.dK kvs) from I1.hok a _ hq)
  have hL := r.length
  refine call_meetsIn F.slot_dict_items t1 F.entry_dict_items (F.args_dict_items_1 _) (meets_dict_items (mixKind X.prog X.w) a y) ⟨⟨vs, o, es, ep, h1, h2, h3, h4, h5, h6⟩, ?_⟩
  have new : ObjOk X.prog X.w (upd H1 a (.frz o (.dK kvs))) s1.heap a (.frz o (.dK kvs)) := ⟨h1, z, y, vs, r, o, es, ep, h1, h2, h3, h4, h5, h6⟩
  have I2 : Inv X pins σ (upd H1 a (.frz o (.dK kvs))) s1 := I1.freeze trivial hq h1 new
  have I3 : Inv X pins σ (upd H1 a (.frz o (.dK kvs))) { s1 with heap := s1.heap.push { cls := .type "dict_items", data := .fields #[.ref a] } } := I2.kept (t' := s1.toks) fun b o e => Heap.get?_push_of_some _ e
  refine wpAny_pyIter_items (knd := mixKind X.prog X.w) (kvs := vs) (ep := ep) ⟨_, Heap.get?_push_size _ rfl, rfl, rfl⟩ ⟨o, es, Heap.get?_push_of_some _ h1, h2, h3, h4, h5, h6⟩ ?_
  refine ⟨_, [_], _, _, upd H1 a (.frz o (.dK kvs)), rfl, I3.kept (t' := s1.toks) fun b o e => Heap.get?_push_of_some _ e, turn_itemsK a _ kvs h3, ⟨.none, .none, by rw [hL]; exact Heap.get?_push_size _ rfl⟩, fun b hb => ?_, q o⟩
  obtain rfl := List.mem_singleton.mp hb
  exact I3.fpOk (Nat.le_refl _) (I3.hok.fresh (Nat.le_refl _))
end
end L2

set_option Elab.async false
set_option linter.all false
set_option maxRecDepth 100000
set_option maxHeartbeats 4000000
/-! ### what was held fast is let go -/
namespace L2
open PySem PySem.W PyProof.Rows
section
variable {X : Cx} {pins : List (Addr × Obj)} {σ : St} {H : Hp} {s : Shared} {a : Addr} {o : Obj} {u : HO}
theorem Inv.thaw (I : Inv X pins σ H s) (h0 : ∀ o u, X.H₀ a ≠ some (.frz o u)) (e : H a = some (.frz o u)) : Inv X pins σ (upd H a u) s := by
  have nn : ∀ b, H b = none → b ≠ a := fun b n z => by rw [z, e] at n; cases n
  have no : ∀ b c, H b = some (.own c) → b ≠ a := fun b c n z => by rw [z, e] at n; cases n
  have nt : ∀ b xs, H b = some (.tup xs) → b ≠ a := fun b c n z => by rw [z, e] at n; cases n
  refine ⟨I.ok, I.os, I.bare, ⟨I.base.keep, I.base.slot, fun b ob q n hx => ?_, I.base.there, fun b xs q => ?_, fun b ob xs q => ?_, fun b ps q => ?_⟩, I.loc, I.cell, ?_, fun x c ec => ?_, fun p hp => ?_, fun b v q => ?_, I.len⟩
  · have z := I.base.free b ob q n hx
    rw [upd_ne (nn b z)]; exact z
  · have z := I.base.tups b xs q
    rw [upd_ne (nt b xs z)]; exact z
  · have z := I.base.frzs b ob xs q
    have hb : b ≠ a := fun y => h0 ob xs (by rw [← y]; exact q)
    rw [upd_ne hb]; exact z
  · obtain ⟨more, z⟩ := I.base.tbls b ps q
    refine ⟨more, ?_⟩
    rw [upd_ne (fun y => by rw [y, e] at z; cases z)]; exact z
  · rw [upd_ne (nn _ I.free)]; exact I.free
  · rw [upd_ne (nn _ (I.freeC x c ec))]; exact I.freeC x c ec
  · obtain ⟨p1, p2, p3⟩ := I.pin p hp
    exact ⟨p1, by rw [upd_ne (nn _ p2)]; exact p2, p3⟩
  · have so : ∀ b c, H b = some (.own c) → upd H a u b = some (.own c) := fun b c z => by rw [upd_ne (no b c z)]; exact z
    have st : ∀ b xs, H b = some (.tup xs) → upd H a u b = some (.tup xs) := fun b c z => by rw [upd_ne (nt b c z)]; exact z
    by_cases hb : b = a
    · subst hb
      rw [upd_same] at q; cases q
      obtain ⟨_, z⟩ := (show ObjOk X.prog X.w H s.heap b (.frz o u) from I.hok b _ e)
      exact z.stay (fun _ _ _ q => q) (fun c z => so c b z) st
    · rw [upd_ne hb] at q
      exact (I.hok b v q).stay (fun _ _ _ q => q) (fun c z => so c b z) st
theorem Inv.wasFree (I : Inv X pins σ H s) (h : ∀ o u, H a ≠ some (.frz o u)) : ∀ o u, X.H₀ a ≠ some (.frz o u) := fun o u z => h o u (I.base.frzs a o u z)
end
def Thawed (a : Addr) (R : Hp → Prop) : Hp → Prop := fun H => ∃ o u, H a = some (.frz o u) ∧ R (upd H a u)
def tThaw (te : TE) : TE := fun σ H Q => ∃ a, (∀ o u, H a ≠ some (.frz o u)) ∧ te σ H fun x => Thawed a (Q x)
def sThaw (ts : TS) : TS := fun D σ H => ∃ a, (∀ o u, H a ≠ some (.frz o u)) ∧ ts ⟨fun σ' => Thawed a (D.nx σ'), fun v => Thawed a (D.rt v), fun σ' => Thawed a (D.bk σ'), fun σ' => Thawed a (D.ct σ')⟩ σ H
section
variable {X : Cx}
theorem pe_thaw {e : Expr} {te : TE} (he : PE X e te) : PE X e (tThaw te) := by
  intro pins s σ H Q I h
  obtain ⟨a, h0, h⟩ := h
  refine thn (he pins s σ H _ I h) fun v s1 ⟨x, H1, I1, r1, o, u, e, q⟩ => ?_
  exact ⟨x, _, I1.thaw (I.wasFree h0) e, r1, q⟩
theorem ps_thaw {st : Stmt} {ts : TS} (he : PS X st ts) : PS X st (sThaw ts) := by
  intro pins s σ H D I h
  obtain ⟨a, h0, h⟩ := h
  refine thn (he pins s σ H _ I h) fun f s1 z => ?_
  cases f with
  | next => obtain ⟨σ1, H1, I1, o, u, e, q⟩ := z; exact ⟨σ1, _, I1.thaw (I.wasFree h0) e, q⟩
  | brk => obtain ⟨σ1, H1, I1, o, u, e, q⟩ := z; exact ⟨σ1, _, I1.thaw (I.wasFree h0) e, q⟩
  | cont => obtain ⟨σ1, H1, I1, o, u, e, q⟩ := z; exact ⟨σ1, _, I1.thaw (I.wasFree h0) e, q⟩
  | ret v => obtain ⟨x, σ1, H1, I1, r, o, u, e, q⟩ := z; exact ⟨x, σ1, _, I1.thaw (I.wasFree h0) e, r, q⟩
end
end L2

set_option Elab.async false
set_option linter.all false
set_option maxRecDepth 100000
set_option maxHeartbeats 4000000
/-! ### any, sum -/
namespace L2
open PySem PySem.W PyProof.Rows
theorem any_getD : ∀ bs : List Bool, ((List.range bs.length).any fun i => bs.getD i false) = bs.any id
  | [] => rfl
  | b :: bs => by
    rw [List.length_cons, List.range_succ_eq_map, List.any_cons, List.any_map, List.any_cons, ← any_getD bs]
    rfl
theorem vals_intsT : ∀ {ns : List Int} {us : List Value}, Vals (ns.map V.int) us → ∃ xs : List (Int × Tok), us = xs.map (fun p => Value.int p.1 p.2) ∧ ns = xs.map (·.1)
  | [], _, .nil => ⟨[], rfl, rfl⟩
  | n :: ns, _, .cons r t => by
    obtain ⟨xs, rfl, rfl⟩ := vals_intsT t
    obtain ⟨tk, rfl⟩ := r
    exact ⟨(n, tk) :: xs, rfl, rfl⟩
section
variable {X : Cx}
def rAny (K : PySem.W.Frag) : List V → Hp → VK → Prop := fun xs H Q => ∃ (p : Addr) (bs : List Bool), xs = [.ref p] ∧ SqL K H p (bs.map V.bl) ∧ Q (.bl (bs.any id)) H
theorem call_anyB (hc : X.calm = true) : CallR X (.builtin "any") (rAny X.K) := by
  intro pins s σ H xs us Q I r h
  obtain ⟨p, bs, rfl, hq, q⟩ := h
  obtain ⟨u, rfl, rx⟩ := vals1 r
  cases rx
  obtain ⟨its, r', pl, hz⟩ := I.list hq
  have hl := pl.isList
  have hlt : p < s.heap.objs.size := by obtain ⟨_, e, _⟩ := hl; exact Heap.lt_size e
  have hlen : bs.length = its.length := by have := r'.length; rw [List.length_map] at this; exact this
  refine call_any_walk (wpAny_pyIter_list hl ?_)
  refine ⟨s.heap.objs.size, _, _, its.toArray.size, _, _, fun i => bs.getD i false, rfl, Walks.list (show X.A.in1.handled = none from I.ok.hd hc) s.heap.objs.size p (Nat.ne_of_lt hlt) its.toArray, ⟨⟨_, Heap.get?_push_size _ rfl, rfl, rfl⟩, hl.push _⟩, ?_, ?_⟩
  · intro i v s' Q' E' hi hQ
    have hi' : its[i]? = some v := by simpa using hi
    have hib : i < bs.length := by rw [hlen]; exact (List.getElem?_eq_some_iff.mp hi').1
    obtain ⟨u, hu, ru⟩ := r'.get (i := i) (x := V.bl bs[i]) (by rw [List.getElem?_map, List.getElem?_eq_getElem hib]; rfl)
    rw [hi'] at hu; cases hu
    have : v = Value.bool bs[i] := ru
    subst this
    refine wpAny_truthy_bool ?_
    have eb : bs.getD i false = bs[i] := by rw [List.getD_eq_getElem?_getD, List.getElem?_eq_getElem hib]; rfl
    have hQ' : Q' (bs.getD i false) s' := hQ
    rw [eb] at hQ'
    exact hQ'
  · intro h' tk hk
    have eany : (List.range its.toArray.size).any (fun i => bs.getD i false) = bs.any id := by
      rw [List.size_toArray, ← hlen]
      exact any_getD bs
    rw [eany]
    refine ⟨.bl (bs.any id), H, ?_, rfl, q⟩
    have I1 : Inv X pins σ H { s with heap := s.heap.push { cls := .type "list_iterator", data := .fields #[.ref p, .int 0 0] }, toks := s.toks } := I.kept fun b u e => Heap.get?_push_of_some _ e
    obtain ⟨f0, f1, f2, f3, f4, f5⟩ := I.fpOk (Nat.le_refl _) (I.hok.fresh (Nat.le_refl _))
    exact I1.turned (fun b o hb e => hk b o (by simpa using hb) e) f0 f1 f3 f4 f5
def rSum (K : PySem.W.Frag) : List V → Hp → VK → Prop := fun xs H Q => ∃ (p : Addr) (ns : List Int), xs = [.ref p] ∧ SqL K H p (ns.map V.int) ∧ Q (.int ns.sum) H
theorem call_sumI (hc : X.calm = true) : CallR X (.builtin "sum") (rSum X.K) := by
  intro pins s σ H xs us Q I r h
  obtain ⟨p, ns, rfl, hq, q⟩ := h
  obtain ⟨u, rfl, rx⟩ := vals1 r
  cases rx
  obtain ⟨its, r', pl, hz⟩ := I.list hq
  obtain ⟨zs, rfl, rfl⟩ := vals_intsT r'
  have hl : s.heap.IsList p (intItems zs.toArray) := by
    have := pl.isList
    simpa [intItems] using this
  refine sum_intListG (I.ok.hd hc) hl fun h' tk t' hk => ?_
  have e2 : preSum (numAt zs.toArray) zs.toArray.size = (zs.map (·.1)).sum := by
    rw [preSum_eq, List.take_of_length_le (by simp)]
  rw [e2]
  exact ⟨.int (zs.map (·.1)).sum, H, I.kept hk, ⟨t', rfl⟩, q⟩
end
section
variable {K : PySem.W.Frag} {H : Hp} {Q : VK}
theorem rd_any {p : Addr} {bs : List Bool} (e : SqL K H p (bs.map V.bl)) (h : Q (.bl (bs.any id)) H) : rAny K [.ref p] H Q := ⟨p, bs, rfl, e, h⟩
theorem rd_sum {p : Addr} {ns : List Int} (e : SqL K H p (ns.map V.int)) (h : Q (.int ns.sum) H) : rSum K [.ref p] H Q := ⟨p, ns, rfl, e, h⟩
end
theorem bt_any : bootBuiltins "any" = some (.builtin "any") := by decide +kernel
theorem bt_sum : bootBuiltins "sum" = some (.builtin "sum") := by decide +kernel
end L2

set_option Elab.async false
set_option linter.all false
set_option maxRecDepth 100000
set_option maxHeartbeats 4000000
namespace L2
open PySem PySem.W PyProof.Rows
theorem lk_keys : typeLookup (.type "list") "keys" = pure none := by rw [typeLookup_type, builtinLookup_eq_fast]; kernel_rfl
theorem lk_hook : typeLookup (.type "list") "__getattr__" = pure none := by rw [typeLookup_type, builtinLookup_eq_fast]; kernel_rfl
theorem sub_ae : isSubtype (.type "AttributeError") (.type "AttributeError") = pure true := by rw [isSubtype_type]; kernel_rfl
theorem first_ae : ((Manifest.find? "AttributeError").elim false fun t => t.mro.contains "StopIteration" || t.mro.contains "SystemExit") = false := by decide +kernel
section
variable {prog : Program} {w : World} {A : Around} {E : Value → Shared → Prop} {s : Shared}
theorem attr_exc {α : Type} {v : Value} {a : Addr} {Q : α → Shared → Prop} (hh : A.handled = none)
    (k : ∀ e h' tk' o, h'.get? e = some o → o.cls = .type "AttributeError" → (∀ b o, s.heap.get? b = some o → h'.get? b = some o) → E (.ref e) { s with heap := h', toks := tk' }) :
    wpAny (model prog w) A (do
      let e ← newExc (.type "AttributeError") [v]
      let l ← mkText "keys"
      noteAttr e (.ref a) l
      raiseNew e) Q E s := by
  unfold newExc newTuple
  refine wpAny_bind (wpAny_bind (wpAny_newObj_type (wpAny_bind (m := firstArgMember _ _) (wpAny_of_eq (a := Value.none) (by simp only [firstArgMember, first_ae]; rfl) (wpAny_newObj_type ?_ (by size_fits)))) (by size_fits)))
  refine wpAny_bind (wpAny_mkText ?_)
  refine wpAny_bind ?_
  unfold noteAttr
  refine wpAny_bind ?_
  unfold lacksNameAndObj
  have e1 : (#[Value.ref s.heap.objs.size, .none, .none, .none, .bool false, .none] ++ ownMembersOf (.type "AttributeError") [v] : Array Value) = #[Value.ref s.heap.objs.size, .none, .none, .none, .bool false, .none, unsetMember, unsetMember] := rfl
  rw [e1]
  generalize hs : s.heap.push { cls := Value.type "tuple", data := Data.seq #[v] } = h1
  have ho : (h1.push { cls := .type "AttributeError", data := .fields #[Value.ref s.heap.objs.size, .none, .none, .none, .bool false, .none, unsetMember, unsetMember] }).get? h1.objs.size = some { cls := .type "AttributeError", data := .fields #[Value.ref s.heap.objs.size, .none, .none, .none, .bool false, .none, unsetMember, unsetMember] } := Heap.get?_push_size _ rfl
  refine wpAny_bind (wpAny_isInstance (b := true) (T := "AttributeError") ⟨_, ho, rfl⟩ sub_ae ?_)
  refine wpAny_bind (wpAny_load ho ?_)
  refine wpAny_pure ?_
  refine wpAny_bind (wpAny_rule ?_)
  refine wpAny_bind (wpAny_typeOf (T := "AttributeError") ⟨_, ho, rfl⟩ ?_)
  unfold layMembers
  refine wpAny_bind (wpAny_load ho ?_)
  refine wpAny_update ho ?_
  simp only [raiseNew]
  refine wpAny_bind (wpAny_handled ?_)
  rw [hh]
  refine wpAny_bind (wpAny_pure (wpAny_throw ?_))
  refine k h1.objs.size _ _ _ (Heap.get?_update_self _ ho (Obj.isFreed_of_fields (Obj.data_mapFields rfl _))) (Obj.cls_mapFields ..) fun b o e => ?_
  have hb : b ≠ h1.objs.size := fun z => by
    have h2 : h1.objs.size = s.heap.objs.size + 1 := by rw [← hs]; simp [Heap.push]
    have h3 := Heap.lt_size e
    rw [z, h2] at h3
    exact absurd h3 (Nat.not_lt.mpr (Nat.le_succ _))
  exact (Heap.get?_update_other _ _ (Ne.symm hb)).trans (Heap.get?_push_of_some _ (by rw [← hs]; exact Heap.get?_push_of_some _ e))
theorem keys_entry {a : Addr} {its : Array Value} {n : Nat} {tk : Tok} {Q : Fin → Shared → Prop} (hh : A.handled = none) (hx : s.heap.get? a = some { cls := .type "list", data := .seq its n })
    (k : ∀ e h' tk' o, h'.get? e = some o → o.cls = .type "AttributeError" → (∀ b o, s.heap.get? b = some o → h'.get? b = some o) → E (.ref e) { s with heap := h', toks := tk' }) :
    wpAny (model prog w) A (Builtin.«object.__getattribute__» ⟨[.ref a, .str "keys" tk], []⟩) Q E s := by
  obtain ⟨h, g, d, t, os⟩ := s
  have hT : (⟨h, g, d, t, os⟩ : Shared).TypeIs (.ref a) "list" := ⟨_, hx, rfl⟩
  have f4 := lk_keys
  repeat (any_goals (first | assumption | wp_step))
  refine wpAny_bind (wpAny_mkStr ?_ (by rw [sizeLine_eq]; decide +kernel))
  exact attr_exc hh fun e h' tk' o e1 e2 e3 => k e h' tk' o e1 e2 e3
theorem keys_call {a : Addr} {its : Array Value} {n : Nat} {tk : Tok} {R : Result → Shared → Prop} (hh : A.handled = none) (hx : s.heap.get? a = some { cls := .type "list", data := .seq its n })
    (k : ∀ e h' tk' o, h'.get? e = some o → o.cls = .type "AttributeError" → (∀ b o, s.heap.get? b = some o → h'.get? b = some o) → R (.error (.ref e)) { s with heap := h', toks := tk' }) :
    codeAny (model prog w) A (.call (.builtin "list.__getattribute__") ⟨[.ref a, .str "keys" tk], []⟩) R s := by
  obtain ⟨h, g, d, t, os⟩ := s
  exact codeAny_call_builtin F.slot_list_getattribute.plain F.entry_list_ga (F.slot_list_getattribute.check _ _ _ _ _ _ _ _ (show (⟨h, g, d, t, os⟩ : Shared).TypeIs (.ref a) "list" from ⟨_, hx, rfl⟩) (F.args_list_getattribute_2 _ _) (keys_entry hh hx k))
theorem no_keys {a : Addr} {its : Array Value} {n : Nat} {Q : Option Value → Shared → Prop} (hh : A.handled = none) (hx : s.heap.get? a = some { cls := .type "list", data := .seq its n })
    (k : ∀ h' tk', (∀ b o, s.heap.get? b = some o → h'.get? b = some o) → Q none { s with heap := h', toks := tk' }) : wpAny (model prog w) A (getAttr? (.ref a) "keys") Q E s := by
  obtain ⟨h, g, d, t, os⟩ := s
  have hT : (⟨h, g, d, t, os⟩ : Shared).TypeIs (.ref a) "list" := ⟨_, hx, rfl⟩
  have f2 := F.slot_list_getattribute.lookup
  have f3 := F.slot_list_getattribute.bind (.ref a)
  unfold getAttr? getAttrBy?
  repeat (any_goals (first | assumption | wp_step))
  refine keys_call hh hx fun e h' tk' o e1 e2 e3 => ?_
  have hE : (⟨h', g, d, tk', os⟩ : Shared).TypeIs (.ref e) "AttributeError" := ⟨_, e1, e2⟩
  show wpAny (model prog w) A (getattributeRaised (Value.ref a) (Value.str (Str.ofString "keys") t) (.type "list") (.ref e) none false false) _ _ (⟨h', g, d, tk', os⟩ : Shared)
  unfold getattributeRaised
  refine wpAny_bind (wpAny_isInstance (b := true) hE sub_ae ?_)
  show wpAny (model prog w) A (typeLookup (.type "list") "__getattr__" >>= fun x => hookOrError (Value.ref a) (Value.str (Str.ofString "keys") t) (.ref e) false false x) _ _ (⟨h', g, d, tk', os⟩ : Shared)
  rw [lk_hook]
  refine wpAny_bind (wpAny_pure ?_)
  refine wpAny_throw ?_
  refine wpAny_bind (wpAny_isInstance (b := true) hE sub_ae ?_)
  exact wpAny_pure (k h' tk' e3)
end
end L2

set_option Elab.async false
set_option linter.all false
set_option maxRecDepth 100000
set_option maxHeartbeats 4000000
namespace L2
open PySem PySem.W PyProof.Rows
/-! ### dict(rows) -/
theorem entry_upd_loop : entryFor table "dict.update.loop" = some Builtin.«dict.update.loop» := entryFor_of_tree (by kernel_rfl)
theorem plain_upd_loop : plainId "dict.update.loop" = true := by decide +kernel
def putAll {κ : Type} [DecidableEq κ] (kvs ps : List (κ × Value)) : List (κ × Value) := ps.foldl (fun acc p => stored acc p.1 p.2) kvs
theorem stored_len {κ : Type} [DecidableEq κ] (kvs : List (κ × Value)) (k : κ) (v : Value) : (stored kvs k v).length ≤ kvs.length + 1 := by
  unfold stored
  split
  · rw [List.length_map]; exact Nat.le_succ _
  · rw [List.length_append]; exact Nat.le_refl _
section
variable {prog : Program} {w : World} {A : Around} {E : Value → Shared → Prop} {κ : Type} [DecidableEq κ] {knd : KeyKind prog w κ} {I d : Addr} {fp wr : List Addr} {n : Nat} {P : Nat → Value → Prop} {St : Nat → Heap → Prop} {R : Result → Shared → Prop}
/-- each item is a row of a key and a value -/
def RowAt (knd : KeyKind prog w κ) (d : Addr) (wr : List Addr) (P : Nat → Value → Prop) (ps : List (κ × Value)) (h : Heap) : Prop :=
  ∀ i v, P i v → ∃ (q : Addr) (o : Obj) (key : Value) (k : κ) (u : Value) (c : Nat), v = .ref q ∧ q ∉ wr ∧ q ≠ d ∧ h.get? q = some o ∧ o.cls = .type "tuple" ∧ o.data = .seq #[key, u] c ∧ knd.is k key = true ∧ ps[i]? = some (k, u)
theorem upd_loop (W : Walks prog w A.in1 I fp wr n P St) (hdf : d ∉ fp) (ps : List (κ × Value)) (hn : ps.length = n) (hsz : n ≤ sizeLine) :
    ∀ (k i : Nat) (s : Shared) (kvs : List (κ × Value)), n - i = k → i ≤ n → St i s.heap → kvs.length ≤ i → s.heap.DictOf knd d kvs → RowAt knd d wr P ps s.heap →
    (∀ h' tk, h'.DictOf knd d (putAll kvs (ps.drop i)) → (∀ b o, b ∉ wr → b ≠ d → s.heap.get? b = some o → h'.get? b = some o) → R (.ok (.ret .none)) { s with heap := h', toks := tk }) →
    codeAny (model prog w) A (.builtin "dict.update.loop" ⟨[.ref d, .ref I, rawInt i, .none], []⟩) R s := by
  have hdw : d ∉ wr := fun h => hdf (W.sub _ h)
  intro k
  induction k with
  | zero =>
    intro i s kvs hk hi hst hl hd hrow hR
    have hin : i = n := by omega
    subst hin
    refine codeAny_builtin entry_upd_loop ?_
    rw [Around.under_plainId plain_upd_loop _]
    show wpAny _ A.in1 (pyNext (.ref I) >>= _) _ _ s
    refine wpAny_bind (W.done s _ _ hst fun h' tk hk' => ?_)
    show wpAny _ _ (Builtin.Dict.addKeywords d [] >>= _) _ _ _
    refine wpAny_bind (wpAny_pure (wpAny_pure (hR h' tk ?_ fun b o hb _ e => hk' b o hb e)))
    rw [List.drop_of_length_le (by omega)]
    exact hd.at fun o e => hk' d o hdw e
  | succ k ih =>
    intro i s kvs hk hi hst hl hd hrow hR
    have hlt : i < n := by omega
    refine codeAny_builtin entry_upd_loop ?_
    rw [Around.under_plainId plain_upd_loop _]
    show wpAny _ A.in1 (pyNext (.ref I) >>= _) _ _ s
    refine wpAny_bind (W.item i s _ _ hlt hst fun v h' tk hP hst' hk' => ?_)
    obtain ⟨q, o, key, kk, u, c, rfl, hqw, hqd, ho, hc, hdt, his, hps⟩ := hrow i v hP
    have ho' := hk' q o hqw ho
    refine wpAny_bind (wpAny_holding (wpAny_bind (wpAny_tryCatch ?_)))
    unfold Builtin.Dict.pairItems
    refine wpAny_bind (wpAny_typeOf (T := "tuple") ⟨o, ho', hc⟩ ?_)
    rw [if_pos (by rfl)]
    refine wpAny_bind (wpAny_seqItems ho' hdt (wpAny_pure ?_))
    have hd' : h'.DictOf knd d kvs := hd.at fun o e => hk' d o hdw e
    refine wpAny_holding (wpAny_dictSet_pairs his hd' (fun h2 hd2 sb => ?_) (by omega))
    have keep : ∀ b o, b ∉ wr → b ≠ d → s.heap.get? b = some o → h2.get? b = some o := fun b o hb hbd e => (sb.2 b hbd).trans (hk' b o hb e)
    refine wpAny_pure ⟨plainId_quiet plain_upd_loop _, ih (i + 1) _ (stored kvs kk u) (by omega) hlt (W.frame _ _ _ hst' fun b hb o e => (sb.2 b (fun z => hdf (z ▸ hb))).trans e) (Nat.le_trans (stored_len ..) (by omega)) hd2 (fun j v hj => ?_) fun h3 tk3 hd3 hk3 => ?_⟩
    · obtain ⟨q, o, key, kk, u, c, e1, e2, e3, e4, e5⟩ := hrow j v hj
      exact ⟨q, o, key, kk, u, c, e1, e2, e3, keep q o e2 e3 e4, e5⟩
    · refine hR h3 tk3 ?_ fun b o hb hbd e => hk3 b o hb hbd (keep b o hb hbd e)
      have ed : ps.drop i = (kk, u) :: ps.drop (i + 1) := by
        have hi2 : i < ps.length := by omega
        rw [List.drop_eq_getElem_cons hi2]
        have := (List.getElem?_eq_some_iff.mp hps).2
        rw [this]
      rw [ed]
      exact hd3
end
end L2

set_option Elab.async false
set_option linter.all false
set_option maxRecDepth 100000
set_option maxHeartbeats 4000000
namespace L2
open PySem PySem.W PyProof.Rows
section
variable {prog : Program} {w : World} {A : Around} {E : Value → Shared → Prop} {κ : Type} [DecidableEq κ] {knd : KeyKind prog w κ} {s : Shared} {l : Addr} {its : Array Value} {c : Nat}
theorem dict_rows {ps : List (κ × Value)} {Q : Value → Shared → Prop} (hh : A.handled = none) (hl : s.heap.get? l = some { cls := .type "list", data := .seq its c }) (hsz : its.size ≤ sizeLine) (hlen : ps.length = its.size)
    (hrow : ∀ (i : Nat) (v : Value), its[i]? = some v → ∃ (q : Addr) (o : Obj) (key : Value) (k : κ) (u : Value) (c : Nat), v = .ref q ∧ s.heap.get? q = some o ∧ o.cls = .type "tuple" ∧ o.data = .seq #[key, u] c ∧ knd.is k key = true ∧ ps[i]? = some (k, u))
    (h : ∀ h' tk, h'.DictOf knd s.heap.objs.size (putAll [] ps) → (∀ b o, s.heap.get? b = some o → h'.get? b = some o) → Q (.ref s.heap.objs.size) { s with heap := h', toks := tk }) :
    wpAny (model prog w) A (call (.type "dict") [.ref l]) Q E s := by
  refine callType_codes (Q₁ := fun obj s₁ => obj = .ref s.heap.objs.size ∧ s₁ = { s with heap := s.heap.push { cls := .type "dict", data := .dict #[] } }) F.kt_called_dict (F.kt_typeCall_dict_1 _) F.entry_dict_init (kt_code_dict_new _ ⟨rfl, rfl⟩) ?_
  rintro obj s₁ ⟨rfl, rfl⟩
  have hnew : (s.heap.push { cls := .type "dict", data := .dict #[] }).DictOf knd s.heap.objs.size [] := Heap.DictOf.new s.heap
  have hl' : (s.heap.push { cls := .type "dict", data := .dict #[] }).get? l = some { cls := .type "list", data := .seq its c } := Heap.get?_push_of_some _ hl
  refine ⟨hnew.typeIs, F.args_dict_init_2 _ _, ?_⟩
  unfold Builtin.«dict.__init__»
  refine wpAny_bind ?_
  unfold Builtin.Dict.selfAndRest
  refine wpAny_bind (wpAny_notOrdered_dict hnew.typeIs ?_)
  show wpAny _ _ (pure (s.heap.objs.size, [Value.ref l])) _ _ _
  refine wpAny_pure ?_
  show wpAny _ _ (Builtin.Dict.updateFrom "dict.__init__" s.heap.objs.size (.ref l) [] .none) _ _ _
  unfold Builtin.Dict.updateFrom
  refine wpAny_bind (wpAny_typeOf (T := "list") ⟨_, hl', rfl⟩ ?_)
  rw [if_pos (by decide)]
  refine wpAny_bind (no_keys hh hl' fun h1 t1 kp1 => ?_)
  rw [if_pos (show (none : Option Value).isNone = true from rfl)]
  refine wpAny_bind (wpAny_rule ?_)
  have hl1 := kp1 _ _ hl'
  have isl : h1.IsList l its := ⟨_, hl1, rfl, _, rfl⟩
  have lt1 : ∀ b o, s.heap.get? b = some o → b ≠ h1.objs.size := fun b o e z => by
    have := Heap.lt_size (kp1 b o (Heap.get?_push_of_some _ e))
    rw [z] at this; exact Nat.lt_irrefl _ this
  have hdI : s.heap.objs.size ≠ h1.objs.size := fun z => by
    have := Heap.lt_size (kp1 _ _ (Heap.get?_push_size s.heap (o := { cls := .type "dict", data := .dict #[] }) rfl))
    rw [z] at this; exact Nat.lt_irrefl _ this
  have hdl : ∀ b o, s.heap.get? b = some o → b ≠ s.heap.objs.size := fun b o e z => by
    have := Heap.lt_size e
    rw [z] at this; exact Nat.lt_irrefl _ this
  refine wpAny_bind (wpAny_pyIter_list isl ?_)
  refine wpAny_pure ⟨plainId_quiet plain_upd_loop _, ?_⟩
  have W := Walks.list (prog := prog) (w := w) (A := A.in1.in1) hh h1.objs.size l (lt1 _ _ hl) its
  refine upd_loop (knd := knd) W (by simp only [List.mem_cons, List.not_mem_nil, or_false, not_or]; exact ⟨hdI, Ne.symm (hdl _ _ hl)⟩) ps hlen hsz its.size 0 _ [] (Nat.sub_zero _) (Nat.zero_le _) ⟨⟨_, Heap.get?_push_size _ rfl, rfl, rfl⟩, isl.push _⟩ (Nat.le_refl _) ((hnew.at fun o e => kp1 _ o e).push _) (fun i v hi => ?_) fun h' tk hd hk => ?_
  · obtain ⟨q, o, key, k, u, c', e1, e2, e3, e4, e5, e6⟩ := hrow i v hi
    refine ⟨q, o, key, k, u, c', e1, ?_, hdl _ _ e2, Heap.get?_push_of_some _ (kp1 _ _ (Heap.get?_push_of_some _ e2)), e3, e4, e5, e6⟩
    simp only [List.mem_cons, List.not_mem_nil, or_false]
    exact lt1 _ _ e2
  · refine ⟨rfl, h h' tk hd fun b o e => hk b o ?_ (hdl _ _ e) (Heap.get?_push_of_some _ (kp1 _ _ (Heap.get?_push_of_some _ e)))⟩
    simp only [List.mem_cons, List.not_mem_nil, or_false]
    exact lt1 _ _ e
end
end L2

set_option Elab.async false
set_option linter.all false
set_option maxRecDepth 100000
set_option maxHeartbeats 4000000
namespace L2
open PySem PySem.W PyProof.Rows
/-- items that are pairs of a key and a value -/
abbrev PRows (H : Hp) : List V → List (Key × V) → Prop := Paired fun v p => ∃ q, v = .ref q ∧ H q = some (.tup [kV p.1, p.2])
section
variable {X : Cx} {pins : List (Addr × Obj)} {σ : St} {H : Hp} {s : Shared}
theorem pair_obj (I : Inv X pins σ H s) {q : Addr} {k : Key} {x : V} (e : H q = some (.tup [kV k, x])) : ∃ (o : Obj) (key u : Value) (n : Nat), s.heap.get? q = some o ∧ o.cls = .type "tuple" ∧ o.data = .seq #[key, u] n ∧ (mixKind X.prog X.w).is k key = true ∧ RelV x u := by
  obtain ⟨_, us, r, o, h1, h2, n, h3⟩ := (show ObjOk X.prog X.w H s.heap q (.tup [kV k, x]) from I.hok q _ e)
  match us, r with
  | [key, u], .cons r1 (.cons r2 .nil) => exact ⟨o, key, u, n, h1, h2, h3, kV_is r1, r2⟩
theorem prows_vals (I : Inv X pins σ H s) : ∀ {vs : List V} {ps : List (Key × V)} {us : List Value}, PRows H vs ps → Vals vs us →
    ∃ rs : List (Key × Value), KV ps rs ∧ rs.length = us.length ∧ ∀ (i : Nat) (v : Value), us[i]? = some v → ∃ (q : Addr) (o : Obj) (key : Value) (k : Key) (u : Value) (c : Nat), v = .ref q ∧ s.heap.get? q = some o ∧ o.cls = .type "tuple" ∧ o.data = .seq #[key, u] c ∧ (mixKind X.prog X.w).is k key = true ∧ rs[i]? = some (k, u)
  | _, _, _, .nil, .nil => ⟨[], .nil, rfl, fun i v z => by simp at z⟩
  | _ :: _, (k, x) :: _, _ :: us, .cons ⟨q, e, hq⟩ t, .cons r rt => by
    obtain ⟨rs, h1, h2, h3⟩ := prows_vals I t rt
    obtain ⟨o, key, u, n, o1, o2, o3, o4, o5⟩ := pair_obj I hq
    subst e
    cases r
    refine ⟨(k, u) :: rs, .cons ⟨rfl, o5⟩ h1, by simp [h2], fun i v z => ?_⟩
    cases i with
    | zero => cases z; exact ⟨q, o, key, k, u, n, rfl, o1, o2, o3, o4, rfl⟩
    | succ i =>
      obtain ⟨q, o, key, k, u, c, w1⟩ := h3 i v (by simpa using z)
      exact ⟨q, o, key, k, u, c, by simpa using w1⟩
def rDictL : List V → Hp → VK → Prop := fun xs H Q => ∃ p vs ps, xs = [.ref p] ∧ Rd H p (.lst vs) ∧ PRows H vs ps ∧ ∀ l, H l = none → Q (.ref l) (upd H l (.dK (mergeK [] ps)))
theorem call_dictL (hc : X.calm = true) : CallR X (.type "dict") rDictL := by
  intro pins s σ H xs us Q I r h
  obtain ⟨p, vs, ps, rfl, hq, pr, q⟩ := h
  obtain ⟨u, rfl, rx⟩ := vals1 r
  cases rx
  obtain ⟨z, its, n, rv, e⟩ := (show ObjOk X.prog X.w H s.heap p (.lst vs) from hq.ok I.hok)
  obtain ⟨rs, h1, h2, h3⟩ := prows_vals I pr rv
  have hl := rv.length
  have hlp := h1.length
  refine dict_rows (knd := mixKind X.prog X.w) (ps := rs) (I.ok.hd hc) e (by rw [List.size_toArray]; omega) (by rw [List.size_toArray]; exact h2) (fun i v hv => h3 i v (by simpa using hv)) fun h' tk hd kp => ?_
  have lm : (mergeK [] ps).length ≤ sizeLine := Nat.le_trans (length_mergeK ps []) (by simp; omega)
  have nm : (s.heap.objs.size == sysModules) = false := by
    have := I.big
    simp only [beq_eq_false_iff_ne]
    exact fun z => by rw [z] at this; exact Nat.lt_irrefl _ this
  exact ⟨.ref _, _, I.laid (t' := tk) kp (Nat.le_refl _) (dk_new lm nm (KV.merge h1 .nil) hd), rfl, q _ (I.hok.fresh (Nat.le_refl _))⟩
end
end L2

set_option Elab.async false
set_option linter.all false
set_option maxRecDepth 100000
set_option maxHeartbeats 4000000
namespace L2
open PySem PySem.W PyProof.Rows
/-! ### the items of a dict, whatever its keys -/
section
variable {prog : Program} {w : World} {A : Around} {E : Value → Shared → Prop} {s : Shared} {d it : Addr} {o : Obj} {es : Array DictEntry} {ep i : Nat} {k0 v0 : Value}
theorem next_rawI {Q : Option Value → Shared → Prop} {e : DictEntry} (st : IsItemIter s.heap it d i es.size ep k0 v0) (ho : s.heap.get? d = some o) (hq : o.data = .dict es ep) (hx : es[i]? = some e)
    (k : ∀ h', IsItemIterOut h' it d (i + 1) es.size ep e.key e.val s.heap.objs.size → h'.get? s.heap.objs.size = some { cls := .type "tuple", data := .seq #[e.key, e.val] } →
      (∀ b u, b ≠ it → s.heap.get? b = some u → h'.get? b = some u) → Q (some (.ref s.heap.objs.size)) { s with heap := h' }) : wpAny (model prog w) A (pyNext (.ref it)) Q E s := by
  obtain ⟨hp, g, dr, tk, os⟩ := s
  have T : Shared.TypeIs ⟨hp, g, dr, tk, os⟩ (.ref it) "dict_itemiterator" := ⟨_, st, rfl⟩
  unfold pyNext
  refine wpAny_bind (wpAny_attempt (wpAny_callSpecial?_slot (name := Str.ofString "__next__") T F.slot_dict_itemiterator_next (wpAny_call_entry F.slot_dict_itemiterator_next T F.entry_dict_itemiterator_next ?_ (F.args_dict_itemiterator_next_1 _))))
  refine wpAny_bind (wpAny_pure (wpAny_bind (wpAny_bind ?_)))
  first | refine wpAny_bind (wpAny_typeNameOfWhole_itemiter T (wpAny_pure (wpAny_bind (wpAny_fieldsOf st rfl ?_)))) | refine wpAny_bind (wpAny_typeNameOf_itemiter T (wpAny_pure (wpAny_bind (wpAny_fieldsOf st rfl ?_))))
  simp only [show Builtin.Dict_items.ownsTuple "dict_itemiterator" = true by decide, if_true]
  show wpAny _ A.in1 (if (Value.ref d == Value.none) = true then _ else _) _ _ (⟨hp, g, dr, tk, os⟩ : Shared)
  rw [if_neg (show ¬ (Value.ref d == Value.none) = true from Bool.false_ne_true)]
  refine wpAny_bind (wpAny_pure (wpAny_bind (wpAny_dictEntries ho hq ?_)))
  rw [if_neg (by simp)]
  refine wpAny_bind (wpAny_pure (wpAny_bind (wpAny_dictEpoch ho hq ?_)))
  rw [if_neg (by simp)]
  refine wpAny_pure ?_
  simp only [show ¬ ((i : Int) < 0) from by omega, if_false, Int.toNat_natCast, hx]
  refine wpAny_bind ?_
  first | refine wpAny_bind (wpAny_typeNameOfWhole_itemiter T (wpAny_pure (wpAny_bind (wpAny_isOneOf_itemiter T ?_)))) | refine wpAny_bind (wpAny_typeNameOf_itemiter T (wpAny_pure (wpAny_bind (wpAny_isOneOf_itemiter T ?_))))
  show wpAny _ A.in1 (setField (.ref it) 3 (rawInt ((i : Int) + 1)) >>= _) _ _ (⟨hp, g, dr, tk, os⟩ : Shared)
  refine wpAny_bind (wpAny_setField_rec st (by simp) fun h1 e1 s1 => ?_)
  replace s1 : Heap.SameBut it hp h1 := s1
  replace e1 : IsItemIter h1 it d (i + 1) es.size ep k0 v0 := by
    unfold IsItemIter; rw [show ((i + 1 : Nat) : Int) = (i : Int) + 1 by omega]; simpa [rawInt] using e1
  have T1 : Shared.TypeIs ⟨h1, g, dr, tk, os⟩ (.ref it) "dict_itemiterator" := ⟨_, e1, rfl⟩
  refine wpAny_bind (wpAny_holding (wpAny_bind (wpAny_isOneOf_itemiter T1 (wpAny_bind (wpAny_isOneOf_itemiter T1 ?_)))))
  show wpAny _ A.in1 (Builtin.Dict_items.pairFromOwner (.ref it) 6 e.key e.val) _ _ (⟨h1, g, dr, tk, os⟩ : Shared)
  unfold Builtin.Dict_items.pairFromOwner
  refine wpAny_bind (wpAny_newTuple ?_)
  have e2 : IsItemIter (h1.push { cls := .type "tuple", data := .seq #[e.key, e.val] }) it d (i + 1) es.size ep k0 v0 := Heap.get?_push_of_some _ e1
  generalize q2 : h1.push { cls := .type "tuple", data := .seq #[e.key, e.val] } = h2 at e2
  have z1 : h1.objs.size = hp.objs.size := s1.1
  have il : it < hp.objs.size := Heap.lt_size st
  have t2 : h2.get? hp.objs.size = some { cls := .type "tuple", data := .seq #[e.key, e.val] } := by rw [← q2, ← z1]; exact Heap.get?_push_size _ rfl
  have k2 : ∀ b u, b ≠ it → hp.get? b = some u → h2.get? b = some u := fun b u hb z => by rw [← q2]; exact Heap.get?_push_of_some _ (s1.extBut b u hb z)
  show wpAny _ A.in1 (Builtin.Dict_items.ownedTupleIsFree (.ref it) >>= _) _ _ (⟨h2, g, dr, tk, os⟩ : Shared)
  rw [z1]
  clear q2 e1 s1 T1 z1 h1
  refine wpAny_bind ?_
  unfold Builtin.Dict_items.ownedTupleIsFree
  refine wpAny_bind (wpAny_field e2 rfl (x := .none) rfl (wpAny_pure ?_))
  simp only [if_true]
  refine wpAny_bind (wpAny_field e2 rfl (x := k0) rfl (wpAny_bind (wpAny_field e2 rfl (x := v0) rfl ?_)))
  refine wpAny_bind (wpAny_setField_rec e2 (by simp) fun h3 e3 s3 => ?_)
  replace s3 : Heap.SameBut it h2 h3 := s3
  replace e3 : IsItemIter h3 it d (i + 1) es.size ep e.key v0 := e3
  refine wpAny_bind (wpAny_setField_rec e3 (by simp) fun h4 e4 s4 => ?_)
  replace s4 : Heap.SameBut it h3 h4 := s4
  replace e4 : IsItemIter h4 it d (i + 1) es.size ep e.key e.val := e4
  refine wpAny_bind (wpAny_setField_rec e4 (by simp) fun h5 e5 s5 => ?_)
  replace s5 : Heap.SameBut it h4 h5 := s5
  replace e5 : IsItemIterOut h5 it d (i + 1) es.size ep e.key e.val hp.objs.size := e5
  refine wpAny_bind (wpAny_setField_rec e5 (by simp) fun h6 e6 s6 => ?_)
  replace s6 : Heap.SameBut it h5 h6 := s6
  replace e6 : IsItemIterOut h6 it d (i + 1) es.size ep e.key e.val hp.objs.size := e6
  have kk : ∀ b u, b ≠ it → h2.get? b = some u → h6.get? b = some u := fun b u hb z => s6.extBut b u hb (s5.extBut b u hb (s4.extBut b u hb (s3.extBut b u hb z)))
  exact wpAny_bind (wpAny_letGo (wpAny_pure (wpAny_pure ⟨_, rfl, wpAny_pure (k h6 e6 (kk _ _ (Nat.ne_of_gt il) t2) fun b u hb z => kk b u hb (k2 b u hb z))⟩)))
theorem end_rawI {Q : Option Value → Shared → Prop} (hh : A.handled = none) (st : IsItemIter s.heap it d i es.size ep k0 v0) (ho : s.heap.get? d = some o) (hq : o.data = .dict es ep) (hx : es.size ≤ i)
    (k : ∀ h', Heap.ExtBut it s.heap h' → Q none { s with heap := h' }) : wpAny (model prog w) A (pyNext (.ref it)) Q E s := by
  have T : s.TypeIs (.ref it) "dict_itemiterator" := ⟨_, st, rfl⟩
  unfold pyNext
  refine wpAny_bind (wpAny_attempt (wpAny_callSpecial?_slot (name := Str.ofString "__next__") T F.slot_dict_itemiterator_next (wpAny_call_entry F.slot_dict_itemiterator_next T F.entry_dict_itemiterator_next ?_ (F.args_dict_itemiterator_next_1 _))))
  refine wpAny_bind (wpAny_pure (wpAny_bind (wpAny_bind ?_)))
  first | refine wpAny_bind (wpAny_typeNameOfWhole_itemiter T (wpAny_pure (wpAny_bind (wpAny_fieldsOf st rfl ?_)))) | refine wpAny_bind (wpAny_typeNameOf_itemiter T (wpAny_pure (wpAny_bind (wpAny_fieldsOf st rfl ?_))))
  simp only [show Builtin.Dict_items.ownsTuple "dict_itemiterator" = true by decide, if_true]
  show wpAny _ A.in1 (if (Value.ref d == Value.none) = true then _ else _) _ _ s
  rw [if_neg (show ¬ (Value.ref d == Value.none) = true from Bool.false_ne_true)]
  refine wpAny_bind (wpAny_pure (wpAny_bind (wpAny_dictEntries ho hq ?_)))
  rw [if_neg (by simp)]
  refine wpAny_bind (wpAny_pure (wpAny_bind (wpAny_dictEpoch ho hq ?_)))
  rw [if_neg (by simp)]
  refine wpAny_pure ?_
  simp only [show ¬ ((i : Int) < 0) from by omega, if_false, Int.toNat_natCast, Array.getElem?_eq_none hx]
  refine wpAny_bind ?_
  first | refine wpAny_bind (wpAny_typeNameOfWhole_itemiter T (wpAny_pure ?_)) | refine wpAny_bind (wpAny_typeNameOf_itemiter T (wpAny_pure ?_))
  show wpAny _ A.in1 (setField (.ref it) 2 .none >>= _) _ _ s
  refine wpAny_bind (wpAny_setField st rfl (by simp) ?_)
  show wpAny _ A.in1 (newExc (.type "StopIteration") [] >>= _) _ _ _
  refine wpAny_bind ?_
  simp only [newExc, newTuple]
  refine wpAny_bind (wpAny_newObj_type (wpAny_bind (m := firstArgMember _ _) (wpAny_of_eq (a := Value.none) (by first | rfl | (simp only [firstArgMember]; rfl)) (wpAny_newObj_type ?_ (by size_fits)))) (by size_fits))
  simp only [raiseNew]
  refine wpAny_bind (wpAny_handled ?_)
  rw [show A.in1.handled = none from hh]
  refine wpAny_bind (wpAny_pure (wpAny_throw ?_))
  refine wpAny_bind (wpAny_isInstance (b := true) (T := "StopIteration") ⟨_, Heap.get?_push_size _ rfl, rfl⟩ isSubtype_stop ?_)
  exact wpAny_pure (k _ (((Heap.SameBut.update ..).extBut.push _).push _))
end
end L2

set_option Elab.async false
set_option linter.all false
set_option maxRecDepth 100000
set_option maxHeartbeats 4000000
namespace L2
open PySem PySem.W PyProof.Rows
section
variable {prog : Program} {w : World} {A : Around} {E : Value → Shared → Prop} {s : Shared} {d it : Addr} {o : Obj} {es : Array DictEntry} {ep i : Nat}
theorem items_call {Q : Value → Shared → Prop} (hd : (d == sysModules) = false) (T : s.TypeIs (.ref d) "dict")
    (k : Q (.ref s.heap.objs.size) { s with heap := s.heap.push { cls := .type "dict_items", data := .fields #[.ref d] } }) : wpAny (model prog w) A (call (.builtin "dict.items") [.ref d]) Q E s := by
  refine wpAny_call_entry F.slot_dict_items T F.entry_dict_items ?_ (F.args_dict_items_1 _)
  unfold Builtin.«dict.items» Builtin.Dict.noArgs
  refine wpAny_bind (wpAny_bind (wpAny_notOrdered_dict T (wpAny_pure ?_)))
  show wpAny _ A.in1 (Builtin.Dict.showsAll d >>= _) _ _ s
  unfold Builtin.Dict.showsAll
  rw [if_neg (fun z => by rw [hd] at z; cases z)]
  exact wpAny_bind (wpAny_pure (wpAny_bind (wpAny_newObj_type (wpAny_pure ⟨_, rfl, k⟩))))
theorem iter_rawI {v : Addr} {Q : Value → Shared → Prop} (hv : s.heap.IsItemsView v d) (ho : s.heap.get? d = some o) (hq : o.data = .dict es ep)
    (k : Q (.ref s.heap.objs.size) { s with heap := s.heap.push { cls := .type "dict_itemiterator", data := .fields #[.none, .bool false, .ref d, .int 0 0, .int es.size 0, .int ep 0, .none, .none] } }) : wpAny (model prog w) A (pyIter (.ref v)) Q E s := by
  obtain ⟨ov, hov, hcv, hdv⟩ := id hv
  refine wpAny_pyIter_slot hv.typeIs F.slot_dict_items_iter (wpAny_call_entry F.slot_dict_items_iter hv.typeIs F.entry_dict_items_iter ?_ (F.args_dict_items_iter_1 _))
  unfold Builtin.«dict_items.__iter__» Builtin.Dict_items.dictOf Builtin.Dict_items.newIterator
  refine wpAny_bind (wpAny_pure (wpAny_bind (wpAny_bind (wpAny_field hov hdv (x := .ref d) rfl (wpAny_pure (wpAny_bind (wpAny_bind (wpAny_dictEntries ho hq (wpAny_bind (wpAny_dictEpoch ho hq ?_))))))))))
  simp only [show Builtin.Dict_items.ownsTuple "dict_itemiterator" = true by decide, if_true]
  refine wpAny_newObj_type (wpAny_pure ⟨_, rfl, "dict_itemiterator", _, ⟨_, Heap.get?_push_size _ rfl, rfl⟩, F.slot_dict_itemiterator_next.lookup, ?_⟩) (by simp only [sizeOk, Builtin.Dict_items.ownedTupleFields, List.size_toArray, List.length_append, List.length_cons, List.length_nil, sizeLine_eq]; omega)
  simpa [rawInt, Builtin.Dict_items.ownedTupleFields] using k
end
/-- the items of a dict of tuples: each a new tuple of the key's tuple and the value -/
def Itj (a : Addr) (o : Obj) (kvs : List (List Key × V)) : It :=
  ⟨fun i H => H a = some (.frz o (.dT kvs)) ∧ i < kvs.length, fun i H x H' => ∃ k v p q, kvs[i]? = some (k, v) ∧ x = .ref q ∧ H p = some (.tup (k.map kV)) ∧ H q = none ∧ H' = upd H q (.tup [.ref p, v]), fun i H => H a = some (.frz o (.dT kvs)) ∧ kvs.length ≤ i⟩
theorem KT.get2 {H : Hp} : ∀ {kvs : List (List Key × V)} {xs : List (List Key × Addr × Value)} {i : Nat}, KT H kvs xs → i < kvs.length → ∃ k v b u, kvs[i]? = some (k, v) ∧ xs[i]? = some (k, b, u) ∧ H b = some (.tup (k.map kV)) ∧ RelV v u
  | _, _, 0, .cons h _, _ => ⟨_, _, _, _, rfl, by rw [h.1]; rfl, h.2.1, h.2.2⟩
  | _, _, i + 1, .cons _ t, hi => by
    obtain ⟨k, v, b, u, e1, e2, e3⟩ := KT.get2 (i := i) t (by simpa using hi)
    exact ⟨k, v, b, u, by simpa using e1, by simpa using e2, e3⟩
  | _, _, _, .nil, hi => by simp at hi
theorem turn_itemsT {P : Program} {w : World} {K : PySem.W.Frag} {elts : List Expr} {x1 : Nat} {tpos : Pos} (a it : Addr) {o : Obj} {es : Array DictEntry} {ep : Nat} (kvs : List (List Key × V)) (hd : o.data = .dict es ep) (hz : es.size = kvs.length) :
    Turn P w K (.Tuple elts x1 tpos) (Itj a o kvs) [it] it (fun i h => ∃ ok ov, IsItemIter h it a i es.size ep ok ov) where
  mem := by simp
  obj := fun i h st b hb => by
    have e : b = it := by simpa using hb
    subst e
    obtain ⟨ok, ov, e⟩ := st
    exact ⟨_, e, fun v z => by cases z⟩
  keep := fun i h h' st k => let ⟨ok, ov, e⟩ := st; ⟨ok, ov, k it (by simp) _ e⟩
  item := by
    intro X hP hw hK hc i pins s σ H E I hf st hg
    subst hP hw hK
    obtain ⟨ha, hi⟩ := hg
    obtain ⟨ok, ov, st⟩ := st
    obtain ⟨ho, z, y, xs, r, o', es', ep', h1, h2, h3, h4, h5⟩ := (show ObjOk X.prog X.w H s.heap a (.frz o (.dT kvs)) from I.hok a _ ha)
    rw [ho] at h1; cases h1
    rw [hd] at h3; cases h3
    obtain ⟨k, v, b, u, e1, e2, e3, e5⟩ := KT.get2 r hi
    have e4 := entry_at h4 i
    rw [e2] at e4
    obtain ⟨f0, f1, f2, f3, f4, f5⟩ := hf it (by simp)
    refine next_rawI st ho hd e4 fun h' st' ht kp => ?_
    refine ⟨_, rfl, ?_⟩
    refine wpAny_letOwnedTupleGo_items (s := { s with heap := h' }) st' fun h'' st'' sb => ?_
    have hq : H s.heap.objs.size = none := I.hok.fresh (Nat.le_refl _)
    have hne : s.heap.objs.size ≠ it := fun z => by
      have := Heap.lt_size (show s.heap.get? it = some _ from st)
      rw [z] at this
      exact Nat.lt_irrefl _ this
    have tup : Vals [.ref b, v] [.ref b, u] := .cons rfl (.cons e5 .nil)
    have I1 : Inv X pins σ (upd H s.heap.objs.size (.tup [.ref b, v])) { s with heap := s.heap.push { cls := .type "tuple", data := .seq #[.ref b, u] } } :=
      I.laid (t' := s.toks) (fun b u e => Heap.get?_push_of_some _ e) (Nat.le_refl _) ⟨(show 2 ≤ sizeLine by rw [sizeLine_eq]; decide), [.ref b, u], tup, ⟨_, Heap.get?_push_size _ rfl, rfl, 0, rfl⟩⟩
    have n0 : upd H s.heap.objs.size (.tup [.ref b, v]) it = none := by rw [upd_ne (Ne.symm hne)]; exact f0
    have I2 : Inv X pins σ (upd H s.heap.objs.size (.tup [.ref b, v])) { s with heap := h'' } := Inv.turned (s := { s with heap := s.heap.push { cls := .type "tuple", data := .seq #[.ref b, u] } }) (h' := h'') (t' := s.toks) (it := it) I1 (fun c o hb e => by
      rcases Heap.get?_push_cases e with ⟨rfl, rfl⟩ | e
      · exact (sb.2 _ hb).trans ht
      · exact (sb.2 c hb).trans (kp c o hb e)) n0 f1 f3 f4 f5
    exact ⟨.ref s.heap.objs.size, _, I2, rfl, ⟨k, v, b, _, e1, rfl, e3, hq, rfl⟩, ⟨_, _, st''⟩, fun b hb => by
      have e : b = it := by simpa using hb
      rw [e]; exact n0⟩
  done := by
    intro X hP hw hK hc i pins s σ H E I hf st hg
    subst hP hw hK
    obtain ⟨ha, hi⟩ := hg
    obtain ⟨ok, ov, st⟩ := st
    obtain ⟨ho, hok⟩ := (show ObjOk X.prog X.w H s.heap a (.frz o (.dT kvs)) from I.hok a _ ha)
    obtain ⟨f0, f1, f2, f3, f4, f5⟩ := hf it (by simp)
    exact end_rawI (I.ok.hd hc) st ho hd (by omega) fun h' eb => ⟨rfl, I.turned (t' := s.toks) (fun b o hb e => eb b o hb e) f0 f1 f3 f4 f5⟩
  self := fun A i s Q E st h => by
    obtain ⟨ok, ov, st⟩ := st
    have T : s.TypeIs (.ref it) "dict_itemiterator" := ⟨_, st, rfl⟩
    refine wpAny_pyIter_slot T F.slot_dict_itemiterator_iter (wpAny_call_entry F.slot_dict_itemiterator_iter T entry_itemiter_iter ?_ (F.args_dict_itemiterator_iter_1 _))
    show wpAny _ _ (ret (.ref it)) _ _ s
    exact wpAny_pure ⟨_, rfl, "dict_itemiterator", _, T, F.slot_dict_itemiterator_next.lookup, h⟩
def iItemsT (td : TE) : TI := fun σ H R => td σ H fun x H1 => ∃ a kvs, x = .ref a ∧ H1 a = some (.dT kvs) ∧ ∀ o, R (Itj a o kvs) (upd H1 a (.frz o (.dT kvs)))
section
variable {X : Cx}
theorem pi_itemsT {l : Expr} {td : TE} {elts : List Expr} {x1 : Nat} {tpos apos cpos : Pos} (hl : PE X l td) (hbase : attributeBase l "items" X.env (eval l X.env) = eval l X.env := by rfl) (hline : (apos.endLine == cpos.line) = true := by rfl) :
    PI X (.Tuple elts x1 tpos) (.Call (.Attribute l "items" apos) [] [] cpos) (iItemsT td) := by
  intro pins s σ H R I h
  refine wpAny_Call_method0_late hbase hline (thn (hl pins s σ H _ I h) fun v s1 ⟨x, H1, I1, r1, q1⟩ => ?_)
  obtain ⟨a, kvs, rfl, hq, q⟩ := q1
  cases r1
  obtain ⟨t1, t2, _⟩ := isD_at I1 (.inr ⟨kvs, .inl hq⟩)
  refine ⟨"dict", "dict.items", F.plainAttrs_dict, F.slot_dict_items, F.type_dict_items, t1, t2, Calls.callWith_builtin rfl (PySem.evalArgs_none ?_)⟩
  obtain ⟨z, y, xs, r, o, es, ep, h1, h2, h3, h4, h5⟩ := (show ObjOk X.prog X.w H1 s1.heap a (.dT kvs) from I1.hok a _ hq)
  have hz : es.size = kvs.length := by rw [size_of_entries h4, KT.len r]
  refine items_call y t1 ?_
  have hne : ∀ b ys, H1 b = some (.tup ys) → upd H1 a (.frz o (.dT kvs)) b = some (.tup ys) := fun b ys e => by
    have hb : b ≠ a := fun z => by rw [z, hq] at e; cases e
    rw [upd_ne hb]; exact e
  have new : ObjOk X.prog X.w (upd H1 a (.frz o (.dT kvs))) s1.heap a (.frz o (.dT kvs)) := ⟨h1, z, y, xs, KT.keeps r hne, o, es, ep, h1, h2, h3, h4, h5⟩
  have I2 : Inv X pins σ (upd H1 a (.frz o (.dT kvs))) s1 := I1.freeze trivial hq h1 new
  have I3 : Inv X pins σ (upd H1 a (.frz o (.dT kvs))) { s1 with heap := s1.heap.push { cls := .type "dict_items", data := .fields #[.ref a] } } := I2.kept (t' := s1.toks) fun b o e => Heap.get?_push_of_some _ e
  refine iter_rawI ⟨_, Heap.get?_push_size _ rfl, rfl, rfl⟩ (Heap.get?_push_of_some _ h1) h3 ?_
  refine ⟨_, [_], _, _, upd H1 a (.frz o (.dT kvs)), rfl, I3.kept (t' := s1.toks) fun b o e => Heap.get?_push_of_some _ e, turn_itemsT a _ kvs h3 hz, ⟨.none, .none, Heap.get?_push_size _ rfl⟩, fun b hb => ?_, q o⟩
  obtain rfl := List.mem_singleton.mp hb
  exact I3.fpOk (Nat.le_refl _) (I3.hok.fresh (Nat.le_refl _))
end
end L2

set_option Elab.async false
set_option linter.all false
set_option maxRecDepth 100000
set_option maxHeartbeats 4000000
/-! ### the sort sorts: comparisons by ranks that differ -/
namespace L2
open PySem PySem.W PyProof.Rows
section
variable (r : Nat → Int)
def rk (p : Array Nat) (i : Nat) : Int := r (p.getD i 0)
def Asc (p : Array Nat) (m : Nat) : Prop := ∀ i j, i ≤ j → j < m → rk r p i ≤ rk r p j
def cR (i j : Nat) : Bool := decide (r i < r j)
variable {r} {p : Array Nat}
theorem rk_congr {p q : Array Nat} {i j : Nat} (h : p[i]? = q[j]?) : rk r p i = rk r q j := by
  unfold rk
  rw [Array.getD_eq_getD_getElem?, Array.getD_eq_getD_getElem?, h]
theorem rk_bubble {src d : Nat} (hs : src < p.size) (hd : d ≤ src) (k : Nat) : rk r (bubble p src d) k = if k = src - d then rk r p src else if src - d < k ∧ k ≤ src then rk r p (k - 1) else rk r p k := by
  have e := getElem?_bubble hs d hd k
  split
  · rename_i h; rw [if_pos h] at e; exact rk_congr e
  · rename_i h
    rw [if_neg h] at e
    split
    · rename_i h2; rw [if_pos h2] at e; exact rk_congr e
    · rename_i h2; rw [if_neg h2] at e; exact rk_congr e
theorem val_bind {α β : Type} (c : Nat → Nat → Bool) (f : α → KasT β) : ∀ t : KasT α, kasVal c (t.bind f) = kasVal c (f (kasVal c t))
  | .ret _ => rfl
  | .ask i j k => val_bind c f (k (c i j))
theorem place_ok {k : Nat} (hk : Asc r p k) : ∀ (f a b : Nat), a ≤ b → b ≤ k → b - a ≤ f → (∀ i, i < a → rk r p i ≤ rk r p k) → (∀ i, b ≤ i → i < k → rk r p k < rk r p i) →
    kasVal (cR r) (kas_place p k f a b) ≤ k ∧ (∀ i, i < kasVal (cR r) (kas_place p k f a b) → rk r p i ≤ rk r p k) ∧ ∀ i, kasVal (cR r) (kas_place p k f a b) ≤ i → i < k → rk r p k < rk r p i
  | 0, a, b, h1, h2, h3, h4, h5 => by
    have e : kasVal (cR r) (kas_place p k 0 a b) = a := rfl
    rw [e]
    exact ⟨by omega, h4, fun i hi => h5 i (by omega)⟩
  | f + 1, a, b, h1, h2, h3, h4, h5 => by
    unfold kas_place
    by_cases hab : a ≥ b
    · rw [if_pos hab]
      show a ≤ k ∧ (∀ i, i < a → _) ∧ ∀ i, a ≤ i → i < k → _
      exact ⟨by omega, h4, fun i hi => h5 i (by omega)⟩
    · rw [if_neg hab]
      have ea : kasVal (cR r) (KasT.ask (p.getD k 0) (p.getD ((a + b) / 2) 0) fun c => if c = true then kas_place p k f a ((a + b) / 2) else kas_place p k f ((a + b) / 2 + 1) b) =
        kasVal (cR r) (if cR r (p.getD k 0) (p.getD ((a + b) / 2) 0) = true then kas_place p k f a ((a + b) / 2) else kas_place p k f ((a + b) / 2 + 1) b) := rfl
      rw [ea]
      by_cases hc : cR r (p.getD k 0) (p.getD ((a + b) / 2) 0) = true
      · rw [if_pos hc]
        have hc' : rk r p k < rk r p ((a + b) / 2) := of_decide_eq_true hc
        refine place_ok hk f a ((a + b) / 2) (by omega) (by omega) (by omega) h4 fun i hi hik => ?_
        have := hk ((a + b) / 2) i hi hik
        omega
      · rw [if_neg hc]
        have hc' : ¬ rk r p k < rk r p ((a + b) / 2) := fun z => hc (decide_eq_true z)
        refine place_ok hk f ((a + b) / 2 + 1) b (by omega) h2 (by omega) (fun i hi => ?_) h5
        have := hk i ((a + b) / 2) (by omega) (by omega)
        omega
theorem bubble_asc {k l : Nat} (hs : k < p.size) (hk : Asc r p k) (hl : l ≤ k) (h1 : ∀ i, i < l → rk r p i ≤ rk r p k) (h2 : ∀ i, l ≤ i → i < k → rk r p k < rk r p i) : Asc r (bubble p k (k - l)) (k + 1) := by
  intro i j hij hj
  rw [rk_bubble hs (by omega), rk_bubble hs (by omega), show k - (k - l) = l by omega]
  by_cases e1 : i = l
  · rw [if_pos e1]
    by_cases e2 : j = l
    · rw [if_pos e2]; exact Int.le_refl _
    · rw [if_neg e2]
      rw [if_pos (by omega)]
      have := h2 (j - 1) (by omega) (by omega)
      omega
  · rw [if_neg e1]
    by_cases e2 : j = l
    · rw [if_pos e2, if_neg (by omega)]
      exact h1 i (by omega)
    · rw [if_neg e2]
      by_cases e3 : l < i
      · rw [if_pos (by omega), if_pos (by omega)]
        exact hk (i - 1) (j - 1) (by omega) (by omega)
      · rw [if_neg (by omega)]
        by_cases e4 : l < j
        · rw [if_pos (by omega)]
          exact hk i (j - 1) (by omega) (by omega)
        · rw [if_neg (by omega)]
          exact hk i j hij (by omega)
theorem bin_ok {n : Nat} : ∀ (f : Nat) {p : Array Nat} (k : Nat), p.size = n → k + f = n → Asc r p k → Asc r (kasVal (cR r) (kas_bin f p k)) n
  | 0, p, k, hs, hk, h => by
    have e : k = n := by omega
    rw [← e]; exact h
  | f + 1, p, k, hs, hk, h => by
    unfold kas_bin
    rw [val_bind]
    obtain ⟨h1, h2, h3⟩ := place_ok h k 0 k (Nat.zero_le _) (Nat.le_refl _) (by omega) (fun i hi => by omega) (fun i h1 h2 => by omega)
    exact bin_ok f (k + 1) ((bubble_size _ _ _).trans hs) (by omega) (bubble_asc (by omega) h h1 h2 h3)
theorem asc_ok : ∀ (f k : Nat), 1 ≤ k → Asc r p k → k ≤ kasVal (cR r) (kas_asc p f k) ∧ kasVal (cR r) (kas_asc p f k) ≤ k + f ∧ Asc r p (kasVal (cR r) (kas_asc p f k)) ∧ (kasVal (cR r) (kas_asc p f k) < k + f → rk r p (kasVal (cR r) (kas_asc p f k)) < rk r p (kasVal (cR r) (kas_asc p f k) - 1))
  | 0, k, h0, h => by
    show k ≤ k ∧ k ≤ k + 0 ∧ Asc r p k ∧ (k < k + 0 → _)
    exact ⟨Nat.le_refl _, Nat.le_refl _, h, fun z => by omega⟩
  | f + 1, k, h0, h => by
    unfold kas_asc
    have ea : kasVal (cR r) (KasT.ask (p.getD k 0) (p.getD (k - 1) 0) fun c => if c = true then .ret k else kas_asc p f (k + 1)) = kasVal (cR r) (if cR r (p.getD k 0) (p.getD (k - 1) 0) = true then .ret k else kas_asc p f (k + 1)) := rfl
    rw [ea]
    by_cases hc : cR r (p.getD k 0) (p.getD (k - 1) 0) = true
    · rw [if_pos hc]
      show k ≤ k ∧ k ≤ k + (f + 1) ∧ Asc r p k ∧ (k < k + (f + 1) → rk r p k < rk r p (k - 1))
      exact ⟨Nat.le_refl _, by omega, h, fun _ => of_decide_eq_true hc⟩
    · rw [if_neg hc]
      have hc' : ¬ rk r p k < rk r p (k - 1) := fun z => hc (decide_eq_true z)
      have h' : Asc r p (k + 1) := fun i j hij hj => by
        by_cases e : j = k
        · subst e
          by_cases e2 : i = j
          · subst e2; exact Int.le_refl _
          · have := h i (j - 1) (by omega) (by omega)
            omega
        · exact h i j hij (by omega)
      obtain ⟨a1, a2, a3, a4⟩ := asc_ok f (k + 1) (by omega) h'
      exact ⟨by omega, by omega, a3, fun z => a4 (by omega)⟩
end
end L2

set_option Elab.async false
set_option linter.all false
set_option maxRecDepth 100000
set_option maxHeartbeats 4000000
namespace L2
open PySem PySem.W PyProof.Rows
section
variable {r : Nat → Int} {p : Array Nat}
def Dif (r : Nat → Int) (p : Array Nat) : Prop := ∀ i j, i < p.size → j < p.size → rk r p i = rk r p j → i = j
def Dsc (r : Nat → Int) (p : Array Nat) (m : Nat) : Prop := ∀ i j, i < j → j < m → rk r p j < rk r p i
theorem rk_rev {m : Nat} (hm : m ≤ p.size) (k : Nat) : rk r (kas_rev p 0 m) k = if k < m then rk r p (m - 1 - k) else rk r p k := by
  have e := getElem?_mirror_all (i := 0) hm k
  split
  · rename_i h
    rw [if_pos ⟨Nat.zero_le _, h⟩, Nat.zero_add] at e
    exact rk_congr e
  · rename_i h
    rw [if_neg (by omega)] at e
    exact rk_congr e
theorem desc_ok (hd : Dif r p) : ∀ (f k : Nat), 1 ≤ k → k + f ≤ p.size → Dsc r p k → ∃ m, kasVal (cR r) (kas_desc f p k 0) = (p, m, 0) ∧ k ≤ m ∧ m ≤ k + f ∧ Dsc r p m
  | 0, k, h0, h1, h => ⟨k, rfl, Nat.le_refl _, Nat.le_refl _, h⟩
  | f + 1, k, h0, h1, h => by
    unfold kas_desc
    by_cases hc : cR r (p.getD k 0) (p.getD (k - 1) 0) = true
    · have hc' : rk r p k < rk r p (k - 1) := of_decide_eq_true hc
      have h' : Dsc r p (k + 1) := fun i j hij hj => by
        by_cases e : j = k
        · subst e
          by_cases e2 : i = j - 1
          · subst e2; exact hc'
          · have := h i (j - 1) (by omega) (by omega)
            omega
        · exact h i j hij (by omega)
      obtain ⟨m, e, a1, a2, a3⟩ := desc_ok hd f (k + 1) (by omega) (by omega) h'
      refine ⟨m, ?_, by omega, by omega, a3⟩
      rw [← e]
      show kasVal (cR r) (if cR r (p.getD k 0) (p.getD (k - 1) 0) = true then _ else _) = _
      rw [if_pos hc]; rfl
    · have hc' : ¬ rk r p k < rk r p (k - 1) := fun z => hc (decide_eq_true z)
      have hn : rk r p (k - 1) < rk r p k := by
        have h2 : rk r p (k - 1) ≠ rk r p k := fun z => by
          have := hd (k - 1) k (by omega) (by omega) z
          omega
        omega
      refine ⟨k, ?_, Nat.le_refl _, by omega, h⟩
      show kasVal (cR r) (if cR r (p.getD k 0) (p.getD (k - 1) 0) = true then _ else _) = _
      rw [if_neg hc]
      show kasVal (cR r) (if cR r (p.getD (k - 1) 0) (p.getD k 0) = true then _ else _) = _
      rw [if_pos (show cR r (p.getD (k - 1) 0) (p.getD k 0) = true from decide_eq_true hn)]; rfl
theorem tail3_ok {m n : Nat} (h1 : 1 ≤ m) (hm : m ≤ n) (hs : p.size = n) (h : Dsc r p m) : ∃ a q, kasVal (cR r) (kas_tail3 m n p) = (a, q) ∧ a ≤ n ∧ q.size = n ∧ Asc r q a := by
  have hasc : Asc r (kas_rev p 0 m) m := fun i j hij hj => by
    rw [rk_rev (by omega), rk_rev (by omega), if_pos (by omega), if_pos hj]
    by_cases e : i = j
    · subst e; exact Int.le_refl _
    · exact Int.le_of_lt (h (m - 1 - j) (m - 1 - i) (by omega) (by omega))
  obtain ⟨a1, a2, a3, _⟩ := asc_ok (n - m) m h1 hasc
  refine ⟨_, kas_rev p 0 m, by unfold kas_tail3; rw [val_bind]; rfl, by omega, (mirror_size _ _ _ _).trans hs, a3⟩
theorem count_ok {n : Nat} (hn : 1 ≤ n) (hs : p.size = n) (hd : Dif r p) : ∃ a q, kasVal (cR r) (kas_count n p) = (a, q) ∧ a ≤ n ∧ q.size = n ∧ Asc r q a := by
  have h0 : Asc r p 1 := fun i j hij hj => by
    have : i = j := by omega
    subst this; exact Int.le_refl _
  obtain ⟨a1, a2, a3, a4⟩ := asc_ok (n - 1) 1 (Nat.le_refl _) h0
  unfold kas_count
  rw [val_bind]
  generalize kasVal (cR r) (kas_asc p (n - 1) 1) = k at a1 a2 a3 a4 ⊢
  by_cases e1 : k = n
  · rw [if_pos (by rw [e1]; exact beq_self_eq_true _)]
    exact ⟨k, p, rfl, by omega, hs, a3⟩
  · rw [if_neg (by rw [beq_iff_eq]; exact e1)]
    by_cases e2 : k > 1
    · rw [if_pos e2]
      have hlt : rk r p 0 < rk r p (k - 1) := by
        have h2 := a3 0 (k - 1) (Nat.zero_le _) (by omega)
        have h3 : rk r p 0 ≠ rk r p (k - 1) := fun z => by
          have := hd 0 (k - 1) (by omega) (by omega) z
          omega
        omega
      refine ⟨k, p, ?_, by omega, hs, a3⟩
      show kasVal (cR r) (if cR r (p.getD 0 0) (p.getD (k - 1) 0) = true then _ else _) = _
      rw [if_pos (show cR r (p.getD 0 0) (p.getD (k - 1) 0) = true from decide_eq_true hlt)]; rfl
    · rw [if_neg e2]
      have ek : k = 1 := by omega
      subst ek
      have h10 : rk r p 1 < rk r p 0 := a4 (by omega)
      unfold kas_descPart
      rw [val_bind]
      obtain ⟨m, e, b1, b2, b3⟩ := desc_ok hd (n - (1 + 1)) (1 + 1) (by omega) (by omega) (fun i j hij hj => by
        have : i = 0 ∧ j = 1 := by omega
        rw [this.1, this.2]; exact h10)
      rw [e]
      have hmn : m ≤ n := by
        have : 2 ≤ n := by omega
        omega
      exact tail3_ok (p := p) (m := m) (n := n) (by omega) hmn hs b3
theorem sort_asc {n : Nat} (hn : 1 ≤ n) (hr : ∀ i j, i < n → j < n → r i = r j → i = j) : Asc r (kasVal (cR r) (kas_sort n)) n := by
  unfold kas_sort
  rw [val_bind]
  have hs : (List.range n).toArray.size = n := by simp
  have eg : ∀ i, i < n → (List.range n).toArray.getD i 0 = i := fun i hi => by simp [Array.getD, hi]
  obtain ⟨a, q, e, h1, h2, h3⟩ := count_ok (r := r) hn hs (fun i j hi hj z => by
    unfold rk at z
    rw [hs] at hi hj
    rw [eg i hi, eg j hj] at z
    exact hr i j hi hj z)
  rw [e]
  by_cases hlt : a < n
  · show Asc r (kasVal (cR r) (if a < n then _ else _)) n
    rw [if_pos hlt]
    refine bin_ok _ _ h2 (by omega) fun i j hij hj => ?_
    by_cases ha : a = 0
    · have : i = j := by omega
      subst this; exact Int.le_refl _
    · exact h3 i j hij (by omega)
  · show Asc r (kasVal (cR r) (if a < n then _ else _)) n
    rw [if_neg hlt]
    have : a = n := by omega
    rw [← this]; exact h3
end
end L2

set_option Elab.async false
set_option linter.all false
set_option maxRecDepth 100000
set_option maxHeartbeats 4000000
/-! ### sorted: by any order that tells the items apart -/
namespace L2
open PySem PySem.W PyProof.Rows
theorem val_congr {α : Type} {n : Nat} {R : α → Prop} {c c' : Nat → Nat → Bool} (h : ∀ i j, i < n → j < n → c i j = c' i j) : ∀ {t : KasT α}, KasIn n R t → kasVal c t = kasVal c' t
  | .ret _, _ => rfl
  | .ask i j k, q => by
    show kasVal c (k (c i j)) = kasVal c' (k (c' i j))
    rw [h i j q.1 q.2.1]
    exact val_congr h (q.2.2 _)
theorem countP_lt {α : Type} {p q : α → Bool} : ∀ {l : List α}, (∀ y ∈ l, p y = true → q y = true) → (∃ x ∈ l, q x = true ∧ p x = false) → l.countP p < l.countP q
  | [], _, ⟨x, hx, _⟩ => nomatch hx
  | a :: l, h, ⟨x, hx, h1, h2⟩ => by
    have hl : l.countP p ≤ l.countP q := List.countP_mono_left fun y hy => h y (List.mem_cons_of_mem _ hy)
    rcases List.mem_cons.mp hx with e | hx
    · subst e
      rw [List.countP_cons_of_pos h1, List.countP_cons_of_neg (by rw [h2]; exact Bool.false_ne_true)]
      omega
    · have ih := countP_lt (fun y hy => h y (List.mem_cons_of_mem _ hy)) ⟨x, hx, h1, h2⟩
      cases hp : p a with
      | true =>
        rw [List.countP_cons_of_pos hp, List.countP_cons_of_pos (h a (.head _) hp)]
        omega
      | false =>
        rw [List.countP_cons_of_neg (by rw [hp]; exact Bool.false_ne_true)]
        cases hq : q a with
        | true => rw [List.countP_cons_of_pos hq]; omega
        | false => rw [List.countP_cons_of_neg (by rw [hq]; exact Bool.false_ne_true)]; exact ih
/-- an order that tells the items of l apart -/
structure Ord {α : Type} (lt : α → α → Bool) (l : List α) : Prop where
  irr : ∀ x ∈ l, lt x x = false
  tr : ∀ x ∈ l, ∀ y ∈ l, ∀ z ∈ l, lt x y = true → lt y z = true → lt x z = true
  tot : ∀ x ∈ l, ∀ y ∈ l, x ≠ y → lt x y = true ∨ lt y x = true
section
variable {α : Type} {lt : α → α → Bool} {l : List α} {d : α}
theorem getD_mem' {i : Nat} (h : i < l.length) : l.getD i d ∈ l := by
  rw [List.getD_eq_getElem?_getD, List.getElem?_eq_getElem h]
  exact List.getElem_mem h
theorem getD_inj (nd : l.Nodup) {i j : Nat} (hi : i < l.length) (hj : j < l.length) (e : l.getD i d = l.getD j d) : i = j := by
  rw [List.getD_eq_getElem?_getD, List.getElem?_eq_getElem hi, List.getD_eq_getElem?_getD, List.getElem?_eq_getElem hj] at e
  have hp := List.pairwise_iff_getElem.mp nd
  rcases Nat.lt_trichotomy i j with h | h | h
  · exact absurd e (hp i j hi hj h)
  · exact h
  · exact absurd e.symm (hp j i hj hi h)
theorem order_asc (o : Ord lt l) (nd : l.Nodup) (h2 : 2 ≤ l.length) : ∀ i j, i < j → j < l.length → lt (l.getD ((kasVal (fun i j => lt (l.getD i d) (l.getD j d)) (kas_sort l.length)).getD i 0) d) (l.getD ((kasVal (fun i j => lt (l.getD i d) (l.getD j d)) (kas_sort l.length)).getD j 0) d) = true := by
  let r : Nat → Int := fun i => ((l.countP fun y => lt y (l.getD i d) : Nat) : Int)
  have hlt : ∀ i j, i < l.length → j < l.length → lt (l.getD i d) (l.getD j d) = true → r i < r j := fun i j hi hj h => by
    have := countP_lt (l := l) (p := fun y => lt y (l.getD i d)) (q := fun y => lt y (l.getD j d)) (fun y hy h' => o.tr y hy _ (getD_mem' hi) _ (getD_mem' hj) h' h) ⟨l.getD i d, getD_mem' hi, h, o.irr _ (getD_mem' hi)⟩
    exact Int.ofNat_lt.mpr this
  have hrc : ∀ i j, i < l.length → j < l.length → (fun i j => lt (l.getD i d) (l.getD j d)) i j = cR r i j := fun i j hi hj => by
    show lt (l.getD i d) (l.getD j d) = decide (r i < r j)
    cases e : lt (l.getD i d) (l.getD j d) with
    | true => rw [decide_eq_true (hlt i j hi hj e)]
    | false =>
      rw [decide_eq_false]
      intro z
      by_cases e2 : l.getD i d = l.getD j d
      · rw [getD_inj nd hi hj e2] at z
        exact absurd z (Int.lt_irrefl _)
      · rcases o.tot _ (getD_mem' hi) _ (getD_mem' hj) e2 with h | h
        · rw [h] at e; cases e
        · have := hlt j i hj hi h
          omega
  have hinj : ∀ i j, i < l.length → j < l.length → r i = r j → i = j := fun i j hi hj e => by
    by_cases e2 : l.getD i d = l.getD j d
    · exact getD_inj nd hi hj e2
    · rcases o.tot _ (getD_mem' hi) _ (getD_mem' hj) e2 with h | h
      · have := hlt i j hi hj h; omega
      · have := hlt j i hj hi h; omega
  rw [val_congr hrc (in_sort (by omega))]
  have hs := sort_asc (n := l.length) (by omega) hinj
  have hp := places_sort (n := l.length) (cR r) (by omega)
  generalize kasVal (cR r) (kas_sort l.length) = q at hs hp
  intro i j hij hj
  have hqs : q.size = l.length := by have := hp.size_eq; simpa using this
  have li := hp.lt (by omega) i
  have lj := hp.lt (by omega) j
  have hne : q.getD i 0 ≠ q.getD j 0 := fun z => by
    have hnd : q.toList.Nodup := by
      have h1 := Array.perm_iff_toList_perm.mp hp
      exact h1.nodup_iff.mpr (by simpa using List.nodup_range)
    have ei : q.getD i 0 = q.toList.getD i 0 := by simp [Array.getD, List.getD_eq_getElem?_getD, show i < q.size by omega]
    have ej : q.getD j 0 = q.toList.getD j 0 := by simp [Array.getD, List.getD_eq_getElem?_getD, show j < q.size by omega]
    rw [ei, ej] at z
    have := getD_inj hnd (by rw [Array.length_toList]; omega) (by rw [Array.length_toList]; omega) z
    omega
  have hle := hs i j (by omega) (by omega)
  have e3 : l.getD (q.getD i 0) d ≠ l.getD (q.getD j 0) d := fun z => hne (getD_inj nd li lj z)
  rcases o.tot _ (getD_mem' li) _ (getD_mem' lj) e3 with h | h
  · exact h
  · have := hlt _ _ lj li h
    unfold rk at hle
    omega
theorem orderBy_perm (c : Nat → Nat → Bool) : (orderBy d c l).Perm l := by
  unfold orderBy
  split
  · exact List.Perm.refl _
  · have h := Array.perm_iff_toList_perm.mp (places_sort (n := l.length) c (by omega))
    refine (h.map fun i => l.getD i d).trans ?_
    have e : ((List.range l.length).toArray.toList.map fun i => l.getD i d) = l := by
      apply List.ext_getElem?
      intro i
      by_cases hi : i < l.length
      · simp [hi, List.getD_eq_getElem?_getD]
      · simp [hi]
    rw [e]
theorem orderBy_pw (o : Ord lt l) (nd : l.Nodup) : (orderBy d (fun i j => lt (l.getD i d) (l.getD j d)) l).Pairwise fun x y => lt x y = true := by
  unfold orderBy
  split
  · rename_i h
    match l, h with
    | [], _ => exact .nil
    | [x], _ => exact List.pairwise_singleton _ _
  · rename_i h
    have ha := order_asc (d := d) o nd (by omega)
    have hp := places_sort (n := l.length) (fun i j => lt (l.getD i d) (l.getD j d)) (by omega)
    generalize kasVal (fun i j => lt (l.getD i d) (l.getD j d)) (kas_sort l.length) = q at ha hp
    have hqs : q.size = l.length := by have := hp.size_eq; simpa using this
    rw [List.pairwise_iff_getElem]
    intro i j hi hj hij
    rw [List.length_map, Array.length_toList] at hi hj
    have := ha i j hij (by omega)
    simpa [Array.getD, hi, hj] using this
/-- one set of items, one order -/
theorem pw_uniq : ∀ {l k : List α}, (∀ x ∈ l, lt x x = false) → (∀ x ∈ l, ∀ y ∈ l, ∀ z ∈ l, lt x y = true → lt y z = true → lt x z = true) → l.Perm k → l.Pairwise (fun x y => lt x y = true) → k.Pairwise (fun x y => lt x y = true) → l = k
  | [], k, _, _, hp, _, _ => (List.nil_perm.mp hp).symm
  | a :: l, [], _, _, hp, _, _ => nomatch (List.perm_nil.mp hp)
  | a :: l, b :: k, hi, ht, hp, h1, h2 => by
    have ha : a ∈ b :: k := hp.mem_iff.mp (.head _)
    have hb : b ∈ a :: l := hp.mem_iff.mpr (.head _)
    have e : a = b := by
      rcases List.mem_cons.mp ha with e | ha'
      · exact e
      · rcases List.mem_cons.mp hb with e | hb'
        · exact e.symm
        · have q1 := (List.pairwise_cons.mp h2).1 a ha'
          have q2 := (List.pairwise_cons.mp h1).1 b hb'
          have := ht a (.head _) b hb a (.head _) q2 q1
          rw [hi a (.head _)] at this; cases this
    subst e
    rw [pw_uniq (fun x hx => hi x (List.mem_cons_of_mem _ hx)) (fun x hx y hy z hz => ht x (List.mem_cons_of_mem _ hx) y (List.mem_cons_of_mem _ hy) z (List.mem_cons_of_mem _ hz)) (List.perm_cons a |>.mp hp) (List.pairwise_cons.mp h1).2 (List.pairwise_cons.mp h2).2]
end
end L2

set_option Elab.async false
set_option linter.all false
set_option maxRecDepth 100000
set_option maxHeartbeats 4000000
namespace L2
open PySem PySem.W PyProof.Rows
/-! ### texts, sorted -/
def ltS (x y : Str) : Bool := decide (x.cps.toList < y.cps.toList)
theorem str_ext4 {x y : Str} (h : x.cps.toList = y.cps.toList) : x = y := by
  cases x; cases y
  congr 1
  exact Array.toList_inj.mp h
theorem ltS_irr (x : Str) : ltS x x = false := decide_eq_false (List.lt_irrefl _)
theorem ltS_tr {x y z : Str} (h1 : ltS x y = true) (h2 : ltS y z = true) : ltS x z = true := decide_eq_true (List.lt_trans (of_decide_eq_true h1) (of_decide_eq_true h2))
theorem ltS_tot {x y : Str} (h : x ≠ y) : ltS x y = true ∨ ltS y x = true := by
  by_cases h1 : x.cps.toList < y.cps.toList
  · exact .inl (decide_eq_true h1)
  · by_cases h2 : y.cps.toList < x.cps.toList
    · exact .inr (decide_eq_true h2)
    · exact absurd (str_ext4 (List.le_antisymm (List.not_lt.mp h2) (List.not_lt.mp h1))) h
theorem ord_ltS (l : List Str) : Ord ltS l := ⟨fun x _ => ltS_irr x, fun _ _ _ _ _ _ h1 h2 => ltS_tr h1 h2, fun _ _ _ _ h => ltS_tot h⟩
def sortS (ss : List Str) : List Str := orderBy Str.empty (fun i j => ltS (ss.getD i Str.empty) (ss.getD j Str.empty)) ss
theorem sortS_perm (ss : List Str) : (sortS ss).Perm ss := orderBy_perm _
theorem sortS_pw {ss : List Str} (nd : ss.Nodup) : (sortS ss).Pairwise fun x y => ltS x y = true := orderBy_pw (ord_ltS ss) nd
theorem orderBy_map {α β : Type} (f : α → β) (d : α) (e : β) (c : Nat → Nat → Bool) (l : List α) : orderBy e c (l.map f) = (orderBy d c l).map f := by
  unfold orderBy
  rw [List.length_map]
  split
  · rfl
  · rename_i h
    rw [List.map_map]
    apply List.map_congr_left
    intro i hi
    have h' := (places_sort (n := l.length) c (by omega)).mem_iff.mp (Array.mem_toList_iff.mp hi)
    have hl : i < l.length := by simpa using h'
    show (l.map f).getD i e = f (l.getD i d)
    rw [List.getD_eq_getElem?_getD, List.getD_eq_getElem?_getD, List.getElem?_map, List.getElem?_eq_getElem hl]; rfl
section
variable {X : Cx}
def rSortS (K : PySem.W.Frag) : List V → Hp → VK → Prop := fun xs H Q => ∃ p ss, xs = [.ref p] ∧ SqL K H p (ss.map V.str) ∧ ss.length < 64 ∧ ∀ l, H l = none → Q (.ref l) (upd H l (.lst ((sortS ss).map V.str)))
theorem call_sortedS : CallR X (.builtin "sorted") (rSortS X.K) := by
  intro pins s σ H xs us Q I r h
  obtain ⟨p, ss, rfl, hq, h64, q⟩ := h
  obtain ⟨u, rfl, rx⟩ := vals1 r
  cases rx
  obtain ⟨its, rv, pl, hz⟩ := I.list hq
  have hl := rv.length
  rw [List.length_map] at hl
  have hat : ∀ i, i < its.length → ∃ t, its[i]? = some (.str (ss.getD i Str.empty) t) := fun i hi => by
    have hi' : i < ss.length := by omega
    obtain ⟨u, e, t, rfl⟩ := rv.get (i := i) (x := V.str (ss.getD i Str.empty)) (by rw [List.getElem?_map, List.getD_eq_getElem?_getD, List.getElem?_eq_getElem hi']; rfl)
    exact ⟨t, e⟩
  refine sorted_by (fun i j => ltS (ss.getD i Str.empty) (ss.getD j Str.empty)) oneType' pl.isList (by omega) (fun h2 h' kp R hR => ?_) (fun h2 h' kp i j hi hj C hC => ?_) fun D h' e hD kp o' => ?_
  · refine kas_kind (s := { s with heap := h' }) (T := .type "str") h2 (fun v hv => ?_) (by decide) rfl hR
    obtain ⟨i, hi, e⟩ := List.getElem_of_mem hv
    obtain ⟨t, e2⟩ := hat i hi
    rw [List.getElem?_eq_getElem hi, e] at e2
    cases e2
    exact Looks.of_pure rfl
  · obtain ⟨t1, e1⟩ := hat i hi
    obtain ⟨t2, e2⟩ := hat j hj
    unfold kas_ask
    rw [List.getD_eq_getElem?_getD, List.getD_eq_getElem?_getD, e1, e2, keyLt'_oneType]
    exact oneLt_str hC
  · have ev := orderBy_vals (fun i j => ltS (ss.getD i Str.empty) (ss.getD j Str.empty)) rv
    rw [orderBy_map V.str Str.empty V.non] at ev
    exact ⟨.ref D, _, I.laid (t' := s.toks) kp hD (show ObjOk X.prog X.w _ h' _ (.lst ((sortS ss).map V.str)) from ⟨by rw [List.length_map]; unfold sortS; rw [orderBy_length]; rw [sizeLine_eq]; omega, _, e, ev, o'⟩), rfl, q _ (I.hok.fresh hD)⟩
end
/-! ### rows, sorted by what they hold -/
def SameSh (rs : List (List Key)) : Prop := ∃ sh, ∀ r ∈ rs, r.map kindK = sh
theorem ltKey_irr (a : Key) : ltKey a a = false := by
  cases a with
  | inl i => exact decide_eq_false (Int.lt_irrefl _)
  | inr x => exact ltS_irr x
theorem ltKey_tr {a b c : Key} (h1 : ltKey a b = true) (h2 : ltKey b c = true) : ltKey a c = true := by
  cases a <;> cases b <;> cases c <;> first | (cases h1; done) | (cases h2; done) | skip
  · exact decide_eq_true (Int.lt_trans (of_decide_eq_true h1) (of_decide_eq_true h2))
  · exact ltS_tr h1 h2
theorem ltKey_tot {a b : Key} (k : kindK a = kindK b) (h : a ≠ b) : ltKey a b = true ∨ ltKey b a = true := by
  cases a <;> cases b <;> first | (cases k; done) | skip
  · rename_i i j
    have hij : i ≠ j := fun z => h (by rw [z])
    rcases Int.lt_or_gt_of_ne hij with z | z
    · exact .inl (decide_eq_true z)
    · exact .inr (decide_eq_true z)
  · rename_i x y
    exact ltS_tot fun z => h (by rw [z])
theorem lexK_irr : ∀ a : List Key, lexK a a = false
  | [] => rfl
  | a :: as => by
    show (if a = a then lexK as as else ltKey a a) = false
    rw [if_pos rfl]; exact lexK_irr as
theorem lexK_tot : ∀ {a b : List Key}, a.map kindK = b.map kindK → a ≠ b → lexK a b = true ∨ lexK b a = true
  | [], [], _, h => absurd rfl h
  | [], _ :: _, k, _ => by cases k
  | _ :: _, [], k, _ => by cases k
  | a :: as, b :: bs, k, h => by
    show (if a = b then lexK as bs else ltKey a b) = true ∨ (if b = a then lexK bs as else ltKey b a) = true
    by_cases e : a = b
    · subst e
      rw [if_pos rfl, if_pos rfl]
      exact lexK_tot (List.cons.inj k).2 fun z => h (by rw [z])
    · rw [if_neg e, if_neg (fun z => e z.symm)]
      exact ltKey_tot (List.cons.inj k).1 e
theorem lexK_tr : ∀ {a b c : List Key}, lexK a b = true → lexK b c = true → lexK a c = true
  | [], _, _, h, _ => by cases h
  | _ :: _, [], _, h, _ => by cases h
  | _ :: _, _ :: _, [], _, h => by cases h
  | a :: as, b :: bs, c :: cs, h1, h2 => by
    have h1' : (if a = b then lexK as bs else ltKey a b) = true := h1
    have h2' : (if b = c then lexK bs cs else ltKey b c) = true := h2
    show (if a = c then lexK as cs else ltKey a c) = true
    by_cases e1 : a = b
    · subst e1
      rw [if_pos rfl] at h1'
      by_cases e2 : a = c
      · subst e2
        rw [if_pos rfl] at h2' ⊢
        exact lexK_tr h1' h2'
      · rw [if_neg e2] at h2' ⊢
        exact h2'
    · rw [if_neg e1] at h1'
      by_cases e2 : b = c
      · subst e2
        rw [if_neg e1]
        exact h1'
      · rw [if_neg e2] at h2'
        have h3 := ltKey_tr h1' h2'
        by_cases e3 : a = c
        · subst e3
          rw [ltKey_irr] at h3; cases h3
        · rw [if_neg e3]; exact h3
theorem ord_lexK {rs : List (List Key)} (h : SameSh rs) : Ord lexK rs := ⟨fun x _ => lexK_irr x, fun _ _ _ _ _ _ h1 h2 => lexK_tr h1 h2, fun x hx y hy e => by
  obtain ⟨sh, h⟩ := h
  exact lexK_tot ((h x hx).trans (h y hy).symm) e⟩
def sortK (rs : List (List Key)) : List (List Key) := orderBy [] (rowLt rs) rs
theorem sortK_perm (rs : List (List Key)) : (sortK rs).Perm rs := orderBy_perm _
theorem sortK_pw {rs : List (List Key)} (h : SameSh rs) (nd : rs.Nodup) : (sortK rs).Pairwise fun x y => lexK x y = true := orderBy_pw (d := []) (ord_lexK h) nd
theorem sort_krows {H : Hp} {vs : List V} {rs : List (List Key)} (k : KRows H vs rs) : KRows H (sortR rs vs) (sortK rs) := by
  have hl : vs.length = rs.length := Paired.length k
  unfold sortR sortK orderBy
  rw [hl]
  split
  · exact k
  · have hp := places_sort (n := rs.length) (rowLt rs) (by omega)
    have hm : ∀ i ∈ (kasVal (rowLt rs) (kas_sort rs.length)).toList, i < rs.length := fun i hi => by
      have h := hp.mem_iff.mp (Array.mem_toList_iff.mp hi)
      simpa using h
    revert hm
    generalize (kasVal (rowLt rs) (kas_sort rs.length)).toList = l
    intro hm
    induction l with
    | nil => exact .nil
    | cons i l ih =>
      refine .cons ?_ (ih fun j hj => hm j (List.mem_cons_of_mem _ hj))
      have hi := hm i (.head _)
      obtain ⟨p, r, e1, e2, e3⟩ := k.get (i := i) (v := vs.getD i .non) (by rw [List.getD_eq_getElem?_getD, List.getElem?_eq_getElem (by omega)]; rfl)
      refine ⟨p, e1, ?_⟩
      show H p = some (.tup ((rs.getD i []).map kV))
      rw [List.getD_eq_getElem?_getD, e2]; exact e3
end L2

set_option Elab.async false
set_option linter.all false
set_option maxRecDepth 100000
set_option maxHeartbeats 4000000
namespace L2
open PySem PySem.W PyProof.Rows
/-! ### lists of rows that hold the same are the same -/
theorem keyAtT {A : Around} {s : Shared} {a : Key} {u v : Value} (ru : RelV (kV a) u) (rv : RelV (kV a) v) : SeqAt.EqAt A s u v true := by
  cases a <;> obtain ⟨t, rfl⟩ := ru <;> obtain ⟨t', rfl⟩ := rv
  · have := SeqAt.EqAt.int_int (A := A) (s := s) (by assumption) t (by assumption) t'
    simpa using this
  · have := SeqAt.EqAt.str_str (A := A) (s := s) (by assumption) t (by assumption) t'
    simpa using this
section
variable {X : Cx} {pins : List (Addr × Obj)} {σ : St} {H : Hp} {s : Shared}
theorem rowsAtT {A : Around} (I : Inv X pins σ H s) (hu : A.units < cLine) {p q : Addr} {r : List Key} (e : H p = some (.tup (r.map kV))) (e2 : H q = some (.tup (r.map kV))) : SeqAt.EqAt A s (.ref p) (.ref q) true := by
  by_cases hpq : p = q
  · subst hpq; exact SeqAt.EqAt.same _
  · obtain ⟨o1, us1, n1, g1, c1, d1, l1⟩ := row_obj I e
    obtain ⟨o2, us2, n2, g2, c2, d2, l2⟩ := row_obj I e2
    have h1 := l1.length
    have h2 := l2.length
    have := SeqAt.EqAt.of_refs hpq (SeqAt.RcAt.tuples (A := A) (e := fun _ => true) ⟨o1, g1, c1, n1, d1⟩ ⟨o2, g2, c2, n2, d2⟩ hu fun j h1' h2' => by
      have h1'' : j < us1.length := by simpa using h1'
      have h2'' : j < us2.length := by simpa using h2'
      have hj : j < (r.map kV).length := by omega
      have hx : (r.map kV)[j]? = some (kV (r[j]'(by simpa using hj))) := by rw [List.getElem?_map, List.getElem?_eq_getElem (by simpa using hj)]; rfl
      obtain ⟨u, e1, ru⟩ := l1.get hx
      obtain ⟨v, e2, rv⟩ := l2.get hx
      have q1 : us1.toArray[j] = u := by simpa using (List.getElem?_eq_some_iff.mp e1).2
      have q2 : us2.toArray[j] = v := by simpa using (List.getElem?_eq_some_iff.mp e2).2
      rw [q1, q2]
      exact keyAtT ru rv)
    simpa [all_true, ← h1, ← h2] using this
end
end L2
namespace L2
open PySem PySem.W PyProof.Rows
section
variable {X : Cx}
def rSameC (K : PySem.W.Frag) (r : Bool) : R2 := fun x y H Q => ∃ a b xs ys rs, x = .ref a ∧ y = .ref b ∧ SqL K H a xs ∧ SqL K H b ys ∧ KRows H xs rs ∧ KRows H ys rs ∧ Q (.bl r) H
theorem eqAtsC {A : Around} {pins : List (Addr × Obj)} {σ : St} {H : Hp} {s : Shared} (I : Inv X pins σ H s) (hu : A.units < cLine) {xs ys : List V} {rs : List (List Key)} {us ws : List Value} (k1 : KRows H xs rs) (k2 : KRows H ys rs) (r : Vals xs us) (q : Vals ys ws) (j : Nat) (h1 : j < us.toArray.size) (h2 : j < ws.toArray.size) : SeqAt.EqAt A s us.toArray[j] ws.toArray[j] true := by
  have hj : j < xs.length := by rw [r.length]; simpa using h1
  have hj2 : j < ys.length := by rw [q.length]; simpa using h2
  obtain ⟨u, e1, ru⟩ := r.get (i := j) (x := xs[j]) (List.getElem?_eq_getElem hj)
  obtain ⟨v, e2, rv⟩ := q.get (i := j) (x := ys[j]) (List.getElem?_eq_getElem hj2)
  obtain ⟨p1, r1, x1, y1, z1⟩ := k1.get (i := j) (List.getElem?_eq_getElem hj)
  obtain ⟨p2, r2, x2, y2, z2⟩ := k2.get (i := j) (List.getElem?_eq_getElem hj2)
  rw [y1] at y2; cases y2
  have q1 : us.toArray[j] = u := by simpa using (List.getElem?_eq_some_iff.mp e1).2
  have q2 : ws.toArray[j] = v := by simpa using (List.getElem?_eq_some_iff.mp e2).2
  rw [q1, q2]
  rw [x1] at ru; rw [x2] at rv
  cases ru; cases rv
  exact rowsAtT I hu z1 z2
theorem op_neC (hu : X.A.units + 1 < cLine) : OpR X (compareOp .NotEq) (rSameC X.K false) := by
  intro pins s σ H x y v u Q I rx ry h
  obtain ⟨a, b, xs, ys, rs, rfl, rfl, ha, hb, k1, k2, q⟩ := h
  cases rx; cases ry
  obtain ⟨its, r, pl, hz⟩ := I.list ha
  obtain ⟨its2, r2, pl2, _⟩ := I.list hb
  have l1 : xs.length = rs.length := Paired.length k1
  have l2 : ys.length = rs.length := Paired.length k2
  exact SeqAt.RcNeAt.lists (e := fun _ => true) pl.isList pl2.isList (by simp [← r.length, ← r2.length, l1, l2]) (Nat.lt_of_succ_lt hu) (eqAtsC I hu k1 k2 r r2) X.prog X.w X.xe _ ⟨.bl false, H, I, by rw [all_true]; rfl, q⟩
end
end L2

set_option Elab.async false
set_option linter.all false
set_option maxRecDepth 100000
set_option maxHeartbeats 4000000
namespace L2
open PySem PySem.W PyProof.Rows
/-! ### comprehensions over anything that yields, with a test -/
theorem Paired.snoc {α β : Type} {F : α → β → Prop} : ∀ {l : List α} {m : List β} {a : α} {b : β}, Paired F l m → F a b → Paired F (l ++ [a]) (m ++ [b])
  | _, _, _, _, .nil, h => .cons h .nil
  | _, _, _, _, .cons r t, h => .cons r (Paired.snoc t h)
theorem Paired.at2 {α β : Type} {F : α → β → Prop} : ∀ {l : List α} {m : List β} {i : Nat} {a : α} {b : β}, Paired F l m → l[i]? = some a → m[i]? = some b → F a b
  | _, _, 0, _, _, .cons r _, h1, h2 => by cases h1; cases h2; exact r
  | _, _, i + 1, _, _, .cons _ t, h1, h2 => Paired.at2 (i := i) t (by simpa using h1) (by simpa using h2)
  | _, _, _, _, _, .nil, h1, _ => by simp at h1
theorem comp_gen {α : Type} {J : It} {g : TG} {ti : TT} {te : TE} {σ0 : St} {fin : List V → Hp → Prop} {H : Hp} (xs : List α) (c : α → Bool) (P : α → V → Hp → Prop) (hm : ∀ x y H1 H2, P x y H1 → Same H1 H2 → P x y H2) (hn : xs.length ≤ sizeLine)
    (hgo : ∀ i H1, Same H H1 → i < xs.length → J.go i H1) (hst : ∀ H1, Same H H1 → J.stop xs.length H1)
    (hb : ∀ i x H1, xs[i]? = some x → Same H H1 → ∀ v H', J.yld i H1 v H' → Same H1 H' ∧ ∃ σ2 : St, σ2.length = σ0.length ∧ (∀ (j : Nat) v, σ0[j]? = some (some v) → σ2[j]? = some (some v)) ∧ (∀ R : St → Hp → Prop, R σ2 H' → g v σ0 H' R) ∧
      (∀ R : Bool → Hp → Prop, (∀ H2, Same H' H2 → R (c x) H2) → ti σ2 H' R) ∧ (c x = true → ∀ H2, Same H' H2 → ∀ R : VK, (∀ y H3, P x y H3 → Same H2 H3 → R y H3) → te σ2 H2 R))
    (hf : ∀ ys H1, Same H H1 → Paired (fun x y => P x y H1) (xs.filter c) ys → fin ys H1) : tCompW J g ti te σ0 fin H := by
  refine ⟨fun i m ys H1 => i + m = xs.length ∧ Same H H1 ∧ Paired (fun x y => P x y H1) ((xs.take i).filter c) ys, ⟨xs.length, by omega, Same.refl _, .nil⟩, ?_⟩
  rintro i m ys H1 ⟨e1, s1, pr⟩
  cases m with
  | zero =>
    have ei : i = xs.length := by omega
    subst ei
    rw [List.take_length] at pr
    exact .inl ⟨hst H1 s1, hf ys H1 s1 pr⟩
  | succ m =>
    have hi : i < xs.length := by omega
    refine .inr ⟨hgo i H1 s1 hi, fun v H' y => ?_⟩
    have ex : xs[i]? = some xs[i] := List.getElem?_eq_getElem hi
    have etake : xs.take (i + 1) = xs.take i ++ [xs[i]] := by rw [List.take_succ, ex]; rfl
    have hlen : ys.length ≤ i := by
      rw [← Paired.length pr]
      exact Nat.le_trans (List.length_filter_le _ _) (by rw [List.length_take]; omega)
    obtain ⟨s2, σ2, l2, c2, hg, ht, he⟩ := hb i xs[i] H1 ex s1 v H' y
    refine hg _ ⟨⟨l2, c2⟩, ht _ fun H2 s3 => ?_⟩
    cases hc : c xs[i] with
    | true =>
      show te σ2 H2 _
      refine he hc H2 s3 _ fun y H3 py s4 => ⟨by omega, m, by omega, by omega, ((s1.trans s2).trans s3).trans s4, ?_⟩
      rw [etake, List.filter_append, List.filter_cons_of_pos hc]
      exact Paired.snoc (Paired.imp' (fun a b h => hm a b _ _ h ((s2.trans s3).trans s4)) pr) py
    | false =>
      show ∃ m', _
      refine ⟨m, by omega, by omega, (s1.trans s2).trans s3, ?_⟩
      rw [etake, List.filter_append, List.filter_cons_of_neg (by rw [hc]; exact Bool.false_ne_true), List.filter_nil, List.append_nil]
      exact Paired.imp' (fun a b h => hm a b _ _ h (s2.trans s3)) pr
section
variable {K : PySem.W.Frag} {ti : TT} {te : TE} {σ : St} {ci : List Nat} {rest : St} {fin : List V → Hp → Prop} {H : Hp} {a : Addr}
theorem cap1 {n : Nat} (hr : ci.map (fun i => (σ[i]?).join) = rest) : capSt n ci σ = List.replicate n none ++ rest := by unfold capSt; rw [hr]
/-- [e for x, y in rows if t] -/
theorem comp_L2 {α : Type} {vs : List V} {xs : List α} (f1 f2 : α → V) (c : α → Bool) (P : α → V → Hp → Prop) (hm : ∀ x y H1 H2, P x y H1 → Same H1 H2 → P x y H2) (hn : xs.length ≤ sizeLine) (hr : ci.map (fun i => (σ[i]?).join) = rest) (hl : SqL K H a vs)
    (hv : Paired (fun v x => ∃ q, v = .ref q ∧ H q = some (.tup [f1 x, f2 x])) vs xs)
    (ht : ∀ x H1, x ∈ xs → Same H H1 → ∀ R : Bool → Hp → Prop, (∀ H2, Same H1 H2 → R (c x) H2) → ti (some (f1 x) :: some (f2 x) :: rest) H1 R)
    (he : ∀ x H1, x ∈ xs → c x = true → Same H H1 → ∀ R : VK, (∀ y H2, P x y H2 → Same H1 H2 → R y H2) → te (some (f1 x) :: some (f2 x) :: rest) H1 R)
    (hf : ∀ ys H1, Same H H1 → Paired (fun x y => P x y H1) (xs.filter c) ys → fin ys H1) : tCompW (Itl K a) (gTup K 2 (gCons (gName 0) (gCons (gName 1) gNil))) ti te (capSt 2 ci σ) fin H := by
  have e0 : capSt 2 ci σ = none :: none :: rest := cap1 hr
  rw [e0]
  have hlen : vs.length = xs.length := Paired.length hv
  refine comp_gen xs c P hm hn (fun i H1 s hi => ⟨vs, vs[i], s.seq hl, List.getElem?_eq_getElem (by omega)⟩) (fun H1 s => ⟨vs, s.seq hl, by omega⟩) (fun i x H1 hx s1 v H' y => ?_) hf
  obtain ⟨rfl, e2⟩ := y
  have ev := e2 vs (s1.seq hl)
  obtain ⟨q, rfl, hq⟩ : ∃ q, v = .ref q ∧ H q = some (.tup [f1 x, f2 x]) := Paired.at2 hv ev hx
  have hmem := List.mem_of_getElem? hx
  refine ⟨Same.refl _, some (f1 x) :: some (f2 x) :: rest, rfl, fun j v hv => ?_, fun R h => ⟨q, [f1 x, f2 x], rfl, .inl (.inl (s1 _ _ hq)), rfl, f1 x, [f2 x], rfl, f2 x, [], rfl, rfl, h⟩, fun R h => ht x _ hmem s1 R h, fun hc H2 s2 R h => he x H2 hmem hc (s1.trans s2) R h⟩
  match j, hv with
  | 0, hv => cases hv
  | 1, hv => cases hv
  | j + 2, hv => exact hv
end
end L2

set_option Elab.async false
set_option linter.all false
set_option maxRecDepth 100000
set_option maxHeartbeats 4000000
namespace L2
open PySem PySem.W PyProof.Rows
section
variable {K : PySem.W.Frag} {ti : TT} {te : TE} {σ : St} {ci : List Nat} {rest : St} {fin : List V → Hp → Prop} {H : Hp} {a : Addr}
theorem same_upd {H : Hp} {q : Addr} {o : HO} (h : H q = none) : Same H (upd H q o) := fun b u e => by
  have : b ≠ q := fun z => by rw [z, h] at e; cases e
  rw [upd_ne this]; exact e
/-- [e for x, y, z in rows if t] -/
theorem comp_L3 {α : Type} {vs : List V} {xs : List α} (f1 f2 f3 : α → V) (c : α → Bool) (P : α → V → Hp → Prop) (hm : ∀ x y H1 H2, P x y H1 → Same H1 H2 → P x y H2) (hn : xs.length ≤ sizeLine) (hr : ci.map (fun i => (σ[i]?).join) = rest) (hl : SqL K H a vs)
    (hv : Paired (fun v x => ∃ q, v = .ref q ∧ H q = some (.tup [f1 x, f2 x, f3 x])) vs xs)
    (ht : ∀ x H1, x ∈ xs → Same H H1 → ∀ R : Bool → Hp → Prop, (∀ H2, Same H1 H2 → R (c x) H2) → ti (some (f1 x) :: some (f2 x) :: some (f3 x) :: rest) H1 R)
    (he : ∀ x H1, x ∈ xs → c x = true → Same H H1 → ∀ R : VK, (∀ y H2, P x y H2 → Same H1 H2 → R y H2) → te (some (f1 x) :: some (f2 x) :: some (f3 x) :: rest) H1 R)
    (hf : ∀ ys H1, Same H H1 → Paired (fun x y => P x y H1) (xs.filter c) ys → fin ys H1) : tCompW (Itl K a) (gTup K 3 (gCons (gName 0) (gCons (gName 1) (gCons (gName 2) gNil)))) ti te (capSt 3 ci σ) fin H := by
  have e0 : capSt 3 ci σ = none :: none :: none :: rest := cap1 hr
  rw [e0]
  have hlen : vs.length = xs.length := Paired.length hv
  refine comp_gen xs c P hm hn (fun i H1 s hi => ⟨vs, vs[i], s.seq hl, List.getElem?_eq_getElem (by omega)⟩) (fun H1 s => ⟨vs, s.seq hl, by omega⟩) (fun i x H1 hx s1 v H' y => ?_) hf
  obtain ⟨rfl, e2⟩ := y
  have ev := e2 vs (s1.seq hl)
  obtain ⟨q, rfl, hq⟩ : ∃ q, v = .ref q ∧ H q = some (.tup [f1 x, f2 x, f3 x]) := Paired.at2 hv ev hx
  have hmem := List.mem_of_getElem? hx
  refine ⟨Same.refl _, some (f1 x) :: some (f2 x) :: some (f3 x) :: rest, rfl, fun j v hv => ?_, fun R h => ⟨q, [f1 x, f2 x, f3 x], rfl, .inl (.inl (s1 _ _ hq)), rfl, f1 x, [f2 x, f3 x], rfl, f2 x, [f3 x], rfl, f3 x, [], rfl, rfl, h⟩, fun R h => ht x _ hmem s1 R h, fun hc H2 s2 R h => he x H2 hmem hc (s1.trans s2) R h⟩
  match j, hv with
  | 0, hv => cases hv
  | 1, hv => cases hv
  | 2, hv => cases hv
  | j + 3, hv => exact hv
/-- [e for k in d if t] -/
theorem comp_K {kvs : List (Key × V)} {o : Obj} (c : Key × V → Bool) (P : Key × V → V → Hp → Prop) (hm : ∀ x y H1 H2, P x y H1 → Same H1 H2 → P x y H2) (hn : kvs.length ≤ sizeLine) (hr : ci.map (fun i => (σ[i]?).join) = rest) (h0 : H a = some (.frz o (.dK kvs)))
    (ht : ∀ x H1, x ∈ kvs → Same H H1 → ∀ R : Bool → Hp → Prop, (∀ H2, Same H1 H2 → R (c x) H2) → ti (some (kV x.1) :: rest) H1 R)
    (he : ∀ x H1, x ∈ kvs → c x = true → Same H H1 → ∀ R : VK, (∀ y H2, P x y H2 → Same H1 H2 → R y H2) → te (some (kV x.1) :: rest) H1 R)
    (hf : ∀ ys H1, Same H H1 → Paired (fun x y => P x y H1) (kvs.filter c) ys → fin ys H1) : tCompW (Itk a o kvs) (gName 0) ti te (capSt 1 ci σ) fin H := by
  rw [capSt1 hr]
  refine comp_gen kvs c P hm hn (fun i H1 s hi => ⟨s _ _ h0, hi⟩) (fun H1 s => ⟨s _ _ h0, Nat.le_refl _⟩) (fun i x H1 hx s1 v H' y => ?_) hf
  obtain ⟨rfl, k, u, e2, rfl⟩ := y
  rw [hx] at e2; cases e2
  have hmem := List.mem_of_getElem? hx
  refine ⟨Same.refl _, some (kV k) :: rest, rfl, fun j v hv => ?_, fun R h => h, fun R h => ht _ _ hmem s1 R h, fun hc H2 s2 R h => he _ H2 hmem hc (s1.trans s2) R h⟩
  cases j with
  | zero => cases hv
  | succ j => exact hv
/-- the same, the keys tuples -/
theorem comp_J {kvs : List (List Key × V)} {o : Obj} (c : List Key × V → Bool) (P : List Key × V → V → Hp → Prop) (hm : ∀ x y H1 H2, P x y H1 → Same H1 H2 → P x y H2) (hn : kvs.length ≤ sizeLine) (hr : ci.map (fun i => (σ[i]?).join) = rest) (h0 : H a = some (.frz o (.dT kvs)))
    (ht : ∀ x H1 p, x ∈ kvs → Same H H1 → H1 p = some (.tup (x.1.map kV)) → ∀ R : Bool → Hp → Prop, (∀ H2, Same H1 H2 → R (c x) H2) → ti (some (.ref p) :: some x.2 :: rest) H1 R)
    (he : ∀ x H1 p, x ∈ kvs → c x = true → Same H H1 → H1 p = some (.tup (x.1.map kV)) → ∀ R : VK, (∀ y H2, P x y H2 → Same H1 H2 → R y H2) → te (some (.ref p) :: some x.2 :: rest) H1 R)
    (hf : ∀ ys H1, Same H H1 → Paired (fun x y => P x y H1) (kvs.filter c) ys → fin ys H1) : tCompW (Itj a o kvs) (gTup K 2 (gCons (gName 0) (gCons (gName 1) gNil))) ti te (capSt 2 ci σ) fin H := by
  have e0 : capSt 2 ci σ = none :: none :: rest := cap1 hr
  rw [e0]
  refine comp_gen kvs c P hm hn (fun i H1 s hi => ⟨s _ _ h0, hi⟩) (fun H1 s => ⟨s _ _ h0, Nat.le_refl _⟩) (fun i x H1 hx s1 v H' y => ?_) hf
  obtain ⟨k, u, p, q, e2, rfl, hp, hq, rfl⟩ := y
  rw [hx] at e2; cases e2
  have hmem := List.mem_of_getElem? hx
  have sq : Same H1 (upd H1 q (.tup [.ref p, u])) := same_upd hq
  refine ⟨sq, some (.ref p) :: some u :: rest, rfl, fun j v hv => ?_, fun R h => ⟨q, [.ref p, u], rfl, .inl (.inl upd_same), rfl, .ref p, [u], rfl, u, [], rfl, rfl, h⟩, fun R h => ht _ _ p hmem (s1.trans sq) (sq _ _ hp) R h, fun hc H2 s2 R h => he _ H2 p hmem hc ((s1.trans sq).trans s2) (s2 _ _ (sq _ _ hp)) R h⟩
  match j, hv with
  | 0, hv => cases hv
  | 1, hv => cases hv
  | j + 2, hv => exact hv
end
/-! ### loops over the keys -/
section
variable {σ : St} {H : Hp} {g : TG} {tb : TS} {nx bk ct : St → Hp → Prop} {rt : VK}
theorem rd_forKs {p : Addr} {o : Obj} (kvs : List (Key × V)) (Pv : Nat → St → Hp → Prop) (h0 : Pv 0 σ H) (hl : ∀ i σ H, Pv i σ H → H p = some (.frz o (.dK kvs)))
    (hs : ∀ i k v σ H, kvs[i]? = some (k, v) → Pv i σ H → g (kV k) σ H fun σ2 H2 => tb ⟨Pv (i + 1), rt, nx, Pv (i + 1)⟩ σ2 H2) (hd : ∀ σ H, Pv kvs.length σ H → nx σ H) : ForP (Itk p o kvs) g tb ⟨nx, rt, bk, ct⟩ σ H := by
  refine ⟨fun i m σ H => m = kvs.length - i ∧ i ≤ kvs.length ∧ Pv i σ H, ⟨kvs.length, by simp, Nat.zero_le _, h0⟩, ?_⟩
  rintro i m σ H ⟨rfl, hi, q⟩
  by_cases hlt : i < kvs.length
  · refine .inr ⟨⟨hl i σ H q, hlt⟩, Pv (i + 1), fun σ' H' p' => ⟨kvs.length - (i + 1), by omega, rfl, hlt, p'⟩, fun x H' y => ?_⟩
    obtain ⟨rfl, k, v, e, rfl⟩ := y
    exact hs i k v σ _ e q
  · have e : i = kvs.length := by omega
    subst e
    exact .inl ⟨⟨hl _ σ H q, Nat.le_refl _⟩, hd σ H q⟩
end
/-! ### dicts of plain keys, read -/
def KeysKP (R : It → Hp → Prop) : VK := fun x H1 => ∃ a kvs, x = .ref a ∧ H1 a = some (.dK kvs) ∧ ∀ o, R (Itk a o kvs) (upd H1 a (.frz o (.dK kvs)))
def ItemsKP (R : It → Hp → Prop) : VK := fun x H1 => ∃ a kvs, x = .ref a ∧ H1 a = some (.dK kvs) ∧ ∀ o, R (Iti a o kvs) (upd H1 a (.frz o (.dK kvs)))
def ItemsTP (R : It → Hp → Prop) : VK := fun x H1 => ∃ a kvs, x = .ref a ∧ H1 a = some (.dT kvs) ∧ ∀ o, R (Itj a o kvs) (upd H1 a (.frz o (.dT kvs)))
def DInP (Q : VK) (y : V) : VK := fun x H2 => ∃ a o, x = .ref a ∧ DGet H2 a y o ∧ Q (.bl o.isSome) H2
def DNotInP (Q : VK) (y : V) : VK := fun x H2 => ∃ a o, x = .ref a ∧ DGet H2 a y o ∧ Q (.bl (!o.isSome)) H2
def DGet2P (σ : St) (ty tx : TE) (Q : VK) : VK := fun x H1 => ∃ a, x = .ref a ∧ IsD H1 a ∧ ty σ H1 fun y H2 => tx σ H2 fun z H3 => ∃ o, DGet H3 a y o ∧ Q (o.getD z) H3
def DGot (a : Addr) (Q : VK) (y : V) : VK := fun z H3 => ∃ o, DGet H3 a y o ∧ Q (o.getD z) H3
section
variable {K : PySem.W.Frag} {H : Hp} {Q : VK} {σ : St} {nx : St → Hp → Prop} {R : It → Hp → Prop} {td ty tx : TE}
theorem rd_iKeysK (h : td σ H (KeysKP R)) : iKeysK td σ H R := h
theorem rd_iItemsK (h : td σ H (ItemsKP R)) : iItemsK td σ H R := h
theorem rd_iItemsT (h : td σ H (ItemsTP R)) : iItemsT td σ H R := h
theorem rd_keysK {p : Addr} {kvs : List (Key × V)} (e : H p = some (.dK kvs)) (h : ∀ o H', SameBut p H H' → H' p = some (.frz o (.dK kvs)) → R (Itk p o kvs) H') : KeysKP R (.ref p) H := ⟨p, kvs, rfl, e, fun o => h o _ SameBut.upd upd_same⟩
theorem rd_itemsK {p : Addr} {kvs : List (Key × V)} (e : H p = some (.dK kvs)) (h : ∀ o H', SameBut p H H' → H' p = some (.frz o (.dK kvs)) → R (Iti p o kvs) H') : ItemsKP R (.ref p) H := ⟨p, kvs, rfl, e, fun o => h o _ SameBut.upd upd_same⟩
theorem rd_itemsT {p : Addr} {kvs : List (List Key × V)} (e : H p = some (.dT kvs)) (h : ∀ o H', SameBut p H H' → H' p = some (.frz o (.dT kvs)) → R (Itj p o kvs) H') : ItemsTP R (.ref p) H := ⟨p, kvs, rfl, e, fun o => h o _ SameBut.upd upd_same⟩
theorem rd_din (h : ty σ H fun y H1 => td σ H1 (DInP Q y)) : tDIn ty td σ H Q := h
theorem rd_dnotin (h : ty σ H fun y H1 => td σ H1 (DNotInP Q y)) : tDNotIn ty td σ H Q := h
theorem rd_dinS {p : Addr} {z : Str} {kvs : List (Key × V)} (e : Rd H p (.dK kvs)) (h : Q (.bl (valV kvs (.inr z)).isSome) H) : DInP Q (.str z) (.ref p) H := ⟨p, _, rfl, .inl ⟨kvs, .inr z, e, rfl, rfl⟩, h⟩
theorem rd_dnotinS {p : Addr} {z : Str} {kvs : List (Key × V)} (e : Rd H p (.dK kvs)) (h : Q (.bl (!(valV kvs (.inr z)).isSome)) H) : DNotInP Q (.str z) (.ref p) H := ⟨p, _, rfl, .inl ⟨kvs, .inr z, e, rfl, rfl⟩, h⟩
theorem rd_dputS {p : Addr} {v : V} {z : Str} {kvs : List (Key × V)} (e : H p = some (.dK kvs)) (hl : kvs.length < sizeLine) (h : ∀ H', SameBut p H H' → H' p = some (.dK (putK kvs (.inr z) v)) → nx σ H') : DPutP nx σ (.ref p) v (.str z) H :=
  ⟨p, _, rfl, DPut.k (k := .inr z) e hl, h _ SameBut.upd upd_same⟩
theorem rd_dgetS {p : Addr} {v : V} {z : Str} {kvs : List (Key × V)} (e : Rd H p (.dK kvs)) (hv : valV kvs (.inr z) = some v) (h : Q v H) : DGetP Q (.ref p) (.str z) H := ⟨p, v, rfl, .inl ⟨kvs, .inr z, e, rfl, hv.symm⟩, h⟩
theorem rd_dnewK (h : ∀ p H', H p = none → Same H H' → H' p = some (.dK []) → Q (.ref p) H') : tDNewK σ H Q := rd_new' h
theorem rd_dget2 (h : td σ H (DGet2P σ ty tx Q)) : tDGet2 td ty tx σ H Q := h
theorem rd_dget2T {p : Addr} {kvs : List (List Key × V)} (e : H p = some (.dT kvs)) (h : ty σ H fun y H2 => tx σ H2 (DGot p Q y)) : DGet2P σ ty tx Q (.ref p) H := ⟨p, rfl, .inr ⟨kvs, .inl e⟩, h⟩
theorem rd_dgotT {p b : Addr} {z : V} {kvs : List (List Key × V)} (k : List Key) (e : H p = some (.dT kvs)) (eb : H b = some (.tup (k.map kV))) (h : Q ((valV kvs k).getD z) H) : DGot p Q (.ref b) z H := ⟨_, DGet.t e eb, h⟩
theorem rd_dictL {p : Addr} {vs : List V} {ps : List (Key × V)} (e : H p = some (.lst vs)) (r : PRows H vs ps) (h : ∀ l H', H l = none → Same H H' → H' l = some (.dK (mergeK [] ps)) → Q (.ref l) H') : rDictL [.ref p] H Q := ⟨p, vs, ps, rfl, .inl e, r, rd_new' h⟩
theorem rd_sortS {p : Addr} {ss : List Str} (e : SqL K H p (ss.map V.str)) (h64 : ss.length < 64) (h : ∀ l H', H l = none → Same H H' → H' l = some (.lst ((sortS ss).map V.str)) → Q (.ref l) H') : rSortS K [.ref p] H Q := ⟨p, ss, rfl, e, h64, rd_new' h⟩
theorem rd_sameC {a b : Addr} {xs ys : List V} {rs : List (List Key)} {r : Bool} (e : SqL K H a xs) (e2 : SqL K H b ys) (k1 : KRows H xs rs) (k2 : KRows H ys rs) (h : Q (.bl r) H) : rSameC K r (.ref a) (.ref b) H Q := ⟨a, b, xs, ys, rs, rfl, rfl, e, e2, k1, k2, h⟩
theorem rd_sortR {p : Addr} {vs : List V} {rs : List (List Key)} {sh : List Bool} (e : SqL K H p vs) (kr : KRows H vs rs) (hl : vs.length < 64) (hs : ∀ r ∈ rs, r.map kindK = sh) (hn : sh ≠ []) (h : ∀ l ws H', H l = none → Same H H' → H' l = some (.lst ws) → KRows H' ws (sortK rs) → Q (.ref l) H') : rSorted K [.ref p] H Q :=
  ⟨p, vs, rs, sh, rfl, e, kr, hl, hs, hn, rd_new' fun l H' n S e => h l _ H' n S e ((sort_krows kr).same S)⟩
/-! let go -/
theorem rd_tThaw {te : TE} {p : Addr} {u : HO} (e : H p = some u) (nf : ∀ o x, u ≠ .frz o x) (h : te σ H fun x => Thawed p (Q x)) : tThaw te σ H Q := ⟨p, fun o x z => nf o x (by rw [e] at z; exact Option.some.inj z), h⟩
theorem rd_sThaw {ts : TS} {bk ct : St → Hp → Prop} {rt : VK} {p : Addr} {u : HO} (e : H p = some u) (nf : ∀ o x, u ≠ .frz o x) (h : ts ⟨fun σ' => Thawed p (nx σ'), fun v => Thawed p (rt v), fun σ' => Thawed p (bk σ'), fun σ' => Thawed p (ct σ')⟩ σ H) : sThaw ts ⟨nx, rt, bk, ct⟩ σ H :=
  ⟨p, fun o x z => nf o x (by rw [e] at z; exact Option.some.inj z), h⟩
theorem rd_thawed {p : Addr} {o : Obj} {u : HO} {R : Hp → Prop} (e : H p = some (.frz o u)) (h : ∀ H', SameBut p H H' → H' p = some u → R H') : Thawed p R H := ⟨o, u, e, h _ SameBut.upd upd_same⟩
theorem thaw_same {H Hf H1 H2 : Hp} {p : Addr} {u : HO} (e : H p = some u) (a : SameBut p H Hf) (b : SameBut p Hf H1) (c : SameBut p H1 H2) (e2 : H2 p = some u) : Same H H2 := fun x o z => by
  by_cases hx : x = p
  · subst hx; rw [e] at z; cases z; exact e2
  · exact c x o (b x o (a x o z hx) hx) hx
end
section
variable {X : Cx} {K : PySem.W.Frag}
theorem pe_fldK {e : Expr} {ta : TE} {f : Str} {pos : Pos} (he : PE X e ta) (hb : attributeBase e f X.env (eval e X.env) = eval e X.env) (hK : X.K = K := by rfl) : PE X (.Attribute e f pos) (tFld K ta f) := by
  subst hK
  exact pe_fld he hb
theorem op_in_seqK (hK : X.K = K := by rfl) : OpR X (compareOp .In) (rIn K false) := by
  subst hK
  exact op_in_seq
end
end L2

set_option Elab.async false
set_option linter.all false
set_option maxRecDepth 100000
set_option maxHeartbeats 4000000
namespace L2
open PySem PySem.W PyProof.Rows
/-! ### comprehensions over items that stand for others -/
section
variable {K : PySem.W.Frag} {ti : TT} {te : TE} {σ : St} {ci : List Nat} {rest : St} {fin : List V → Hp → Prop} {H : Hp} {a : Addr} {α : Type}
theorem comp_LA {vs : List V} {xs : List α} (F : V → α → Prop) (c : α → Bool) (P : α → V → Hp → Prop) (hm : ∀ x y H1 H2, P x y H1 → Same H1 H2 → P x y H2) (hn : xs.length ≤ sizeLine) (hr : ci.map (fun i => (σ[i]?).join) = rest) (hl : SqL K H a vs) (hv : Paired F vs xs)
    (ht : ∀ v x H1, F v x → x ∈ xs → Same H H1 → ∀ R : Bool → Hp → Prop, (∀ H2, Same H1 H2 → R (c x) H2) → ti (some v :: rest) H1 R)
    (he : ∀ v x H1, F v x → x ∈ xs → c x = true → Same H H1 → ∀ R : VK, (∀ y H2, P x y H2 → Same H1 H2 → R y H2) → te (some v :: rest) H1 R)
    (hf : ∀ ys H1, Same H H1 → Paired (fun x y => P x y H1) (xs.filter c) ys → fin ys H1) : tCompW (Itl K a) (gName 0) ti te (capSt 1 ci σ) fin H := by
  rw [capSt1 hr]
  have hlen : vs.length = xs.length := Paired.length hv
  refine comp_gen xs c P hm hn (fun i H1 s hi => ⟨vs, vs[i], s.seq hl, List.getElem?_eq_getElem (by omega)⟩) (fun H1 s => ⟨vs, s.seq hl, by omega⟩) (fun i x H1 hx s1 v H' y => ?_) hf
  obtain ⟨rfl, e2⟩ := y
  have ev := e2 vs (s1.seq hl)
  have hF := Paired.at2 hv ev hx
  have hmem := List.mem_of_getElem? hx
  refine ⟨Same.refl _, some v :: rest, rfl, fun j v hv => ?_, fun R h => h, fun R h => ht v x _ hF hmem s1 R h, fun hc H2 s2 R h => he v x H2 hF hmem hc (s1.trans s2) R h⟩
  cases j with
  | zero => cases hv
  | succ j => exact hv
theorem comp_IA {kvs : List (Key × V)} {o : Obj} {xs : List α} (F : Key × V → α → Prop) (c : α → Bool) (P : α → V → Hp → Prop) (hm : ∀ x y H1 H2, P x y H1 → Same H1 H2 → P x y H2) (hn : xs.length ≤ sizeLine) (hr : ci.map (fun i => (σ[i]?).join) = rest) (h0 : H a = some (.frz o (.dK kvs))) (hv : Paired F kvs xs)
    (ht : ∀ e x H1, F e x → x ∈ xs → Same H H1 → ∀ R : Bool → Hp → Prop, (∀ H2, Same H1 H2 → R (c x) H2) → ti (some (kV e.1) :: some e.2 :: rest) H1 R)
    (he : ∀ e x H1, F e x → x ∈ xs → c x = true → Same H H1 → ∀ R : VK, (∀ y H2, P x y H2 → Same H1 H2 → R y H2) → te (some (kV e.1) :: some e.2 :: rest) H1 R)
    (hf : ∀ ys H1, Same H H1 → Paired (fun x y => P x y H1) (xs.filter c) ys → fin ys H1) : tCompW (Iti a o kvs) (gTup K 2 (gCons (gName 0) (gCons (gName 1) gNil))) ti te (capSt 2 ci σ) fin H := by
  have e0 : capSt 2 ci σ = none :: none :: rest := cap1 hr
  rw [e0]
  have hlen : kvs.length = xs.length := Paired.length hv
  refine comp_gen xs c P hm hn (fun i H1 s hi => ⟨s _ _ h0, by omega⟩) (fun H1 s => ⟨s _ _ h0, by omega⟩) (fun i x H1 hx s1 v H' y => ?_) hf
  obtain ⟨k, u, q, e2, rfl, hq, rfl⟩ := y
  have hF := Paired.at2 hv e2 hx
  have hmem := List.mem_of_getElem? hx
  have sq : Same H1 (upd H1 q (.tup [kV k, u])) := same_upd hq
  refine ⟨sq, some (kV k) :: some u :: rest, rfl, fun j v hv => ?_, fun R h => ⟨q, [kV k, u], rfl, .inl (.inl upd_same), rfl, kV k, [u], rfl, u, [], rfl, rfl, h⟩, fun R h => ht _ x _ hF hmem (s1.trans sq) R h, fun hc H2 s2 R h => he _ x H2 hF hmem hc ((s1.trans sq).trans s2) R h⟩
  match j, hv with
  | 0, hv => cases hv
  | 1, hv => cases hv
  | j + 2, hv => exact hv
end
theorem paired_eq {α : Type} {f : α → V} : ∀ {l : List α} {ys : List V}, Paired (fun x y => y = f x) l ys → ys = l.map f
  | _, _, .nil => rfl
  | _, _, .cons h t => by rw [h, paired_eq t]; rfl
theorem filt_all {α : Type} (l : List α) : l.filter (fun _ => true) = l := by simp
theorem rd_inL {K : PySem.W.Frag} {H : Hp} {Q : VK} {p : Addr} {z : Str} {ss : List Str} (e : SqL K H p (ss.map V.str)) (h : Q (.bl (decide (z ∈ ss))) H) : rIn K false (.str z) (.ref p) H Q := by
  refine ⟨p, _, rfl, .inl e, rfl, ?_, ?_⟩
  · rw [List.all_eq_true]
    intro x hx
    obtain ⟨y, _, rfl⟩ := List.mem_map.mp hx
    rfl
  · have e2 : inV (.str z) (ss.map V.str) = decide (z ∈ ss) := by
      rw [Bool.eq_iff_iff, decide_eq_true_eq]
      unfold inV
      rw [List.any_eq_true]
      constructor
      · rintro ⟨x, hx, h⟩
        obtain ⟨y, hy, rfl⟩ := List.mem_map.mp hx
        have : y = z := by simpa [eqV] using h
        rw [← this]; exact hy
      · intro h
        exact ⟨.str z, List.mem_map.mpr ⟨z, h, rfl⟩, by simp [eqV]⟩
    show Q (.bl (inV (.str z) (ss.map V.str))) H
    rw [e2]; exact h
end L2

set_option Elab.async false
set_option linter.all false
set_option maxRecDepth 100000
set_option maxHeartbeats 4000000
namespace L2
open PySem PySem.W PyProof.Rows
/-! ### rows of a plan added up -/
abbrev PRow := Int × Str × Int
def key2 (t : Int) (n : Str) : List Key := [.inl t, .inr n]
def key3 (r : PRow) : List Key := [.inl r.1, .inr r.2.1, .inl r.2.2]
def keyN (r : PRow) : List Key := [.inr r.2.1, .inl r.2.2]
def intOf : V → Int
  | .int i => i
  | _ => 0
def addR (kvs : List (List Key × V)) (r : PRow) : List (List Key × V) := putK kvs (key2 r.1 r.2.1) (.int (intOf ((valV kvs (key2 r.1 r.2.1)).getD (.int 0)) + r.2.2))
def sumK (rows : List PRow) : List (List Key × V) := rows.foldl addR []
theorem sumK_snoc (rows : List PRow) (r : PRow) : sumK (rows ++ [r]) = addR (sumK rows) r := by unfold sumK; rw [List.foldl_append]; rfl
def total (rows : List PRow) (t : Int) (n : Str) : Int := ((rows.filter fun r => decide (r.1 = t) && decide (r.2.1 = n)).map (·.2.2)).sum
theorem total_snoc (rows : List PRow) (r : PRow) (t : Int) (n : Str) : total (rows ++ [r]) t n = total rows t n + if r.1 = t ∧ r.2.1 = n then r.2.2 else 0 := by
  unfold total
  rw [List.filter_append, List.map_append, List.sum_append]
  congr 1
  by_cases h : r.1 = t ∧ r.2.1 = n
  · rw [if_pos h, List.filter_cons_of_pos (by simp [h])]; simp
  · rw [if_neg h, List.filter_cons_of_neg (by simpa using h)]; simp
theorem key2_inj {t t' : Int} {n n' : Str} (h : key2 t n = key2 t' n') : t = t' ∧ n = n' := by
  unfold key2 at h
  injection h with h1 h2
  injection h2 with h2
  exact ⟨Sum.inl.inj h1, Sum.inr.inj h2⟩
theorem rev_ind {α : Type} {P : List α → Prop} (h0 : P []) (hs : ∀ l a, P l → P (l ++ [a])) (l : List α) : P l := by
  have : ∀ m : List α, P m.reverse := fun m => by
    induction m with
    | nil => exact h0
    | cons a m ih => rw [List.reverse_cons]; exact hs _ _ ih
  rw [← List.reverse_reverse l]; exact this _
theorem sumK_val (t : Int) (n : Str) (rows : List PRow) : intOf ((valV (sumK rows) (key2 t n)).getD (.int 0)) = total rows t n := by
  induction rows using rev_ind with
  | h0 => rfl
  | hs l r ih =>
    rw [sumK_snoc, total_snoc]
    unfold addR
    rw [valV_put]
    by_cases e : key2 t n = key2 r.1 r.2.1
    · obtain ⟨rfl, rfl⟩ := key2_inj e
      rw [if_pos rfl, if_pos ⟨rfl, rfl⟩, ← ih]
      rfl
    · rw [if_neg e, if_neg (fun h => e (by rw [h.1, h.2])), ih]; omega
theorem putK_keys {κ : Type} [DecidableEq κ] {kvs : List (κ × V)} {k : κ} {v : V} (nd : (kvs.map (·.1)).Nodup) : ((putK kvs k v).map (·.1)).Nodup := by
  unfold putK
  split
  · have e : (kvs.map fun kv => if kv.1 = k then (kv.1, v) else kv).map (·.1) = kvs.map (·.1) := by
      rw [List.map_map]
      apply List.map_congr_left
      intro x _
      show (if x.1 = k then (x.1, v) else x).1 = x.1
      split <;> rfl
    rw [e]; exact nd
  · rename_i h
    rw [List.map_append]
    refine nd_snoc nd fun hk => h ?_
    obtain ⟨x, hx, e⟩ := List.mem_map.mp hk
    rw [List.any_eq_true]
    exact ⟨x, hx, decide_eq_true e⟩
theorem valV_at {κ : Type} [DecidableEq κ] : ∀ {kvs : List (κ × V)} {e : κ × V}, (kvs.map (·.1)).Nodup → e ∈ kvs → valV kvs e.1 = some e.2
  | a :: l, e, nd, h => by
    have nd' := List.pairwise_cons.mp nd
    rcases List.mem_cons.mp h with rfl | h
    · exact valV_pos rfl
    · rw [valV_neg (nd'.1 e.1 (List.mem_map.mpr ⟨e, h, rfl⟩))]
      exact valV_at nd'.2 h
theorem valV_some {κ : Type} [DecidableEq κ] {kvs : List (κ × V)} {k : κ} {v : V} (h : valV kvs k = some v) : (k, v) ∈ kvs := by
  unfold valV at h
  obtain ⟨x, hx, e⟩ := Option.map_eq_some_iff.mp h
  have h1 := List.find?_some hx
  have h2 := List.mem_of_find?_eq_some hx
  have h3 : x.1 = k := of_decide_eq_true h1
  rw [← h3, ← e]; exact h2
/-- each item: a turn, a name; a number -/
def Good (kvs : List (List Key × V)) : Prop := (kvs.map (·.1)).Nodup ∧ ∀ e ∈ kvs, ∃ t n i, e = (key2 t n, .int i)
theorem sumK_good (rows : List PRow) : Good (sumK rows) := by
  induction rows using rev_ind with
  | h0 => exact ⟨List.nodup_nil, fun e h => nomatch h⟩
  | hs l r ih =>
    rw [sumK_snoc]
    refine ⟨putK_keys ih.1, fun e he => ?_⟩
    rcases putK_mem he with h | ⟨h1, h2⟩
    · exact ih.2 e h
    · exact ⟨_, _, _, Prod.ext h1 h2⟩
theorem sumK_int (rows : List PRow) (t : Int) (n : Str) : ∃ i, (valV (sumK rows) (key2 t n)).getD (.int 0) = .int i := by
  cases h : valV (sumK rows) (key2 t n) with
  | none => exact ⟨0, rfl⟩
  | some v =>
    obtain ⟨t', n', i, e⟩ := (sumK_good rows).2 _ (valV_some h)
    cases e
    exact ⟨i, rfl⟩
theorem sumK_len (rows : List PRow) : (sumK rows).length ≤ rows.length := by
  induction rows using rev_ind with
  | h0 => exact Nat.le_refl _
  | hs l r ih =>
    rw [sumK_snoc, List.length_append]
    exact Nat.le_trans (length_putK _ _ _) (by simp; omega)
def posV (e : List Key × V) : Bool := decide (0 < intOf e.2)
def rowK (e : List Key × V) : List Key := e.1 ++ [.inl (intOf e.2)]
/-- what is told of rows added up -/
def toldK (rows : List PRow) : List (List Key) := ((sumK rows).filter posV).map rowK
theorem mem_told {rows : List PRow} {k : List Key} : k ∈ toldK rows ↔ ∃ t n, k = key3 (t, n, total rows t n) ∧ 0 < total rows t n := by
  unfold toldK
  constructor
  · intro h
    obtain ⟨e, he, rfl⟩ := List.mem_map.mp h
    obtain ⟨h1, h2⟩ := List.mem_filter.mp he
    obtain ⟨t, n, i, rfl⟩ := (sumK_good rows).2 e h1
    have hv := valV_at (sumK_good rows).1 h1
    have ht := sumK_val t n rows
    rw [hv] at ht
    have ht' : i = total rows t n := ht
    refine ⟨t, n, ?_, ?_⟩
    · rw [← ht']; rfl
    · rw [← ht']; exact of_decide_eq_true h2
  · rintro ⟨t, n, rfl, h⟩
    have ht := sumK_val t n rows
    cases hv : valV (sumK rows) (key2 t n) with
    | none =>
      rw [hv] at ht
      have : (0 : Int) = total rows t n := ht
      omega
    | some v =>
      have hm := valV_some hv
      obtain ⟨t', n', i, e⟩ := (sumK_good rows).2 _ hm
      obtain ⟨e1, e2⟩ := Prod.mk.inj e
      subst e2
      rw [hv] at ht
      have ht' : i = total rows t n := ht
      refine List.mem_map.mpr ⟨(key2 t n, .int i), List.mem_filter.mpr ⟨hm, ?_⟩, ?_⟩
      · show decide (0 < i) = true
        rw [ht']; exact decide_eq_true h
      · rw [ht']; rfl
theorem told_nodup (rows : List PRow) : (toldK rows).Nodup := by
  unfold toldK
  have h1 : ((sumK rows).filter posV).Pairwise fun a b => a.1 ≠ b.1 := by
    have := (sumK_good rows).1
    rw [List.Nodup, List.pairwise_map] at this
    exact this.filter _
  rw [List.Nodup, List.pairwise_map]
  refine List.Pairwise.imp_of_mem ?_ h1
  intro a b ha hb h z
  obtain ⟨t, n, i, rfl⟩ := (sumK_good rows).2 a (List.mem_filter.mp ha).1
  obtain ⟨t', n', i', rfl⟩ := (sumK_good rows).2 b (List.mem_filter.mp hb).1
  apply h
  have z' : key3 (t, n, i) = key3 (t', n', i') := z
  unfold key3 at z'
  injection z' with z1 z2
  injection z2 with z2 z3
  show key2 t n = key2 t' n'
  have y1 : t = t' := Sum.inl.inj z1
  have y2 : n = n' := Sum.inr.inj z2
  rw [y1, y2]
theorem told_shape (rows : List PRow) : ∀ r ∈ toldK rows, r.map kindK = [true, false, true] := fun r hr => by
  obtain ⟨t, n, rfl, _⟩ := mem_told.mp hr
  rfl
/-! what is due: the names in their order, each with its sum -/
def dueR (rows : List PRow) (t : Int) (ns : List Str) : List PRow := (ns.filter fun n => decide (0 < total rows t n)).map fun n => (t, n, total rows t n)
theorem key3_inj {a b : PRow} (h : key3 a = key3 b) : a = b := by
  unfold key3 at h
  injection h with h1 h2
  injection h2 with h2 h3
  injection h3 with h3
  exact Prod.ext (Sum.inl.inj h1) (Prod.ext (Sum.inr.inj h2) (Sum.inl.inj h3))
theorem total_filter {rows : List PRow} {t : Int} {D : List Str} {n : Str} (hn : n ∈ D) : total (rows.filter fun r => decide (r.1 = t) && decide (r.2.1 ∈ D)) t n = total rows t n := by
  unfold total
  rw [List.filter_filter]
  congr 2
  apply List.filter_congr
  intro r _
  by_cases h : r.1 = t ∧ r.2.1 = n
  · have : r.2.1 ∈ D := by rw [h.2]; exact hn
    simp [h, hn]
  · have h' : (decide (r.1 = t) && decide (r.2.1 = n)) = false := by simpa using h
    rw [h', Bool.false_and]
theorem total_none {rows : List PRow} {t t' : Int} {D : List Str} {n : Str} (h : ¬ (t' = t ∧ n ∈ D)) : total (rows.filter fun r => decide (r.1 = t) && decide (r.2.1 ∈ D)) t' n = 0 := by
  unfold total
  rw [List.filter_filter, List.filter_eq_nil_iff.mpr]
  · rfl
  · intro r _ z
    simp only [Bool.and_eq_true, decide_eq_true_eq] at z
    apply h
    rw [← z.1.1, ← z.1.2]; exact ⟨z.2.1, z.2.2⟩
theorem told_due (rows : List PRow) (t : Int) {D : List Str} (nd : D.Nodup) : (toldK (rows.filter fun r => decide (r.1 = t) && decide (r.2.1 ∈ D))).Perm ((dueR rows t (sortS D)).map key3) := by
  have hp := sortS_perm D
  have nds : (sortS D).Nodup := hp.nodup_iff.mpr nd
  refine (List.perm_ext_iff_of_nodup (told_nodup _) ?_).mpr fun k => ?_
  · rw [List.Nodup, List.pairwise_map]
    unfold dueR
    rw [List.pairwise_map]
    refine List.Pairwise.imp ?_ (nds.filter _)
    intro a b h z
    exact h (Prod.mk.inj (Prod.mk.inj (key3_inj z)).2).1
  · rw [mem_told]
    unfold dueR
    rw [List.map_map]
    constructor
    · rintro ⟨t', n, rfl, h⟩
      by_cases hc : t' = t ∧ n ∈ D
      · obtain ⟨rfl, hn⟩ := hc
        rw [total_filter hn] at h ⊢
        exact List.mem_map.mpr ⟨n, List.mem_filter.mpr ⟨hp.mem_iff.mpr hn, decide_eq_true h⟩, rfl⟩
      · rw [total_none hc] at h; omega
    · intro h
      obtain ⟨n, hn, rfl⟩ := List.mem_map.mp h
      obtain ⟨h1, h2⟩ := List.mem_filter.mp hn
      have hD := hp.mem_iff.mp h1
      refine ⟨t, n, ?_, ?_⟩
      · rw [total_filter hD]; rfl
      · rw [total_filter hD]; exact of_decide_eq_true h2
theorem due_pw (rows : List PRow) (t : Int) {D : List Str} (nd : D.Nodup) : ((dueR rows t (sortS D)).map key3).Pairwise fun x y => lexK x y = true := by
  unfold dueR
  rw [List.pairwise_map, List.pairwise_map]
  refine List.Pairwise.imp ?_ ((sortS_pw nd).filter _)
  intro a b h
  have hne : a ≠ b := fun z => by rw [z, ltS_irr] at h; cases h
  show lexK (key3 (t, a, total rows t a)) (key3 (t, b, total rows t b)) = true
  unfold key3
  show (if (Sum.inl t : Key) = .inl t then (if (Sum.inr a : Key) = .inr b then _ else ltKey (.inr a) (.inr b)) else _) = true
  rw [if_pos rfl, if_neg (fun z => hne (Sum.inr.inj z))]
  exact h
theorem told_sorted (rows : List PRow) (t : Int) {D : List Str} (nd : D.Nodup) : sortK (toldK (rows.filter fun r => decide (r.1 = t) && decide (r.2.1 ∈ D))) = (dueR rows t (sortS D)).map key3 :=
  pw_uniq (lt := lexK) (fun x _ => lexK_irr x) (fun _ _ _ _ _ _ a b => lexK_tr a b) ((sortK_perm _).trans (told_due rows t nd)) (sortK_pw ⟨_, told_shape _⟩ (told_nodup _)) (due_pw rows t nd)
theorem told_len (rows : List PRow) (t : Int) {D : List Str} (nd : D.Nodup) : (toldK (rows.filter fun r => decide (r.1 = t) && decide (r.2.1 ∈ D))).length ≤ D.length := by
  rw [(told_due rows t nd).length_eq, List.length_map]
  unfold dueR
  rw [List.length_map]
  exact Nat.le_trans (List.length_filter_le _ _) (Nat.le_of_eq (sortS_perm D).length_eq)
end L2

set_option Elab.async false
set_option linter.all false
set_option maxRecDepth 100000
set_option maxHeartbeats 4000000
namespace L2
def allN {α : Type} : Nat → (List α → Prop) → Prop
  | 0, p => p []
  | n + 1, p => ∀ a, allN n (fun l => p (a :: l))
theorem of_allN {α : Type} : ∀ (n : Nat) (p : List α → Prop), allN n p → ∀ us : List α, us.length = n → p us
  | 0, _, h, [], _ => h
  | n + 1, _, h, a :: us, e => of_allN n _ (h a) us (by simpa using e)
  | 0, _, _, _ :: _, e => by simp at e
  | _ + 1, _, _, [], e => by simp at e
end L2
namespace Prf
open PySem L2

def top (i : Nat) : Stmt := PySem.Challenge.pw_firstout_k51_signs.main.body.getD i (.Pass ⟨0, 0, 0, 0⟩)
abbrev s__wall : Stmt := top 0




abbrev s_added_up : Stmt := top 10
theorem sc_added_up : FnScope ["plan", "going", "turn", "name", "number"] ["plan"] (defScope s_added_up) := ⟨rfl, rfl, rfl, by decide +kernel, rfl, by decide +kernel, by decide +kernel⟩

abbrev s_as_told : Stmt := top 11
theorem sc_as_told : FnScope ["plan"] ["plan"] (defScope s_as_told) := ⟨rfl, rfl, rfl, by decide +kernel, rfl, by decide +kernel, by decide +kernel⟩

abbrev s_signs : Stmt := top 13
theorem sc_signs : FnScope ["house", "plan", "room", "turn", "doors", "rows"] ["house", "plan", "room", "turn"] (defScope s_signs) := ⟨rfl, rfl, rfl, by decide +kernel, rfl, by decide +kernel, by decide +kernel⟩

abbrev s_is_whole : Stmt := top 15
theorem sc_is_whole : FnScope ["thing"] ["thing"] (defScope s_is_whole) := ⟨rfl, rfl, rfl, by decide +kernel, rfl, by decide +kernel, by decide +kernel⟩

abbrev s_is_name : Stmt := top 18
theorem sc_is_name : FnScope ["thing"] ["thing"] (defScope s_is_name) := ⟨rfl, rfl, rfl, by decide +kernel, rfl, by decide +kernel, by decide +kernel⟩

abbrev s_need_name : Stmt := top 19
theorem sc_need_name : FnScope ["part", "thing"] ["part", "thing"] (defScope s_need_name) := ⟨rfl, rfl, rfl, by decide +kernel, rfl, by decide +kernel, by decide +kernel⟩

abbrev s_need_whole : Stmt := top 20
theorem sc_need_whole : FnScope ["part", "thing", "least"] ["part", "thing", "least"] (defScope s_need_whole) := ⟨rfl, rfl, rfl, by decide +kernel, rfl, by decide +kernel, by decide +kernel⟩

abbrev s_Door___init__ : Stmt := inClass (top 21) 0
theorem sc_Door___init__ : FnScope ["self", "name", "start", "end", "wide"] ["self", "name", "start", "end", "wide"] (defScope s_Door___init__) := ⟨rfl, rfl, rfl, by decide +kernel, rfl, by decide +kernel, by decide +kernel⟩

abbrev s_Door_lets : Stmt := inClass (top 21) 1

abbrev s_Door_is_exit : Stmt := inClass (top 21) 2
theorem sc_Door_is_exit : FnScope ["self"] ["self"] (defScope s_Door_is_exit) := ⟨rfl, rfl, rfl, by decide +kernel, rfl, by decide +kernel, by decide +kernel⟩

abbrev s_Door_words : Stmt := inClass (top 21) 3

abbrev s_need_turns : Stmt := top 23
theorem sc_need_turns : FnScope ["first", "last"] ["first", "last"] (defScope s_need_turns) := ⟨rfl, rfl, rfl, by decide +kernel, rfl, by decide +kernel, by decide +kernel⟩

abbrev s_need_each_once : Stmt := top 24
theorem sc_need_each_once : FnScope ["names", "seen", "name"] ["names"] (defScope s_need_each_once) := ⟨rfl, rfl, rfl, by decide +kernel, rfl, by decide +kernel, by decide +kernel⟩

abbrev s_rooms_spoken_of : Stmt := top 25
theorem sc_rooms_spoken_of : FnScope ["doors", "people", "names", "door"] ["doors", "people"] (defScope s_rooms_spoken_of) := ⟨rfl, rfl, rfl, by decide +kernel, rfl, by decide +kernel, by decide +kernel⟩

abbrev s_need_rooms : Stmt := top 26
theorem sc_need_rooms : FnScope ["names", "sizes", "name"] ["names", "sizes"] (defScope s_need_rooms) := ⟨rfl, rfl, rfl, by decide +kernel, rfl, by decide +kernel, by decide +kernel⟩

abbrev s_added_people : Stmt := top 27
theorem sc_added_people : FnScope ["sizes", "people", "inside", "room", "number"] ["sizes", "people"] (defScope s_added_people) := ⟨rfl, rfl, rfl, by decide +kernel, rfl, by decide +kernel, by decide +kernel⟩

abbrev s_need_space : Stmt := top 28
theorem sc_need_space : FnScope ["sizes", "people", "inside"] ["sizes", "people"] (defScope s_need_space) := ⟨rfl, rfl, rfl, by decide +kernel, rfl, by decide +kernel, by decide +kernel⟩

abbrev s_House___init__ : Stmt := inClass (top 29) 0
theorem sc_House___init__ : FnScope ["self", "rooms", "doors", "people", "last", "first", "sizes", "door"] ["self", "rooms", "doors", "people", "last", "first"] (defScope s_House___init__) := ⟨rfl, rfl, rfl, by decide +kernel, rfl, by decide +kernel, by decide +kernel⟩

abbrev s_House_rooms : Stmt := inClass (top 29) 1

abbrev s_House_doors : Stmt := inClass (top 29) 2

abbrev s_House_need_room : Stmt := inClass (top 29) 3
theorem sc_House_need_room : FnScope ["self", "room"] ["self", "room"] (defScope s_House_need_room) := ⟨rfl, rfl, rfl, by decide +kernel, rfl, by decide +kernel, by decide +kernel⟩

abbrev s_House_holds : Stmt := inClass (top 29) 4

abbrev s_House_found : Stmt := inClass (top 29) 5

abbrev s_House_into : Stmt := inClass (top 29) 6

abbrev s_House_from_room : Stmt := inClass (top 29) 7
theorem sc_House_from_room : FnScope ["self", "room"] ["self", "room"] (defScope s_House_from_room) := ⟨rfl, rfl, rfl, by decide +kernel, rfl, by decide +kernel, by decide +kernel⟩

abbrev s_House_door : Stmt := inClass (top 29) 8

abbrev s_House_lets : Stmt := inClass (top 29) 9

abbrev s_House_total : Stmt := inClass (top 29) 10

abbrev s_House_pairs : Stmt := inClass (top 29) 11

abbrev s__law_cell_at : Stmt := top 31
theorem sc__law_cell_at : FnScope ["_law_script", "_law_k"] ["_law_script", "_law_k"] (defScope s__law_cell_at) := ⟨rfl, rfl, rfl, by decide +kernel, rfl, by decide +kernel, by decide +kernel⟩

abbrev s__law_drawn : Stmt := top 32
theorem sc__law_drawn : FnScope ["_law_cell", "_law_k", "_law_number"] ["_law_cell", "_law_k"] (defScope s__law_drawn) := ⟨rfl, rfl, rfl, by decide +kernel, rfl, by decide +kernel, by decide +kernel⟩

abbrev s__law_name : Stmt := top 33
theorem sc__law_name : FnScope ["_law_cell", "_law_k", "_law_some", "_law_rest", "_law_place"] ["_law_cell", "_law_k"] (defScope s__law_name) := ⟨rfl, rfl, rfl, by decide +kernel, rfl, by decide +kernel, by decide +kernel⟩

abbrev s__law_doors : Stmt := top 34
theorem sc__law_doors : FnScope ["_law_cell", "_law_rooms", "_law_found", "_law_k", "_law_number", "_law_end", "_law_name_here"] ["_law_cell", "_law_rooms"] (defScope s__law_doors) := ⟨rfl, rfl, rfl, by decide +kernel, rfl, by decide +kernel, by decide +kernel⟩

abbrev s__law_plan : Stmt := top 35
theorem sc__law_plan : FnScope ["_law_cells", "_law_doors_here", "_law_first", "_law_last", "_law_rows", "_law_names", "_law_cell", "_law_number", "_law_turn"] ["_law_cells", "_law_doors_here", "_law_first", "_law_last"] (defScope s__law_plan) := ⟨rfl, rfl, rfl, by decide +kernel, rfl, by decide +kernel, by decide +kernel⟩

abbrev s_law : Stmt := top 36
theorem sc_law : FnScope ["_law_script", "_law_cell", "_law_rooms", "_law_doors_here", "_law_first", "_law_last", "_law_house", "_law_plan_here", "_law_handed", "_law_room", "_law_turn", "_law_due", "_law_name_here", "_law_number", "_law_k", "_law_found"] ["_law_script"] (defScope s_law) := ⟨rfl, rfl, rfl, by decide +kernel, rfl, by decide +kernel, by decide +kernel⟩

theorem ll_0 : ("abcdefghijklmnopqrstuvwxyz" : Str).length = 26 := by rw [lit_len]; rfl
theorem ll_1 : ("name" : Str).length = 4 := by rw [lit_len]; rfl
theorem ll_2 : ("start" : Str).length = 5 := by rw [lit_len]; rfl
theorem ll_3 : ("wide" : Str).length = 4 := by rw [lit_len]; rfl
theorem ll_4 : ("the first turn is below 0" : Str).length = 25 := by rw [lit_len]; rfl
theorem ll_5 : ("the last turn is below the first one" : Str).length = 36 := by rw [lit_len]; rfl
theorem ll_6 : ("a row of people is below 0" : Str).length = 26 := by rw [lit_len]; rfl
theorem ll_7 : ("more are in a room than it holds" : Str).length = 32 := by rw [lit_len]; rfl
theorem ll_8 : ("nowhere" : Str).length = 7 := by rw [lit_len]; rfl
theorem ll_9 : (" is no name" : Str).length = 11 := by rw [lit_len]; rfl
theorem ll_10 : (" is no whole number from " : Str).length = 25 := by rw [lit_len]; rfl
theorem ll_11 : (" on" : Str).length = 3 := by rw [lit_len]; rfl
theorem ll_12 : ("end" : Str).length = 3 := by rw [lit_len]; rfl
theorem ll_13 : ("a" : Str).length = 1 := by rw [lit_len]; rfl
theorem ll_14 : ("z" : Str).length = 1 := by rw [lit_len]; rfl
theorem ll_15 : ("x" : Str).length = 1 := by rw [lit_len]; rfl
structure DCls (K : PySem.W.Frag) (C : Addr) : Prop where
  ic : ICls K C
  n_name : NoAttr K C "name"
  n_start : NoAttr K C "start"
  n_end : NoAttr K C "end"
  n_wide : NoAttr K C "wide"
  n_first : NoAttr K C "first"
  n_last : NoAttr K C "last"
  n_sizes : NoAttr K C "sizes"
  n_people : NoAttr K C "people"
  n_named_doors : NoAttr K C "named_doors"
set_option genInjectivity false in
set_option genSizeOfSpec false in
structure M (K : PySem.W.Frag) (mg : Str → Option Value) where
  a__wall : Addr
  d__wall : FuncData
  F__wall : FunV K "_wall" "_wall" s__wall a__wall d__wall
  b__wall : Binds K d__wall ["k"] []
  a_added_up : Addr
  d_added_up : FuncData
  F_added_up : FunV K "added_up" "added_up" s_added_up a_added_up d_added_up
  b_added_up : Binds K d_added_up ["plan"] []
  a_as_told : Addr
  d_as_told : FuncData
  F_as_told : FunV K "as_told" "as_told" s_as_told a_as_told d_as_told
  b_as_told : Binds K d_as_told ["plan"] []
  a_signs : Addr
  d_signs : FuncData
  F_signs : FunV K "signs" "signs" s_signs a_signs d_signs
  b_signs : Binds K d_signs ["house", "plan", "room", "turn"] []
  a_is_whole : Addr
  d_is_whole : FuncData
  F_is_whole : FunV K "is_whole" "is_whole" s_is_whole a_is_whole d_is_whole
  b_is_whole : Binds K d_is_whole ["thing"] []
  a_is_name : Addr
  d_is_name : FuncData
  F_is_name : FunV K "is_name" "is_name" s_is_name a_is_name d_is_name
  b_is_name : Binds K d_is_name ["thing"] []
  a_need_name : Addr
  d_need_name : FuncData
  F_need_name : FunV K "need_name" "need_name" s_need_name a_need_name d_need_name
  b_need_name : Binds K d_need_name ["part", "thing"] []
  a_need_whole : Addr
  d_need_whole : FuncData
  F_need_whole : FunV K "need_whole" "need_whole" s_need_whole a_need_whole d_need_whole
  b_need_whole : Binds K d_need_whole ["part", "thing", "least"] []
  a_need_turns : Addr
  d_need_turns : FuncData
  F_need_turns : FunV K "need_turns" "need_turns" s_need_turns a_need_turns d_need_turns
  b_need_turns : Binds K d_need_turns ["first", "last"] []
  a_need_each_once : Addr
  d_need_each_once : FuncData
  F_need_each_once : FunV K "need_each_once" "need_each_once" s_need_each_once a_need_each_once d_need_each_once
  b_need_each_once : Binds K d_need_each_once ["names"] []
  a_rooms_spoken_of : Addr
  d_rooms_spoken_of : FuncData
  F_rooms_spoken_of : FunV K "rooms_spoken_of" "rooms_spoken_of" s_rooms_spoken_of a_rooms_spoken_of d_rooms_spoken_of
  b_rooms_spoken_of : Binds K d_rooms_spoken_of ["doors", "people"] []
  a_need_rooms : Addr
  d_need_rooms : FuncData
  F_need_rooms : FunV K "need_rooms" "need_rooms" s_need_rooms a_need_rooms d_need_rooms
  b_need_rooms : Binds K d_need_rooms ["names", "sizes"] []
  a_added_people : Addr
  d_added_people : FuncData
  F_added_people : FunV K "added_people" "added_people" s_added_people a_added_people d_added_people
  b_added_people : Binds K d_added_people ["sizes", "people"] []
  a_need_space : Addr
  d_need_space : FuncData
  F_need_space : FunV K "need_space" "need_space" s_need_space a_need_space d_need_space
  b_need_space : Binds K d_need_space ["sizes", "people"] []
  a__law_cell_at : Addr
  d__law_cell_at : FuncData
  F__law_cell_at : FunV K "_law_cell_at" "_law_cell_at" s__law_cell_at a__law_cell_at d__law_cell_at
  b__law_cell_at : Binds K d__law_cell_at ["_law_script", "_law_k"] []
  a__law_drawn : Addr
  d__law_drawn : FuncData
  F__law_drawn : FunV K "_law_drawn" "_law_drawn" s__law_drawn a__law_drawn d__law_drawn
  b__law_drawn : Binds K d__law_drawn ["_law_cell", "_law_k"] []
  a__law_name : Addr
  d__law_name : FuncData
  F__law_name : FunV K "_law_name" "_law_name" s__law_name a__law_name d__law_name
  b__law_name : Binds K d__law_name ["_law_cell", "_law_k"] []
  a__law_doors : Addr
  d__law_doors : FuncData
  F__law_doors : FunV K "_law_doors" "_law_doors" s__law_doors a__law_doors d__law_doors
  b__law_doors : Binds K d__law_doors ["_law_cell", "_law_rooms"] []
  a__law_plan : Addr
  d__law_plan : FuncData
  F__law_plan : FunV K "_law_plan" "_law_plan" s__law_plan a__law_plan d__law_plan
  b__law_plan : Binds K d__law_plan ["_law_cells", "_law_doors_here", "_law_first", "_law_last"] []
  a_law : Addr
  d_law : FuncData
  F_law : FunV K "law" "law" s_law a_law d_law
  b_law : Binds K d_law ["_law_script"] []
  a_Door___init__ : Addr
  d_Door___init__ : FuncData
  F_Door___init__ : FunV K "__init__" "Door.__init__" s_Door___init__ a_Door___init__ d_Door___init__
  b_Door___init__ : Binds K d_Door___init__ ["self", "name", "start", "end", "wide"] []
  a_Door_lets : Addr
  d_Door_lets : FuncData
  F_Door_lets : FunV K "lets" "Door.lets" s_Door_lets a_Door_lets d_Door_lets
  b_Door_lets : Binds K d_Door_lets ["self", "turn"] []
  a_Door_is_exit : Addr
  d_Door_is_exit : FuncData
  F_Door_is_exit : FunV K "is_exit" "Door.is_exit" s_Door_is_exit a_Door_is_exit d_Door_is_exit
  b_Door_is_exit : Binds K d_Door_is_exit ["self"] []
  a_Door_words : Addr
  d_Door_words : FuncData
  F_Door_words : FunV K "words" "Door.words" s_Door_words a_Door_words d_Door_words
  b_Door_words : Binds K d_Door_words ["self"] []
  a_House___init__ : Addr
  d_House___init__ : FuncData
  F_House___init__ : FunV K "__init__" "House.__init__" s_House___init__ a_House___init__ d_House___init__
  b_House___init__ : Binds K d_House___init__ ["self", "rooms", "doors", "people", "last", "first"] []
  a_House_rooms : Addr
  d_House_rooms : FuncData
  F_House_rooms : FunV K "rooms" "House.rooms" s_House_rooms a_House_rooms d_House_rooms
  b_House_rooms : Binds K d_House_rooms ["self"] []
  a_House_doors : Addr
  d_House_doors : FuncData
  F_House_doors : FunV K "doors" "House.doors" s_House_doors a_House_doors d_House_doors
  b_House_doors : Binds K d_House_doors ["self"] []
  a_House_need_room : Addr
  d_House_need_room : FuncData
  F_House_need_room : FunV K "need_room" "House.need_room" s_House_need_room a_House_need_room d_House_need_room
  b_House_need_room : Binds K d_House_need_room ["self", "room"] []
  a_House_holds : Addr
  d_House_holds : FuncData
  F_House_holds : FunV K "holds" "House.holds" s_House_holds a_House_holds d_House_holds
  b_House_holds : Binds K d_House_holds ["self", "room"] []
  a_House_found : Addr
  d_House_found : FuncData
  F_House_found : FunV K "found" "House.found" s_House_found a_House_found d_House_found
  b_House_found : Binds K d_House_found ["self", "room"] []
  a_House_into : Addr
  d_House_into : FuncData
  F_House_into : FunV K "into" "House.into" s_House_into a_House_into d_House_into
  b_House_into : Binds K d_House_into ["self", "room"] []
  a_House_from_room : Addr
  d_House_from_room : FuncData
  F_House_from_room : FunV K "from_room" "House.from_room" s_House_from_room a_House_from_room d_House_from_room
  b_House_from_room : Binds K d_House_from_room ["self", "room"] []
  a_House_door : Addr
  d_House_door : FuncData
  F_House_door : FunV K "door" "House.door" s_House_door a_House_door d_House_door
  b_House_door : Binds K d_House_door ["self", "name"] []
  a_House_lets : Addr
  d_House_lets : FuncData
  F_House_lets : FunV K "lets" "House.lets" s_House_lets a_House_lets d_House_lets
  b_House_lets : Binds K d_House_lets ["self", "name", "turn"] []
  a_House_total : Addr
  d_House_total : FuncData
  F_House_total : FunV K "total" "House.total" s_House_total a_House_total d_House_total
  b_House_total : Binds K d_House_total ["self"] []
  a_House_pairs : Addr
  d_House_pairs : FuncData
  F_House_pairs : FunV K "pairs" "House.pairs" s_House_pairs a_House_pairs d_House_pairs
  b_House_pairs : Binds K d_House_pairs ["self"] []
  m__wall : mg "_wall" = some (.ref a__wall)
  m_added_up : mg "added_up" = some (.ref a_added_up)
  m_as_told : mg "as_told" = some (.ref a_as_told)
  m_signs : mg "signs" = some (.ref a_signs)
  m_is_whole : mg "is_whole" = some (.ref a_is_whole)
  m_is_name : mg "is_name" = some (.ref a_is_name)
  m_need_name : mg "need_name" = some (.ref a_need_name)
  m_need_whole : mg "need_whole" = some (.ref a_need_whole)
  m_need_turns : mg "need_turns" = some (.ref a_need_turns)
  m_need_each_once : mg "need_each_once" = some (.ref a_need_each_once)
  m_rooms_spoken_of : mg "rooms_spoken_of" = some (.ref a_rooms_spoken_of)
  m_need_rooms : mg "need_rooms" = some (.ref a_need_rooms)
  m_added_people : mg "added_people" = some (.ref a_added_people)
  m_need_space : mg "need_space" = some (.ref a_need_space)
  m__law_cell_at : mg "_law_cell_at" = some (.ref a__law_cell_at)
  m__law_drawn : mg "_law_drawn" = some (.ref a__law_drawn)
  m__law_name : mg "_law_name" = some (.ref a__law_name)
  m__law_doors : mg "_law_doors" = some (.ref a__law_doors)
  m__law_plan : mg "_law_plan" = some (.ref a__law_plan)
  m_law : mg "law" = some (.ref a_law)
  bd_Door___init___1 : ∃ ds, Vals [.int 1] ds ∧ Binds K d_Door___init__ ["self", "name", "start", "end", "wide"] ds
  bd_Door___init___2 : ∃ ds, Vals [.non, .int 1] ds ∧ Binds K d_Door___init__ ["self", "name", "start", "end", "wide"] ds
  bd_House___init___1 : ∃ ds, Vals [.int 0] ds ∧ Binds K d_House___init__ ["self", "rooms", "doors", "people", "last", "first"] ds
  C_Door : Addr
  m_Door : mg "Door" = some (.ref C_Door)
  C_House : Addr
  m_House : mg "House" = some (.ref C_House)
  C_OutError : Addr
  m_OutError : mg "OutError" = some (.ref C_OutError)
  C_NoDoor : Addr
  m_NoDoor : mg "NoDoor" = some (.ref C_NoDoor)
  C_NoHouse : Addr
  m_NoHouse : mg "NoHouse" = some (.ref C_NoHouse)
  C_NoTurn : Addr
  m_NoTurn : mg "NoTurn" = some (.ref C_NoTurn)
  C_Twice : Addr
  m_Twice : mg "Twice" = some (.ref C_Twice)
  C_NoRoom : Addr
  m_NoRoom : mg "NoRoom" = some (.ref C_NoRoom)
  C_Unknown : Addr
  m_Unknown : mg "Unknown" = some (.ref C_Unknown)
  dc_Door : DCls K C_Door
  mk_Door : Mk K C_Door a_Door___init__
  mt_Door_lets : Meth K C_Door "lets" a_Door_lets
  mt_Door_is_exit : Meth K C_Door "is_exit" a_Door_is_exit
  mt_Door_words : Meth K C_Door "words" a_Door_words
  dc_House : DCls K C_House
  mk_House : Mk K C_House a_House___init__
  mt_House_rooms : Meth K C_House "rooms" a_House_rooms
  mt_House_doors : Meth K C_House "doors" a_House_doors
  mt_House_need_room : Meth K C_House "need_room" a_House_need_room
  mt_House_holds : Meth K C_House "holds" a_House_holds
  mt_House_found : Meth K C_House "found" a_House_found
  mt_House_into : Meth K C_House "into" a_House_into
  mt_House_from_room : Meth K C_House "from_room" a_House_from_room
  mt_House_door : Meth K C_House "door" a_House_door
  mt_House_lets : Meth K C_House "lets" a_House_lets
  mt_House_total : Meth K C_House "total" a_House_total
  mt_House_pairs : Meth K C_House "pairs" a_House_pairs
  g_ValueError : mg "ValueError" = none
  g_sorted : mg "sorted" = none
  g_any : mg "any" = none
  g_range : mg "range" = none
  g_list : mg "list" = none
  g_isinstance : mg "isinstance" = none
  g_int : mg "int" = none
  g_str : mg "str" = none
  g_all : mg "all" = none
  g_dict : mg "dict" = none
  g_len : mg "len" = none
  g_max : mg "max" = none
  g_bool : mg "bool" = none
  g_sum : mg "sum" = none
  c_LONGEST_NAME : ∃ t : Tok, mg "LONGEST_NAME" = some (.int 8 t)
local macro_rules | `(tactic| walk_at "hp") => `(tactic| first | assumption | (refine' Same.at ?s ?h; (case s => assumption); (case h => walk_at "hp")) | (refine' SqL.of ?h; (case h => walk_at "hp")) | (refine' SqT.of ?h; (case h => walk_at "hp")) | (refine' Same.seq ?s ?h; (case s => assumption); (case h => walk_at "hp")) | (refine' Same.sqT ?s ?h; (case s => assumption); (case h => walk_at "hp")))
local macro_rules | `(tactic| walk_at "sm") => `(tactic| first | assumption | exact Same.refl _ | (refine' Same.snoc ?s ?h; (case s => assumption); (case h => walk_at "sm")))
local macro_rules | `(tactic| walk_at "sb") => `(tactic| first | assumption | exact SameBut.refl | (refine' SameBut.snoc ?s ?h; (case s => assumption); (case h => walk_at "sb")) | (refine' SameBut.snocS ?s ?h; (case s => assumption); (case h => walk_at "sb")))
local macro_rules | `(tactic| walk_at "lk") => `(tactic| first | assumption | exact lk_nil | (with_reducible exact lk_same) | (refine' lk_ne ?d ?h; (case d => decide +kernel); (case h => walk_at "lk")))
local macro_rules | `(tactic| walk_at "sz") => `(tactic| first | omega | (simp only [str_app_len, one_len, ll_0, ll_1, ll_2, ll_3, ll_4, ll_5, ll_6, ll_7, ll_8, ll_9, ll_10, ll_11, ll_12, ll_13, ll_14, ll_15, sizeLine_eq, List.length_cons, List.length_nil, List.length_append, List.length_map]; done) | (simp only [str_app_len, one_len, ll_0, ll_1, ll_2, ll_3, ll_4, ll_5, ll_6, ll_7, ll_8, ll_9, ll_10, ll_11, ll_12, ll_13, ll_14, ll_15, sizeLine_eq, List.length_cons, List.length_nil, List.length_append, List.length_map]; omega) | (simp only [str_app_len, one_len, ll_0, ll_1, ll_2, ll_3, ll_4, ll_5, ll_6, ll_7, ll_8, ll_9, ll_10, ll_11, ll_12, ll_13, ll_14, ll_15, sizeLine_eq, List.length_cons, List.length_nil, List.length_append, List.length_map] at *; omega))
local macro_rules | `(tactic| walk_at "sd") => `(tactic| first | omega | decide | assumption)
local macro_rules | `(tactic| walk_at "dc") => `(tactic| first | ((with_reducible refine ICls.cl (DCls.ic ?_)); assumption) | ((with_reducible refine DCls.ic ?_); assumption) | ((with_reducible refine DCls.n_name ?_); assumption) | ((with_reducible refine DCls.n_start ?_); assumption) | ((with_reducible refine DCls.n_end ?_); assumption) | ((with_reducible refine DCls.n_wide ?_); assumption) | ((with_reducible refine DCls.n_first ?_); assumption) | ((with_reducible refine DCls.n_last ?_); assumption) | ((with_reducible refine DCls.n_sizes ?_); assumption) | ((with_reducible refine DCls.n_people ?_); assumption) | ((with_reducible refine DCls.n_named_doors ?_); assumption))
local macro_rules | `(tactic| walk_at "rd1") => `(tactic| first | (with_reducible first | refine rd_seq ?_ | refine rd_asg ?_ | refine rd_C ?_ | refine rd_op ?_ | refine rd_v0 ?_ | refine rd_v1 ?_ | refine rd_v2 ?_ | refine rd_v3 ?_ | refine rd_v4 ?_ | refine rd_v5 ?_ | refine rd_v6 ?_ | refine rd_v7 ?_ | refine rd_v8 ?_ | refine rd_v9 ?_ | refine rd_v10 ?_ | refine rd_v11 ?_ | refine rd_v12 ?_ | refine rd_cons ?_ | refine rd_nil ?_ | refine rd_I0 ?_ | refine rd_if ?_ | refine rd_test ?_ | refine rd_tB ?_ | refine rd_exb ?_ | refine rd_call ?_ | refine rd_cb ?_ | refine rd_fld ?_ | refine rd_md ?_ | refine rd_ifT ?_ | refine rd_ifF ?_ | refine rd_ifnT ?_ | refine rd_ifnF ?_ | refine rd_s0 ?_ | refine rd_s1 ?_ | refine rd_s2 ?_ | refine rd_s3 ?_ | refine rd_s4 ?_ | refine rd_s5 ?_ | refine rd_s6 ?_ | refine rd_s7 ?_ | refine rd_s8 ?_ | refine rd_s9 ?_ | refine rd_s10 ?_ | refine rd_s11 ?_ | refine rd_s12 ?_ | refine rd_ret ?_ | refine rd_next ?_ | refine rd_drop ?_ | refine rd_retN ?_ | refine rd_not ?_ | refine rd_and ?_ | refine rd_or ?_ | refine rd_andV ?_ | refine rd_orV ?_ | refine rd_notV ?_ | refine rd_ifE ?_ | refine rd_chain ?_ | refine rd_un ?_ | refine rd_U ?_ | refine rd_eqI ?_ | refine rd_eqB ?_ | refine rd_eqS ?_ | refine rd_eqSN ?_ | refine rd_eqNS ?_ | refine rd_eqNN ?_ | refine rd_neI ?_ | refine rd_neB ?_ | refine rd_neS ?_ | refine rd_neNN ?_ | refine rd_isNN ?_ | refine rd_isNS ?_ | refine rd_isNI ?_ | refine rd_isNR ?_ | refine rd_ntNN ?_ | refine rd_ntNS ?_ | refine rd_ntNI ?_ | refine rd_ntNR ?_ | refine rd_isNV ?_ | refine rd_ntNV ?_ | refine rd_lst ?_ | refine rd_tup ?_ | refine rd_sfld ?_ | refine rd_make ?_ | refine rd_comp ?_ | refine rd_sl ?_ | refine rd_bm ?_ | refine rd_bm0 ?_ | refine rd_bmS ?_ | refine rd_bm0I ?_ | refine rd_isiII ?_ | refine rd_isiIB ?_ | refine rd_isiBB ?_ | refine rd_isiBI ?_ | refine rd_isiSS ?_ | refine rd_isiNS ?_ | refine rd_max2 ?_ | refine rd_min2 ?_ | refine rd_intB ?_ | refine rd_intI ?_ | refine rd_noPart ?_ | refine rd_part ?_ | refine rd_exi ?_ | refine rd_gsub ?_ | refine rd_gnil ?_ | refine rd_gcons ?_ | refine rd_for ?_ | refine rd_iList ?_ | refine rd_iTup ?_ | refine rd_iRng1 ?_ | refine rd_iRng2 ?_ | refine rd_iStr ?_ | refine rd_iStrV ?_ | refine rd_break ?_ | refine rd_cont ?_ | refine rd_aug ?_) | ((with_reducible refine' rd_mod ?s ?_); (case s => decide)) | ((with_reducible refine' rd_modF ?s ?_); (case s => walk_at "sd"); intro h0' h1') | ((with_reducible refine' rd_repL ?e ?a ?b ?s ?_); (case e => walk_at "hp"); (case a => decide); (case b => decide); (case s => first | (simp; done) | (simp [sizeLine_eq]; done) | walk_at "sz"); intro p' H' n' S' e') | ((with_reducible refine' rd_div ?s ?r ?_); (case s => walk_at "sd"); (case r => walk_at "sd")) | ((with_reducible refine' rd_mulL ?s ?r ?_); (case s => walk_at "sd"); (case r => walk_at "sd")) | ((with_reducible refine' rd_mulR ?s ?r ?_); (case s => walk_at "sd"); (case r => walk_at "sd")) | ((with_reducible refine' rd_newL ?s ?_); (case s => walk_at "sz"); intro p' H' n' S' e') | ((with_reducible refine' rd_newT ?s ?_); (case s => walk_at "sz"); intro p' H' n' S' e') | ((with_reducible refine rd_newF ?_); intro p' H' n' S' e') | ((with_reducible refine' rd_fldV ?e ?c ?n ?l ?_); (case e => walk_at "hp"); (case c => walk_at "dc"); (case n => walk_at "dc"); (case l => walk_at "lk")) | ((with_reducible refine' rd_sfldV ?e ?c ?n ?l ?_); (case e => walk_at "hp"); (case c => walk_at "dc"); (case n => walk_at "dc"); (case l => kernel_rfl); intro H' B' e') | ((with_reducible refine' rd_mdV ?e ?l ?F ?_); (case e => walk_at "hp"); (case l => walk_at "lk"); (case F => assumption)) | ((with_reducible refine' rd_isiC ?e ?i ?k ?_); (case e => walk_at "hp"); (case i => walk_at "dc"); (case k => assumption)) | ((with_reducible refine' rd_ixL ?e ?l ?_); (case e => walk_at "hp"); (case l => rfl)) | ((with_reducible refine' rd_ix2i ?e ?s ?r ?_); (case e => walk_at "hp"); (case s => walk_at "sd"); (case r => walk_at "sd"); intro v' hv') | ((with_reducible refine' rd_ix3i ?e ?s ?r ?_); (case e => walk_at "hp"); (case s => walk_at "sd"); (case r => walk_at "sd"); intro v' hv') | ((with_reducible refine' rd_setLm ?e ?l ?_); (case e => walk_at "hp"); (case l => rfl); intro H' B' e') | ((with_reducible refine' rd_lenL ?e ?_); (case e => walk_at "hp")) | ((with_reducible refine' rd_lenS ?e ?_); (case e => walk_at "sz")) | ((with_reducible refine' rd_addS ?e ?_); (case e => walk_at "sz")) | ((with_reducible refine' rd_slS ?e ?_); (case e => walk_at "sz"); intro hl') | ((with_reducible refine' rd_slI ?e ?_); (case e => walk_at "hp"); intro p' H' n' S' e') | ((with_reducible refine' rd_slL ?e ?_); (case e => walk_at "hp"); intro p' H' n' S' e') | ((with_reducible refine' rd_catL ?e ?f ?s ?_); (case e => walk_at "hp"); (case f => walk_at "hp"); (case s => walk_at "sz"); intro p' H' n' S' e') | ((with_reducible refine' rd_listOf ?e ?_); (case e => walk_at "hp"); intro p' H' n' S' e') | ((with_reducible refine' rd_bmL ?e ?_); (case e => walk_at "hp")) | ((with_reducible refine' rd_iListV ?e ?_); (case e => walk_at "hp")) | ((with_reducible refine' rd_iRng1V ?s ?r ?_); (case s => walk_at "sd"); (case r => walk_at "sd")) | ((with_reducible refine' rd_iRng2V ?s ?r ?t ?u ?_); (case s => walk_at "sd"); (case r => walk_at "sd"); (case t => walk_at "sd"); (case u => walk_at "sd")) | ((with_reducible refine' rd_str ?s ?r ?_); (case s => walk_at "sd"); (case r => walk_at "sd"); intro hl') | ((with_reducible refine' rd_gtupL ?e ?l ?_); (case e => walk_at "hp"); (case l => rfl)) | ((with_reducible refine' rd_gtup ?e ?l ?_); (case e => walk_at "hp"); (case l => rfl)) | ((with_reducible refine' rd_ifP ?s ?_); (case s => walk_at "sd")) | ((with_reducible refine' rd_ifN ?s ?_); (case s => walk_at "sd")) | ((with_reducible refine' rd_ifnP ?s ?_); (case s => walk_at "sd")) | ((with_reducible refine' rd_ifnN ?s ?_); (case s => walk_at "sd")))
local macro_rules | `(tactic| walk_at "go") => `(tactic| repeat walk_at "rd1")
local macro_rules | `(tactic| walk_at "gs") => `(tactic| repeat ((fail_if_success (with_reducible refine rd_seqIf ?_)); walk_at "rd1"))
local macro_rules | `(tactic| walk_at "nn") => `(tactic| repeat first | exact nn_nil | refine nn_app ?_ ?_ | refine nn_cons (by omega) ?_ | exact nn_map (fun n => by omega))
section
variable {P : Program} {w : World} {K : PySem.W.Frag} {mg : Str → Option Value} {base : Heap}
/-! ### whole numbers, names -/
def wholeB : V → Bool
  | .int _ => true
  | _ => false
def sp_whole (K : PySem.W.Frag) : Sp := fun vs H Q _ => ∃ x n, vs = [x] ∧ BTy K H x n ∧ Q (.bl (wholeB x)) H
theorem r_wholeI {H : Hp} {Q : VK} {E : XK} {i : Int} (h : Q (.bl true) H) : sp_whole K [.int i] H Q E := ⟨_, _, rfl, .int i, h⟩
theorem ok_is_whole (m : M K mg) : FnOk P w K mg base CX0 1 m.a_is_whole m.d_is_whole ["thing"] (sp_whole K) := by
  refine m.F_is_whole.ok sc_is_whole (fun vs H Q E h => ?_) (fun cdv A outer s H vs Q E hr h => ?_)
  · obtain ⟨x, n, rfl, b, k⟩ := h
    rfl
  · obtain ⟨x, n, rfl, b, k⟩ := h
    have nd := sc_is_whole.nd
    have hu0 := Room.units0 hr
    have hu1 := Room.units1 hr
    refine ⟨_, (pss_one (ps_ret (pe_and (pe_callB call_isi rfl m.g_isinstance bt_isinstance (pa_cons (pv 0) (pa_cons (pe_ty rfl m.g_int bt_int) pa_nil))) (pe_one (pe_not (pe_callB call_isi rfl m.g_isinstance bt_isinstance (pa_cons (pv 0) (pa_cons (pe_ty rfl m.g_bool bt_bool) pa_nil)))))))), ?_⟩
    refine rd_start (σ := [some (x)]) rfl ?_
    refine ⟨_, rfl, _, _, _, _, _, rfl, b.ty, rfl, kit_b b "int" (.inl rfl), _, rfl, ?_⟩
    refine ite2 (fun h1 => ⟨_, rfl, _, _, _, _, _, rfl, b.ty, rfl, kit_b b "bool" (.inr (.inl rfl)), _, rfl, ?_⟩) (fun h1 => ?_)
    · cases b <;> first | exact k | exact absurd h1 (by decide)
    · cases b <;> first | exact k | exact absurd (by decide) h1
theorem fc_is_whole (m : M K mg) : Fc P w K mg base "is_whole" 1 ["thing"] (sp_whole K) := ⟨_, _, m.m_is_whole, m.F_is_whole.kp, m.b_is_whole, ok_is_whole m⟩
def nmB : V → Bool
  | .str z => nameB z
  | _ => false
def sp_name (K : PySem.W.Frag) : Sp := fun vs H Q _ => ∃ x n, vs = [x] ∧ BTy K H x n ∧ (∀ z, x = .str z → z.length ≤ 1000) ∧ ∀ H', Same H H' → Q (.bl (nmB x)) H'
theorem r_nameT {H : Hp} {Q : VK} {E : XK} {z : Str} (hz : nameB z = true) (h : ∀ H', Same H H' → Q (.bl true) H') : sp_name K [.str z] H Q E :=
  ⟨_, _, rfl, .str z, fun y e => by cases e; exact Nat.le_trans (nameB_len hz) (by decide), fun H' s => by rw [show nmB (.str z) = true from hz]; exact h H' s⟩
theorem le1 (a c : Nat) : (!decide ([c] < [a])) = decide (a ≤ c) := by
  have : ([c] < [a]) ↔ c < a := by
    constructor
    · intro h
      cases h with
      | rel h => exact h
      | cons h => cases h
    · exact fun h => .rel h
  by_cases h : c < a
  · rw [decide_eq_true (this.mpr h), decide_eq_false (by omega)]; rfl
  · rw [decide_eq_false (fun z => h (this.mp z)), decide_eq_true (by omega)]; rfl
theorem cps_a : ("a" : Str).cps.toList = [97] := by decide +kernel
theorem cps_z : ("z" : Str).cps.toList = [122] := by decide +kernel
theorem range_all {α : Type} (p : α → Bool) (d : α) : ∀ l : List α, ((List.range l.length).map fun i => p (l.getD i d)).all id = l.all p
  | [] => rfl
  | a :: l => by
    rw [List.length_cons, List.range_succ_eq_map, List.map_cons, List.all_cons, List.map_map, List.all_cons, ← range_all p d l]
    rfl
theorem same_new {H : Hp} {p : Addr} {o : HO} (h : H p = none) : Same H (upd H p o) := fun b u e => by rw [upd_ne (ne_of_none e h)]; exact e
theorem ok_is_name (m : M K mg) : FnOk P w K mg base CX0 1 m.a_is_name m.d_is_name ["thing"] (sp_name K) := by
  refine m.F_is_name.ok sc_is_name (fun vs H Q E h => ?_) (fun cdv A outer s H vs Q E hr h => ?_)
  · obtain ⟨x, n, rfl, b, hz, k⟩ := h
    rfl
  · obtain ⟨x, n, rfl, b, hz, k⟩ := h
    have nd := sc_is_name.nd
    have hu0 := Room.units0 hr
    have hu1 := Room.units1 hr
    obtain ⟨tok_LONGEST_NAME, c_LONGEST_NAME⟩ := m.c_LONGEST_NAME
    refine ⟨_, (pss_cons (ps_if (pt_not (pt_val (pe_callB call_isi rfl m.g_isinstance bt_isinstance (pa_cons (pv 0) (pa_cons (pe_ty rfl m.g_str bt_str) pa_nil))))) (pss_one (ps_ret pe_bl)) pss_nil)
      (pss_one (ps_ret (pe_and (pe_chain op_le op_le pe_int (pe_callB call_lenS rfl m.g_len bt_len (pa_cons (pv 0) pa_nil)) (pe_gint rfl c_LONGEST_NAME)) (pe_one (pe_callB (call_all rfl) rfl m.g_all bt_all (pa_cons (pe_comp (N := ["sign"]) (nl := 1) (ci := []) rfl (blk (s.heap.objs.size + 1) rfl rfl rfl (by kernel_rfl)) (pi_str (pv 0)) (fun _ _ _ _ => (pg_name (i := 0) (show (["sign"] : List Str).Nodup by decide +kernel) rfl (by first | exact Or.inl rfl | exact Or.inr rfl))) (fun _ _ _ _ => pf_nil) (fun _ _ _ _ => (pe_chain op_leS op_leS pe_str (pv 0) pe_str))) pa_nil))))))), ?_⟩
    refine rd_start (σ := [some (x)]) rfl ?_
    refine ⟨_, rfl, _, _, _, _, _, rfl, b.ty, rfl, kit_b b "str" (.inr (.inr rfl)), _, rfl, ?_⟩
    refine ite2 (fun h1 => ?_) (fun h1 => ?_)
    · show Q (.bl false) H
      cases b <;> first | exact k H (Same.refl H) | exact absurd h1 (by decide)
    · have hs : ∃ z, x = .str z := by
        cases b <;> first | exact ⟨_, rfl⟩ | exact absurd (by decide) h1
      obtain ⟨z, rfl⟩ := hs
      have hl := hz z rfl
      have hl' : z.length ≤ sizeLine := Nat.le_of_lt (small1000 hl)
      refine ⟨_, rfl, z, rfl, hl', _, _, rfl, rfl, _, rfl, ?_⟩
      refine ite2 (fun h2 => ⟨_, _, rfl, rfl, _, rfl, ?_⟩) (fun h2 => ⟨_, rfl, ?_⟩)
      · refine ite2 (fun h3 => ?_) (fun h3 => ?_)
        · refine ⟨_, rfl, z, rfl, ?_⟩
          refine comp_of z.cps.size (fun i => .bl (sgB (z.cps.toList.getD i 0))) hl' (fun H' => H' = H) rfl (fun _ _ => rfl) (fun i _ hi _ => hi) ?_ ?_ ?_ ?_ ?_
          · rintro i _ x H' hi rfl ⟨rfl, c, hc, rfl⟩
            refine ⟨⟨rfl, fun j v hv => ?_⟩, rfl, ?_⟩
            · match j, hv with
              | 0, hv => cases hv
              | j + 1, hv => cases hv
            · have hc' : z.cps.toList.getD i 0 = c := by
                rw [List.getD_eq_getElem?_getD, Array.getElem?_toList, hc]; rfl
              refine ⟨_, rfl, _, _, rfl, rfl, _, rfl, ?_⟩
              rw [cps_a, hc']
              refine ite2 (fun h4 => ⟨_, _, rfl, rfl, ?_, rfl⟩) (fun h4 => ⟨?_, rfl⟩)
              · have h4' : 97 ≤ c := by rw [show (⟨#[c]⟩ : Str).cps.toList = [c] from rfl, le1] at h4; exact of_decide_eq_true h4
                rw [cps_z, show (⟨#[c]⟩ : Str).cps.toList = [c] from rfl, le1]
                unfold sgB
                rw [decide_eq_true h4', Bool.true_and]
              · have h4' : ¬ 97 ≤ c := by rw [show (⟨#[c]⟩ : Str).cps.toList = [c] from rfl, le1] at h4; exact fun z => h4 (decide_eq_true z)
                unfold sgB
                rw [decide_eq_false h4', Bool.false_and]
          · exact fun _ _ _ _ f q => f _ _ q
          · rintro σ H Q Q' f ⟨v, e, i, j, e1, e2, k, e3, q⟩
            refine ⟨v, e, i, j, e1, e2, k, e3, ?_⟩
            revert q
            split
            · rintro ⟨i, j, e1, e2, q⟩
              exact ⟨i, j, e1, e2, f _ _ q⟩
            · exact fun q => f _ _ q
          · exact fun _ _ _ _ _ f q => f _ _ q
          · rintro _ rfl p hp
            refine ⟨p, (List.range z.cps.size).map (fun i => sgB (z.cps.toList.getD i 0)), rfl, SqL.of ?_, ?_⟩
            · rw [upd_same, List.map_map]; rfl
            · have e := range_all sgB 0 z.cps.toList
              rw [Array.length_toList] at e
              rw [e]
              have e2 : nmB (.str z) = z.cps.toList.all sgB := by
                show nameB z = _
                unfold nameB
                rw [show decide (1 ≤ (z.length : Int)) = true from h2, show decide ((z.length : Int) ≤ 8) = true from h3]; rfl
              rw [← e2]
              exact k _ (same_new hp)
        · have e2 : nmB (.str z) = false := by
            show nameB z = _
            unfold nameB
            rw [show decide ((z.length : Int) ≤ 8) = false from by simpa using h3]; simp
          have := k H (Same.refl H)
          rw [e2] at this
          exact this
      · have e2 : nmB (.str z) = false := by
          show nameB z = _
          unfold nameB
          rw [show decide (1 ≤ (z.length : Int)) = false from by simpa using h2]; simp
        have := k H (Same.refl H)
        rw [e2] at this
        exact this
theorem fc_is_name (m : M K mg) : Fc P w K mg base "is_name" 1 ["thing"] (sp_name K) := ⟨_, _, m.m_is_name, m.F_is_name.kp, m.b_is_name, ok_is_name m⟩
local macro_rules | `(tactic| walk_at "rd1") => `(tactic| first | (with_reducible refine r_wholeI ?_) | ((with_reducible refine' r_nameT ?s ?_); (case s => assumption); intro H' S'))
/-! ### doors -/
def sp_need_name (K : PySem.W.Frag) : Sp := fun vs H Q _ => ∃ (part z : Str), vs = [.str part, .str z] ∧ nameB z = true ∧ ∀ H', Same H H' → Q .non H'
theorem r_need_name {H : Hp} {Q : VK} {E : XK} {part z : Str} (hz : nameB z = true) (h : ∀ H', Same H H' → Q .non H') : sp_need_name K [.str part, .str z] H Q E := ⟨_, _, rfl, hz, h⟩
theorem ok_need_name (m : M K mg) : FnOk P w K mg base CX0 2 m.a_need_name m.d_need_name ["part", "thing"] (sp_need_name K) := by
  refine m.F_need_name.ok sc_need_name (fun vs H Q E h => ?_) (fun cdv A outer s H vs Q E hr h => ?_)
  · obtain ⟨part, z, rfl, hz, k⟩ := h
    rfl
  · obtain ⟨part, z, rfl, hz, k⟩ := h
    have nd := sc_need_name.nd
    have hu0 := Room.units0 hr
    have hu1 := Room.units1 hr
    have F_is_name := fc_is_name (P := P) (w := w) (base := base) m
    refine ⟨_, (pss_one (ps_if (pt_not (pt_val (pe_f F_is_name hr (pa_cons (pv 1) pa_nil)))) (pss_one ps_never) pss_nil)), ?_⟩
    refine rd_start (σ := [some (.str part), some (.str z)]) rfl ?_
    walk_at "go"
    exact k _ (by walk_at "sm")
theorem fc_need_name (m : M K mg) : Fc P w K mg base "need_name" 2 ["part", "thing"] (sp_need_name K) := ⟨_, _, m.m_need_name, m.F_need_name.kp, m.b_need_name, ok_need_name m⟩
def sp_need_whole (K : PySem.W.Frag) : Sp := fun vs H Q _ => ∃ (part : Str) (i l : Int), vs = [.str part, .int i, .int l] ∧ l ≤ i ∧ Q .non H
theorem r_need_whole {H : Hp} {Q : VK} {E : XK} {part : Str} {i l : Int} (hz : l ≤ i) (h : Q .non H) : sp_need_whole K [.str part, .int i, .int l] H Q E := ⟨_, _, _, rfl, hz, h⟩
theorem ok_need_whole (m : M K mg) : FnOk P w K mg base CX0 2 m.a_need_whole m.d_need_whole ["part", "thing", "least"] (sp_need_whole K) := by
  refine m.F_need_whole.ok sc_need_whole (fun vs H Q E h => ?_) (fun cdv A outer s H vs Q E hr h => ?_)
  · obtain ⟨part, i, l, rfl, hz, k⟩ := h
    rfl
  · obtain ⟨part, i, l, rfl, hz, k⟩ := h
    have nd := sc_need_whole.nd
    have hu0 := Room.units0 hr
    have hu1 := Room.units1 hr
    have F_is_whole := fc_is_whole (P := P) (w := w) (base := base) m
    refine ⟨_, (pss_one (ps_if (PW.pt (pw_or (pt_not (pt_val (pe_f F_is_whole hr (pa_cons (pv 1) pa_nil)))) (pw_or1 (pt_cmpR op_lt (pv 1) (pv 2) (nomark _))))) (pss_one ps_never) pss_nil)), ?_⟩
    refine rd_start (σ := [some (.str part), some (.int i), some (.int l)]) rfl ?_
    walk_at "go"
    exact k
theorem fc_need_whole (m : M K mg) : Fc P w K mg base "need_whole" 2 ["part", "thing", "least"] (sp_need_whole K) := ⟨_, _, m.m_need_whole, m.F_need_whole.kp, m.b_need_whole, ok_need_whole m⟩
local macro_rules | `(tactic| walk_at "rd1") => `(tactic| first | ((with_reducible refine' r_need_name ?s ?_); (case s => assumption); intro H' S') | ((with_reducible refine' r_need_whole ?s ?_); (case s => walk_at "sd")))
abbrev doorFs (n s e w : V) : List (Str × V) := putF "wide" w (putF "end" e (putF "start" s (putF "name" n [])))
/-- where a door leads: out, or to a name -/
def EndOk (e : V) : Prop := e = .non ∨ ∃ z, e = .str z ∧ nameB z = true
def sp_Door_init (K : PySem.W.Frag) : Sp := fun vs H Q _ => ∃ (p C dx : Addr) (n s : Str) (e : V) (wd : Int), vs = [.ref p, .str n, .str s, e, .int wd] ∧ DCls K C ∧ H p = some (.ins C dx []) ∧ nameB n = true ∧ nameB s = true ∧ EndOk e ∧ 0 ≤ wd ∧
  ∀ H', SameBut p H H' → H' p = some (.ins C dx (doorFs (.str n) (.str s) e (.int wd))) → Q .non H'
theorem r_Door_init {H : Hp} {Q : VK} {E : XK} {p C dx : Addr} {n s : Str} {e : V} {wd : Int} (dc : DCls K C) (hp : H p = some (.ins C dx [])) (hn : nameB n = true) (hs : nameB s = true) (he : EndOk e) (hw : 0 ≤ wd)
    (k : ∀ H', SameBut p H H' → H' p = some (.ins C dx (doorFs (.str n) (.str s) e (.int wd))) → Q .non H') : sp_Door_init K [.ref p, .str n, .str s, e, .int wd] H Q E := ⟨_, _, _, _, _, _, _, rfl, dc, hp, hn, hs, he, hw, k⟩
theorem ok_Door___init__ (m : M K mg) : FnOk P w K mg base CX0 3 m.a_Door___init__ m.d_Door___init__ ["self", "name", "start", "end", "wide"] (sp_Door_init K) := by
  refine m.F_Door___init__.ok sc_Door___init__ (fun vs H Q E h => ?_) (fun cdv A outer s H vs Q E hr h => ?_)
  · obtain ⟨p, C, dx, n, st, e, wd, rfl, dc, hp, hn, hs, he, hw, k⟩ := h
    rfl
  · obtain ⟨p, C, dx, n, st, e, wd, rfl, dc, hp, hn, hs, he, hw, k⟩ := h
    have nd := sc_Door___init__.nd
    have hu0 := Room.units0 hr
    have hu1 := Room.units1 hr
    have F_need_name := fc_need_name (P := P) (w := w) (base := base) m
    have F_need_whole := fc_need_whole (P := P) (w := w) (base := base) m
    refine ⟨_, (pss_cons (ps_expr (pe_f F_need_name hr (pa_cons pe_str (pa_cons (pv 1) pa_nil))))
      (pss_cons (ps_expr (pe_f F_need_name hr (pa_cons pe_str (pa_cons (pv 2) pa_nil))))
      (pss_cons (ps_if (pt_cmpR op_notn (pv 3) pe_non (nomark _)) (pss_one (ps_expr (pe_f F_need_name hr (pa_cons pe_str (pa_cons (pv 3) pa_nil))))) pss_nil)
      (pss_cons (ps_expr (pe_f F_need_whole hr (pa_cons pe_str (pa_cons (pv 4) (pa_cons pe_int pa_nil)))))
      (pss_cons (ps_fld (pv 0) (pv 1) rfl)
      (pss_cons (ps_fld (pv 0) (pv 2) rfl)
      (pss_cons (ps_fld (pv 0) (pv 3) rfl)
      (pss_one (ps_fld (pv 0) (pv 4) rfl))))))))), ?_⟩
    refine rd_start (σ := [some (.ref p), some (.str n), some (.str st), some (e), some (.int wd)]) rfl ?_
    rcases he with rfl | ⟨z, rfl, hz⟩
    · walk_at "go"
      exact k _ (by walk_at "sb") (by assumption)
    · walk_at "go"
      exact k _ (by walk_at "sb") (by assumption)
theorem kc_Door_1 (m : M K mg) : Kc P w K mg base "Door" m.C_Door 3 [.int 1] (sp_Door_init K) := by
  obtain ⟨ds, h1, h2⟩ := m.bd_Door___init___1
  exact ⟨_, _, _, _, m.m_Door, m.mk_Door, h1, h2, ok_Door___init__ m⟩
theorem r_mkDoor {H : Hp} {Q : VK} {E : XK} {C : Addr} {vs dvs : List V} {n s : Str} {e : V} {wd : Int} (ev : vs ++ dvs = [.str n, .str s, e, .int wd]) (dc : DCls K C) (hn : nameB n = true) (hs : nameB s = true) (he : EndOk e) (hw : 0 ≤ wd)
    (k : ∀ p dx H', H p = none → Same H H' → H' p = some (.ins C dx (doorFs (.str n) (.str s) e (.int wd))) → Q (.ref p) H') : MakeP C (sp_Door_init K) dvs E Q vs H :=
  rd_makeV (fun p dx H0 Q' h k' s0 => by rw [ev]; exact r_Door_init dc h hn hs he hw k') k
local macro_rules | `(tactic| walk_at "rd1") => `(tactic| ((with_reducible refine' r_mkDoor ?v ?d ?hn ?hs ?he ?hw ?_); (case v => rfl); (case d => assumption); (case hn => assumption); (case hs => assumption); (case he => first | assumption | exact .inl rfl | exact .inr ⟨_, rfl, by assumption⟩); (case hw => walk_at "sd"); intro p' dx' H' n' S' e'))
def sp_exit (K : PySem.W.Frag) : Sp := fun vs H Q _ => ∃ (p C dx : Addr) (fs : List (Str × V)) (e : V), vs = [.ref p] ∧ DCls K C ∧ H p = some (.ins C dx fs) ∧ fs.lookup ("end" : Str) = some e ∧ Q (.bl (decide (e = .non))) H
theorem r_exitN {H : Hp} {Q : VK} {E : XK} {p C dx : Addr} {fs : List (Str × V)} (hp : H p = some (.ins C dx fs)) (dc : DCls K C) (l : fs.lookup ("end" : Str) = some .non) (k : Q (.bl true) H) : sp_exit K [.ref p] H Q E := ⟨_, _, _, _, _, rfl, dc, hp, l, k⟩
theorem r_exitS {H : Hp} {Q : VK} {E : XK} {p C dx : Addr} {fs : List (Str × V)} {z : Str} (hp : H p = some (.ins C dx fs)) (dc : DCls K C) (l : fs.lookup ("end" : Str) = some (.str z)) (k : Q (.bl false) H) : sp_exit K [.ref p] H Q E :=
  ⟨_, _, _, _, _, rfl, dc, hp, l, by rw [decide_eq_false (fun z => by cases z)]; exact k⟩
theorem ok_Door_is_exit (m : M K mg) : FnOk P w K mg base CX0 1 m.a_Door_is_exit m.d_Door_is_exit ["self"] (sp_exit K) := by
  refine m.F_Door_is_exit.ok sc_Door_is_exit (fun vs H Q E h => ?_) (fun cdv A outer s H vs Q E hr h => ?_)
  · obtain ⟨p, C, dx, fs, e, rfl, dc, hp, l, k⟩ := h
    rfl
  · obtain ⟨p, C, dx, fs, e, rfl, dc, hp, l, k⟩ := h
    have nd := sc_Door_is_exit.nd
    have hu0 := Room.units0 hr
    have hu1 := Room.units1 hr
    refine ⟨_, (pss_one (ps_ret (pe_cmpR op_isn (pe_fld (pv 0) rfl) pe_non (nomark _)))), ?_⟩
    refine rd_start (σ := [some (.ref p)]) rfl ?_
    walk_at "go"
    exact k
theorem mc_Door_is_exit (m : M K mg) : Mc P w K mg base m.C_Door "is_exit" 1 (sp_exit K) := ⟨_, _, _, m.dc_Door.ic.cl, m.mt_Door_is_exit, m.b_Door_is_exit, ok_Door_is_exit m⟩
local macro_rules | `(tactic| walk_at "rd1") => `(tactic| first | ((with_reducible refine' r_exitN ?e ?d ?l ?_); (case e => walk_at "hp"); (case d => assumption); (case l => walk_at "lk")) | ((with_reducible refine' r_exitS ?e ?d ?l ?_); (case e => walk_at "hp"); (case d => assumption); (case l => walk_at "lk")))

local macro_rules | `(tactic| walk_at "rd1") => `(tactic| first | (with_reducible refine rd_dput ?_) | (with_reducible refine rd_dget ?_) | (with_reducible refine rd_din ?_) | (with_reducible refine rd_dnotin ?_) | (with_reducible refine rd_iKeysK ?_) | (with_reducible refine rd_iItemsK ?_) | (with_reducible refine rd_iItemsT ?_) | (with_reducible refine rd_dget2 ?_) | ((with_reducible refine rd_dnewK ?_); intro p' H' n' S' e') | ((with_reducible refine rd_dnewT ?_); intro p' H' n' S' e'))
theorem rd_append {H : Hp} {Q : VK} {l : Addr} {xs : List V} {y : V} (e : H l = some (.lst xs)) (hz : xs.length < sizeLine) (h : ∀ H', SameBut l H H' → H' l = some (.lst (xs ++ [y])) → Q .non H') : rAppend (.ref l) [y] H Q :=
  ⟨l, xs, y, rfl, rfl, e, hz, h _ SameBut.upd upd_same⟩
/-! ### a house: what is asked of its parts -/
def sp_turns : Sp := fun vs H Q _ => ∃ (f l : Int), vs = [.int f, .int l] ∧ 0 ≤ f ∧ f ≤ l ∧ Q .non H
theorem r_turns {H : Hp} {Q : VK} {E : XK} {f l : Int} (h0 : 0 ≤ f) (h1 : f ≤ l) (h : Q .non H) : sp_turns [.int f, .int l] H Q E := ⟨_, _, rfl, h0, h1, h⟩
theorem ok_need_turns (m : M K mg) : FnOk P w K mg base CX0 1 m.a_need_turns m.d_need_turns ["first", "last"] (sp_turns) := by
  refine m.F_need_turns.ok sc_need_turns (fun vs H Q E h => ?_) (fun cdv A outer s H vs Q E hr h => ?_)
  · obtain ⟨f, l, rfl, h0, h1, k⟩ := h
    rfl
  · obtain ⟨f, l, rfl, h0, h1, k⟩ := h
    have nd := sc_need_turns.nd
    have hu0 := Room.units0 hr
    have hu1 := Room.units1 hr
    refine ⟨_, (pss_cons (ps_if (pt_cmpR op_lt (pv 0) pe_int (nomark _)) (pss_one ps_never) pss_nil)
      (pss_one (ps_if (pt_cmpR op_lt (pv 1) (pv 0) (nomark _)) (pss_one ps_never) pss_nil))), ?_⟩
    refine rd_start (σ := [some (.int f), some (.int l)]) rfl ?_
    walk_at "go"
    exact k
theorem fc_need_turns (m : M K mg) : Fc P w K mg base "need_turns" 1 ["first", "last"] (sp_turns) := ⟨_, _, m.m_need_turns, m.F_need_turns.kp, m.b_need_turns, ok_need_turns m⟩
def sp_once (K : PySem.W.Frag) : Sp := fun vs H Q _ => ∃ (a : Addr) (ss : List Str), vs = [.ref a] ∧ SqL K H a (ss.map V.str) ∧ ss.Nodup ∧ ss.length ≤ 100 ∧ ∀ H', Same H H' → Q .non H'
theorem r_once {H : Hp} {Q : VK} {E : XK} {a : Addr} {ss : List Str} (hS : SqL K H a (ss.map V.str)) (nd : ss.Nodup) (hl : ss.length ≤ 100) (h : ∀ H', Same H H' → Q .non H') : sp_once K [.ref a] H Q E := ⟨_, _, rfl, hS, nd, hl, h⟩
theorem take_new {α : Type} {ss : List α} (nd : ss.Nodup) {i : Nat} {z : α} (hz : ss[i]? = some z) : z ∉ ss.take i := fun h => by
  obtain ⟨hi, e⟩ := List.getElem?_eq_some_iff.mp hz
  obtain ⟨j, hj, ej⟩ := List.getElem_of_mem h
  rw [List.length_take] at hj
  rw [List.getElem_take] at ej
  exact (List.pairwise_iff_getElem.mp nd) j i (by omega) hi (by omega) (ej.trans e.symm)
theorem take_succ' {α : Type} {ss : List α} {i : Nat} {z : α} (hz : ss[i]? = some z) : ss.take (i + 1) = ss.take i ++ [z] := by rw [List.take_succ, hz]; rfl
theorem ok_need_each_once (m : M K mg) : FnOk P w K mg base CX0 1 m.a_need_each_once m.d_need_each_once ["names"] (sp_once K) := by
  refine m.F_need_each_once.ok sc_need_each_once (fun vs H Q E h => ?_) (fun cdv A outer s H vs Q E hr h => ?_)
  · obtain ⟨a, ss, rfl, hS, hnd, hlen, k⟩ := h
    rfl
  · obtain ⟨a, ss, rfl, hS, hnd, hlen, k⟩ := h
    have nd := sc_need_each_once.nd
    have hu0 := Room.units0 hr
    have hu1 := Room.units1 hr
    refine ⟨_, (pss_cons (ps_set (i := 1) nd rfl (by first | exact Or.inl rfl | exact Or.inr rfl) pe_dnewK)
      (pss_one (ps_for PassesOwn.never rfl (pi_list (pv 0)) (pg_name (i := 2) nd rfl (by first | exact Or.inl rfl | exact Or.inr rfl)) (pss_cons (ps_if (pt_cmp (pc_din hu1 (pv 2) (pv 1)) (by with_unfolding_all rfl)) (pss_one ps_never) pss_nil)
      (pss_one (ps_dput hu1 (pv 1) (pv 2) pe_bl rfl)))))), ?_⟩
    refine rd_start (σ := [some (.ref a), none, none]) rfl ?_
    walk_at "go"
    rename_i p H1 n1 S1 e1
    refine rd_forL (ss.map V.str) (fun i σ' H' => SameBut p H1 H' ∧ ∃ kvs, H' p = some (.dK kvs) ∧ kvs.length ≤ i ∧ (∀ z, (valV kvs (.inr z)).isSome = true → z ∈ ss.take i) ∧ ∃ x, σ' = [some (.ref a), some (.ref p), x]) ⟨SameBut.refl, [], e1, Nat.le_refl _, (fun z h => by cases h), _, rfl⟩ (fun i σ' H' _ q => (SameBut.same n1 S1 q.1).seq hS) ?_ ?_
    · rintro i x _ H' hx ⟨sb, kvs, ek, hk, hin, y, rfl⟩
      rw [List.getElem?_map] at hx
      obtain ⟨z, hz, rfl⟩ := Option.map_eq_some_iff.mp hx
      have hi : i < ss.length := (List.getElem?_eq_some_iff.mp hz).1
      have hno : (valV kvs (.inr z)).isSome = false := by
        cases e : (valV kvs (.inr z)).isSome with
        | false => rfl
        | true => exact absurd (hin z e) (take_new hnd hz)
      walk_at "go"
      refine rd_dinS (.inl ek) ?_
      rw [hno]
      walk_at "go"
      refine rd_dputS ek (by rw [sizeLine_eq]; omega) fun H9 B9 e9 => ?_
      refine ⟨by walk_at "sb", _, e9, Nat.le_trans (length_putK _ _ _) (by omega), fun y hy => ?_, _, rfl⟩
      rw [valV_put] at hy
      rw [take_succ' hz]
      by_cases e : (Sum.inr y : Key) = .inr z
      · cases e; exact List.mem_append_right _ (.head _)
      · rw [if_neg e] at hy
        exact List.mem_append_left _ (hin y hy)
    · rintro _ H' ⟨sb, kvs, ek, hk, hin, y, rfl⟩
      exact k _ (SameBut.same n1 S1 sb)
theorem fc_need_each_once (m : M K mg) : Fc P w K mg base "need_each_once" 1 ["names"] (sp_once K) := ⟨_, _, m.m_need_each_once, m.F_need_each_once.kp, m.b_need_each_once, ok_need_each_once m⟩
/-- a door as it was made -/
abbrev DoorD := Str × Str × V
def DoorAt (C : Addr) (H : Hp) (v : V) (d : DoorD) : Prop := ∃ p dx, v = .ref p ∧ H p = some (.ins C dx (doorFs (.str d.1) (.str d.2.1) d.2.2 (.int 1)))
theorem DoorAt.same {C : Addr} {H H' : Hp} {v : V} {d : DoorD} (h : DoorAt C H v d) (s : Same H H') : DoorAt C H' v d := let ⟨p, dx, e, q⟩ := h; ⟨p, dx, e, s _ _ q⟩
/-- the rooms that a door speaks of are among rs -/
def DoorIn (rs : List Str) (d : DoorD) : Prop := d.2.1 ∈ rs ∧ (d.2.2 = .non ∨ ∃ z, d.2.2 = .str z ∧ z ∈ rs)
def sp_spoken (K : PySem.W.Frag) (C : Addr) : Sp := fun vs H Q _ => ∃ (a b : Addr) (us : List V) (ds : List DoorD) (rs : List Str), vs = [.ref a, .ref b] ∧ SqL K H a us ∧ Paired (DoorAt C H) us ds ∧ (∀ d ∈ ds, DoorIn rs d) ∧ ds.length ≤ 20 ∧ SqL K H b [] ∧ ∀ p (ss : List Str) H', Same H H' → H' p = some (.lst (ss.map V.str)) → (∀ z ∈ ss, z ∈ rs) → ss.length ≤ 40 → Q (.ref p) H'
theorem r_spoken {C : Addr} {H : Hp} {Q : VK} {E : XK} {a b : Addr} {us : List V} {ds : List DoorD} {rs : List Str} (hS : SqL K H a us) (hd : Paired (DoorAt C H) us ds) (hr : ∀ d ∈ ds, DoorIn rs d) (hl : ds.length ≤ 20) (hb : SqL K H b []) (h : ∀ p (ss : List Str) H', Same H H' → H' p = some (.lst (ss.map V.str)) → (∀ z ∈ ss, z ∈ rs) → ss.length ≤ 40 → Q (.ref p) H') : sp_spoken K C [.ref a, .ref b] H Q E := ⟨_, _, _, _, _, rfl, hS, hd, hr, hl, hb, h⟩
theorem ok_rooms_spoken_of (m : M K mg) : FnOk P w K mg base CX0 2 m.a_rooms_spoken_of m.d_rooms_spoken_of ["doors", "people"] (sp_spoken K m.C_Door) := by
  refine m.F_rooms_spoken_of.ok sc_rooms_spoken_of (fun vs H Q E h => ?_) (fun cdv A outer s H vs Q E hr h => ?_)
  · obtain ⟨a, b, us, ds, rs, rfl, hS, hd, hr', hlen, hb, k⟩ := h
    rfl
  · obtain ⟨a, b, us, ds, rs, rfl, hS, hd, hr', hlen, hb, k⟩ := h
    have nd := sc_rooms_spoken_of.nd
    have hu0 := Room.units0 hr
    have hu1 := Room.units1 hr
    have w_mc_Door_is_exit := mc_Door_is_exit (P := P) (w := w) (base := base) m
    have w_dc_Door := m.dc_Door
    refine ⟨_, (pss_cons (ps_set (i := 2) nd rfl (by first | exact Or.inl rfl | exact Or.inr rfl) (pe_lst pa_nil))
      (pss_cons (ps_for PassesOwn.never rfl (pi_list (pv 0)) (pg_name (i := 3) nd rfl (by first | exact Or.inl rfl | exact Or.inr rfl)) (pss_cons (ps_expr (pe_bm PySem.F.plainAttrs_list PySem.F.slot_list_append PySem.F.type_list_append mt_append (pv 2) (pa_cons (pe_fld (pv 3) rfl) pa_nil)))
      (pss_one (ps_if (pt_not (pt_val (pe_md0 1 hr (pv 3)))) (pss_one (ps_expr (pe_bm PySem.F.plainAttrs_list PySem.F.slot_list_append PySem.F.type_list_append mt_append (pv 2) (pa_cons (pe_fld (pv 3) rfl) pa_nil)))) pss_nil))))
      (pss_one (ps_ret (pe_op op_cat (pv 2) (pe_comp (N := ["room", "number"]) (nl := 2) (ci := []) rfl (blk (s.heap.objs.size + 1) rfl rfl rfl (by kernel_rfl)) (pi_list (pv 1)) (fun _ _ _ _ => (pg_tupK (K := K) (n := 2) rfl (pgs_cons (pg_name (i := 0) (show (["room", "number"] : List Str).Nodup by decide +kernel) rfl (by first | exact Or.inl rfl | exact Or.inr rfl)) (pgs_cons (pg_name (i := 1) (show (["room", "number"] : List Str).Nodup by decide +kernel) rfl (by first | exact Or.inl rfl | exact Or.inr rfl)) pgs_nil)))) (fun _ _ _ _ => pf_nil) (fun _ _ _ _ => (pv 0)))))))), ?_⟩
    refine rd_start (σ := [some (.ref a), some (.ref b), none, none]) rfl ?_
    have hul : us.length = ds.length := Paired.length hd
    walk_at "go"
    rename_i p H1 n1 S1 e1
    refine rd_forL us (fun i σ' H' => SameBut p H1 H' ∧ (∃ ss : List Str, H' p = some (.lst (ss.map V.str)) ∧ (∀ z ∈ ss, z ∈ rs) ∧ ss.length ≤ 2 * i) ∧ ∃ x, σ' = [some (.ref a), some (.ref b), some (.ref p), x]) ⟨SameBut.refl, ⟨[], e1, (fun _ z => nomatch z), Nat.le_refl _⟩, _, rfl⟩ (fun i σ' H' _ q => (SameBut.same n1 S1 q.1).seq hS) ?_ ?_
    · rintro i x _ H' hx ⟨sb, ⟨ss, es, hin, hsl⟩, y, rfl⟩
      have hi : i < us.length := (List.getElem?_eq_some_iff.mp hx).1
      obtain ⟨d, hdx⟩ : ∃ d, ds[i]? = some d := ⟨_, List.getElem?_eq_getElem (by omega)⟩
      obtain ⟨q, dx, rfl, hq⟩ := Paired.at2 hd hx hdx
      obtain ⟨n, st, e⟩ := d
      obtain ⟨r1, r2⟩ := hr' _ (List.mem_of_getElem? hdx)
      have hqp : q ≠ p := fun z => by rw [z, n1] at hq; cases hq
      have hq' : H' q = some (.ins m.C_Door dx (doorFs (.str n) (.str st) e (.int 1))) := sb _ _ (S1 _ _ hq) hqp
      rcases r2 with r2 | ⟨z, r2, r3⟩
      · subst r2
        walk_at "go"
        refine rd_append es (by rw [sizeLine_eq, List.length_map]; omega) fun H8 B8 e8 => ?_
        have hq8 := B8 _ _ hq' hqp
        walk_at "go"
        exact ⟨by walk_at "sb", ⟨ss ++ [st], by rw [e8, List.map_append]; rfl, fun z hz => (List.mem_append.mp hz).elim (hin z) (fun w => by cases List.mem_singleton.mp w; exact r1), by rw [List.length_append]; show ss.length + 1 ≤ _; omega⟩, _, rfl⟩
      · subst r2
        walk_at "go"
        refine rd_append es (by rw [sizeLine_eq, List.length_map]; omega) fun H8 B8 e8 => ?_
        have hq8 := B8 _ _ hq' hqp
        walk_at "go"
        refine rd_append e8 (by rw [sizeLine_eq, List.length_append, List.length_map]; show ss.length + 1 < _; omega) fun H9 B9 e9 => ?_
        walk_at "go"
        refine ⟨by walk_at "sb", ⟨ss ++ [st] ++ [z], by rw [e9, List.map_append, List.map_append]; rfl, fun z hz => ?_, by rw [List.length_append, List.length_append]; show ss.length + 1 + 1 ≤ _; omega⟩, _, rfl⟩
        rcases List.mem_append.mp hz with hz | hz
        · exact (List.mem_append.mp hz).elim (hin z) (fun w => by cases List.mem_singleton.mp w; exact r1)
        · cases List.mem_singleton.mp hz; exact r3
    · rintro _ H' ⟨sb, ⟨ss, es, hin, hsl⟩, y, rfl⟩
      have sH : Same H H' := SameBut.same n1 S1 sb
      have hb' := sH.seq hb
      walk_at "go"
      refine comp_L2 (α := Unit) (xs := []) (vs := []) (fun _ => .non) (fun _ => .non) (fun _ => true) (fun _ _ _ => True) (fun _ _ _ _ _ _ => trivial) (Nat.zero_le _) (rest := []) (by rfl) hb' .nil (fun _ _ z => nomatch z) (fun _ _ z => nomatch z) ?_
      intro ys H2 s2 hp
      cases hp
      walk_at "go"
      rename_i q H3 n3 S3 e3 q4 H4 n4 S4 e4
      exact k _ ss _ (by walk_at "sm") (by rw [e4, List.append_nil]) hin (by omega)
theorem fc_rooms_spoken_of (m : M K mg) : Fc P w K mg base "rooms_spoken_of" 2 ["doors", "people"] (sp_spoken K m.C_Door) := ⟨_, _, m.m_rooms_spoken_of, m.F_rooms_spoken_of.kp, m.b_rooms_spoken_of, ok_rooms_spoken_of m⟩
def sp_rooms (K : PySem.W.Frag) : Sp := fun vs H Q _ => ∃ (a b : Addr) (ss : List Str) (kvs : List (Key × V)), vs = [.ref a, .ref b] ∧ SqL K H a (ss.map V.str) ∧ Rd H b (.dK kvs) ∧ (∀ z ∈ ss, (valV kvs (.inr z)).isSome = true) ∧ ∀ H', Same H H' → Q .non H'
theorem r_rooms {H : Hp} {Q : VK} {E : XK} {a b : Addr} {ss : List Str} {kvs : List (Key × V)} (hS : SqL K H a (ss.map V.str)) (hb : Rd H b (.dK kvs)) (hk : ∀ z ∈ ss, (valV kvs (.inr z)).isSome = true) (h : ∀ H', Same H H' → Q .non H') : sp_rooms K [.ref a, .ref b] H Q E := ⟨_, _, _, _, rfl, hS, hb, hk, h⟩
theorem same_rd {H H' : Hp} {a : Addr} {u : HO} (s : Same H H') (r : Rd H a u) : Rd H' a u := r.elim (fun e => .inl (s _ _ e)) fun ⟨o, e⟩ => .inr ⟨o, s _ _ e⟩
theorem ok_need_rooms (m : M K mg) : FnOk P w K mg base CX0 1 m.a_need_rooms m.d_need_rooms ["names", "sizes"] (sp_rooms K) := by
  refine m.F_need_rooms.ok sc_need_rooms (fun vs H Q E h => ?_) (fun cdv A outer s H vs Q E hr h => ?_)
  · obtain ⟨a, b, ss, kvs, rfl, hS, hb, hk, k⟩ := h
    rfl
  · obtain ⟨a, b, ss, kvs, rfl, hS, hb, hk, k⟩ := h
    have nd := sc_need_rooms.nd
    have hu0 := Room.units0 hr
    have hu1 := Room.units1 hr
    refine ⟨_, (pss_one (ps_for PassesOwn.never rfl (pi_list (pv 0)) (pg_name (i := 2) nd rfl (by first | exact Or.inl rfl | exact Or.inr rfl)) (pss_one (ps_if (pt_cmp (pc_dnotin hu1 (pv 2) (pv 1)) (by with_unfolding_all rfl)) (pss_one ps_never) pss_nil)))), ?_⟩
    refine rd_start (σ := [some (.ref a), some (.ref b), none]) rfl ?_
    walk_at "go"
    refine rd_forL (ss.map V.str) (fun i σ' H' => Same H H' ∧ ∃ x, σ' = [some (.ref a), some (.ref b), x]) ⟨Same.refl _, _, rfl⟩ (fun i σ' H' _ q => q.1.seq hS) ?_ ?_
    · rintro i x _ H' hx ⟨s1, y, rfl⟩
      rw [List.getElem?_map] at hx
      obtain ⟨z, hz, rfl⟩ := Option.map_eq_some_iff.mp hx
      have hz' := hk z (List.mem_of_getElem? hz)
      walk_at "go"
      refine rd_dnotinS (same_rd s1 hb) ?_
      rw [hz']
      walk_at "go"
      exact ⟨s1, _, rfl⟩
    · rintro _ H' ⟨s1, y, rfl⟩
      exact k _ s1
theorem fc_need_rooms (m : M K mg) : Fc P w K mg base "need_rooms" 1 ["names", "sizes"] (sp_rooms K) := ⟨_, _, m.m_need_rooms, m.F_need_rooms.kp, m.b_need_rooms, ok_need_rooms m⟩

/-! ### the sizes -/
def szK (rs : List Str) : List (Key × V) := rs.map fun z => ((.inr z : Key), V.int 5)
theorem valV_sz {rs : List Str} {z : Str} (h : z ∈ rs) : valV (szK rs) (.inr z) = some (.int 5) := by
  induction rs with
  | nil => nomatch h
  | cons a rs ih =>
    by_cases e : (Sum.inr a : Key) = .inr z
    · exact valV_pos e
    · have h1 : valV (szK (a :: rs)) (.inr z) = valV (szK rs) (.inr z) := valV_neg e
      rw [h1]
      rcases List.mem_cons.mp h with h | h
      · exact absurd (by rw [h]) e
      · exact ih h
theorem valV_none {kvs : List (Key × V)} {k : Key} (h : ∀ e ∈ kvs, e.1 ≠ k) : valV kvs k = none := by
  induction kvs with
  | nil => rfl
  | cons a l ih =>
    rw [valV_neg (h a (.head _))]
    exact ih fun e he => h e (List.mem_cons_of_mem _ he)
theorem merge_app : ∀ (ps kvs : List (Key × V)), (ps.map (·.1)).Nodup → (∀ e ∈ kvs, ∀ q ∈ ps, e.1 ≠ q.1) → mergeK kvs ps = kvs ++ ps
  | [], kvs, _, _ => (List.append_nil _).symm
  | (k, v) :: ps, kvs, nd, h => by
    have nd' := List.pairwise_cons.mp nd
    show mergeK (putK kvs k v) ps = _
    rw [putK_new v (valV_none fun e he => h e he _ (.head _)), merge_app ps _ nd'.2, List.append_assoc]
    · rfl
    · intro e he q hq
      rcases List.mem_append.mp he with he | he
      · exact h e he q (List.mem_cons_of_mem _ hq)
      · cases List.mem_singleton.mp he
        exact nd'.1 q.1 (List.mem_map.mpr ⟨q, hq, rfl⟩)
theorem sz_keys (rs : List Str) : (szK rs).map (·.1) = rs.map (Sum.inr : Str → Key) := by unfold szK; rw [List.map_map]; rfl
theorem inr_nodup {rs : List Str} (nd : rs.Nodup) : (rs.map (Sum.inr : Str → Key)).Nodup := by
  rw [List.Nodup, List.pairwise_map]
  exact List.Pairwise.imp (fun h z => h (Sum.inr.inj z)) nd
theorem merge_sz {rs : List Str} (nd : rs.Nodup) : mergeK [] (szK rs) = szK rs := by
  rw [merge_app _ _ (by rw [sz_keys]; exact inr_nodup nd) (fun e he => absurd he (List.not_mem_nil))]; rfl
def sp_added (K : PySem.W.Frag) : Sp := fun vs H Q _ => ∃ (a b : Addr) (rs : List Str), vs = [.ref a, .ref b] ∧ H a = some (.dK (szK rs)) ∧ SqL K H b [] ∧ rs.length ≤ 100 ∧ ∀ p H' kvs, H p = none → Same H H' → H' p = some (.dK kvs) → (∀ z ∈ rs, valV kvs (.inr z) = some (.int 0)) → Q (.ref p) H'
theorem r_added {H : Hp} {Q : VK} {E : XK} {a b : Addr} {rs : List Str} (ha : H a = some (.dK (szK rs))) (hb : SqL K H b []) (hl : rs.length ≤ 100) (h : ∀ p H' kvs, H p = none → Same H H' → H' p = some (.dK kvs) → (∀ z ∈ rs, valV kvs (.inr z) = some (.int 0)) → Q (.ref p) H') : sp_added K [.ref a, .ref b] H Q E := ⟨_, _, _, rfl, ha, hb, hl, h⟩
theorem nf_dK {kvs : List (Key × V)} : ∀ (o : Obj) (x : HO), HO.dK kvs ≠ .frz o x := fun _ _ z => by cases z
theorem ok_added_people (m : M K mg) : FnOk P w K mg base CX0 1 m.a_added_people m.d_added_people ["sizes", "people"] (sp_added K) := by
  refine m.F_added_people.ok sc_added_people (fun vs H Q E h => ?_) (fun cdv A outer s H vs Q E hr h => ?_)
  · obtain ⟨a, b, rs, rfl, ha, hb, hlen, k⟩ := h
    rfl
  · obtain ⟨a, b, rs, rfl, ha, hb, hlen, k⟩ := h
    have nd := sc_added_people.nd
    have hu0 := Room.units0 hr
    have hu1 := Room.units1 hr
    refine ⟨_, (pss_cons (ps_set (i := 2) nd rfl (by first | exact Or.inl rfl | exact Or.inr rfl) pe_dnewK)
      (pss_cons (ps_thaw (ps_for PassesOwn.never rfl (pi_keysK (pv 0)) (pg_name (i := 3) nd rfl (by first | exact Or.inl rfl | exact Or.inr rfl)) (pss_one (ps_dput hu1 (pv 2) (pv 3) pe_int rfl))))
      (pss_cons (ps_for PassesOwn.never rfl (pi_list (pv 1)) (pg_tup rfl (pgs_cons (pg_name (i := 3) nd rfl (by first | exact Or.inl rfl | exact Or.inr rfl)) (pgs_cons (pg_name (i := 4) nd rfl (by first | exact Or.inl rfl | exact Or.inr rfl)) pgs_nil))) (pss_one ps_never))
      (pss_one (ps_ret (pv 2)))))), ?_⟩
    refine rd_start (σ := [some (.ref a), some (.ref b), none, none, none]) rfl ?_
    walk_at "go"
    rename_i p H1 n1 S1 e1
    have hap : a ≠ p := fun z => by rw [z, n1] at ha; cases ha
    have ha1 := S1 _ _ ha
    refine rd_sThaw ha1 nf_dK ?_
    walk_at "go"
    refine rd_keysK ha1 fun o H2 B2 e2 => ?_
    have ep2 : H2 p = some (.dK []) := B2 _ _ e1 (Ne.symm hap)
    refine rd_forKs (szK rs) (fun i σ' H' => SameBut p H2 H' ∧ ∃ kvs, H' p = some (.dK kvs) ∧ kvs.length ≤ i ∧ (∀ z ∈ rs.take i, valV kvs (.inr z) = some (.int 0)) ∧ ∃ x, σ' = [some (.ref a), some (.ref b), some (.ref p), x, none]) ⟨SameBut.refl, [], ep2, Nat.le_refl _, (fun z h => by cases h), _, rfl⟩ (fun i σ' H' q => q.1 _ _ e2 hap) ?_ ?_
    · rintro i kk v _ H' hx ⟨sb, kvs, ek, hk, hin, y, rfl⟩
      unfold szK at hx
      rw [List.getElem?_map] at hx
      obtain ⟨z, hz, ez⟩ := Option.map_eq_some_iff.mp hx
      cases ez
      have hi : i < rs.length := (List.getElem?_eq_some_iff.mp hz).1
      show (_ : TG) (.str z) _ _ _
      walk_at "go"
      refine rd_dputS ek (by rw [sizeLine_eq]; omega) fun H9 B9 e9 => ?_
      refine ⟨by walk_at "sb", _, e9, Nat.le_trans (length_putK _ _ _) (by omega), fun y hy => ?_, _, rfl⟩
      rw [valV_put]
      rw [take_succ' hz] at hy
      by_cases e : (Sum.inr y : Key) = .inr z
      · rw [if_pos e]
      · rw [if_neg e]
        rcases List.mem_append.mp hy with hy | hy
        · exact hin y hy
        · cases List.mem_singleton.mp hy; exact absurd rfl e
    · rintro _ H' ⟨sb, kvs, ek, hk, hin, y, rfl⟩
      refine rd_thawed (sb _ _ e2 hap) fun H3 B3 e3 => ?_
      have hl2 : (szK rs).length = rs.length := by unfold szK; rw [List.length_map]
      rw [hl2, List.take_length] at hin
      have ep3 := B3 _ _ ek (Ne.symm hap)
      have sH : Same H H3 := fun x u hx => by
        by_cases ex : x = a
        · subst ex; rw [ha] at hx; cases hx; exact e3
        · have hxp : x ≠ p := fun z => by rw [z, n1] at hx; cases hx
          exact B3 _ _ (sb _ _ (B2 _ _ (S1 _ _ hx) ex) hxp) ex
      have hb3 := sH.seq hb
      walk_at "go"
      refine rd_forL [] (fun i σ' H' => H' = H3 ∧ σ' = [some (.ref a), some (.ref b), some (.ref p), y, none]) ⟨rfl, rfl⟩ (fun i σ' H' _ q => by rw [q.1]; exact hb3) ?_ ?_
      · intro i x σ' H' hx
        simp at hx
      · rintro _ _ ⟨rfl, rfl⟩
        walk_at "go"
        exact k _ _ _ n1 sH ep3 hin
theorem fc_added_people (m : M K mg) : Fc P w K mg base "added_people" 1 ["sizes", "people"] (sp_added K) := ⟨_, _, m.m_added_people, m.F_added_people.kp, m.b_added_people, ok_added_people m⟩
def sp_space (K : PySem.W.Frag) : Sp := fun vs H Q _ => ∃ (a b : Addr) (rs : List Str), vs = [.ref a, .ref b] ∧ H a = some (.dK (szK rs)) ∧ SqL K H b [] ∧ rs.length ≤ 100 ∧ ∀ H', Same H H' → Q .non H'
theorem r_space {H : Hp} {Q : VK} {E : XK} {a b : Addr} {rs : List Str} (ha : H a = some (.dK (szK rs))) (hb : SqL K H b []) (hl : rs.length ≤ 100) (h : ∀ H', Same H H' → Q .non H') : sp_space K [.ref a, .ref b] H Q E := ⟨_, _, _, rfl, ha, hb, hl, h⟩
theorem all_false {α : Type} {P : α → Prop} : ∀ {l : List α} {ys : List V}, Paired (fun _ y => y = V.bl false) l ys → ys = (l.map fun _ => false).map V.bl
  | _, _, .nil => rfl
  | _, _, .cons h t => by rw [h, all_false (P := P) t]; rfl
theorem ok_need_space (m : M K mg) : FnOk P w K mg base CX0 2 m.a_need_space m.d_need_space ["sizes", "people"] (sp_space K) := by
  refine m.F_need_space.ok sc_need_space (fun vs H Q E h => ?_) (fun cdv A outer s H vs Q E hr h => ?_)
  · obtain ⟨a, b, rs, rfl, ha, hb, hlen, k⟩ := h
    rfl
  · obtain ⟨a, b, rs, rfl, ha, hb, hlen, k⟩ := h
    have nd := sc_need_space.nd
    have hu0 := Room.units0 hr
    have hu1 := Room.units1 hr
    have F_added_people := fc_added_people (P := P) (w := w) (base := base) m
    refine ⟨_, (pss_cons (ps_if (pt_val (pe_callB (call_anyB rfl) rfl m.g_any bt_any (pa_cons (pe_comp (N := ["room", "number"]) (nl := 2) (ci := []) rfl (blk (s.heap.objs.size + 1) rfl rfl rfl (by kernel_rfl)) (pi_list (pv 1)) (fun _ _ _ _ => (pg_tupK (K := K) (n := 2) rfl (pgs_cons (pg_name (i := 0) (show (["room", "number"] : List Str).Nodup by decide +kernel) rfl (by first | exact Or.inl rfl | exact Or.inr rfl)) (pgs_cons (pg_name (i := 1) (show (["room", "number"] : List Str).Nodup by decide +kernel) rfl (by first | exact Or.inl rfl | exact Or.inr rfl)) pgs_nil)))) (fun _ _ _ _ => pf_nil) (fun _ _ _ _ => (pe_cmpR op_lt (pv 1) pe_int (nomark _)))) pa_nil))) (pss_one ps_never) pss_nil)
      (pss_cons (ps_set (i := 2) nd rfl (by first | exact Or.inl rfl | exact Or.inr rfl) (pe_f F_added_people hr (pa_cons (pv 0) (pa_cons (pv 1) pa_nil))))
      (pss_one (ps_if (pt_val (pe_callB (call_anyB rfl) rfl m.g_any bt_any (pa_cons (pe_thaw (pe_comp (N := ["room", "inside", "sizes"]) (nl := 1) (ci := [2, 0]) rfl (blk (s.heap.objs.size + 1) rfl rfl rfl (by kernel_rfl)) (pi_keysK (pv 0)) (fun _ _ _ _ => (pg_name (i := 0) (show (["room", "inside", "sizes"] : List Str).Nodup by decide +kernel) rfl (by first | exact Or.inl rfl | exact Or.inr rfl))) (fun _ _ _ _ => pf_nil) (fun _ _ _ _ => (pe_cmpR op_gt (pe_dget hu1 (pv 1) (pv 0) (fun _ _ => rfl)) (pe_dget hu1 (pv 2) (pv 0) (fun _ _ => rfl)) (nomark _))))) pa_nil))) (pss_one ps_never) pss_nil)))), ?_⟩
    refine rd_start (σ := [some (.ref a), some (.ref b), none]) rfl ?_
    walk_at "go"
    refine comp_L2 (α := Unit) (xs := []) (vs := []) (fun _ => .non) (fun _ => .non) (fun _ => true) (fun _ _ _ => True) (fun _ _ _ _ _ _ => trivial) (Nat.zero_le _) (rest := []) (by rfl) hb .nil (fun _ _ z => nomatch z) (fun _ _ z => nomatch z) ?_
    intro ys H2 s2 hp
    cases hp
    walk_at "go"
    rename_i q H3 n3 S3 e3
    refine rd_any (bs := []) (SqL.of e3) ?_
    rw [show ([] : List Bool).any id = false from rfl]
    walk_at "go"
    have sA : Same H H3 := s2.trans S3
    refine r_added (sA _ _ ha) (sA.seq hb) hlen fun p H4 kvs n4 S4 e4 hv => ?_
    have ha4 := S4 _ _ (sA _ _ ha)
    walk_at "go"
    refine rd_tThaw ha4 nf_dK ?_
    walk_at "go"
    refine rd_keysK ha4 fun o H5 B5 e5 => ?_
    have hpa : p ≠ a := fun z => by rw [z, sA _ _ ha] at n4; cases n4
    have ep5 := B5 _ _ e4 hpa
    refine comp_K (fun _ => true) (fun _ y _ => y = .bl false) (fun _ _ _ _ h _ => h) (by rw [sizeLine_eq]; unfold szK; rw [List.length_map]; omega) (rest := [some (.ref p), some (.ref a)]) (by rfl) e5 (fun x H6 hx s6 R hR => hR _ (Same.refl _)) ?_ ?_
    · rintro x H6 hx - s6 R hR
      obtain ⟨z, hz, rfl⟩ := List.mem_map.mp hx
      show (_ : TE) (some (V.str z) :: [some (.ref p), some (.ref a)]) H6 R
      walk_at "go"
      refine rd_dgetS (.inl (s6 _ _ ep5)) (hv z hz) ?_
      walk_at "go"
      refine rd_dgetS (.inr ⟨o, s6 _ _ e5⟩) (valV_sz hz) ?_
      walk_at "go"
      exact hR _ _ rfl (Same.refl _)
    intro ys H6 s6 hp
    have ey := all_false (P := fun _ => True) hp
    walk_at "go"
    rename_i q7 H7 n7 S7 e7
    refine rd_thawed (S7 _ _ (s6 _ _ e5)) fun H8 B8 e8 => ?_
    have hq7 : q7 ≠ a := fun z => by rw [z, s6 _ _ e5] at n7; cases n7
    have e78 := B8 _ _ e7 hq7
    rw [ey] at e78
    walk_at "go"
    refine rd_any (SqL.of e78) ?_
    rw [show ((List.filter (fun _ => true) (szK rs)).map fun _ => false).any id = false by simp]
    walk_at "go"
    exact k _ (thaw_same (ha) (fun x u hx hxa => B5 _ _ (S4 _ _ (sA _ _ hx)) hxa) (Same.but (s6.trans S7)) B8 e8)
theorem fc_need_space (m : M K mg) : Fc P w K mg base "need_space" 2 ["sizes", "people"] (sp_space K) := ⟨_, _, m.m_need_space, m.F_need_space.kp, m.b_need_space, ok_need_space m⟩

/-! ### the house is made -/
def RoomsAt (H : Hp) (vs : List V) (rs : List Str) : Prop := Paired (fun v z => ∃ q, v = .ref q ∧ H q = some (.tup [.str z, .int 5])) vs rs
theorem RoomsAt.sm {H H' : Hp} {vs : List V} {rs : List Str} (h : RoomsAt H vs rs) (s : Same H H') : RoomsAt H' vs rs := Paired.imp' (fun v z ⟨q, e, h⟩ => ⟨q, e, s _ _ h⟩) h
theorem rooms_prows {H : Hp} : ∀ {vs : List V} {rs : List Str}, RoomsAt H vs rs → PRows H vs (szK rs)
  | _, _, .nil => .nil
  | _, _, .cons h t => .cons h (rooms_prows t)
theorem doors_sm {C : Addr} {H H' : Hp} {us : List V} {ds : List DoorD} (h : Paired (DoorAt C H) us ds) (s : Same H H') : Paired (DoorAt C H') us ds := Paired.imp' (fun v d h => DoorAt.same h s) h
abbrev houseFs (f l : Int) (qs qp qd : Addr) : List (Str × V) := putF "named_doors" (.ref qd) (putF "people" (.ref qp) (putF "sizes" (.ref qs) (putF "last" (.int l) (putF "first" (.int f) []))))
def Named (C : Addr) (H : Hp) (nk : List (Key × V)) (ds : List DoorD) : Prop := Paired (fun e d => e.1 = .inr d.1 ∧ DoorAt C H e.2 d) nk ds
theorem named_sm {C : Addr} {H H' : Hp} {nk : List (Key × V)} {ds : List DoorD} (h : Named C H nk ds) (s : Same H H') : Named C H' nk ds := Paired.imp' (fun e d h => ⟨h.1, DoorAt.same h.2 s⟩) h
/-- what a house tells, as far as it is asked -/
structure HouseAt (C CD : Addr) (H : Hp) (h : Addr) (rs : List Str) (ds : List DoorD) : Prop where
  ex : ∃ dx f l qs qp qd nk, H h = some (.ins C dx (houseFs f l qs qp qd)) ∧ H qs = some (.dK (szK rs)) ∧ H qd = some (.dK nk) ∧ Named CD H nk ds
theorem house_sm {C CD : Addr} {H H' : Hp} {h : Addr} {rs : List Str} {ds : List DoorD} (x : HouseAt C CD H h rs ds) (s : Same H H') : HouseAt C CD H' h rs ds := by
  obtain ⟨dx, f, l, qs, qp, qd, nk, e1, e2, e3, e4⟩ := x.ex
  exact ⟨dx, f, l, qs, qp, qd, nk, s _ _ e1, s _ _ e2, s _ _ e3, named_sm e4 s⟩
theorem sqL_but {H H' : Hp} {p c C dx : Addr} {fs : List (Str × V)} {xs : List V} (h : SqL K H c xs) (hp : H p = some (.ins C dx fs)) (sb : SameBut p H H') : SqL K H' c xs := by
  rcases h with (h | ⟨o, h⟩) | h
  · exact .inl (.inl (sb _ _ h fun z => by rw [z, hp] at h; cases h))
  · exact .inl (.inr ⟨o, sb _ _ h fun z => by rw [z, hp] at h; cases h⟩)
  · exact .inr h
theorem sqL_butK {H H' : Hp} {p c : Addr} {kvs : List (Key × V)} {xs : List V} (h : SqL K H c xs) (hp : H p = some (.dK kvs)) (sb : SameBut p H H') : SqL K H' c xs := by
  rcases h with (h | ⟨o, h⟩) | h
  · exact .inl (.inl (sb _ _ h fun z => by rw [z, hp] at h; cases h))
  · exact .inl (.inr ⟨o, sb _ _ h fun z => by rw [z, hp] at h; cases h⟩)
  · exact .inr h
theorem paired_mem {α β : Type} {F : α → β → Prop} : ∀ {l : List α} {m : List β} {x : α}, Paired F l m → x ∈ l → ∃ y ∈ m, F x y
  | _, _, _, .cons r t, h => by
    rcases List.mem_cons.mp h with rfl | h
    · exact ⟨_, .head _, r⟩
    · obtain ⟨y, hy, f⟩ := paired_mem t h
      exact ⟨y, List.mem_cons_of_mem _ hy, f⟩
  | _, _, _, .nil, h => nomatch h
def sp_House_init (K : PySem.W.Frag) (CD : Addr) : Sp := fun vs H Q _ => ∃ (p C dx a b c : Addr) (ws us : List V) (rs : List Str) (ds : List DoorD) (f l : Int), vs = [.ref p, .ref a, .ref b, .ref c, .int l, .int f] ∧ DCls K C ∧ H p = some (.ins C dx []) ∧ H a = some (.lst ws) ∧ RoomsAt H ws rs ∧ SqL K H b us ∧ Paired (DoorAt CD H) us ds ∧ SqL K H c [] ∧
  rs.Nodup ∧ (ds.map (·.1)).Nodup ∧ (∀ d ∈ ds, DoorIn rs d) ∧ rs.length ≤ 20 ∧ ds.length ≤ 20 ∧ 0 ≤ f ∧ f ≤ l ∧ ∀ H', SameBut p H H' → HouseAt C CD H' p rs ds → Q .non H'
theorem r_House_init {CD : Addr} {H : Hp} {Q : VK} {E : XK} {p C dx a b c : Addr} {ws us : List V} {rs : List Str} {ds : List DoorD} {f l : Int} (dc : DCls K C) (hp : H p = some (.ins C dx [])) (ha : H a = some (.lst ws)) (hr : RoomsAt H ws rs) (hb : SqL K H b us) (hd : Paired (DoorAt CD H) us ds) (hc : SqL K H c []) (nr : rs.Nodup) (nd : (ds.map (·.1)).Nodup) (hin : ∀ d ∈ ds, DoorIn rs d) (lr : rs.length ≤ 20) (ld : ds.length ≤ 20) (h0 : 0 ≤ f) (h1 : f ≤ l)
    (k : ∀ H', SameBut p H H' → HouseAt C CD H' p rs ds → Q .non H') : sp_House_init K CD [.ref p, .ref a, .ref b, .ref c, .int l, .int f] H Q E := ⟨_, _, _, _, _, _, _, _, _, _, _, _, rfl, dc, hp, ha, hr, hb, hd, hc, nr, nd, hin, lr, ld, h0, h1, k⟩
theorem ok_House___init__ (m : M K mg) : FnOk P w K mg base CX0 4 m.a_House___init__ m.d_House___init__ ["self", "rooms", "doors", "people", "last", "first"] (sp_House_init K m.C_Door) := by
  refine m.F_House___init__.ok sc_House___init__ (fun vs H Q E h => ?_) (fun cdv A outer s H vs Q E hr h => ?_)
  · obtain ⟨p, C, dx, a, b, c, ws, us, rs, ds, f, l, rfl, dc, hp, ha, hra, hb, hd, hc, nr, nd', hin, lr, ld, h0, h1, k⟩ := h
    rfl
  · obtain ⟨p, C, dx, a, b, c, ws, us, rs, ds, f, l, rfl, dc, hp, ha, hra, hb, hd, hc, nr, nd', hin, lr, ld, h0, h1, k⟩ := h
    have nd := sc_House___init__.nd
    have hu0 := Room.units0 hr
    have hu1 := Room.units1 hr
    have F_added_people := fc_added_people (P := P) (w := w) (base := base) m
    have F_need_each_once := fc_need_each_once (P := P) (w := w) (base := base) m
    have F_need_rooms := fc_need_rooms (P := P) (w := w) (base := base) m
    have F_need_space := fc_need_space (P := P) (w := w) (base := base) m
    have F_need_turns := fc_need_turns (P := P) (w := w) (base := base) m
    have F_rooms_spoken_of := fc_rooms_spoken_of (P := P) (w := w) (base := base) m
    have w_dc_Door := m.dc_Door
    refine ⟨_, (pss_cons (ps_expr (pe_f F_need_turns hr (pa_cons (pv 5) (pa_cons (pv 4) pa_nil))))
      (pss_cons (ps_expr (pe_f F_need_each_once hr (pa_cons (pe_comp (N := ["name", "size"]) (nl := 2) (ci := []) rfl (blk (s.heap.objs.size + 1) rfl rfl rfl (by kernel_rfl)) (pi_list (pv 1)) (fun _ _ _ _ => (pg_tupK (K := K) (n := 2) rfl (pgs_cons (pg_name (i := 0) (show (["name", "size"] : List Str).Nodup by decide +kernel) rfl (by first | exact Or.inl rfl | exact Or.inr rfl)) (pgs_cons (pg_name (i := 1) (show (["name", "size"] : List Str).Nodup by decide +kernel) rfl (by first | exact Or.inl rfl | exact Or.inr rfl)) pgs_nil)))) (fun _ _ _ _ => pf_nil) (fun _ _ _ _ => (pv 0))) pa_nil)))
      (pss_cons (ps_expr (pe_f F_need_each_once hr (pa_cons (pe_comp (N := ["door"]) (nl := 1) (ci := []) rfl (blk (s.heap.objs.size + 1) rfl rfl rfl (by kernel_rfl)) (pi_list (pv 2)) (fun _ _ _ _ => (pg_name (i := 0) (show (["door"] : List Str).Nodup by decide +kernel) rfl (by first | exact Or.inl rfl | exact Or.inr rfl))) (fun _ _ _ _ => pf_nil) (fun _ _ _ _ => (pe_fldK (K := K) (pv 0) rfl))) pa_nil)))
      (pss_cons (ps_set (i := 6) nd rfl (by first | exact Or.inl rfl | exact Or.inr rfl) (pe_callTy (call_dictL rfl) rfl m.g_dict bt_dict (pa_cons (pv 1) pa_nil)))
      (pss_cons (ps_expr (pe_f F_need_rooms hr (pa_cons (pe_f F_rooms_spoken_of hr (pa_cons (pv 2) (pa_cons (pv 3) pa_nil))) (pa_cons (pv 6) pa_nil))))
      (pss_cons (ps_expr (pe_f F_need_space hr (pa_cons (pv 6) (pa_cons (pv 3) pa_nil))))
      (pss_cons (ps_fld (pv 0) (pv 5) rfl)
      (pss_cons (ps_fld (pv 0) (pv 4) rfl)
      (pss_cons (ps_fld (pv 0) (pv 6) rfl)
      (pss_cons (ps_fld (pv 0) (pe_f F_added_people hr (pa_cons (pv 6) (pa_cons (pv 3) pa_nil))) rfl)
      (pss_cons (ps_fld (pv 0) pe_dnewK rfl)
      (pss_one (ps_for PassesOwn.never rfl (pi_list (pv 2)) (pg_name (i := 7) nd rfl (by first | exact Or.inl rfl | exact Or.inr rfl)) (pss_one (ps_dput hu1 (pe_fld (pv 0) rfl) (pe_fld (pv 7) rfl) (pv 7) rfl))))))))))))))), ?_⟩
    refine rd_start (σ := [some (.ref p), some (.ref a), some (.ref b), some (.ref c), some (.int l), some (.int f), none, none]) rfl ?_
    have hul : us.length = ds.length := Paired.length hd
    have hwl : ws.length = rs.length := Paired.length hra
    walk_at "go"
    refine r_turns h0 h1 ?_
    walk_at "go"
    refine comp_L2 (α := Str) (xs := rs) (vs := ws) V.str (fun _ => .int 5) (fun _ => true) (fun z y _ => y = .str z) (fun _ _ _ _ h _ => h) (by rw [sizeLine_eq]; omega) (rest := []) (by rfl) (SqL.of ha) hra (fun x H1 hx s1 R hR => hR _ (Same.refl _)) (fun x H1 hx _ s1 R hR => ?_) ?_
    · walk_at "go"
      exact hR _ _ rfl (Same.refl _)
    intro ys H1 s1 hys
    rw [filt_all] at hys
    obtain rfl := paired_eq hys
    walk_at "go"
    rename_i q1 H2 n2 S2 e2
    refine r_once (SqL.of e2) nr (by omega) fun H3 S3 => ?_
    have sA : Same H H3 := (s1.trans S2).trans S3
    walk_at "go"
    refine comp_LA (α := DoorD) (xs := ds) (vs := us) (DoorAt m.C_Door H3) (fun _ => true) (fun d y _ => y = .str d.1) (fun _ _ _ _ h _ => h) (by rw [sizeLine_eq]; omega) (rest := []) (by rfl) (sA.seq hb) (doors_sm hd sA) (fun v x H1 _ hx s1 R hR => hR _ (Same.refl _)) ?_ ?_
    · rintro v d H4 ⟨q, dx', rfl, hq⟩ hm - s4 R hR
      have hq' := s4 _ _ hq
      walk_at "go"
      exact hR _ _ rfl (Same.refl _)
    intro ys H4 s4 hys
    rw [filt_all] at hys
    obtain rfl := paired_eq hys
    walk_at "go"
    rename_i q5 H5 n5 S5 e5
    refine r_once (ss := ds.map (·.1)) (SqL.of (by rw [e5, List.map_map]; rfl)) nd' (by rw [List.length_map]; omega) fun H6 S6 => ?_
    have sB : Same H H6 := ((sA.trans s4).trans S5).trans S6
    walk_at "go"
    refine rd_dictL (sB _ _ ha) (rooms_prows (hra.sm sB)) fun qs H7 n7 S7 e7 => ?_
    rw [merge_sz nr] at e7
    have sC : Same H H7 := sB.trans S7
    walk_at "go"
    refine r_spoken (sC.seq hb) (doors_sm hd sC) hin ld (sC.seq hc) fun q8 ss H8 S8 e8 hss lss => ?_
    walk_at "go"
    refine r_rooms (SqL.of e8) (.inl (S8 _ _ e7)) (fun z hz => by rw [valV_sz (hss z hz)]; rfl) fun H9 S9 => ?_
    have sD : Same H7 H9 := S8.trans S9
    walk_at "go"
    refine r_space (sD _ _ e7) ((sC.trans sD).seq hc) (by omega) fun H10 S10 => ?_
    have sE : Same H H10 := (sC.trans sD).trans S10
    have es : H10 qs = some (.dK (szK rs)) := S10 _ _ (sD _ _ e7)
    have hp10 := sE _ _ hp
    have hqp : qs ≠ p := fun z => by rw [z, hp10] at es; cases es
    walk_at "go"
    rename_i H11 B11 e11 H12 B12 e12 H13 B13 e13
    have sb13 : SameBut p H10 H13 := by walk_at "sb"
    have es13 := sb13 _ _ es hqp
    have hc13 : SqL K H13 c [] := sqL_but (sE.seq hc) hp10 sb13
    refine r_added es13 hc13 (by omega) fun qp H14 kvs n14 S14 e14 hv14 => ?_
    have hp14 := S14 _ _ e13
    walk_at "go"
    rename_i H15 B15 e15 qd H16 n16 S16 e16 H17 B17 e17
    have hqd : qd ≠ p := fun z => by rw [z, e15] at n16; cases n16
    have sb17 : SameBut p H10 H17 := ((((sb13.trans S14.but).trans B15).trans S16.but).trans B17)
    have es17 := sb17 _ _ es hqp
    have ed17 := B17 _ _ e16 hqd
    have fresh : ∀ x u, H10 x = some u → x ≠ p → x ≠ qd := fun x u hx hxp z => by
      have h15 : H15 x = some u := B15 _ _ (S14 _ _ (sb13 _ _ hx hxp)) hxp
      rw [z, n16] at h15; cases h15
    have hb17 : SqL K H17 b us := sqL_but (sE.seq hb) hp10 sb17
    have hd17 : Paired (DoorAt m.C_Door H17) us ds := Paired.imp' (fun v d ⟨q, dx', e, hq⟩ => ⟨q, dx', e, sb17 _ _ (sE _ _ hq) fun z => by rw [z, hp] at hq; cases hq⟩) hd
    have ddq : ∀ {H' : Hp} {v : V} {d : DoorD}, SameBut qd H17 H' → DoorAt m.C_Door H17 v d → DoorAt m.C_Door H' v d := fun sb ⟨q, dx', e, hq⟩ => ⟨q, dx', e, sb _ _ hq fun z => by rw [z, ed17] at hq; cases hq⟩
    refine rd_iListV hb17 ?_
    refine rd_forL us (fun i σ' H' => SameBut qd H17 H' ∧ (∃ nk, H' qd = some (.dK nk) ∧ nk.length ≤ i ∧ Paired (fun e d => e.1 = .inr d.1 ∧ DoorAt m.C_Door H17 e.2 d) nk (ds.take i)) ∧ ∃ x, σ' = [some (.ref p), some (.ref a), some (.ref b), some (.ref c), some (.int l), some (.int f), some (.ref qs), x]) ⟨SameBut.refl, ⟨[], ed17, Nat.le_refl _, .nil⟩, _, rfl⟩ (fun i σ' H' _ q => sqL_butK hb17 ed17 q.1) ?_ ?_
    · rintro i x _ H' hx ⟨sb, ⟨nk, ek, hk, pr⟩, y, rfl⟩
      have hi : i < us.length := (List.getElem?_eq_some_iff.mp hx).1
      obtain ⟨d, hdx⟩ : ∃ d, ds[i]? = some d := ⟨_, List.getElem?_eq_getElem (by omega)⟩
      have hD := Paired.at2 hd17 hx hdx
      obtain ⟨q, dx', rfl, hq⟩ := hD
      obtain ⟨n, st, e⟩ := d
      have hq' : H' q = some (.ins m.C_Door dx' (doorFs (.str n) (.str st) e (.int 1))) := sb _ _ hq fun z => by rw [z, ed17] at hq; cases hq
      have hpp : H' p = some (.ins C dx (houseFs f l qs qp qd)) := sb _ _ e17 (Ne.symm hqd)
      have hnone : valV nk (.inr n) = none := valV_none fun e he => by
        obtain ⟨d', hd', h1, _⟩ := paired_mem pr he
        rw [h1]
        intro z
        have hn : n ∉ (ds.map (·.1)).take i := take_new nd' (by rw [List.getElem?_map, hdx]; rfl)
        apply hn
        rw [← List.map_take]
        exact List.mem_map.mpr ⟨d', hd', Sum.inr.inj z⟩
      walk_at "go"
      refine rd_dputS ek (by rw [sizeLine_eq]; omega) fun H9' B9' e9' => ?_
      rw [putK_new _ hnone] at e9'
      refine ⟨by walk_at "sb", ⟨_, e9', by rw [List.length_append]; show nk.length + 1 ≤ _; omega, ?_⟩, _, rfl⟩
      rw [take_succ' hdx]
      exact L2.Paired.snoc pr ⟨rfl, q, dx', rfl, hq⟩
    · rintro _ H' ⟨sb, ⟨nk, ek, hk, pr⟩, y, rfl⟩
      rw [hul, List.take_length] at pr
      refine k _ (fun x u hx hxp => sb _ _ (sb17 _ _ (sE _ _ hx) hxp) (fresh x u (sE _ _ hx) hxp)) ⟨dx, f, l, qs, qp, qd, nk, sb _ _ e17 (Ne.symm hqd), sb _ _ es17 (fresh _ _ es hqp), ek, ?_⟩
      exact Paired.imp' (fun e d h => ⟨h.1, ddq sb h.2⟩) pr
theorem kc_House_0 (m : M K mg) : Kc P w K mg base "House" m.C_House 4 [] (sp_House_init K m.C_Door) := ⟨_, _, _, _, m.m_House, m.mk_House, .nil, m.b_House___init__, ok_House___init__ m⟩
theorem r_mkHouse {C CD : Addr} {H : Hp} {Q : VK} {E : XK} {dvs vs : List V} {a b c : Addr} {ws us : List V} {rs : List Str} {ds : List DoorD} {f l : Int} (ev : vs ++ dvs = [.ref a, .ref b, .ref c, .int l, .int f]) (dc : DCls K C) (ha : H a = some (.lst ws)) (hr : RoomsAt H ws rs) (hb : SqL K H b us) (hd : Paired (DoorAt CD H) us ds) (hc : SqL K H c []) (nr : rs.Nodup) (nd : (ds.map (·.1)).Nodup) (hin : ∀ d ∈ ds, DoorIn rs d) (lr : rs.length ≤ 20) (ld : ds.length ≤ 20) (h0 : 0 ≤ f) (h1 : f ≤ l)
    (k : ∀ p H', H p = none → Same H H' → HouseAt C CD H' p rs ds → Q (.ref p) H') : MakeP C (sp_House_init K CD) dvs E Q vs H := by
  intro x dx nx nd0 ne
  have s0 : Same H (upd (upd H dx (.own x)) x (.ins C dx [])) := fun b o e => by
    rw [upd_ne (ne_of_none e nx), upd_ne (ne_of_none e nd0)]; exact e
  rw [ev]
  exact r_House_init dc upd_same (s0 _ _ ha) (hr.sm s0) (s0.seq hb) (doors_sm hd s0) (s0.seq hc) nr nd hin lr ld h0 h1 fun H' sb hh => ⟨rfl, k x H' nx (fun b o q => sb b o (s0 b o q) (ne_of_none q nx)) hh⟩
def sp_need_room (K : PySem.W.Frag) (C CD : Addr) : Sp := fun vs H Q _ => ∃ (h : Addr) (z : Str) (rs : List Str) (ds : List DoorD), vs = [.ref h, .str z] ∧ HouseAt C CD H h rs ds ∧ z ∈ rs ∧ ∀ H', Same H H' → Q .non H'
theorem r_need_room {C CD : Addr} {H : Hp} {Q : VK} {E : XK} {h : Addr} {z : Str} {rs : List Str} {ds : List DoorD} (hh : HouseAt C CD H h rs ds) (hz : z ∈ rs) (k : ∀ H', Same H H' → Q .non H') : sp_need_room K C CD [.ref h, .str z] H Q E := ⟨_, _, _, _, rfl, hh, hz, k⟩
theorem ok_House_need_room (m : M K mg) : FnOk P w K mg base CX0 2 m.a_House_need_room m.d_House_need_room ["self", "room"] (sp_need_room K m.C_House m.C_Door) := by
  refine m.F_House_need_room.ok sc_House_need_room (fun vs H Q E h => ?_) (fun cdv A outer s H vs Q E hr h => ?_)
  · obtain ⟨h, z, rs, ds, rfl, hh, hz, k⟩ := h
    rfl
  · obtain ⟨h, z, rs, ds, rfl, hh, hz, k⟩ := h
    have nd := sc_House_need_room.nd
    have hu0 := Room.units0 hr
    have hu1 := Room.units1 hr
    have F_need_rooms := fc_need_rooms (P := P) (w := w) (base := base) m
    have w_dc_House := m.dc_House
    refine ⟨_, (pss_one (ps_expr (pe_f F_need_rooms hr (pa_cons (pe_lst (pa_cons (pv 1) pa_nil)) (pa_cons (pe_fld (pv 0) rfl) pa_nil))))), ?_⟩
    refine rd_start (σ := [some (.ref h), some (.str z)]) rfl ?_
    obtain ⟨dx, f, l, qs, qp, qd, nk, e1, e2, e3, e4⟩ := hh.ex
    walk_at "go"
    rename_i p H1 n1 S1 e5
    refine r_rooms (ss := [z]) (SqL.of e5) (.inl (S1 _ _ e2)) (fun y hy => by cases List.mem_singleton.mp hy; rw [valV_sz hz]; rfl) fun H2 S2 => ?_
    walk_at "go"
    exact k _ (S1.trans S2)
theorem mc_House_need_room (m : M K mg) : Mc P w K mg base m.C_House "need_room" 2 (sp_need_room K m.C_House m.C_Door) := ⟨_, _, _, m.dc_House.ic.cl, m.mt_House_need_room, m.b_House_need_room, ok_House_need_room m⟩
def fromR (ds : List DoorD) (z : Str) : List Str := (ds.filter fun d => decide (d.2.1 = z)).map (·.1)
def sp_from (K : PySem.W.Frag) (C CD : Addr) : Sp := fun vs H Q _ => ∃ (h : Addr) (z : Str) (rs : List Str) (ds : List DoorD), vs = [.ref h, .str z] ∧ HouseAt C CD H h rs ds ∧ z ∈ rs ∧ ds.length ≤ 20 ∧ ∀ p H', H p = none → Same H H' → H' p = some (.lst ((fromR ds z).map V.str)) → Q (.ref p) H'
theorem r_from {C CD : Addr} {H : Hp} {Q : VK} {E : XK} {h : Addr} {z : Str} {rs : List Str} {ds : List DoorD} (hh : HouseAt C CD H h rs ds) (hz : z ∈ rs) (hl : ds.length ≤ 20) (k : ∀ p H', H p = none → Same H H' → H' p = some (.lst ((fromR ds z).map V.str)) → Q (.ref p) H') : sp_from K C CD [.ref h, .str z] H Q E := ⟨_, _, _, _, rfl, hh, hz, hl, k⟩
theorem ok_House_from_room (m : M K mg) : FnOk P w K mg base CX0 3 m.a_House_from_room m.d_House_from_room ["self", "room"] (sp_from K m.C_House m.C_Door) := by
  refine m.F_House_from_room.ok sc_House_from_room (fun vs H Q E h => ?_) (fun cdv A outer s H vs Q E hr h => ?_)
  · obtain ⟨h, z, rs, ds, rfl, hh, hz, hlen, k⟩ := h
    rfl
  · obtain ⟨h, z, rs, ds, rfl, hh, hz, hlen, k⟩ := h
    have nd := sc_House_from_room.nd
    have hu0 := Room.units0 hr
    have hu1 := Room.units1 hr
    have w_dc_House := m.dc_House
    have w_dc_Door := m.dc_Door
    have w_mc_House_need_room := mc_House_need_room (P := P) (w := w) (base := base) m
    refine ⟨_, (pss_cons (ps_expr (pe_md 2 hr (pv 0) (pa_cons (pv 1) pa_nil)))
      (pss_one (ps_ret (pe_thaw (pe_comp (N := ["name", "door", "room"]) (nl := 2) (ci := [1]) rfl (blk (s.heap.objs.size + 1) rfl rfl rfl (by kernel_rfl)) (pi_itemsK (pe_fld (pv 0) rfl)) (fun _ _ _ _ => (pg_tupK (K := K) (n := 2) rfl (pgs_cons (pg_name (i := 0) (show (["name", "door", "room"] : List Str).Nodup by decide +kernel) rfl (by first | exact Or.inl rfl | exact Or.inr rfl)) (pgs_cons (pg_name (i := 1) (show (["name", "door", "room"] : List Str).Nodup by decide +kernel) rfl (by first | exact Or.inl rfl | exact Or.inr rfl)) pgs_nil)))) (fun _ _ _ _ => (pf_one (pt_cmpR op_eq (pe_fldK (K := K) (pv 1) rfl) (pv 2) (nomark _)))) (fun _ _ _ _ => (pv 0))))))), ?_⟩
    refine rd_start (σ := [some (.ref h), some (.str z)]) rfl ?_
    obtain ⟨dx, f, l, qs, qp, qd, nk, e1, e2, e3, e4⟩ := hh.ex
    walk_at "go"
    refine r_need_room hh hz fun H1 S1 => ?_
    have e31 := S1 _ _ e3
    have e11 := S1 _ _ e1
    walk_at "go"
    refine rd_tThaw e31 nf_dK ?_
    walk_at "go"
    refine rd_itemsK e31 fun o H2 B2 e32 => ?_
    have hn2 : Named m.C_Door H2 nk ds := Paired.imp' (fun e d ⟨h1, q, dx', h2, h3⟩ => ⟨h1, q, dx', h2, B2 _ _ (S1 _ _ h3) fun z => by rw [z, e3] at h3; cases h3⟩) e4
    refine comp_IA (α := DoorD) (xs := ds) (fun e d => e.1 = .inr d.1 ∧ DoorAt m.C_Door H2 e.2 d) (fun d => decide (d.2.1 = z)) (fun d y _ => y = .str d.1) (fun _ _ _ _ h _ => h) (by rw [sizeLine_eq]; omega) (rest := [some (.str z)]) (by rfl) e32 hn2 ?_ ?_ ?_
    · rintro ⟨kk, v⟩ ⟨n, st, e⟩ H3 ⟨h1, q, dx', h2, h3⟩ hm s3 R hR
      cases h1; cases h2
      have hq := s3 _ _ h3
      show (_ : TT) (some (V.str n) :: some (V.ref q) :: [some (.str z)]) H3 R
      walk_at "go"
      exact hR _ (Same.refl _)
    · rintro ⟨kk, v⟩ ⟨n, st, e⟩ H3 ⟨h1, q, dx', h2, h3⟩ hm - s3 R hR
      cases h1; cases h2
      show (_ : TE) (some (V.str n) :: some (V.ref q) :: [some (.str z)]) H3 R
      walk_at "go"
      exact hR _ _ rfl (Same.refl _)
    intro ys H3 s3 hys
    have ey := paired_eq hys
    walk_at "go"
    rename_i p H4 n4 S4 e4'
    refine rd_thawed (S4 _ _ (s3 _ _ e32)) fun H5 B5 e5 => ?_
    have hpq : p ≠ qd := fun z => by rw [z, s3 _ _ e32] at n4; cases n4
    have hn : H p = none := by
      cases hq : H p with
      | none => rfl
      | some u =>
        have := s3 _ _ (B2 _ _ (S1 _ _ hq) hpq)
        rw [n4] at this; cases this
    walk_at "go"
    refine k p H5 hn (thaw_same e3 (fun x u hx hxa => B2 _ _ (S1 _ _ hx) hxa) (Same.but (s3.trans S4)) B5 e5) ?_
    have := B5 _ _ e4' hpq
    rw [this, ey]
    unfold fromR
    rw [List.map_map]; rfl
theorem mc_House_from_room (m : M K mg) : Mc P w K mg base m.C_House "from_room" 3 (sp_from K m.C_House m.C_Door) := ⟨_, _, _, m.dc_House.ic.cl, m.mt_House_from_room, m.b_House_from_room, ok_House_from_room m⟩

/-! ### plans added up, told -/
def RowAt3 (H : Hp) (v : V) (r : PRow) : Prop := ∃ q, v = .ref q ∧ H q = some (.tup [.int r.1, .str r.2.1, .int r.2.2])
abbrev PlanAt (H : Hp) (vs : List V) (rows : List PRow) : Prop := Paired (RowAt3 H) vs rows
theorem plan_sm {H H' : Hp} {vs : List V} {rows : List PRow} (h : PlanAt H vs rows) (s : Same H H') : PlanAt H' vs rows := Paired.imp' (fun v r ⟨q, e, h⟩ => ⟨q, e, s _ _ h⟩) h
def sp_sum (K : PySem.W.Frag) : Sp := fun vs H Q _ => ∃ (a : Addr) (us : List V) (rows : List PRow), vs = [.ref a] ∧ SqL K H a us ∧ PlanAt H us rows ∧ rows.length ≤ 200 ∧ ∀ p H', H p = none → Same H H' → H' p = some (.dT (sumK rows)) → Q (.ref p) H'
theorem r_sum {H : Hp} {Q : VK} {E : XK} {a : Addr} {us : List V} {rows : List PRow} (hS : SqL K H a us) (hr : PlanAt H us rows) (hl : rows.length ≤ 200) (h : ∀ p H', H p = none → Same H H' → H' p = some (.dT (sumK rows)) → Q (.ref p) H') : sp_sum K [.ref a] H Q E := ⟨_, _, _, rfl, hS, hr, hl, h⟩
theorem ok_added_up (m : M K mg) : FnOk P w K mg base CX0 1 m.a_added_up m.d_added_up ["plan"] (sp_sum K) := by
  refine m.F_added_up.ok sc_added_up (fun vs H Q E h => ?_) (fun cdv A outer s H vs Q E hr h => ?_)
  · obtain ⟨a, us, rows, rfl, hS, hpl, hlen, k⟩ := h
    rfl
  · obtain ⟨a, us, rows, rfl, hS, hpl, hlen, k⟩ := h
    have nd := sc_added_up.nd
    have hu0 := Room.units0 hr
    have hu1 := Room.units1 hr
    refine ⟨_, (pss_cons (ps_set (i := 1) nd rfl (by first | exact Or.inl rfl | exact Or.inr rfl) pe_dnewT)
      (pss_cons (ps_for PassesOwn.never rfl (pi_list (pv 0)) (pg_tup rfl (pgs_cons (pg_name (i := 2) nd rfl (by first | exact Or.inl rfl | exact Or.inr rfl)) (pgs_cons (pg_name (i := 3) nd rfl (by first | exact Or.inl rfl | exact Or.inr rfl)) (pgs_cons (pg_name (i := 4) nd rfl (by first | exact Or.inl rfl | exact Or.inr rfl)) pgs_nil)))) (pss_one (ps_dput hu1 (pv 1) (pe_tup (pa_cons (pv 2) (pa_cons (pv 3) pa_nil))) (pe_op op_add (pe_dget2 hu1 (pv 1) (pe_tup (pa_cons (pv 2) (pa_cons (pv 3) pa_nil))) pe_int ⟨rfl, rfl, rfl, rfl⟩) (pv 4)) rfl)))
      (pss_one (ps_ret (pv 1))))), ?_⟩
    refine rd_start (σ := [some (.ref a), none, none, none, none]) rfl ?_
    have hul : us.length = rows.length := Paired.length hpl
    walk_at "go"
    rename_i p H1 n1 S1 e1
    refine rd_forL us (fun i σ' H' => SameBut p H1 H' ∧ H' p = some (.dT (sumK (rows.take i))) ∧ ∃ x y z, σ' = [some (.ref a), some (.ref p), x, y, z]) ⟨SameBut.refl, e1, _, _, _, rfl⟩ (fun i σ' H' _ q => (SameBut.same n1 S1 q.1).seq hS) ?_ ?_
    · rintro i x _ H' hx ⟨sb, ek, x1, x2, x3, rfl⟩
      have hi : i < us.length := (List.getElem?_eq_some_iff.mp hx).1
      obtain ⟨⟨t, n, j⟩, hrx⟩ : ∃ r, rows[i]? = some r := ⟨_, List.getElem?_eq_getElem (by omega)⟩
      obtain ⟨q, rfl, hq⟩ := Paired.at2 hpl hx hrx
      have hq' : H' q = some (.tup [.int t, .str n, .int j]) := (SameBut.same n1 S1 sb) _ _ hq
      obtain ⟨i0, ei⟩ := sumK_int (rows.take i) t n
      have hkl := sumK_len (rows.take i)
      rw [List.length_take] at hkl
      walk_at "go"
      refine rd_dget2T ek ?_
      walk_at "go"
      rename_i b1 H2 n2 S2 e2
      refine rd_dgotT (key2 t n) (by walk_at "hp") (by assumption) ?_
      rw [ei]
      walk_at "go"
      rename_i b3 H3 n3 S3 e3
      refine rd_dputT (key2 t n) (by walk_at "hp") (by assumption) (by rw [sizeLine_eq]; omega) fun H4 B4 e4 => ?_
      refine ⟨by walk_at "sb", ?_, _, _, _, rfl⟩
      rw [e4, take_succ' hrx, sumK_snoc]
      unfold addR
      rw [ei]; rfl
    · rintro _ H' ⟨sb, ek, x1, x2, x3, rfl⟩
      rw [hul, List.take_length] at ek
      walk_at "go"
      exact k _ _ n1 (SameBut.same n1 S1 sb) ek
theorem fc_added_up (m : M K mg) : Fc P w K mg base "added_up" 1 ["plan"] (sp_sum K) := ⟨_, _, m.m_added_up, m.F_added_up.kp, m.b_added_up, ok_added_up m⟩
def sp_told (K : PySem.W.Frag) : Sp := fun vs H Q _ => ∃ (a : Addr) (us : List V) (rows : List PRow), vs = [.ref a] ∧ SqL K H a us ∧ PlanAt H us rows ∧ rows.length ≤ 200 ∧ (toldK rows).length < 64 ∧ ∀ p ws xs H', H p = none → Same H H' → H' p = some (.lst ws) → PlanAt H' ws xs → xs.map key3 = sortK (toldK rows) → Q (.ref p) H'
theorem r_told {H : Hp} {Q : VK} {E : XK} {a : Addr} {us : List V} {rows : List PRow} (hS : SqL K H a us) (hr : PlanAt H us rows) (hl : rows.length ≤ 200) (h64 : (toldK rows).length < 64) (h : ∀ p ws xs H', H p = none → Same H H' → H' p = some (.lst ws) → PlanAt H' ws xs → xs.map key3 = sortK (toldK rows) → Q (.ref p) H') : sp_told K [.ref a] H Q E := ⟨_, _, _, rfl, hS, hr, hl, h64, h⟩
theorem told_rows {H : Hp} : ∀ {es : List (List Key × V)} {ys : List V}, Paired (fun e y => ∃ q, y = .ref q ∧ H q = some (.tup ((rowK e).map kV))) es ys → KRows H ys (es.map rowK)
  | _, _, .nil => .nil
  | _, _, .cons h t => .cons h (told_rows t)
theorem krows_plan {H : Hp} : ∀ {ws : List V} {ks : List (List Key)}, KRows H ws ks → (∀ k ∈ ks, ∃ r : PRow, k = key3 r) → ∃ xs, PlanAt H ws xs ∧ xs.map key3 = ks
  | _, _, .nil, _ => ⟨[], .nil, rfl⟩
  | _, _, .cons ⟨p, e, h⟩ t, hk => by
    obtain ⟨xs, h1, h2⟩ := krows_plan t fun k hk' => hk k (List.mem_cons_of_mem _ hk')
    obtain ⟨r, rfl⟩ := hk _ (.head _)
    exact ⟨r :: xs, .cons ⟨p, e, h⟩ h1, by rw [List.map_cons, h2]⟩
theorem ok_as_told (m : M K mg) : FnOk P w K mg base CX0 2 m.a_as_told m.d_as_told ["plan"] (sp_told K) := by
  refine m.F_as_told.ok sc_as_told (fun vs H Q E h => ?_) (fun cdv A outer s H vs Q E hr h => ?_)
  · obtain ⟨a, us, rows, rfl, hS, hpl, hlen, h64, k⟩ := h
    rfl
  · obtain ⟨a, us, rows, rfl, hS, hpl, hlen, h64, k⟩ := h
    have nd := sc_as_told.nd
    have hu0 := Room.units0 hr
    have hu1 := Room.units1 hr
    have F_added_up := fc_added_up (P := P) (w := w) (base := base) m
    refine ⟨_, (pss_one (ps_ret (pe_callB call_sortedR rfl m.g_sorted bt_sorted (pa_cons (pe_comp (N := ["place", "number"]) (nl := 2) (ci := []) rfl (blk (s.heap.objs.size + 1) rfl rfl rfl (by kernel_rfl)) (pi_itemsT (pe_f F_added_up hr (pa_cons (pv 0) pa_nil))) (fun _ _ _ _ => (pg_tupK (K := K) (n := 2) rfl (pgs_cons (pg_name (i := 0) (show (["place", "number"] : List Str).Nodup by decide +kernel) rfl (by first | exact Or.inl rfl | exact Or.inr rfl)) (pgs_cons (pg_name (i := 1) (show (["place", "number"] : List Str).Nodup by decide +kernel) rfl (by first | exact Or.inl rfl | exact Or.inr rfl)) pgs_nil)))) (fun _ _ _ _ => (pf_one (pt_cmpR op_gt (pv 1) pe_int (nomark _)))) (fun _ _ _ _ => (pe_tup (pa_cons (pe_ix (ix_tupK (K := K)) (pv 0) pe_int (fun _ _ => rfl)) (pa_cons (pe_ix (ix_tupK (K := K)) (pv 0) pe_int (fun _ _ => rfl)) (pa_cons (pv 1) pa_nil)))))) pa_nil)))), ?_⟩
    refine rd_start (σ := [some (.ref a)]) rfl ?_
    have hkl := sumK_len rows
    walk_at "go"
    refine r_sum hS hpl hlen fun p H1 n1 S1 e1 => ?_
    walk_at "go"
    refine rd_itemsT e1 fun o H2 B2 e2 => ?_
    have sA : Same H H2 := SameBut.same n1 S1 B2
    refine comp_J posV (fun e y H => ∃ q, y = .ref q ∧ H q = some (.tup ((rowK e).map kV))) (fun _ _ _ _ ⟨q, h1, h2⟩ s => ⟨q, h1, s _ _ h2⟩) (by rw [sizeLine_eq]; omega) (rest := []) (by rfl) e2 ?_ ?_ ?_
    · rintro ⟨kk, v⟩ H3 q hm s3 hq R hR
      obtain ⟨t, n, i, e⟩ := (sumK_good rows).2 _ hm
      cases e
      show (_ : TT) (some (V.ref q) :: some (V.int i) :: []) H3 R
      walk_at "go"
      exact hR _ (Same.refl _)
    · rintro ⟨kk, v⟩ H3 q hm - s3 hq R hR
      obtain ⟨t, n, i, e⟩ := (sumK_good rows).2 _ hm
      cases e
      have hq' : H3 q = some (.tup [.int t, .str n]) := hq
      show (_ : TE) (some (V.ref q) :: some (V.int i) :: []) H3 R
      walk_at "go"
      refine ⟨q, _, 0, _, rfl, rfl, SqT.of hq', rfl, ?_⟩
      walk_at "go"
      refine ⟨q, _, 1, _, rfl, rfl, SqT.of hq', rfl, ?_⟩
      walk_at "go"
      rename_i q4 H4 n4 S4 e4
      exact hR _ _ ⟨q4, rfl, e4⟩ S4
    intro ys H3 s3 hys
    have kr := told_rows hys
    walk_at "go"
    rename_i q4 H4 n4 S4 e4
    refine rd_sortR (SqL.of e4) (kr.same S4) (by rw [Paired.length kr]; exact h64) (told_shape rows) (by decide) fun l ws H5 n5 S5 e5 kr5 => ?_
    obtain ⟨xs, h1, h2⟩ := krows_plan kr5 fun kk hk => by
      obtain ⟨t, n, rfl, _⟩ := mem_told.mp ((sortK_perm _).mem_iff.mp hk)
      exact ⟨_, rfl⟩
    have sB : Same H H5 := ((sA.trans s3).trans S4).trans S5
    have sB4 : Same H H4 := (sA.trans s3).trans S4
    walk_at "go"
    refine k l ws xs H5 ?_ sB e5 h1 h2
    cases hq : H l with
    | none => rfl
    | some u => rw [sB4 _ _ hq] at n5; cases n5
theorem fc_as_told (m : M K mg) : Fc P w K mg base "as_told" 2 ["plan"] (sp_told K) := ⟨_, _, m.m_as_told, m.F_as_told.kp, m.b_as_told, ok_as_told m⟩
def cT (t : Int) (D : List Str) (r : PRow) : Bool := decide (r.1 = t) && decide (r.2.1 ∈ D)
def NamesAt (H : Hp) (ys : List V) (xs : List PRow) : Prop := KRows H ys (xs.map keyN)
def sp_signs (K : PySem.W.Frag) (C CD : Addr) : Sp := fun vs H Q _ => ∃ (h a : Addr) (z : Str) (t : Int) (rs : List Str) (ds : List DoorD) (us : List V) (rows : List PRow), vs = [.ref h, .ref a, .str z, .int t] ∧ HouseAt C CD H h rs ds ∧ z ∈ rs ∧ ds.length ≤ 20 ∧ (ds.map (·.1)).Nodup ∧ SqL K H a us ∧ PlanAt H us rows ∧ rows.length ≤ 200 ∧
  ∀ p ys H', H p = none → Same H H' → H' p = some (.lst ys) → NamesAt H' ys (dueR rows t (sortS (fromR ds z))) → Q (.ref p) H'
theorem r_signs {C CD : Addr} {H : Hp} {Q : VK} {E : XK} {h a : Addr} {z : Str} {t : Int} {rs : List Str} {ds : List DoorD} {us : List V} {rows : List PRow} (hh : HouseAt C CD H h rs ds) (hz : z ∈ rs) (hl : ds.length ≤ 20) (nd : (ds.map (·.1)).Nodup) (hS : SqL K H a us) (hp : PlanAt H us rows) (hr : rows.length ≤ 200)
    (k : ∀ p ys H', H p = none → Same H H' → H' p = some (.lst ys) → NamesAt H' ys (dueR rows t (sortS (fromR ds z))) → Q (.ref p) H') : sp_signs K C CD [.ref h, .ref a, .str z, .int t] H Q E := ⟨_, _, _, _, _, _, _, _, rfl, hh, hz, hl, nd, hS, hp, hr, k⟩
theorem from_nodup {ds : List DoorD} {z : Str} (nd : (ds.map (·.1)).Nodup) : (fromR ds z).Nodup := by
  unfold fromR
  rw [List.Nodup, List.pairwise_map] at nd ⊢
  exact nd.filter _
theorem from_len (ds : List DoorD) (z : Str) : (fromR ds z).length ≤ ds.length := by unfold fromR; rw [List.length_map]; exact List.length_filter_le _ _
theorem names_at {H : Hp} : ∀ {xs : List PRow} {ys : List V}, Paired (fun (r : PRow) y => ∃ q, y = .ref q ∧ H q = some (.tup [.str r.2.1, .int r.2.2])) xs ys → NamesAt H ys xs
  | _, _, .nil => .nil
  | _, _, .cons h t => .cons h (names_at t)
theorem map_inj3 : ∀ {xs ys : List PRow}, xs.map key3 = ys.map key3 → xs = ys
  | [], [], _ => rfl
  | [], _ :: _, h => by cases h
  | _ :: _, [], h => by cases h
  | x :: xs, y :: ys, h => by
    rw [List.map_cons, List.map_cons] at h
    injection h with h1 h2
    rw [key3_inj h1, map_inj3 h2]
theorem paired_flip {α β : Type} {F : α → β → Prop} : ∀ {l : List α} {m : List β}, Paired F l m → Paired (fun b a => F a b) m l
  | _, _, .nil => .nil
  | _, _, .cons h t => .cons h (paired_flip t)
theorem ok_signs (m : M K mg) : FnOk P w K mg base CX0 4 m.a_signs m.d_signs ["house", "plan", "room", "turn"] (sp_signs K m.C_House m.C_Door) := by
  refine m.F_signs.ok sc_signs (fun vs H Q E h => ?_) (fun cdv A outer s H vs Q E hr h => ?_)
  · obtain ⟨h, a, z, t, rs, ds, us, rows, rfl, hh, hz, hl, ndn, hS, hpl, hlen, k⟩ := h
    rfl
  · obtain ⟨h, a, z, t, rs, ds, us, rows, rfl, hh, hz, hl, ndn, hS, hpl, hlen, k⟩ := h
    have nd := sc_signs.nd
    have hu0 := Room.units0 hr
    have hu1 := Room.units1 hr
    have F_as_told := fc_as_told (P := P) (w := w) (base := base) m
    have w_dc_House := m.dc_House
    have w_mc_House_from_room := mc_House_from_room (P := P) (w := w) (base := base) m
    refine ⟨_, (pss_cons (ps_set (i := 4) nd rfl (by first | exact Or.inl rfl | exact Or.inr rfl) (pe_md 3 hr (pv 0) (pa_cons (pv 2) pa_nil)))
      (pss_cons (ps_set (i := 5) nd rfl (by first | exact Or.inl rfl | exact Or.inr rfl) (pe_f F_as_told hr (pa_cons (pe_comp (N := ["row", "turn", "doors"]) (nl := 1) (ci := [3, 4]) rfl (blk (s.heap.objs.size + 1) rfl rfl rfl (by kernel_rfl)) (pi_list (pv 1)) (fun _ _ _ _ => (pg_name (i := 0) (show (["row", "turn", "doors"] : List Str).Nodup by decide +kernel) rfl (by first | exact Or.inl rfl | exact Or.inr rfl))) (fun _ _ _ _ => (pf_one (PW.pt (pw_and (pt_cmpR op_eq (pe_ix (ix_tupK (K := K)) (pv 0) pe_int (fun _ _ => rfl)) (pv 1) (nomark _)) (pw_and1 (pt_cmpR (op_in_seqK (K := K)) (pe_ix (ix_tupK (K := K)) (pv 0) pe_int (fun _ _ => rfl)) (pv 2) (by with_unfolding_all rfl))))))) (fun _ _ _ _ => (pv 0))) pa_nil)))
      (pss_one (ps_ret (pe_comp (N := ["at", "name", "number"]) (nl := 3) (ci := []) rfl (blk (s.heap.objs.size + 1) rfl rfl rfl (by kernel_rfl)) (pi_list (pv 5)) (fun _ _ _ _ => (pg_tupK (K := K) (n := 3) rfl (pgs_cons (pg_name (i := 0) (show (["at", "name", "number"] : List Str).Nodup by decide +kernel) rfl (by first | exact Or.inl rfl | exact Or.inr rfl)) (pgs_cons (pg_name (i := 1) (show (["at", "name", "number"] : List Str).Nodup by decide +kernel) rfl (by first | exact Or.inl rfl | exact Or.inr rfl)) (pgs_cons (pg_name (i := 2) (show (["at", "name", "number"] : List Str).Nodup by decide +kernel) rfl (by first | exact Or.inl rfl | exact Or.inr rfl)) pgs_nil))))) (fun _ _ _ _ => pf_nil) (fun _ _ _ _ => (pe_tup (pa_cons (pv 1) (pa_cons (pv 2) pa_nil))))))))), ?_⟩
    refine rd_start (σ := [some (.ref h), some (.ref a), some (.str z), some (.int t), none, none]) rfl ?_
    have hul : us.length = rows.length := Paired.length hpl
    have fnd := from_nodup (z := z) ndn
    have ffl := from_len ds z
    obtain ⟨dx, f, l, qs, qp, qd, nk, e1, _⟩ := hh.ex
    walk_at "go"
    refine r_from hh hz hl fun p1 H1 n1 S1 e1' => ?_
    walk_at "go"
    refine comp_LA (α := PRow) (xs := rows) (vs := us) (RowAt3 H1) (cT t (fromR ds z)) (fun r y H => RowAt3 H y r) (fun _ _ _ _ ⟨q, h1, h2⟩ s => ⟨q, h1, s _ _ h2⟩) (by rw [sizeLine_eq]; omega) (rest := [some (.int t), some (.ref p1)]) (by rfl) (S1.seq hS) (plan_sm hpl S1) ?_ ?_ ?_
    · rintro v ⟨t0, n0, j0⟩ H2 ⟨q, rfl, hq⟩ hm s2 R hR
      have hq' : H2 q = some (.tup [.int t0, .str n0, .int j0]) := s2 _ _ hq
      have ep := s2 _ _ e1'
      walk_at "go"
      refine ⟨q, _, 0, _, rfl, rfl, SqT.of hq', rfl, ?_⟩
      walk_at "go"
      refine rd_if2 (fun hc => ?_) (fun hc => ?_)
      · walk_at "go"
        refine ⟨q, _, 1, _, rfl, rfl, SqT.of hq', rfl, ?_⟩
        walk_at "go"
        refine rd_inL (SqL.of ep) ?_
        walk_at "go"
        have := hR _ (Same.refl _)
        unfold cT at this
        rw [decide_eq_true hc, Bool.true_and] at this
        exact this
      · have := hR _ (Same.refl _)
        unfold cT at this
        rw [decide_eq_false hc, Bool.false_and] at this
        exact this
    · rintro v ⟨t0, n0, j0⟩ H2 ⟨q, rfl, hq⟩ hm - s2 R hR
      walk_at "go"
      exact hR _ _ ⟨q, rfl, s2 _ _ hq⟩ (Same.refl _)
    intro ys H2 s2 hys
    have hpl2 := paired_flip hys
    walk_at "go"
    rename_i p3 H3 n3 S3 e3
    have fl : (rows.filter (cT t (fromR ds z))).length ≤ rows.length := List.length_filter_le _ _
    refine r_told (SqL.of e3) (plan_sm hpl2 S3) (by omega) (Nat.lt_of_le_of_lt (told_len rows t fnd) (by omega)) fun p4 ws xs H4 n4 S4 e4 hx4 hxs => ?_
    have exs : xs = dueR rows t (sortS (fromR ds z)) := map_inj3 (hxs.trans (told_sorted rows t fnd))
    have hxl : xs.length ≤ 20 := by
      have h1 : xs.length = (toldK (rows.filter (cT t (fromR ds z)))).length := by rw [← List.length_map (f := key3), hxs, (sortK_perm _).length_eq]
      have h2 := told_len rows t fnd
      have h3 : xs.length ≤ (fromR ds z).length := by rw [h1]; exact h2
      omega
    walk_at "go"
    refine comp_L3 (α := PRow) (xs := xs) (vs := ws) (fun r => .int r.1) (fun r => .str r.2.1) (fun r => .int r.2.2) (fun _ => true) (fun r y H => ∃ q, y = .ref q ∧ H q = some (.tup [.str r.2.1, .int r.2.2])) (fun _ _ _ _ ⟨q, h1, h2⟩ s => ⟨q, h1, s _ _ h2⟩) (by rw [sizeLine_eq]; omega) (rest := []) (by rfl) (SqL.of e4) hx4 (fun x H1 hx s1 R hR => hR _ (Same.refl _)) (fun x H1 hx _ s1 R hR => ?_) ?_
    · walk_at "go"
      rename_i q9 H9 n9 S9 e9
      exact hR _ _ ⟨q9, rfl, e9⟩ S9
    intro ys5 H5 s5 hys5
    rw [filt_all] at hys5
    have hn5 := names_at hys5
    walk_at "go"
    rename_i p6 H6 n6 S6 e6
    have sB : Same H H5 := ((((S1.trans s2).trans S3).trans S4).trans s5)
    refine k p6 ys5 H6 ?_ (sB.trans S6) e6 ?_
    · cases hq : H p6 with
      | none => rfl
      | some u => rw [sB _ _ hq] at n6; cases n6
    · rw [← exs]
      exact KRows.same hn5 S6
theorem fc_signs (m : M K mg) : Fc P w K mg base "signs" 4 ["house", "plan", "room", "turn"] (sp_signs K m.C_House m.C_Door) := ⟨_, _, m.m_signs, m.F_signs.kp, m.b_signs, ok_signs m⟩

/-! ### the law's own helpers -/
def cellN (ns : List Int) (k : Int) : Int := ns.getD k.toNat 0
def sp_cell (K : PySem.W.Frag) : Sp := fun vs H Q _ => ∃ (a : Addr) (ns : List Int) (k : Int), vs = [.ref a, .int k] ∧ SqL K H a (ns.map V.int) ∧ 0 ≤ k ∧ Q (.int (cellN ns k)) H
theorem r_cell {H : Hp} {Q : VK} {E : XK} {a : Addr} {ns : List Int} {i : Int} (hS : SqL K H a (ns.map V.int)) (hi : 0 ≤ i) (h : Q (.int (cellN ns i)) H) : sp_cell K [.ref a, .int i] H Q E := ⟨_, _, _, rfl, hS, hi, h⟩
theorem ok__law_cell_at (m : M K mg) : FnOk P w K mg base CX0 1 m.a__law_cell_at m.d__law_cell_at ["_law_script", "_law_k"] (sp_cell K) := by
  refine m.F__law_cell_at.ok sc__law_cell_at (fun vs H Q E h => ?_) (fun cdv A outer s H vs Q E hr h => ?_)
  · obtain ⟨a, ns, i, rfl, hS, hi, k⟩ := h
    rfl
  · obtain ⟨a, ns, i, rfl, hS, hi, k⟩ := h
    have nd := sc__law_cell_at.nd
    have hu0 := Room.units0 hr
    have hu1 := Room.units1 hr
    refine ⟨_, (pss_cons (ps_if (pt_cmpR op_lt (pv 1) (pe_callB call_lenL rfl m.g_len bt_len (pa_cons (pv 0) pa_nil)) (nomark _)) (pss_one (ps_ret (pe_ix ix_list (pv 0) (pv 1) (fun _ _ => rfl)))) pss_nil)
      (pss_one (ps_ret pe_int))), ?_⟩
    refine rd_start (σ := [some (.ref a), some (.int i)]) rfl ?_
    walk_at "go"
    rw [List.length_map]
    refine rd_if2 (fun h1 => ?_) (fun h1 => ?_)
    · have hlt : i.toNat < ns.length := by omega
      have e := atI_nat (xs := ns.map V.int) (j := i.toNat) (v := .int (cellN ns i)) (by
        rw [List.getElem?_map, List.getElem?_eq_getElem hlt]
        unfold cellN
        rw [List.getD_eq_getElem?_getD, List.getElem?_eq_getElem hlt]; rfl)
      rw [show ((i.toNat : Nat) : Int) = i by omega] at e
      exact ⟨_, rfl, _, rfl, a, _, i, _, rfl, rfl, hS, e, k⟩
    · have e : cellN ns i = 0 := by
        unfold cellN
        rw [List.getD_eq_getElem?_getD, List.getElem?_eq_none (by omega)]; rfl
      rw [e] at k
      exact k
theorem fc__law_cell_at (m : M K mg) : Fc P w K mg base "_law_cell_at" 1 ["_law_script", "_law_k"] (sp_cell K) := ⟨_, _, m.m__law_cell_at, m.F__law_cell_at.kp, m.b__law_cell_at, ok__law_cell_at m⟩
def drawn1 (c k : Int) : Int := (c + 7919 * k + 1) * 48271 % 2147483647
def drawn2 (c k : Int) : Int := drawn1 c k * (drawn1 c k / 1009 + 69621) % 2147483647
def drawnF (c k : Int) : Int := (drawn2 c k + 31 * k + 1) * (drawn2 c k / 757 + 16807) % 2147483629
theorem drawnF_0 (c k : Int) : 0 ≤ drawnF c k := Int.emod_nonneg _ (by decide)
theorem drawnF_1 (c k : Int) : drawnF c k < 2147483648 := by
  have := Int.emod_lt_of_pos ((drawn2 c k + 31 * k + 1) * (drawn2 c k / 757 + 16807)) (b := 2147483629) (by decide)
  unfold drawnF
  omega
def sp_drawn : Sp := fun vs H Q _ => ∃ (c k : Int), vs = [.int c, .int k] ∧ Q (.int (drawnF c k)) H
theorem r_drawn {H : Hp} {Q : VK} {E : XK} {c k : Int} (h : ∀ n, n = drawnF c k → 0 ≤ n → n < 2147483648 → Q (.int n) H) : sp_drawn [.int c, .int k] H Q E := ⟨_, _, rfl, h _ rfl (drawnF_0 c k) (drawnF_1 c k)⟩
theorem ok__law_drawn (m : M K mg) : FnOk P w K mg base CX0 1 m.a__law_drawn m.d__law_drawn ["_law_cell", "_law_k"] (sp_drawn) := by
  refine m.F__law_drawn.ok sc__law_drawn (fun vs H Q E h => ?_) (fun cdv A outer s H vs Q E hr h => ?_)
  · obtain ⟨c, j, rfl, k⟩ := h
    rfl
  · obtain ⟨c, j, rfl, k⟩ := h
    have nd := sc__law_drawn.nd
    have hu0 := Room.units0 hr
    have hu1 := Room.units1 hr
    refine ⟨_, (pss_cons (ps_set (i := 2) nd rfl (by first | exact Or.inl rfl | exact Or.inr rfl) (pe_op op_mod (pe_op op_mul (pe_op op_add (pe_op op_add (pv 0) (pe_op op_mul pe_int (pv 1))) pe_int) pe_int) pe_int))
      (pss_cons (ps_set (i := 2) nd rfl (by first | exact Or.inl rfl | exact Or.inr rfl) (pe_op op_mod (pe_op op_mul (pv 2) (pe_op op_add (pe_op op_fdiv (pv 2) pe_int) pe_int)) pe_int))
      (pss_one (ps_ret (pe_op op_mod (pe_op op_mul (pe_op op_add (pe_op op_add (pv 2) (pe_op op_mul pe_int (pv 1))) pe_int) (pe_op op_add (pe_op op_fdiv (pv 2) pe_int) pe_int)) pe_int))))), ?_⟩
    refine rd_start (σ := [some (.int c), some (.int j), none]) rfl ?_
    unfold drawnF drawn2 drawn1 at k
    walk_at "go"
    exact k
theorem fc__law_drawn (m : M K mg) : Fc P w K mg base "_law_drawn" 1 ["_law_cell", "_law_k"] (sp_drawn) := ⟨_, _, m.m__law_drawn, m.F__law_drawn.kp, m.b__law_drawn, ok__law_drawn m⟩
local macro_rules | `(tactic| walk_at "rd1") => `(tactic| first | ((with_reducible refine' r_cell ?e ?s ?_); (case e => walk_at "hp"); (case s => walk_at "sd")) | ((with_reducible refine r_drawn ?_); intro n' d' h0' h1'))
theorem low_abc : lowB "abcdefghijklmnopqrstuvwxyz" = true := by decide +kernel
theorem len_abc : ("abcdefghijklmnopqrstuvwxyz" : Str).length = 26 := by rw [lit_len]; decide
theorem name_ok {x rest : Str} {b p : Int} {ch : Nat} (hx : lowB x = true) (hb0 : 0 ≤ b) (hb : b < 8) (er : rest = Txt.slice x none (some b)) (hp0 : 0 ≤ p) (hp : p < rest.length + 1) (hc : lowB ⟨#[ch]⟩ = true) : nameB (Txt.slice rest none (some p) ++ ⟨#[ch]⟩ ++ Txt.slice rest (some p) none) = true := by
  have l1 : rest.length ≤ 7 := by
    rcases PyProof.Rows.slice_ns_cases x b hb0 with h | h
    · rw [er]; omega
    · rw [er]; omega
  have hr : lowB rest = true := by rw [er]; exact lowB_slice hx
  have l2 := (PyProof.Rows.fact_slice_ns rest p).1 hp0 (by omega)
  have l3 := (PyProof.Rows.fact_slice_sn rest p).1 hp0 (by omega)
  have l4 : (⟨#[ch]⟩ : Str).length = 1 := rfl
  refine nameB_of ?_ ?_ (lowB_app (lowB_app (lowB_slice hr) hc) (lowB_slice hr))
  · rw [str_app_len, str_app_len]; omega
  · rw [str_app_len, str_app_len]; omega
theorem abc_list : ("abcdefghijklmnopqrstuvwxyz" : Str).cps.toList = List.range' 97 26 := by decide +kernel
theorem abc_at {i : Int} (h0 : 0 ≤ i) (h1 : i < 26) : atI ("abcdefghijklmnopqrstuvwxyz" : Str).cps.toList i = some (97 + i.toNat) := by
  have e := atI_nat (xs := ("abcdefghijklmnopqrstuvwxyz" : Str).cps.toList) (j := i.toNat) (v := 97 + i.toNat) (by rw [abc_list, List.getElem?_range' (by omega)]; simp)
  rw [show ((i.toNat : Nat) : Int) = i by omega] at e
  exact e
/-- the name that is made of a cell and a number -/
def restF (c : Int) : Str := Txt.slice (Txt.slice "abcdefghijklmnopqrstuvwxyz" (some (drawnF c 1 % 20)) none) none (some (drawnF c 2 % 8))
def placeF (c : Int) : Int := drawnF c 3 % ((restF c).length + 1)
def nameF (c k : Int) : Str := Txt.slice (restF c) none (some (placeF c)) ++ ⟨#[97 + ((drawnF c 4 + 5 * k) % 26).toNat]⟩ ++ Txt.slice (restF c) (some (placeF c)) none
theorem nameF_inj {c k1 k2 : Int} (h0 : 0 ≤ k1) (h1 : k1 < 26) (h2 : 0 ≤ k2) (h3 : k2 < 26) (h : nameF c k1 = nameF c k2) : k1 = k2 := by
  have h' := congrArg (fun z : Str => z.cps.toList) h
  unfold nameF at h'
  simp only [str_app_cps] at h'
  have h4 := List.append_cancel_left (List.append_cancel_right h')
  have h5 : 97 + ((drawnF c 4 + 5 * k1) % 26).toNat = 97 + ((drawnF c 4 + 5 * k2) % 26).toNat := by simpa using h4
  omega
def sp_lname : Sp := fun vs H Q _ => ∃ (c k : Int), vs = [.int c, .int k] ∧ (nameB (nameF c k) = true → Q (.str (nameF c k)) H)
theorem r_lname {H : Hp} {Q : VK} {E : XK} {c k : Int} (h : ∀ z, z = nameF c k → nameB z = true → Q (.str z) H) : sp_lname [.int c, .int k] H Q E := ⟨_, _, rfl, h _ rfl⟩
theorem ok__law_name (m : M K mg) : FnOk P w K mg base CX0 2 m.a__law_name m.d__law_name ["_law_cell", "_law_k"] (sp_lname) := by
  refine m.F__law_name.ok sc__law_name (fun vs H Q E h => ?_) (fun cdv A outer s H vs Q E hr h => ?_)
  · obtain ⟨c, j, rfl, k⟩ := h
    rfl
  · obtain ⟨c, j, rfl, k⟩ := h
    have nd := sc__law_name.nd
    have hu0 := Room.units0 hr
    have hu1 := Room.units1 hr
    have F__law_drawn := fc__law_drawn (P := P) (w := w) (base := base) m
    refine ⟨_, (pss_cons (ps_set (i := 2) nd rfl (by first | exact Or.inl rfl | exact Or.inr rfl) pe_str)
      (pss_cons (ps_set (i := 3) nd rfl (by first | exact Or.inl rfl | exact Or.inr rfl) (pe_slice sl_str (pe_slice sl_str (pv 2) (po_some (pe_op op_mod (pe_f F__law_drawn hr (pa_cons (pv 0) (pa_cons pe_int pa_nil))) pe_int)) po_none) po_none (po_some (pe_op op_mod (pe_f F__law_drawn hr (pa_cons (pv 0) (pa_cons pe_int pa_nil))) pe_int))))
      (pss_cons (ps_set (i := 4) nd rfl (by first | exact Or.inl rfl | exact Or.inr rfl) (pe_op op_mod (pe_f F__law_drawn hr (pa_cons (pv 0) (pa_cons pe_int pa_nil))) (pe_op op_add (pe_callB call_lenS rfl m.g_len bt_len (pa_cons (pv 3) pa_nil)) pe_int)))
      (pss_one (ps_ret (pe_op op_addS (pe_op op_addS (pe_slice sl_str (pv 3) po_none (po_some (pv 4))) (pe_ix ix_str (pv 2) (pe_op op_mod (pe_op op_add (pe_f F__law_drawn hr (pa_cons (pv 0) (pa_cons pe_int pa_nil))) (pe_op op_mul pe_int (pv 1))) pe_int) (fun _ _ => rfl))) (pe_slice sl_str (pv 3) (po_some (pv 4)) po_none))))))), ?_⟩
    refine rd_start (σ := [some (.int c), some (.int j), none, none, none]) rfl ?_
    have hl := len_abc
    walk_at "go"
    refine ⟨_, _, _, rfl, rfl, (by walk_at "sz"), abc_at (by omega) (by omega), ?_⟩
    walk_at "go"
    subst_vars
    refine k ?_
    refine' name_ok (x := Txt.slice "abcdefghijklmnopqrstuvwxyz" (some (drawnF c 1 % 20)) none) (b := drawnF c 2 % 8) ?x ?b0 ?b1 ?er ?p0 ?p1 ?hc
    case er => rfl
    case x => exact lowB_slice low_abc
    case b0 => omega
    case b1 => omega
    case p0 => exact Int.emod_nonneg _ (by omega)
    case p1 => exact Int.emod_lt_of_pos _ (by omega)
    case hc =>
      refine lowB_one low_abc ?_
      rw [abc_list, List.mem_range'_1]
      omega
theorem fc__law_name (m : M K mg) : Fc P w K mg base "_law_name" 2 ["_law_cell", "_law_k"] (sp_lname) := ⟨_, _, m.m__law_name, m.F__law_name.kp, m.b__law_name, ok__law_name m⟩
local macro_rules | `(tactic| walk_at "rd1") => `(tactic| ((with_reducible refine r_lname ?_); intro z' dz' hz'))
/-! ### the doors' rows -/
def TupAt (H : Hp) (v : V) (d : DoorD) : Prop := ∃ q, v = .ref q ∧ H q = some (.tup [.str d.1, .str d.2.1, d.2.2])
theorem tups_sm {H H' : Hp} {us : List V} {ds : List DoorD} (h : Paired (TupAt H) us ds) (s : Same H H') : Paired (TupAt H') us ds := Paired.imp' (fun v d ⟨q, e, h⟩ => ⟨q, e, s _ _ h⟩) h
/-- a door as it may be drawn -/
def DrawnD (rs : List Str) (d : DoorD) : Prop := nameB d.1 = true ∧ nameB d.2.1 = true ∧ EndOk d.2.2 ∧ DoorIn rs d
def sp_ldoors (K : PySem.W.Frag) : Sp := fun vs H Q _ => ∃ (c : Int) (a : Addr) (rs : List Str), vs = [.int c, .ref a] ∧ H a = some (.lst (rs.map V.str)) ∧ 0 < rs.length ∧ rs.length ≤ 20 ∧ (∀ z ∈ rs, nameB z = true) ∧ ∀ p us ds H', Same H H' → H' p = some (.lst us) → Paired (TupAt H') us ds → (∀ d ∈ ds, DrawnD rs d) → (ds.map (·.1)).Nodup → ds.length ≤ 8 → Q (.ref p) H'
theorem r_ldoors {H : Hp} {Q : VK} {E : XK} {c : Int} {a : Addr} {rs : List Str} (ha : H a = some (.lst (rs.map V.str))) (h0 : 0 < rs.length) (h1 : rs.length ≤ 20) (hn : ∀ z ∈ rs, nameB z = true) (h : ∀ p us ds H', Same H H' → H' p = some (.lst us) → Paired (TupAt H') us ds → (∀ d ∈ ds, DrawnD rs d) → (ds.map (·.1)).Nodup → ds.length ≤ 8 → Q (.ref p) H') : sp_ldoors K [.int c, .ref a] H Q E := ⟨_, _, _, rfl, ha, h0, h1, hn, h⟩
theorem names_nodup (c b : Int) (n : Nat) (h0 : 0 ≤ b) (hb : b + n ≤ 26) : ((List.range n).map fun k : Nat => nameF c ((k : Int) + b)).Nodup := by
  rw [List.Nodup, List.pairwise_map]
  refine List.Pairwise.imp_of_mem ?_ (List.nodup_range (n := n))
  intro i j hi hj hne z
  have hi' := List.mem_range.mp hi
  have hj' := List.mem_range.mp hj
  have := nameF_inj (by omega) (by omega) (by omega) (by omega) z
  omega
theorem ok__law_doors (m : M K mg) : FnOk P w K mg base CX0 3 m.a__law_doors m.d__law_doors ["_law_cell", "_law_rooms"] (sp_ldoors K) := by
  refine m.F__law_doors.ok sc__law_doors (fun vs H Q E h => ?_) (fun cdv A outer s H vs Q E hr h => ?_)
  · obtain ⟨c, a, rs, rfl, ha, h0, h1, hn, k⟩ := h
    rfl
  · obtain ⟨c, a, rs, rfl, ha, h0, h1, hn, k⟩ := h
    have nd := sc__law_doors.nd
    have hu0 := Room.units0 hr
    have hu1 := Room.units1 hr
    have F__law_drawn := fc__law_drawn (P := P) (w := w) (base := base) m
    have F__law_name := fc__law_name (P := P) (w := w) (base := base) m
    refine ⟨_, (pss_cons (ps_set (i := 2) nd rfl (by first | exact Or.inl rfl | exact Or.inr rfl) (pe_lst pa_nil))
      (pss_cons (ps_for PassesOwn.never rfl (pi_range1 rfl m.g_range (pa_cons (pe_op op_mod (pe_f F__law_drawn hr (pa_cons (pv 0) (pa_cons pe_int pa_nil))) pe_int) pa_nil)) (pg_name (i := 3) nd rfl (by first | exact Or.inl rfl | exact Or.inr rfl)) (pss_cons (ps_set (i := 4) nd rfl (by first | exact Or.inl rfl | exact Or.inr rfl) (pe_f F__law_drawn hr (pa_cons (pv 0) (pa_cons (pe_op op_add pe_int (pv 3)) pa_nil))))
      (pss_cons (ps_set (i := 5) nd rfl (by first | exact Or.inl rfl | exact Or.inr rfl) (pe_ix ix_list (pe_op op_cat (pv 1) (pe_lst (pa_cons pe_non pa_nil))) (pe_op op_mod (pe_op op_fdiv (pv 4) pe_int) (pe_op op_add (pe_callB call_lenL rfl m.g_len bt_len (pa_cons (pv 1) pa_nil)) pe_int)) (fun _ _ => rfl)))
      (pss_cons (ps_set (i := 6) nd rfl (by first | exact Or.inl rfl | exact Or.inr rfl) (pe_f F__law_name hr (pa_cons (pv 0) (pa_cons (pe_op op_add (pv 3) (pe_op op_mul pe_int (pe_op op_mod (pe_f F__law_drawn hr (pa_cons (pv 0) (pa_cons pe_int pa_nil))) pe_int))) pa_nil))))
      (pss_one (ps_expr (pe_bm PySem.F.plainAttrs_list PySem.F.slot_list_append PySem.F.type_list_append mt_append (pv 2) (pa_cons (pe_tup (pa_cons (pv 6) (pa_cons (pe_ix ix_list (pv 1) (pe_op op_mod (pv 4) (pe_callB call_lenL rfl m.g_len bt_len (pa_cons (pv 1) pa_nil))) (fun _ _ => rfl)) (pa_cons (pv 5) pa_nil)))) pa_nil))))))))
      (pss_one (ps_ret (pv 2))))), ?_⟩
    refine rd_start (σ := [some (.int c), some (.ref a), none, none, none, none, none]) rfl ?_
    walk_at "go"
    rename_i p H1 n1 S1 e1 nn dn hn0 hn1
    have hap : a ≠ p := fun z => by rw [z, n1] at ha; cases ha
    have hb0 := drawnF_0 c 15
    have hml : 0 < (rs.map V.str).length := by rw [List.length_map]; exact h0
    refine rd_forR (fun i σ' H' => SameBut p H1 H' ∧ (∃ us ds, H' p = some (.lst us) ∧ Paired (TupAt H') us ds ∧ (∀ d ∈ ds, DrawnD rs d) ∧ ds.map (·.1) = (List.range i).map (fun k : Nat => nameF c ((k : Int) + 8 * (drawnF c 15 % 2)))) ∧ ∃ x y z u, σ' = [some (.int c), some (.ref a), some (.ref p), x, y, z, u]) ⟨SameBut.refl, ⟨[], [], e1, .nil, (fun _ z => nomatch z), rfl⟩, _, _, _, _, rfl⟩ ?_ ?_
    · rintro i _ H' hi ⟨sb, ⟨us, ds, eu, htu, hds, hnm⟩, x1, x2, x3, x4, rfl⟩
      have ha' := sb _ _ (S1 _ _ ha) hap
      have hul : us.length = i := by
        have h5 : ds.length = i := by rw [← List.length_map (f := fun d : DoorD => d.1), hnm, List.length_map, List.length_range]
        rw [Paired.length htu]; exact h5
      walk_at "go"
      refine rd_ixM (by walk_at "hp") (by omega) (by rw [List.length_append]; show _ < ((((rs.map V.str).length + 1 : Nat)) : Int); omega) fun v hv => ?_
      have hve : v = .non ∨ ∃ z, v = .str z ∧ z ∈ rs := by
        rcases List.mem_append.mp hv with hv | hv
        · obtain ⟨z, hz, rfl⟩ := List.mem_map.mp hv
          exact .inr ⟨z, rfl, hz⟩
        · exact .inl (List.mem_singleton.mp hv)
      walk_at "go"
      rename_i nk dk hk0 hk1 zn dzn hzn hq0 hq1
      refine rd_ixM (by walk_at "hp") (by omega) (by omega) fun v2 hv2 => ?_
      obtain ⟨st, hst, rfl⟩ := List.mem_map.mp hv2
      walk_at "go"
      rename_i q8 H8 n8 S8 e8
      refine rd_append (by walk_at "hp") (by rw [sizeLine_eq]; omega) fun H9 B9 e9 => ?_
      have sbb : SameBut p H' H9 := by walk_at "sb"
      have sb8 : SameBut p H' H8 := by walk_at "sb"
      have hq8 : q8 ≠ p := fun z => by
        have h7 : ∃ u, (_ : Hp) p = some u := ⟨_, eu⟩
        rw [z] at e8
        have h8 : H8 p = some (.lst us) := by walk_at "hp"
        rw [e8] at h8; cases h8
      walk_at "go"
      refine ⟨by walk_at "sb", ⟨us ++ [.ref q8], ds ++ [(zn, st, v)], e9, ?_, ?_, ?_⟩, _, _, _, _, rfl⟩
      · refine L2.Paired.snoc (Paired.imp' (fun w d ⟨q, e, h⟩ => ⟨q, e, sbb _ _ h fun z => by rw [z, eu] at h; cases h⟩) htu) ⟨q8, rfl, B9 _ _ e8 hq8⟩
      · intro d hd
        rcases List.mem_append.mp hd with hd | hd
        · exact hds d hd
        · cases List.mem_singleton.mp hd
          refine ⟨hzn, hn st hst, ?_, hst, hve⟩
          rcases hve with rfl | ⟨z, rfl, hz⟩
          · exact .inl rfl
          · exact .inr ⟨z, rfl, hn z hz⟩
      · rw [List.map_append, hnm, List.range_succ, List.map_append]
        congr 1
        rw [dzn, dk, Int.zero_add]; rfl
    · rintro _ H' ⟨sb, ⟨us, ds, eu, htu, hds, hnm⟩, x1, x2, x3, x4, rfl⟩
      walk_at "go"
      refine k _ _ _ _ (SameBut.same n1 S1 sb) eu htu hds ?_ ?_
      · rw [hnm]; exact names_nodup c _ _ (by omega) (by omega)
      · have h5 := congrArg List.length hnm
        rw [List.length_map, List.length_map, List.length_range] at h5
        omega
theorem fc__law_doors (m : M K mg) : Fc P w K mg base "_law_doors" 3 ["_law_cell", "_law_rooms"] (sp_ldoors K) := ⟨_, _, m.m__law_doors, m.F__law_doors.kp, m.b__law_doors, ok__law_doors m⟩

/-! ### the plan's rows -/
def sp_lplan (K : PySem.W.Frag) : Sp := fun vs H Q _ => ∃ (a b : Addr) (f l : Int) (ns : List Int) (us : List V) (ds : List DoorD), vs = [.ref a, .ref b, .int f, .int l] ∧ SqL K H a (ns.map V.int) ∧ ns.length ≤ 40 ∧ SqL K H b us ∧ Paired (TupAt H) us ds ∧ ds.length ≤ 8 ∧ f ≤ l ∧ ∀ p ws rows H', Same H H' → H' p = some (.lst ws) → PlanAt H' ws rows → rows.length ≤ 80 → Q (.ref p) H'
theorem r_lplan {H : Hp} {Q : VK} {E : XK} {a b : Addr} {f l : Int} {ns : List Int} {us : List V} {ds : List DoorD} (ha : SqL K H a (ns.map V.int)) (hn : ns.length ≤ 40) (hb : SqL K H b us) (ht : Paired (TupAt H) us ds) (hd : ds.length ≤ 8) (hf : f ≤ l) (h : ∀ p ws rows H', Same H H' → H' p = some (.lst ws) → PlanAt H' ws rows → rows.length ≤ 80 → Q (.ref p) H') : sp_lplan K [.ref a, .ref b, .int f, .int l] H Q E := ⟨_, _, _, _, _, _, _, rfl, ha, hn, hb, ht, hd, hf, h⟩
theorem plan_but {H H' : Hp} {p : Addr} {xs : List V} {ws : List V} {rows : List PRow} (h : PlanAt H ws rows) (e : H p = some (.lst xs)) (sb : SameBut p H H') : PlanAt H' ws rows := Paired.imp' (fun v r ⟨q, e1, h⟩ => ⟨q, e1, sb _ _ h fun z => by rw [z, e] at h; cases h⟩) h
theorem ok__law_plan (m : M K mg) : FnOk P w K mg base CX0 2 m.a__law_plan m.d__law_plan ["_law_cells", "_law_doors_here", "_law_first", "_law_last"] (sp_lplan K) := by
  refine m.F__law_plan.ok sc__law_plan (fun vs H Q E h => ?_) (fun cdv A outer s H vs Q E hr h => ?_)
  · obtain ⟨a, b, f, l, ns, us, ds, rfl, ha, hlen, hb, ht, hdl, hfl, k⟩ := h
    rfl
  · obtain ⟨a, b, f, l, ns, us, ds, rfl, ha, hlen, hb, ht, hdl, hfl, k⟩ := h
    have nd := sc__law_plan.nd
    have hu0 := Room.units0 hr
    have hu1 := Room.units1 hr
    have F__law_drawn := fc__law_drawn (P := P) (w := w) (base := base) m
    refine ⟨_, (pss_cons (ps_set (i := 4) nd rfl (by first | exact Or.inl rfl | exact Or.inr rfl) (pe_lst pa_nil))
      (pss_cons (ps_set (i := 5) nd rfl (by first | exact Or.inl rfl | exact Or.inr rfl) (pe_op op_cat (pe_comp (N := ["_law_door"]) (nl := 1) (ci := []) rfl (blk (s.heap.objs.size + 1) rfl rfl rfl (by kernel_rfl)) (pi_list (pv 1)) (fun _ _ _ _ => (pg_name (i := 0) (show (["_law_door"] : List Str).Nodup by decide +kernel) rfl (by first | exact Or.inl rfl | exact Or.inr rfl))) (fun _ _ _ _ => pf_nil) (fun _ _ _ _ => (pe_ix (ix_tupK (K := K)) (pv 0) pe_int (fun _ _ => rfl)))) (pe_lst (pa_cons pe_str pa_nil))))
      (pss_cons (ps_for PassesOwn.never rfl (pi_list (pv 0)) (pg_name (i := 6) nd rfl (by first | exact Or.inl rfl | exact Or.inr rfl)) (pss_cons (ps_set (i := 7) nd rfl (by first | exact Or.inl rfl | exact Or.inr rfl) (pe_ix ix_list (pe_lst (pa_cons (pe_op op_mod (pe_f F__law_drawn hr (pa_cons (pv 6) (pa_cons pe_int pa_nil))) pe_int) (pa_cons (pe_op op_mod (pv 6) (pe_powc 100000000000 (by decide) ⟨by decide, by decide, by decide⟩)) pa_nil))) (pe_op op_mod (pe_f F__law_drawn hr (pa_cons (pv 6) (pa_cons pe_int pa_nil))) pe_int) (fun _ _ => rfl)))
      (pss_cons (ps_set (i := 8) nd rfl (by first | exact Or.inl rfl | exact Or.inr rfl) (pe_callB (call_maxI rfl) rfl m.g_max bt_max (pa_cons pe_int (pa_cons (pe_op op_add (pe_op op_sub (pv 2) pe_int) (pe_op op_mod (pe_f F__law_drawn hr (pa_cons (pv 6) (pa_cons pe_int pa_nil))) (pe_op op_add (pe_op op_sub (pv 3) (pv 2)) pe_int))) pa_nil))))
      (pss_cons (ps_expr (pe_bm PySem.F.plainAttrs_list PySem.F.slot_list_append PySem.F.type_list_append mt_append (pv 4) (pa_cons (pe_tup (pa_cons (pv 8) (pa_cons (pe_ix ix_list (pv 5) (pe_op op_mod (pe_f F__law_drawn hr (pa_cons (pv 6) (pa_cons pe_int pa_nil))) (pe_callB call_lenL rfl m.g_len bt_len (pa_cons (pv 5) pa_nil))) (fun _ _ => rfl)) (pa_cons (pv 7) pa_nil)))) pa_nil)))
      (pss_one (ps_if (pt_cmpR op_eq (pe_op op_mod (pe_f F__law_drawn hr (pa_cons (pv 6) (pa_cons pe_int pa_nil))) pe_int) pe_int (nomark _)) (pss_one (ps_expr (pe_bm PySem.F.plainAttrs_list PySem.F.slot_list_append PySem.F.type_list_append mt_append (pv 4) (pa_cons (pe_tup (pa_cons (pv 8) (pa_cons (pe_ix ix_tup (pe_ix ix_list (pv 4) (pe_un un_neg pe_int) (fun _ _ => rfl)) pe_int (fun _ _ => rfl)) (pa_cons (pe_op op_mod (pe_f F__law_drawn hr (pa_cons (pv 6) (pa_cons pe_int pa_nil))) pe_int) pa_nil)))) pa_nil)))) pss_nil))))))
      (pss_one (ps_ret (pv 4)))))), ?_⟩
    refine rd_start (σ := [some (.ref a), some (.ref b), some (.int f), some (.int l), none, none, none, none, none]) rfl ?_
    walk_at "go"
    rename_i p H1 n1 S1 e1
    refine comp_LA (α := DoorD) (xs := ds) (vs := us) (TupAt H1) (fun _ => true) (fun d y _ => y = .str d.1) (fun _ _ _ _ h _ => h) (by rw [sizeLine_eq]; omega) (rest := []) (by rfl) (S1.seq hb) (tups_sm ht S1) (fun v x H1 _ hx s1 R hR => hR _ (Same.refl _)) ?_ ?_
    · rintro v d H2 ⟨q, rfl, hq⟩ hm - s2 R hR
      walk_at "go"
      refine ⟨q, _, 0, _, rfl, rfl, SqT.of (s2 _ _ hq), rfl, ?_⟩
      exact hR _ _ rfl (Same.refl _)
    intro ys H2 s2 hys
    rw [filt_all] at hys
    obtain rfl := paired_eq hys
    walk_at "go"
    rename_i q3 H3 n3 S3 e3 q4 H4 n4 S4 e4 q5 H5 n5 S5 e5
    have hnl : (ds.map (fun d : DoorD => V.str d.1) ++ [V.str "nowhere"]).length = ds.length + 1 := by rw [List.length_append, List.length_map]; rfl
    have hp5 : H5 p = some (.lst []) := by walk_at "hp"
    have sH5 : Same H H5 := by walk_at "sm"
    have hp4 : H4 p = some (.lst []) := by walk_at "hp"
    have hqp : q5 ≠ p := fun z => by rw [z, hp4] at n5; cases n5
    refine rd_forI ns (fun i σ' H' => SameBut p H5 H' ∧ (∃ ws rows, H' p = some (.lst ws) ∧ PlanAt H' ws rows ∧ rows.length ≤ 2 * i) ∧ ∃ x y z, σ' = [some (.ref a), some (.ref b), some (.int f), some (.int l), some (.ref p), some (.ref q5), x, y, z]) ⟨SameBut.refl, ⟨[], [], hp5, .nil, Nat.le_refl _⟩, _, _, _, rfl⟩ ?_ ?_ ?_
    · rintro i σ' H' ⟨sb, _⟩
      have sA : Same H H' := SameBut.same n1 (S1.trans (((s2.trans S3).trans S4).trans S5)) sb
      exact sA.seq ha
    · rintro i c _ H' hc ⟨sb, ⟨ws, rows, ew, hpl, hrl⟩, x1, x2, x3, rfl⟩
      have hi : i < ns.length := (List.getElem?_eq_some_iff.mp hc).1
      have hwl : ws.length = rows.length := Paired.length hpl
      have eq5 := sb _ _ e5 hqp
      walk_at "go"
      refine rd_ixM (SqL.of (by walk_at "hp")) (by assumption) (by assumption) fun v hv => ?_
      obtain ⟨zn, rfl⟩ : ∃ z, v = .str z := by
        rcases List.mem_append.mp hv with hv | hv
        · obtain ⟨d, _, rfl⟩ := List.mem_map.mp hv
          exact ⟨_, rfl⟩
        · exact ⟨_, List.mem_singleton.mp hv⟩
      walk_at "go"
      rename_i q8 H8 n8 S8 e8
      have ew8 : H8 p = some (.lst ws) := by walk_at "hp"
      refine rd_append ew8 (by rw [sizeLine_eq]; omega) fun H9 B9 e9 => ?_
      have hq8 : q8 ≠ p := fun z => by rw [z, ew8] at e8; cases e8
      have e89 := B9 _ _ e8 hq8
      have sb8 : SameBut p H' H8 := by walk_at "sb"
      have sb9 : SameBut p H5 H9 := (sb.trans sb8).trans B9
      have hpl9 : PlanAt H9 (ws ++ [.ref q8]) (rows ++ [(_, zn, _)]) := L2.Paired.snoc (plan_but (plan_but hpl ew sb8) ew8 B9) ⟨q8, rfl, e89⟩
      walk_at "go"
      refine rd_if2 (fun hcc => ?_) (fun hcc => ?_)
      · walk_at "go"
        refine rd_ixL (SqL.of e9) (atI_last _ _) ?_
        walk_at "go"
        refine ⟨q8, _, 1, _, rfl, rfl, SqT.of e89, rfl, ?_⟩
        walk_at "go"
        rename_i q10 H10 n10 S10 e10
        have ew10 : H10 p = some (.lst (ws ++ [.ref q8])) := S10 _ _ e9
        refine rd_append ew10 (by rw [sizeLine_eq, List.length_append]; show ws.length + 1 < _; omega) fun H11 B11 e11 => ?_
        have hq10 : q10 ≠ p := fun z => by rw [z, ew10] at e10; cases e10
        walk_at "go"
        exact ⟨(sb9.trans S10.but).trans B11, ⟨_, rows ++ [_] ++ [(_, zn, _)], e11, L2.Paired.snoc (plan_but (plan_sm hpl9 S10) ew10 B11) ⟨q10, rfl, B11 _ _ e10 hq10⟩, by rw [List.length_append, List.length_append]; show rows.length + 1 + 1 ≤ _; omega⟩, _, _, _, rfl⟩
      · walk_at "go"
        exact ⟨sb9, ⟨_, _, e9, hpl9, by rw [List.length_append]; show rows.length + 1 ≤ _; omega⟩, _, _, _, rfl⟩
    · rintro _ H' ⟨sb, ⟨ws, rows, ew, hpl, hrl⟩, x1, x2, x3, rfl⟩
      walk_at "go"
      exact k _ _ _ _ (SameBut.same n1 (S1.trans (((s2.trans S3).trans S4).trans S5)) sb) ew hpl (by omega)
theorem fc__law_plan (m : M K mg) : Fc P w K mg base "_law_plan" 2 ["_law_cells", "_law_doors_here", "_law_first", "_law_last"] (sp_lplan K) := ⟨_, _, m.m__law_plan, m.F__law_plan.kp, m.b__law_plan, ok__law_plan m⟩

/-! ### the law -/
theorem rd_v13 {v : V} {H : Hp} {Q : VK} {a0 a1 a2 a3 a4 a5 a6 a7 a8 a9 a10 a11 a12 : Option V} {l : St} (h : Q v H) : tVar 13 (a0 :: a1 :: a2 :: a3 :: a4 :: a5 :: a6 :: a7 :: a8 :: a9 :: a10 :: a11 :: a12 :: some v :: l) H Q := ⟨v, rfl, h⟩
theorem rd_s13 {v : V} {H : Hp} {q : St → Hp → Prop} {a0 a1 a2 a3 a4 a5 a6 a7 a8 a9 a10 a11 a12 a : Option V} {l : St} (h : q (a0 :: a1 :: a2 :: a3 :: a4 :: a5 :: a6 :: a7 :: a8 :: a9 :: a10 :: a11 :: a12 :: some v :: l) H) : gName 13 v (a0 :: a1 :: a2 :: a3 :: a4 :: a5 :: a6 :: a7 :: a8 :: a9 :: a10 :: a11 :: a12 :: a :: l) H q := h
theorem rd_s14 {v : V} {H : Hp} {q : St → Hp → Prop} {a0 a1 a2 a3 a4 a5 a6 a7 a8 a9 a10 a11 a12 a13 a : Option V} {l : St} (h : q (a0 :: a1 :: a2 :: a3 :: a4 :: a5 :: a6 :: a7 :: a8 :: a9 :: a10 :: a11 :: a12 :: a13 :: some v :: l) H) : gName 14 v (a0 :: a1 :: a2 :: a3 :: a4 :: a5 :: a6 :: a7 :: a8 :: a9 :: a10 :: a11 :: a12 :: a13 :: a :: l) H q := h
theorem rd_v15 {v : V} {H : Hp} {Q : VK} {a0 a1 a2 a3 a4 a5 a6 a7 a8 a9 a10 a11 a12 a13 a14 : Option V} {l : St} (h : Q v H) : tVar 15 (a0 :: a1 :: a2 :: a3 :: a4 :: a5 :: a6 :: a7 :: a8 :: a9 :: a10 :: a11 :: a12 :: a13 :: a14 :: some v :: l) H Q := ⟨v, rfl, h⟩
theorem rd_s15 {v : V} {H : Hp} {q : St → Hp → Prop} {a0 a1 a2 a3 a4 a5 a6 a7 a8 a9 a10 a11 a12 a13 a14 a : Option V} {l : St} (h : q (a0 :: a1 :: a2 :: a3 :: a4 :: a5 :: a6 :: a7 :: a8 :: a9 :: a10 :: a11 :: a12 :: a13 :: a14 :: some v :: l) H) : gName 15 v (a0 :: a1 :: a2 :: a3 :: a4 :: a5 :: a6 :: a7 :: a8 :: a9 :: a10 :: a11 :: a12 :: a13 :: a14 :: a :: l) H q := h
theorem kit_list : PySem.W.kitOne K (.type "list") (.type "list") = some true := by
  unfold PySem.W.kitOne
  rw [if_pos (beq_self_eq_true _)]
theorem rd_isiLL {H : Hp} {Q : VK} {a : Addr} {xs : List V} (e : H a = some (.lst xs)) (h : Q (.bl true) H) : rIsi K [.ref a, .ty "list"] H Q := ⟨_, _, _, _, _, rfl, .lst e, rfl, kit_list, h⟩
local macro_rules | `(tactic| walk_at "rd1") => `(tactic| first | (with_reducible refine rd_v13 ?_) | (with_reducible refine rd_v14 ?_) | (with_reducible refine rd_v15 ?_) | (with_reducible refine rd_s13 ?_) | (with_reducible refine rd_s14 ?_) | (with_reducible refine rd_s15 ?_) | ((with_reducible refine' rd_isiLL ?e ?_); (case e => walk_at "hp")))
theorem nameF_ok (c k : Int) : nameB (nameF c k) = true := by
  have h2 := drawnF_0 c 2
  have h4 := drawnF_0 c 4
  refine' name_ok (x := Txt.slice "abcdefghijklmnopqrstuvwxyz" (some (drawnF c 1 % 20)) none) (b := drawnF c 2 % 8) ?x ?b0 ?b1 ?er ?p0 ?p1 ?hc
  case er => rfl
  case x => exact lowB_slice low_abc
  case b0 => omega
  case b1 => omega
  case p0 => exact Int.emod_nonneg _ (by omega)
  case p1 => exact Int.emod_lt_of_pos _ (by omega)
  case hc =>
    refine lowB_one low_abc ?_
    rw [abc_list, List.mem_range'_1]
    omega
theorem cut_p (ns : List Int) : (cutI ns (some 4) (some 44)).length ≤ 40 := by
  unfold cutI
  rw [show HT.sIx ns.length ns.length (some 44) = min 44 ns.length from HT.sIx_nat _ _ 44, show HT.sIx ns.length 0 (some 4) = min 4 ns.length from HT.sIx_nat _ _ 4, List.length_take, List.length_drop]
  omega
theorem str_pairs : ∀ rs : List Str, Paired (fun v z => v = V.str z) (rs.map V.str) rs
  | [] => .nil
  | _ :: rs => .cons rfl (str_pairs rs)
def roomsF (c : Int) : List Str := (List.range (1 + c % 5).toNat).map fun k : Nat => nameF c ((k : Int) + 0)
theorem due_snoc (rows : List PRow) (t : Int) (l : List Str) (n : Str) : dueR rows t (l ++ [n]) = dueR rows t l ++ if 0 < total rows t n then [(t, n, total rows t n)] else [] := by
  unfold dueR
  rw [List.filter_append, List.map_append]
  congr 1
  by_cases h : 0 < total rows t n
  · rw [if_pos h]; simp [h]
  · rw [if_neg h]; simp [h]
theorem names_but {H H' : Hp} {p : Addr} {xs ys : List V} {ds : List PRow} (h : NamesAt H ys ds) (e : H p = some (.lst xs)) (sb : SameBut p H H') : NamesAt H' ys ds := Paired.imp' (fun v r ⟨q, e1, h⟩ => ⟨q, e1, sb _ _ h fun z => by rw [z, e] at h; cases h⟩) h
def sp_law (K : PySem.W.Frag) : Sp := fun vs H Q _ => ∃ (a : Addr) (ns : List Int), vs = [.ref a] ∧ SqL K H a (ns.map V.int) ∧ ns.length ≤ 63 ∧ ∀ H', Q (.bl true) H'
theorem ok_law (m : M K mg) : FnOk P w K mg base CX0 20 m.a_law m.d_law ["_law_script"] (sp_law K) := by
  refine m.F_law.ok sc_law (fun vs H Q E h => ?_) (fun cdv A outer s H vs Q E hr h => ?_)
  · obtain ⟨a, ns, rfl, hS, hlen, k⟩ := h
    rfl
  · obtain ⟨a, ns, rfl, hS, hlen, k⟩ := h
    have nd := sc_law.nd
    have hu0 := Room.units0 hr
    have hu1 := Room.units1 hr
    have F__law_cell_at := fc__law_cell_at (P := P) (w := w) (base := base) m
    have F__law_doors := fc__law_doors (P := P) (w := w) (base := base) m
    have F__law_name := fc__law_name (P := P) (w := w) (base := base) m
    have F__law_plan := fc__law_plan (P := P) (w := w) (base := base) m
    have F_signs := fc_signs (P := P) (w := w) (base := base) m
    have K_Door_1 := kc_Door_1 (P := P) (w := w) (base := base) m
    have K_House_0 := kc_House_0 (P := P) (w := w) (base := base) m
    have w_dc_Door := m.dc_Door
    have w_dc_House := m.dc_House
    refine ⟨_, (pss_cons (ps_set (i := 1) nd rfl (by first | exact Or.inl rfl | exact Or.inr rfl) (pe_f F__law_cell_at hr (pa_cons (pv 0) (pa_cons pe_int pa_nil))))
      (pss_cons (ps_setComp (i := 2) nd rfl (by first | exact Or.inl rfl | exact Or.inr rfl) (N := ["_law_k", "_law_cell"]) (nl := 1) (ci := [1]) rfl (blk (s.heap.objs.size + 1) rfl rfl rfl (by kernel_rfl)) (pi_range1 rfl m.g_range (pa_cons (pe_op op_add pe_int (pe_op op_mod (pv 1) pe_int)) pa_nil)) (fun _ _ _ _ => (pg_name (i := 0) (show (["_law_k", "_law_cell"] : List Str).Nodup by decide +kernel) rfl (by first | exact Or.inl rfl | exact Or.inr rfl))) (fun _ _ _ _ => pf_nil) (fun _ _ _ _ => (pe_f F__law_name hr (pa_cons (pv 1) (pa_cons (pv 0) pa_nil)))))
      (pss_cons (ps_set (i := 3) nd rfl (by first | exact Or.inl rfl | exact Or.inr rfl) (pe_f F__law_doors hr (pa_cons (pv 1) (pa_cons (pv 2) pa_nil))))
      (pss_cons (ps_set (i := 4) nd rfl (by first | exact Or.inl rfl | exact Or.inr rfl) (pe_op op_mod (pe_op op_fdiv (pe_f F__law_cell_at hr (pa_cons (pv 0) (pa_cons pe_int pa_nil))) pe_int) (pe_ix ix_list (pe_lst (pa_cons pe_int (pa_cons (pe_powc 100000000000 (by decide) ⟨by decide, by decide, by decide⟩) pa_nil))) (pe_op op_mod (pe_op op_fdiv (pe_f F__law_cell_at hr (pa_cons (pv 0) (pa_cons pe_int pa_nil))) pe_int) pe_int) (fun _ _ => rfl))))
      (pss_cons (ps_set (i := 5) nd rfl (by first | exact Or.inl rfl | exact Or.inr rfl) (pe_op op_add (pv 4) (pe_op op_mod (pe_f F__law_cell_at hr (pa_cons (pv 0) (pa_cons pe_int pa_nil))) pe_int)))
      (pss_cons (ps_set (i := 6) nd rfl (by first | exact Or.inl rfl | exact Or.inr rfl) (pe_mk K_House_0 hr (pa_cons (pe_comp (N := ["_law_room"]) (nl := 1) (ci := []) rfl (blk (s.heap.objs.size + 1) rfl rfl rfl (by kernel_rfl)) (pi_list (pv 2)) (fun _ _ _ _ => (pg_name (i := 0) (show (["_law_room"] : List Str).Nodup by decide +kernel) rfl (by first | exact Or.inl rfl | exact Or.inr rfl))) (fun _ _ _ _ => pf_nil) (fun _ _ _ _ => (pe_tup (pa_cons (pv 0) (pa_cons pe_int pa_nil))))) (pa_cons (pe_comp (N := ["_law_one", "_law_two", "_law_end"]) (nl := 3) (ci := []) rfl (blk (s.heap.objs.size + 1) rfl rfl rfl (by kernel_rfl)) (pi_list (pv 3)) (fun _ _ _ _ => (pg_tupK (K := K) (n := 3) rfl (pgs_cons (pg_name (i := 0) (show (["_law_one", "_law_two", "_law_end"] : List Str).Nodup by decide +kernel) rfl (by first | exact Or.inl rfl | exact Or.inr rfl)) (pgs_cons (pg_name (i := 1) (show (["_law_one", "_law_two", "_law_end"] : List Str).Nodup by decide +kernel) rfl (by first | exact Or.inl rfl | exact Or.inr rfl)) (pgs_cons (pg_name (i := 2) (show (["_law_one", "_law_two", "_law_end"] : List Str).Nodup by decide +kernel) rfl (by first | exact Or.inl rfl | exact Or.inr rfl)) pgs_nil))))) (fun _ _ _ _ => pf_nil) (fun _ _ _ _ => (pe_mk K_Door_1 hr (pa_cons (pv 0) (pa_cons (pv 1) (pa_cons (pv 2) pa_nil)))))) (pa_cons (pe_lst pa_nil) (pa_cons (pv 5) (pa_cons (pv 4) pa_nil)))))))
      (pss_cons (ps_set (i := 7) nd rfl (by first | exact Or.inl rfl | exact Or.inr rfl) (pe_f F__law_plan hr (pa_cons (pe_slice sl_list (pv 0) (po_some pe_int) (po_some pe_int)) (pa_cons (pv 3) (pa_cons (pv 4) (pa_cons (pv 5) pa_nil))))))
      (pss_cons (ps_set (i := 8) nd rfl (by first | exact Or.inl rfl | exact Or.inr rfl) (pe_callTy call_listL rfl m.g_list bt_list (pa_cons (pv 7) pa_nil)))
      (pss_cons (ps_set (i := 9) nd rfl (by first | exact Or.inl rfl | exact Or.inr rfl) (pe_ix ix_list (pv 2) (pe_op op_mod (pe_f F__law_cell_at hr (pa_cons (pv 0) (pa_cons pe_int pa_nil))) (pe_callB call_lenL rfl m.g_len bt_len (pa_cons (pv 2) pa_nil))) (fun _ _ => rfl)))
      (pss_cons (ps_for PassesOwn.never rfl (pi_range2 rfl m.g_range (pa_cons (pv 4) (pa_cons (pv 5) pa_nil))) (pg_name (i := 10) nd rfl (by first | exact Or.inl rfl | exact Or.inr rfl)) (pss_cons (ps_set (i := 11) nd rfl (by first | exact Or.inl rfl | exact Or.inr rfl) (pe_lst pa_nil))
      (pss_cons (ps_for PassesOwn.never rfl (pi_list (pe_callB call_sortedS rfl m.g_sorted bt_sorted (pa_cons (pe_comp (N := ["_law_door", "_law_room"]) (nl := 1) (ci := [9]) rfl (blk (s.heap.objs.size + 1) rfl rfl rfl (by kernel_rfl)) (pi_list (pv 3)) (fun _ _ _ _ => (pg_name (i := 0) (show (["_law_door", "_law_room"] : List Str).Nodup by decide +kernel) rfl (by first | exact Or.inl rfl | exact Or.inr rfl))) (fun _ _ _ _ => (pf_one (pt_cmpR op_eq (pe_ix (ix_tupK (K := K)) (pv 0) pe_int (fun _ _ => rfl)) (pv 1) (nomark _)))) (fun _ _ _ _ => (pe_ix (ix_tupK (K := K)) (pv 0) pe_int (fun _ _ => rfl)))) pa_nil))) (pg_name (i := 12) nd rfl (by first | exact Or.inl rfl | exact Or.inr rfl)) (pss_cons (ps_set (i := 13) nd rfl (by first | exact Or.inl rfl | exact Or.inr rfl) (pe_callB (call_sumI rfl) rfl m.g_sum bt_sum (pa_cons (pe_comp (N := ["_law_row", "_law_turn", "_law_name_here"]) (nl := 1) (ci := [10, 12]) rfl (blk (s.heap.objs.size + 1) rfl rfl rfl (by kernel_rfl)) (pi_list (pv 7)) (fun _ _ _ _ => (pg_name (i := 0) (show (["_law_row", "_law_turn", "_law_name_here"] : List Str).Nodup by decide +kernel) rfl (by first | exact Or.inl rfl | exact Or.inr rfl))) (fun _ _ _ _ => (pf_one (PW.pt (pw_and (pt_cmpR op_eq (pe_ix (ix_tupK (K := K)) (pv 0) pe_int (fun _ _ => rfl)) (pv 1) (nomark _)) (pw_and1 (pt_cmpR op_eq (pe_ix (ix_tupK (K := K)) (pv 0) pe_int (fun _ _ => rfl)) (pv 2) (nomark _))))))) (fun _ _ _ _ => (pe_ix (ix_tupK (K := K)) (pv 0) pe_int (fun _ _ => rfl)))) pa_nil)))
      (pss_one (ps_if (pt_cmpR op_gt (pv 13) pe_int (nomark _)) (pss_one (ps_expr (pe_bm PySem.F.plainAttrs_list PySem.F.slot_list_append PySem.F.type_list_append mt_append (pv 11) (pa_cons (pe_tup (pa_cons (pv 12) (pa_cons (pv 13) pa_nil))) pa_nil)))) pss_nil))))
      (pss_one (ps_for PassesOwn.never rfl (pi_range1 rfl m.g_range (pa_cons pe_int pa_nil)) (pg_name (i := 14) nd rfl (by first | exact Or.inl rfl | exact Or.inr rfl)) (pss_cons (ps_set (i := 15) nd rfl (by first | exact Or.inl rfl | exact Or.inr rfl) (pe_f F_signs hr (pa_cons (pv 6) (pa_cons (pv 8) (pa_cons (pv 9) (pa_cons (pv 10) pa_nil))))))
      (pss_cons (ps_if (PW.pt (pw_or (pt_not (pt_val (pe_callB call_isi rfl m.g_isinstance bt_isinstance (pa_cons (pv 15) (pa_cons (pe_ty rfl m.g_list bt_list) pa_nil))))) (pw_or (pt_cmpR (op_neC hu1) (pv 15) (pv 11) (nomark _)) (pw_or1 (pt_cmpR (op_neR hu0) (pv 8) (pv 7) (nomark _)))))) (pss_one (ps_ret pe_bl)) pss_nil)
      (pss_one (ps_expr (pe_bm PySem.F.plainAttrs_list PySem.F.slot_list_append PySem.F.type_list_append mt_append (pv 15) (pa_cons (pe_tup (pa_cons pe_str (pa_cons pe_int pa_nil))) pa_nil)))))))))))
      (pss_one (ps_ret pe_bl)))))))))))), ?_⟩
    refine rd_start (σ := [some (.ref a), none, none, none, none, none, none, none, none, none, none, none, none, none, none, none]) rfl ?_
    have hrn : (roomsF (cellN ns 0)).Nodup := names_nodup _ 0 _ (by omega) (by omega)
    have hrl : (roomsF (cellN ns 0)).length = (1 + cellN ns 0 % 5).toNat := by unfold roomsF; rw [List.length_map, List.length_range]
    have hrb : ∀ z ∈ roomsF (cellN ns 0), nameB z = true := fun z hz => by
      obtain ⟨i, _, rfl⟩ := List.mem_map.mp hz
      exact nameF_ok _ _
    walk_at "go"
    refine comp_rng (fun i => .str (nameF (cellN ns 0) ((i : Int) + 0))) (by rw [sizeLine_eq]; omega) (rest := [some (.int (cellN ns 0))]) (by rfl) ?_ ?_
    · intro i H1 hi s1 R hR
      walk_at "go"
      rename_i z hz hb
      rw [hz, Int.zero_add, ← Int.add_zero (i : Int)]
      exact hR _ (Same.refl _)
    intro H1 s1
    have er : ((List.range (1 + cellN ns 0 % 5).toNat).map fun i : Nat => V.str (nameF (cellN ns 0) ((i : Int) + 0))) = (roomsF (cellN ns 0)).map V.str := by unfold roomsF; rw [List.map_map]; rfl
    rw [er]
    generalize roomsF (cellN ns 0) = rs at hrn hrl hrb
    have hr0 : 0 < rs.length := by omega
    have hr5 : rs.length ≤ 5 := by omega
    have hml : 0 < (rs.map V.str).length := by rw [List.length_map]; exact hr0
    walk_at "go"
    rename_i pR H2 n2 S2 eR
    refine r_ldoors eR hr0 (by omega) hrb fun pD us ds H3 S3 eD htu hdr hdn hdl => ?_
    walk_at "go"
    rename_i p4 H4 n4 S4 e4 vv hvv hf0 hf1
    have hf2 : cellN ns 1 / 9 % vv < 100000000000 := by omega
    generalize hfe : cellN ns 1 / 9 % vv = f at hf0 hf1 hf2
    have hl0 : f ≤ f + cellN ns 1 % 9 := by omega
    have hl1 : f + cellN ns 1 % 9 < 100000000009 := by omega
    generalize hle : f + cellN ns 1 % 9 = l at hl0 hl1
    have s04 : Same H H4 := ((s1.trans S2).trans S3).trans S4
    have eR4 : H4 pR = some (.lst (rs.map V.str)) := S4 _ _ (S3 _ _ eR)
    have eD4 := S4 _ _ eD
    have hus : us.length = ds.length := Paired.length htu
    refine comp_LA (α := Str) (xs := rs) (vs := rs.map V.str) (fun v z => v = .str z) (fun _ => true) (fun z y H => ∃ q, y = .ref q ∧ H q = some (.tup [.str z, .int 5])) (fun _ _ _ _ ⟨q, h1, h2⟩ s => ⟨q, h1, s _ _ h2⟩) (by rw [sizeLine_eq]; omega) (rest := []) (by rfl) (SqL.of eR4) (str_pairs rs) (fun v x H1 _ hx s1 R hR => hR _ (Same.refl _)) ?_ ?_
    · rintro v z H5 rfl hm - s5 R hR
      walk_at "go"
      rename_i q6 H6 n6 S6 e6
      exact hR _ _ ⟨q6, rfl, e6⟩ S6
    intro ws H5 s5 hws
    rw [filt_all] at hws
    have hra : RoomsAt H5 ws rs := paired_flip hws
    walk_at "go"
    rename_i pW H6 n6 S6 eW
    have s46 : Same H4 H6 := s5.trans S6
    refine comp_L3 (α := DoorD) (xs := ds) (vs := us) (fun d => .str d.1) (fun d => .str d.2.1) (fun d => d.2.2) (fun _ => true) (fun d y H => DoorAt m.C_Door H y d) (fun _ _ _ _ h s => DoorAt.same h s) (by rw [sizeLine_eq]; omega) (rest := []) (by rfl) (SqL.of (s46 _ _ eD4)) (tups_sm (tups_sm htu S4) s46) (fun x H1 hx s1 R hR => hR _ (Same.refl _)) ?_ ?_
    · rintro ⟨dn, dst, de⟩ H7 hm - s7 R hR
      obtain ⟨hd1, hd2, hd3, hd4⟩ := hdr _ hm
      walk_at "go"
      rename_i q8 dx8 H8 n8 S8 e8
      exact hR _ _ ⟨q8, dx8, rfl, e8⟩ S8
    intro vd H7 s7 hvd
    rw [filt_all] at hvd
    have hda : Paired (DoorAt m.C_Door H7) vd ds := paired_flip hvd
    walk_at "go"
    rename_i pV H8 n8 S8 eV pE H9 n9 S9 eE
    have s69 : Same H6 H9 := (s7.trans S8).trans S9
    refine r_mkHouse (rs := rs) (ds := ds) rfl (by assumption) (s69 _ _ eW) (hra.sm (S6.trans s69)) (SqL.of (S9 _ _ eV)) (doors_sm hda (S8.trans S9)) (SqL.of eE) hrn hdn (fun d hd => (hdr d hd).2.2.2) (by omega) (by omega) hf0 hl0 fun h H10 n10 S10 hh => ?_
    have s4a : Same H4 H10 := (s46.trans s69).trans S10
    walk_at "go"
    rename_i pC H11 n11 S11 eC
    have s4b : Same H4 H11 := s4a.trans S11
    refine r_lplan (SqL.of eC) (cut_p ns) (SqL.of (s4b _ _ eD4)) (tups_sm (tups_sm htu S4) s4b) hdl hl0 fun pP us2 rows H12 S12 eP hpl hrw => ?_
    have hpu : us2.length = rows.length := Paired.length hpl
    walk_at "go"
    rename_i pH H13 n13 S13 eH hm0 hm1
    have sX : Same H4 H13 := (s4b.trans S12).trans S13
    have eR13 := sX _ _ eR4
    have eD13 := sX _ _ eD4
    have htu13 := tups_sm (tups_sm htu S4) sX
    have hh13 := house_sm hh ((S11.trans S12).trans S13)
    have eP13 := S13 _ _ eP
    have hpl13 := plan_sm hpl S13
    clear sX s4b s4a s46 s69 s04
    refine rd_ixM (SqL.of eR13) hm0 hm1 fun v hv => ?_
    obtain ⟨z, hz, rfl⟩ := List.mem_map.mp hv
    have ffl := from_len ds z
    have fnd := from_nodup (z := z) hdn
    walk_at "go"
    refine rd_forRS (fun σ => ∃ x10 x11 x12 x13 x14 x15, σ = [some (.ref a), some (.int (cellN ns 0)), some (.ref pR), some (.ref pD), some (.int f), some (.int l), some (.ref h), some (.ref pP), some (.ref pH), some (.str z), x10, x11, x12, x13, x14, x15]) ⟨_, _, _, _, _, _, rfl⟩ ?_ ?_
    · rintro i _ G hi sG ⟨x10, x11, x12, x13, x14, x15, rfl⟩
      have hhG := house_sm hh13 sG
      have eDG := sG _ _ eD13
      have htuG := tups_sm htu13 sG
      have ePG := sG _ _ eP13
      have hplG := plan_sm hpl13 sG
      have eHG := sG _ _ eH
      walk_at "go"
      rename_i pd G1 g1 T1 ed
      generalize hte : f + (i : Int) = t
      refine comp_LA (α := DoorD) (xs := ds) (vs := us) (TupAt G1) (fun d => decide (d.2.1 = z)) (fun d y _ => y = .str d.1) (fun _ _ _ _ h _ => h) (by rw [sizeLine_eq]; omega) (rest := [some (.str z)]) (by rfl) (SqL.of (T1 _ _ eDG)) (tups_sm htuG T1) ?_ ?_ ?_
      · rintro v ⟨dn, dst, de⟩ G2 ⟨q, rfl, hq⟩ hm s2 R hR
        have hq' : G2 q = some (.tup [.str dn, .str dst, de]) := s2 _ _ hq
        walk_at "go"
        refine ⟨q, _, 1, _, rfl, rfl, SqT.of hq', rfl, ?_⟩
        walk_at "go"
        exact hR _ (Same.refl _)
      · rintro v ⟨dn, dst, de⟩ G2 ⟨q, rfl, hq⟩ hm - s2 R hR
        walk_at "go"
        refine ⟨q, _, 0, _, rfl, rfl, SqT.of (s2 _ _ hq), rfl, ?_⟩
        exact hR _ _ rfl (Same.refl _)
      intro ys G2 t2 hys
      have ey : ys = (fromR ds z).map V.str := by rw [paired_eq hys]; unfold fromR; rw [List.map_map]; rfl
      subst ey
      walk_at "go"
      rename_i pq G3 g3 T3 eq3
      refine rd_sortS (SqL.of eq3) (by omega) fun ps G4 g4 T4 es4 => ?_
      have t14 : Same G1 G4 := (t2.trans T3).trans T4
      have ed4 := t14 _ _ ed
      have tG4 : Same G G4 := T1.trans t14
      have hpd : ps ≠ pd := fun zz => by
        have h3 : G3 pd = some (.lst []) := T3 _ _ (t2 _ _ ed)
        rw [zz, h3] at g4; cases g4
      have ePG4 := tG4 _ _ ePG
      have hplG4 := plan_sm hplG tG4
      have hsl : (sortS (fromR ds z)).length = (fromR ds z).length := (sortS_perm _).length_eq
      have npd : ∀ x u, G x = some u → x ≠ pd := fun x u hx zz => by rw [zz, g1] at hx; cases hx
      walk_at "go"
      refine rd_forL ((sortS (fromR ds z)).map V.str) (fun j σ' H' => SameBut pd G4 H' ∧ (∃ ys, H' pd = some (.lst ys) ∧ NamesAt H' ys (dueR rows t ((sortS (fromR ds z)).take j)) ∧ ys.length ≤ j) ∧ ∃ x12 x13, σ' = [some (.ref a), some (.int (cellN ns 0)), some (.ref pR), some (.ref pD), some (.int f), some (.int l), some (.ref h), some (.ref pP), some (.ref pH), some (.str z), some (.int t), some (.ref pd), x12, x13, x14, x15]) ⟨SameBut.refl, ⟨[], ed4, .nil, Nat.le_refl _⟩, _, _, rfl⟩ (fun j σ' H' _ q => SqL.of (q.1 _ _ es4 hpd)) ?_ ?_
      · rintro j x _ H' hx ⟨sb, ⟨ys, ey, hnm, hyl⟩, x12, x13, rfl⟩
        rw [List.getElem?_map] at hx
        obtain ⟨n, hn, rfl⟩ := Option.map_eq_some_iff.mp hx
        have hj : j < (sortS (fromR ds z)).length := (List.getElem?_eq_some_iff.mp hn).1
        have ePj := sb _ _ ePG4 (npd _ _ ePG)
        have hplj := plan_but hplG4 ed4 sb
        walk_at "go"
        refine comp_LA (α := PRow) (xs := rows) (vs := us2) (RowAt3 H') (fun r => decide (r.1 = t) && decide (r.2.1 = n)) (fun r y _ => y = .int r.2.2) (fun _ _ _ _ h _ => h) (by rw [sizeLine_eq]; omega) (rest := [some (.int t), some (.str n)]) (by rfl) (SqL.of ePj) hplj ?_ ?_ ?_
        · rintro v ⟨t0, n0, j0⟩ K2 ⟨q, rfl, hq⟩ hm s2 R hR
          have hq' : K2 q = some (.tup [.int t0, .str n0, .int j0]) := s2 _ _ hq
          have hR' := hR _ (Same.refl _)
          walk_at "go"
          refine ⟨q, _, 0, _, rfl, rfl, SqT.of hq', rfl, ?_⟩
          walk_at "go"
          refine rd_if2 (fun hc => ?_) (fun hc => ?_)
          · walk_at "go"
            refine ⟨q, _, 1, _, rfl, rfl, SqT.of hq', rfl, ?_⟩
            walk_at "go"
            rw [decide_eq_true hc, Bool.true_and] at hR'
            exact hR'
          · rw [decide_eq_false hc, Bool.false_and] at hR'
            exact hR'
        · rintro v ⟨t0, n0, j0⟩ K2 ⟨q, rfl, hq⟩ hm - s2 R hR
          walk_at "go"
          refine ⟨q, _, 2, _, rfl, rfl, SqT.of (s2 _ _ hq), rfl, ?_⟩
          exact hR _ _ rfl (Same.refl _)
        intro ys2 K2 s2 hys2
        have ey2 : ys2 = ((rows.filter fun r => decide (r.1 = t) && decide (r.2.1 = n)).map (·.2.2)).map V.int := by rw [paired_eq hys2, List.map_map]; rfl
        subst ey2
        walk_at "go"
        rename_i q3 K3 k3 U3 u3
        refine rd_sum (SqL.of u3) ?_
        have etot : ((rows.filter fun r => decide (r.1 = t) && decide (r.2.1 = n)).map (·.2.2)).sum = total rows t n := rfl
        rw [etot]
        have sb3 : SameBut pd H' K3 := (s2.trans U3).but
        have ey3 : K3 pd = some (.lst ys) := U3 _ _ (s2 _ _ ey)
        have hnm3 := names_but hnm ey sb3
        walk_at "go"
        refine rd_if2 (fun hc => ?_) (fun hc => ?_)
        · walk_at "go"
          rename_i q4 K4 k4 U4 u4
          have ey4 := U4 _ _ ey3
          refine rd_append ey4 (by rw [sizeLine_eq]; omega) fun K5 B5 e5 => ?_
          have hq4 : q4 ≠ pd := fun zz => by rw [zz, ey3] at k4; cases k4
          walk_at "go"
          refine ⟨((sb.trans sb3).trans U4.but).trans B5, ⟨_, e5, ?_, by rw [List.length_append]; show ys.length + 1 ≤ _; omega⟩, _, _, rfl⟩
          rw [take_succ' hn, due_snoc, if_pos hc]
          unfold NamesAt
          rw [List.map_append]
          exact L2.Paired.snoc (names_but (KRows.same hnm3 U4) ey4 B5) ⟨q4, rfl, B5 _ _ u4 hq4⟩
        · walk_at "go"
          refine ⟨sb.trans sb3, ⟨ys, ey3, ?_, by omega⟩, _, _, rfl⟩
          rw [take_succ' hn, due_snoc, if_neg hc, List.append_nil]
          exact hnm3
      · rintro _ H' ⟨sb, ⟨ys, ey, hnm, hyl⟩, x12, x13, rfl⟩
        rw [List.length_map, List.take_length] at hnm
        have sGH : Same G H' := fun x u hx => sb _ _ (tG4 _ _ hx) (npd x u hx)
        have hhJ := house_sm hhG sGH
        have ePJ := sGH _ _ ePG
        have hplJ := plan_sm hplG sGH
        have eHJ := sGH _ _ eHG
        have hself : us2.all selfV = true := by
          rw [List.all_eq_true]
          intro v hv
          obtain ⟨r, _, q, rfl, _⟩ := paired_mem hplG hv
          rfl
        have hdl2 : ∀ (yf : List V) (L : Hp), NamesAt L yf (dueR rows t (sortS (fromR ds z))) → yf.length ≤ 20 := fun yf L hyf => by
          have h1 : yf.length = ((dueR rows t (sortS (fromR ds z))).map keyN).length := Paired.length hyf
          rw [h1, List.length_map]
          unfold dueR
          rw [List.length_map]
          exact Nat.le_trans (List.length_filter_le _ _) (by omega)
        walk_at "go"
        refine rd_forRS (fun σ => ∃ x14 x15, σ = [some (.ref a), some (.int (cellN ns 0)), some (.ref pR), some (.ref pD), some (.int f), some (.int l), some (.ref h), some (.ref pP), some (.ref pH), some (.str z), some (.int t), some (.ref pd), x12, x13, x14, x15]) ⟨_, _, rfl⟩ ?_ ?_
        · rintro i2 _ L hi2 sL ⟨y14, y15, rfl⟩
          walk_at "go"
          refine r_signs (house_sm hhJ sL) hz (by omega) hdn (SqL.of (sL _ _ eHJ)) (plan_sm hplJ sL) (by omega) fun pf yf L2 nf sf ef hnf => ?_
          have hyf := hdl2 yf _ hnf
          walk_at "go"
          refine rd_sameC (SqL.of ef) (SqL.of (sf _ _ (sL _ _ ey))) hnf (KRows.same hnm (sL.trans sf)) ?_
          walk_at "go"
          refine rd_sameR (SqL.of (sf _ _ (sL _ _ eHJ))) (SqL.of (sf _ _ (sL _ _ ePJ))) hself ?_
          walk_at "go"
          rename_i q5 L5 n5 S5 e5
          refine rd_append (S5 _ _ ef) (by rw [sizeLine_eq]; omega) fun L6 B6 e6 => ?_
          walk_at "go"
          exact ⟨sL.trans (SameBut.same nf (sf.trans S5) B6), _, _, rfl⟩
        · rintro _ L sL ⟨y14, y15, rfl⟩
          exact ⟨(sG.trans sGH).trans sL, _, _, _, _, _, _, rfl⟩
    · rintro _ G sG ⟨x10, x11, x12, x13, x14, x15, rfl⟩
      walk_at "go"
      exact k _



end
theorem all_mk {l : PySem.W.OpenLaw} {w : World} {K : PySem.W.Frag} {h : Heap} {mg : Str → Option Value} {fa : Addr} (X : K.In h) (G : h.Ns mainGlobals mg) (hfa : mg "law" = some (.ref fa))
    {f__wall : Addr}
    {f_added_up : Addr}
    {f_as_told : Addr}
    {f_signs : Addr}
    {f_is_whole : Addr}
    {f_is_name : Addr}
    {f_need_name : Addr}
    {f_need_whole : Addr}
    {f_need_turns : Addr}
    {f_need_each_once : Addr}
    {f_rooms_spoken_of : Addr}
    {f_need_rooms : Addr}
    {f_added_people : Addr}
    {f_need_space : Addr}
    {f__law_cell_at : Addr}
    {f__law_drawn : Addr}
    {f__law_name : Addr}
    {f__law_doors : Addr}
    {f__law_plan : Addr}
    {f_law : Addr}
    {C_Door : Addr}
    {C_House : Addr}
    {C_OutError : Addr}
    {C_NoDoor : Addr}
    {C_NoHouse : Addr}
    {C_NoTurn : Addr}
    {C_Twice : Addr}
    {C_NoRoom : Addr}
    {C_Unknown : Addr}
    {f_Door___init__ : Addr}
    {f_Door_lets : Addr}
    {f_Door_is_exit : Addr}
    {f_Door_words : Addr}
    {f_House___init__ : Addr}
    {f_House_rooms : Addr}
    {f_House_doors : Addr}
    {f_House_need_room : Addr}
    {f_House_holds : Addr}
    {f_House_found : Addr}
    {f_House_into : Addr}
    {f_House_from_room : Addr}
    {f_House_door : Addr}
    {f_House_lets : Addr}
    {f_House_total : Addr}
    {f_House_pairs : Addr}
    {od__wall an__wall : Option Addr} {sl__wall : Array (Option Value)} {oc__wall kV__wall dc__wall pm__wall cd__wall ct__wall : Value}
    {od_added_up an_added_up : Option Addr} {sl_added_up : Array (Option Value)} {oc_added_up kV_added_up dc_added_up pm_added_up cd_added_up ct_added_up : Value}
    {od_as_told an_as_told : Option Addr} {sl_as_told : Array (Option Value)} {oc_as_told kV_as_told dc_as_told pm_as_told cd_as_told ct_as_told : Value}
    {od_signs an_signs : Option Addr} {sl_signs : Array (Option Value)} {oc_signs kV_signs dc_signs pm_signs cd_signs ct_signs : Value}
    {od_is_whole an_is_whole : Option Addr} {sl_is_whole : Array (Option Value)} {oc_is_whole kV_is_whole dc_is_whole pm_is_whole cd_is_whole ct_is_whole : Value}
    {od_is_name an_is_name : Option Addr} {sl_is_name : Array (Option Value)} {oc_is_name kV_is_name dc_is_name pm_is_name cd_is_name ct_is_name : Value}
    {od_need_name an_need_name : Option Addr} {sl_need_name : Array (Option Value)} {oc_need_name kV_need_name dc_need_name pm_need_name cd_need_name ct_need_name : Value}
    {od_need_whole an_need_whole : Option Addr} {sl_need_whole : Array (Option Value)} {oc_need_whole kV_need_whole dc_need_whole pm_need_whole cd_need_whole ct_need_whole : Value}
    {od_need_turns an_need_turns : Option Addr} {sl_need_turns : Array (Option Value)} {oc_need_turns kV_need_turns dc_need_turns pm_need_turns cd_need_turns ct_need_turns : Value}
    {od_need_each_once an_need_each_once : Option Addr} {sl_need_each_once : Array (Option Value)} {oc_need_each_once kV_need_each_once dc_need_each_once pm_need_each_once cd_need_each_once ct_need_each_once : Value}
    {od_rooms_spoken_of an_rooms_spoken_of : Option Addr} {sl_rooms_spoken_of : Array (Option Value)} {oc_rooms_spoken_of kV_rooms_spoken_of dc_rooms_spoken_of pm_rooms_spoken_of cd_rooms_spoken_of ct_rooms_spoken_of : Value}
    {od_need_rooms an_need_rooms : Option Addr} {sl_need_rooms : Array (Option Value)} {oc_need_rooms kV_need_rooms dc_need_rooms pm_need_rooms cd_need_rooms ct_need_rooms : Value}
    {od_added_people an_added_people : Option Addr} {sl_added_people : Array (Option Value)} {oc_added_people kV_added_people dc_added_people pm_added_people cd_added_people ct_added_people : Value}
    {od_need_space an_need_space : Option Addr} {sl_need_space : Array (Option Value)} {oc_need_space kV_need_space dc_need_space pm_need_space cd_need_space ct_need_space : Value}
    {od__law_cell_at an__law_cell_at : Option Addr} {sl__law_cell_at : Array (Option Value)} {oc__law_cell_at kV__law_cell_at dc__law_cell_at pm__law_cell_at cd__law_cell_at ct__law_cell_at : Value}
    {od__law_drawn an__law_drawn : Option Addr} {sl__law_drawn : Array (Option Value)} {oc__law_drawn kV__law_drawn dc__law_drawn pm__law_drawn cd__law_drawn ct__law_drawn : Value}
    {od__law_name an__law_name : Option Addr} {sl__law_name : Array (Option Value)} {oc__law_name kV__law_name dc__law_name pm__law_name cd__law_name ct__law_name : Value}
    {od__law_doors an__law_doors : Option Addr} {sl__law_doors : Array (Option Value)} {oc__law_doors kV__law_doors dc__law_doors pm__law_doors cd__law_doors ct__law_doors : Value}
    {od__law_plan an__law_plan : Option Addr} {sl__law_plan : Array (Option Value)} {oc__law_plan kV__law_plan dc__law_plan pm__law_plan cd__law_plan ct__law_plan : Value}
    {od_law an_law : Option Addr} {sl_law : Array (Option Value)} {oc_law kV_law dc_law pm_law cd_law ct_law : Value}
    {od_Door___init__ an_Door___init__ : Option Addr} {sl_Door___init__ : Array (Option Value)} {oc_Door___init__ kV_Door___init__ dc_Door___init__ pm_Door___init__ cd_Door___init__ ct_Door___init__ : Value}
    {T_Door___init__ : Addr}
    {tk_Door___init___1 : Tok}
    {oT_Door___init__ : Value} {dT_Door___init__ : Option Addr} {nT_Door___init__ : Nat} {sT_Door___init__ : Array (Option Value)}
    {od_Door_lets an_Door_lets : Option Addr} {sl_Door_lets : Array (Option Value)} {oc_Door_lets kV_Door_lets dc_Door_lets pm_Door_lets cd_Door_lets ct_Door_lets : Value}
    {od_Door_is_exit an_Door_is_exit : Option Addr} {sl_Door_is_exit : Array (Option Value)} {oc_Door_is_exit kV_Door_is_exit dc_Door_is_exit pm_Door_is_exit cd_Door_is_exit ct_Door_is_exit : Value}
    {od_Door_words an_Door_words : Option Addr} {sl_Door_words : Array (Option Value)} {oc_Door_words kV_Door_words dc_Door_words pm_Door_words cd_Door_words ct_Door_words : Value}
    {od_House___init__ an_House___init__ : Option Addr} {sl_House___init__ : Array (Option Value)} {oc_House___init__ kV_House___init__ dc_House___init__ pm_House___init__ cd_House___init__ ct_House___init__ : Value}
    {T_House___init__ : Addr}
    {tk_House___init___0 : Tok}
    {oT_House___init__ : Value} {dT_House___init__ : Option Addr} {nT_House___init__ : Nat} {sT_House___init__ : Array (Option Value)}
    {od_House_rooms an_House_rooms : Option Addr} {sl_House_rooms : Array (Option Value)} {oc_House_rooms kV_House_rooms dc_House_rooms pm_House_rooms cd_House_rooms ct_House_rooms : Value}
    {od_House_doors an_House_doors : Option Addr} {sl_House_doors : Array (Option Value)} {oc_House_doors kV_House_doors dc_House_doors pm_House_doors cd_House_doors ct_House_doors : Value}
    {od_House_need_room an_House_need_room : Option Addr} {sl_House_need_room : Array (Option Value)} {oc_House_need_room kV_House_need_room dc_House_need_room pm_House_need_room cd_House_need_room ct_House_need_room : Value}
    {od_House_holds an_House_holds : Option Addr} {sl_House_holds : Array (Option Value)} {oc_House_holds kV_House_holds dc_House_holds pm_House_holds cd_House_holds ct_House_holds : Value}
    {od_House_found an_House_found : Option Addr} {sl_House_found : Array (Option Value)} {oc_House_found kV_House_found dc_House_found pm_House_found cd_House_found ct_House_found : Value}
    {od_House_into an_House_into : Option Addr} {sl_House_into : Array (Option Value)} {oc_House_into kV_House_into dc_House_into pm_House_into cd_House_into ct_House_into : Value}
    {od_House_from_room an_House_from_room : Option Addr} {sl_House_from_room : Array (Option Value)} {oc_House_from_room kV_House_from_room dc_House_from_room pm_House_from_room cd_House_from_room ct_House_from_room : Value}
    {od_House_door an_House_door : Option Addr} {sl_House_door : Array (Option Value)} {oc_House_door kV_House_door dc_House_door pm_House_door cd_House_door ct_House_door : Value}
    {od_House_lets an_House_lets : Option Addr} {sl_House_lets : Array (Option Value)} {oc_House_lets kV_House_lets dc_House_lets pm_House_lets cd_House_lets ct_House_lets : Value}
    {od_House_total an_House_total : Option Addr} {sl_House_total : Array (Option Value)} {oc_House_total kV_House_total dc_House_total pm_House_total cd_House_total ct_House_total : Value}
    {od_House_pairs an_House_pairs : Option Addr} {sl_House_pairs : Array (Option Value)} {oc_House_pairs kV_House_pairs dc_House_pairs pm_House_pairs cd_House_pairs ct_House_pairs : Value}
    {t_LONGEST_NAME : Tok}
    (a__wall : PySem.W.nsIn K mainGlobals "_wall" = some (some (.ref f__wall)))
    (a_added_up : PySem.W.nsIn K mainGlobals "added_up" = some (some (.ref f_added_up)))
    (a_as_told : PySem.W.nsIn K mainGlobals "as_told" = some (some (.ref f_as_told)))
    (a_signs : PySem.W.nsIn K mainGlobals "signs" = some (some (.ref f_signs)))
    (a_is_whole : PySem.W.nsIn K mainGlobals "is_whole" = some (some (.ref f_is_whole)))
    (a_is_name : PySem.W.nsIn K mainGlobals "is_name" = some (some (.ref f_is_name)))
    (a_need_name : PySem.W.nsIn K mainGlobals "need_name" = some (some (.ref f_need_name)))
    (a_need_whole : PySem.W.nsIn K mainGlobals "need_whole" = some (some (.ref f_need_whole)))
    (a_need_turns : PySem.W.nsIn K mainGlobals "need_turns" = some (some (.ref f_need_turns)))
    (a_need_each_once : PySem.W.nsIn K mainGlobals "need_each_once" = some (some (.ref f_need_each_once)))
    (a_rooms_spoken_of : PySem.W.nsIn K mainGlobals "rooms_spoken_of" = some (some (.ref f_rooms_spoken_of)))
    (a_need_rooms : PySem.W.nsIn K mainGlobals "need_rooms" = some (some (.ref f_need_rooms)))
    (a_added_people : PySem.W.nsIn K mainGlobals "added_people" = some (some (.ref f_added_people)))
    (a_need_space : PySem.W.nsIn K mainGlobals "need_space" = some (some (.ref f_need_space)))
    (a__law_cell_at : PySem.W.nsIn K mainGlobals "_law_cell_at" = some (some (.ref f__law_cell_at)))
    (a__law_drawn : PySem.W.nsIn K mainGlobals "_law_drawn" = some (some (.ref f__law_drawn)))
    (a__law_name : PySem.W.nsIn K mainGlobals "_law_name" = some (some (.ref f__law_name)))
    (a__law_doors : PySem.W.nsIn K mainGlobals "_law_doors" = some (some (.ref f__law_doors)))
    (a__law_plan : PySem.W.nsIn K mainGlobals "_law_plan" = some (some (.ref f__law_plan)))
    (a_law : PySem.W.nsIn K mainGlobals "law" = some (some (.ref f_law)))
    (aC_Door : PySem.W.nsIn K mainGlobals "Door" = some (some (.ref C_Door)))
    (aC_House : PySem.W.nsIn K mainGlobals "House" = some (some (.ref C_House)))
    (aC_OutError : PySem.W.nsIn K mainGlobals "OutError" = some (some (.ref C_OutError)))
    (aC_NoDoor : PySem.W.nsIn K mainGlobals "NoDoor" = some (some (.ref C_NoDoor)))
    (aC_NoHouse : PySem.W.nsIn K mainGlobals "NoHouse" = some (some (.ref C_NoHouse)))
    (aC_NoTurn : PySem.W.nsIn K mainGlobals "NoTurn" = some (some (.ref C_NoTurn)))
    (aC_Twice : PySem.W.nsIn K mainGlobals "Twice" = some (some (.ref C_Twice)))
    (aC_NoRoom : PySem.W.nsIn K mainGlobals "NoRoom" = some (some (.ref C_NoRoom)))
    (aC_Unknown : PySem.W.nsIn K mainGlobals "Unknown" = some (some (.ref C_Unknown)))
    (a_Door___init__ : PySem.W.findIn K (.ref C_Door) "__init__" = some (some (.ref f_Door___init__)))
    (a_Door_lets : PySem.W.findIn K (.ref C_Door) "lets" = some (some (.ref f_Door_lets)))
    (a_Door_is_exit : PySem.W.findIn K (.ref C_Door) "is_exit" = some (some (.ref f_Door_is_exit)))
    (a_Door_words : PySem.W.findIn K (.ref C_Door) "words" = some (some (.ref f_Door_words)))
    (a_House___init__ : PySem.W.findIn K (.ref C_House) "__init__" = some (some (.ref f_House___init__)))
    (a_House_rooms : PySem.W.findIn K (.ref C_House) "rooms" = some (some (.ref f_House_rooms)))
    (a_House_doors : PySem.W.findIn K (.ref C_House) "doors" = some (some (.ref f_House_doors)))
    (a_House_need_room : PySem.W.findIn K (.ref C_House) "need_room" = some (some (.ref f_House_need_room)))
    (a_House_holds : PySem.W.findIn K (.ref C_House) "holds" = some (some (.ref f_House_holds)))
    (a_House_found : PySem.W.findIn K (.ref C_House) "found" = some (some (.ref f_House_found)))
    (a_House_into : PySem.W.findIn K (.ref C_House) "into" = some (some (.ref f_House_into)))
    (a_House_from_room : PySem.W.findIn K (.ref C_House) "from_room" = some (some (.ref f_House_from_room)))
    (a_House_door : PySem.W.findIn K (.ref C_House) "door" = some (some (.ref f_House_door)))
    (a_House_lets : PySem.W.findIn K (.ref C_House) "lets" = some (some (.ref f_House_lets)))
    (a_House_total : PySem.W.findIn K (.ref C_House) "total" = some (some (.ref f_House_total)))
    (a_House_pairs : PySem.W.findIn K (.ref C_House) "pairs" = some (some (.ref f_House_pairs)))
    (l__wall : K.lookup f__wall = some ⟨oc__wall, od__wall, .func (PySem.W.fnOf "_wall" "_wall" (defArgs s__wall) (defBody s__wall) (defScope s__wall) .none kV__wall dc__wall pm__wall an__wall cd__wall ct__wall), sl__wall⟩)
    (c__wall : PySem.W.codeIn K cd__wall "_wall" = true)
    (k__wall : PySem.W.keepIn K (.ref f__wall) = true)
    (l_added_up : K.lookup f_added_up = some ⟨oc_added_up, od_added_up, .func (PySem.W.fnOf "added_up" "added_up" (defArgs s_added_up) (defBody s_added_up) (defScope s_added_up) .none kV_added_up dc_added_up pm_added_up an_added_up cd_added_up ct_added_up), sl_added_up⟩)
    (c_added_up : PySem.W.codeIn K cd_added_up "added_up" = true)
    (k_added_up : PySem.W.keepIn K (.ref f_added_up) = true)
    (l_as_told : K.lookup f_as_told = some ⟨oc_as_told, od_as_told, .func (PySem.W.fnOf "as_told" "as_told" (defArgs s_as_told) (defBody s_as_told) (defScope s_as_told) .none kV_as_told dc_as_told pm_as_told an_as_told cd_as_told ct_as_told), sl_as_told⟩)
    (c_as_told : PySem.W.codeIn K cd_as_told "as_told" = true)
    (k_as_told : PySem.W.keepIn K (.ref f_as_told) = true)
    (l_signs : K.lookup f_signs = some ⟨oc_signs, od_signs, .func (PySem.W.fnOf "signs" "signs" (defArgs s_signs) (defBody s_signs) (defScope s_signs) .none kV_signs dc_signs pm_signs an_signs cd_signs ct_signs), sl_signs⟩)
    (c_signs : PySem.W.codeIn K cd_signs "signs" = true)
    (k_signs : PySem.W.keepIn K (.ref f_signs) = true)
    (l_is_whole : K.lookup f_is_whole = some ⟨oc_is_whole, od_is_whole, .func (PySem.W.fnOf "is_whole" "is_whole" (defArgs s_is_whole) (defBody s_is_whole) (defScope s_is_whole) .none kV_is_whole dc_is_whole pm_is_whole an_is_whole cd_is_whole ct_is_whole), sl_is_whole⟩)
    (c_is_whole : PySem.W.codeIn K cd_is_whole "is_whole" = true)
    (k_is_whole : PySem.W.keepIn K (.ref f_is_whole) = true)
    (l_is_name : K.lookup f_is_name = some ⟨oc_is_name, od_is_name, .func (PySem.W.fnOf "is_name" "is_name" (defArgs s_is_name) (defBody s_is_name) (defScope s_is_name) .none kV_is_name dc_is_name pm_is_name an_is_name cd_is_name ct_is_name), sl_is_name⟩)
    (c_is_name : PySem.W.codeIn K cd_is_name "is_name" = true)
    (k_is_name : PySem.W.keepIn K (.ref f_is_name) = true)
    (l_need_name : K.lookup f_need_name = some ⟨oc_need_name, od_need_name, .func (PySem.W.fnOf "need_name" "need_name" (defArgs s_need_name) (defBody s_need_name) (defScope s_need_name) .none kV_need_name dc_need_name pm_need_name an_need_name cd_need_name ct_need_name), sl_need_name⟩)
    (c_need_name : PySem.W.codeIn K cd_need_name "need_name" = true)
    (k_need_name : PySem.W.keepIn K (.ref f_need_name) = true)
    (l_need_whole : K.lookup f_need_whole = some ⟨oc_need_whole, od_need_whole, .func (PySem.W.fnOf "need_whole" "need_whole" (defArgs s_need_whole) (defBody s_need_whole) (defScope s_need_whole) .none kV_need_whole dc_need_whole pm_need_whole an_need_whole cd_need_whole ct_need_whole), sl_need_whole⟩)
    (c_need_whole : PySem.W.codeIn K cd_need_whole "need_whole" = true)
    (k_need_whole : PySem.W.keepIn K (.ref f_need_whole) = true)
    (l_need_turns : K.lookup f_need_turns = some ⟨oc_need_turns, od_need_turns, .func (PySem.W.fnOf "need_turns" "need_turns" (defArgs s_need_turns) (defBody s_need_turns) (defScope s_need_turns) .none kV_need_turns dc_need_turns pm_need_turns an_need_turns cd_need_turns ct_need_turns), sl_need_turns⟩)
    (c_need_turns : PySem.W.codeIn K cd_need_turns "need_turns" = true)
    (k_need_turns : PySem.W.keepIn K (.ref f_need_turns) = true)
    (l_need_each_once : K.lookup f_need_each_once = some ⟨oc_need_each_once, od_need_each_once, .func (PySem.W.fnOf "need_each_once" "need_each_once" (defArgs s_need_each_once) (defBody s_need_each_once) (defScope s_need_each_once) .none kV_need_each_once dc_need_each_once pm_need_each_once an_need_each_once cd_need_each_once ct_need_each_once), sl_need_each_once⟩)
    (c_need_each_once : PySem.W.codeIn K cd_need_each_once "need_each_once" = true)
    (k_need_each_once : PySem.W.keepIn K (.ref f_need_each_once) = true)
    (l_rooms_spoken_of : K.lookup f_rooms_spoken_of = some ⟨oc_rooms_spoken_of, od_rooms_spoken_of, .func (PySem.W.fnOf "rooms_spoken_of" "rooms_spoken_of" (defArgs s_rooms_spoken_of) (defBody s_rooms_spoken_of) (defScope s_rooms_spoken_of) .none kV_rooms_spoken_of dc_rooms_spoken_of pm_rooms_spoken_of an_rooms_spoken_of cd_rooms_spoken_of ct_rooms_spoken_of), sl_rooms_spoken_of⟩)
    (c_rooms_spoken_of : PySem.W.codeIn K cd_rooms_spoken_of "rooms_spoken_of" = true)
    (k_rooms_spoken_of : PySem.W.keepIn K (.ref f_rooms_spoken_of) = true)
    (l_need_rooms : K.lookup f_need_rooms = some ⟨oc_need_rooms, od_need_rooms, .func (PySem.W.fnOf "need_rooms" "need_rooms" (defArgs s_need_rooms) (defBody s_need_rooms) (defScope s_need_rooms) .none kV_need_rooms dc_need_rooms pm_need_rooms an_need_rooms cd_need_rooms ct_need_rooms), sl_need_rooms⟩)
    (c_need_rooms : PySem.W.codeIn K cd_need_rooms "need_rooms" = true)
    (k_need_rooms : PySem.W.keepIn K (.ref f_need_rooms) = true)
    (l_added_people : K.lookup f_added_people = some ⟨oc_added_people, od_added_people, .func (PySem.W.fnOf "added_people" "added_people" (defArgs s_added_people) (defBody s_added_people) (defScope s_added_people) .none kV_added_people dc_added_people pm_added_people an_added_people cd_added_people ct_added_people), sl_added_people⟩)
    (c_added_people : PySem.W.codeIn K cd_added_people "added_people" = true)
    (k_added_people : PySem.W.keepIn K (.ref f_added_people) = true)
    (l_need_space : K.lookup f_need_space = some ⟨oc_need_space, od_need_space, .func (PySem.W.fnOf "need_space" "need_space" (defArgs s_need_space) (defBody s_need_space) (defScope s_need_space) .none kV_need_space dc_need_space pm_need_space an_need_space cd_need_space ct_need_space), sl_need_space⟩)
    (c_need_space : PySem.W.codeIn K cd_need_space "need_space" = true)
    (k_need_space : PySem.W.keepIn K (.ref f_need_space) = true)
    (l__law_cell_at : K.lookup f__law_cell_at = some ⟨oc__law_cell_at, od__law_cell_at, .func (PySem.W.fnOf "_law_cell_at" "_law_cell_at" (defArgs s__law_cell_at) (defBody s__law_cell_at) (defScope s__law_cell_at) .none kV__law_cell_at dc__law_cell_at pm__law_cell_at an__law_cell_at cd__law_cell_at ct__law_cell_at), sl__law_cell_at⟩)
    (c__law_cell_at : PySem.W.codeIn K cd__law_cell_at "_law_cell_at" = true)
    (k__law_cell_at : PySem.W.keepIn K (.ref f__law_cell_at) = true)
    (l__law_drawn : K.lookup f__law_drawn = some ⟨oc__law_drawn, od__law_drawn, .func (PySem.W.fnOf "_law_drawn" "_law_drawn" (defArgs s__law_drawn) (defBody s__law_drawn) (defScope s__law_drawn) .none kV__law_drawn dc__law_drawn pm__law_drawn an__law_drawn cd__law_drawn ct__law_drawn), sl__law_drawn⟩)
    (c__law_drawn : PySem.W.codeIn K cd__law_drawn "_law_drawn" = true)
    (k__law_drawn : PySem.W.keepIn K (.ref f__law_drawn) = true)
    (l__law_name : K.lookup f__law_name = some ⟨oc__law_name, od__law_name, .func (PySem.W.fnOf "_law_name" "_law_name" (defArgs s__law_name) (defBody s__law_name) (defScope s__law_name) .none kV__law_name dc__law_name pm__law_name an__law_name cd__law_name ct__law_name), sl__law_name⟩)
    (c__law_name : PySem.W.codeIn K cd__law_name "_law_name" = true)
    (k__law_name : PySem.W.keepIn K (.ref f__law_name) = true)
    (l__law_doors : K.lookup f__law_doors = some ⟨oc__law_doors, od__law_doors, .func (PySem.W.fnOf "_law_doors" "_law_doors" (defArgs s__law_doors) (defBody s__law_doors) (defScope s__law_doors) .none kV__law_doors dc__law_doors pm__law_doors an__law_doors cd__law_doors ct__law_doors), sl__law_doors⟩)
    (c__law_doors : PySem.W.codeIn K cd__law_doors "_law_doors" = true)
    (k__law_doors : PySem.W.keepIn K (.ref f__law_doors) = true)
    (l__law_plan : K.lookup f__law_plan = some ⟨oc__law_plan, od__law_plan, .func (PySem.W.fnOf "_law_plan" "_law_plan" (defArgs s__law_plan) (defBody s__law_plan) (defScope s__law_plan) .none kV__law_plan dc__law_plan pm__law_plan an__law_plan cd__law_plan ct__law_plan), sl__law_plan⟩)
    (c__law_plan : PySem.W.codeIn K cd__law_plan "_law_plan" = true)
    (k__law_plan : PySem.W.keepIn K (.ref f__law_plan) = true)
    (l_law : K.lookup f_law = some ⟨oc_law, od_law, .func (PySem.W.fnOf "law" "law" (defArgs s_law) (defBody s_law) (defScope s_law) .none kV_law dc_law pm_law an_law cd_law ct_law), sl_law⟩)
    (c_law : PySem.W.codeIn K cd_law "law" = true)
    (k_law : PySem.W.keepIn K (.ref f_law) = true)
    (l_Door___init__ : K.lookup f_Door___init__ = some ⟨oc_Door___init__, od_Door___init__, .func (PySem.W.fnOf "__init__" "Door.__init__" (defArgs s_Door___init__) (defBody s_Door___init__) (defScope s_Door___init__) (.ref T_Door___init__) kV_Door___init__ dc_Door___init__ pm_Door___init__ an_Door___init__ cd_Door___init__ ct_Door___init__), sl_Door___init__⟩)
    (c_Door___init__ : PySem.W.codeIn K cd_Door___init__ "Door.__init__" = true)
    (k_Door___init__ : PySem.W.keepIn K (.ref f_Door___init__) = true)
    (t_Door___init__ : K.lookup T_Door___init__ = some ⟨oT_Door___init__, dT_Door___init__, .seq #[.none, .int 1 tk_Door___init___1] nT_Door___init__, sT_Door___init__⟩)
    (l_Door_lets : K.lookup f_Door_lets = some ⟨oc_Door_lets, od_Door_lets, .func (PySem.W.fnOf "lets" "Door.lets" (defArgs s_Door_lets) (defBody s_Door_lets) (defScope s_Door_lets) .none kV_Door_lets dc_Door_lets pm_Door_lets an_Door_lets cd_Door_lets ct_Door_lets), sl_Door_lets⟩)
    (c_Door_lets : PySem.W.codeIn K cd_Door_lets "Door.lets" = true)
    (k_Door_lets : PySem.W.keepIn K (.ref f_Door_lets) = true)
    (l_Door_is_exit : K.lookup f_Door_is_exit = some ⟨oc_Door_is_exit, od_Door_is_exit, .func (PySem.W.fnOf "is_exit" "Door.is_exit" (defArgs s_Door_is_exit) (defBody s_Door_is_exit) (defScope s_Door_is_exit) .none kV_Door_is_exit dc_Door_is_exit pm_Door_is_exit an_Door_is_exit cd_Door_is_exit ct_Door_is_exit), sl_Door_is_exit⟩)
    (c_Door_is_exit : PySem.W.codeIn K cd_Door_is_exit "Door.is_exit" = true)
    (k_Door_is_exit : PySem.W.keepIn K (.ref f_Door_is_exit) = true)
    (l_Door_words : K.lookup f_Door_words = some ⟨oc_Door_words, od_Door_words, .func (PySem.W.fnOf "words" "Door.words" (defArgs s_Door_words) (defBody s_Door_words) (defScope s_Door_words) .none kV_Door_words dc_Door_words pm_Door_words an_Door_words cd_Door_words ct_Door_words), sl_Door_words⟩)
    (c_Door_words : PySem.W.codeIn K cd_Door_words "Door.words" = true)
    (k_Door_words : PySem.W.keepIn K (.ref f_Door_words) = true)
    (l_House___init__ : K.lookup f_House___init__ = some ⟨oc_House___init__, od_House___init__, .func (PySem.W.fnOf "__init__" "House.__init__" (defArgs s_House___init__) (defBody s_House___init__) (defScope s_House___init__) (.ref T_House___init__) kV_House___init__ dc_House___init__ pm_House___init__ an_House___init__ cd_House___init__ ct_House___init__), sl_House___init__⟩)
    (c_House___init__ : PySem.W.codeIn K cd_House___init__ "House.__init__" = true)
    (k_House___init__ : PySem.W.keepIn K (.ref f_House___init__) = true)
    (t_House___init__ : K.lookup T_House___init__ = some ⟨oT_House___init__, dT_House___init__, .seq #[.int 0 tk_House___init___0] nT_House___init__, sT_House___init__⟩)
    (l_House_rooms : K.lookup f_House_rooms = some ⟨oc_House_rooms, od_House_rooms, .func (PySem.W.fnOf "rooms" "House.rooms" (defArgs s_House_rooms) (defBody s_House_rooms) (defScope s_House_rooms) .none kV_House_rooms dc_House_rooms pm_House_rooms an_House_rooms cd_House_rooms ct_House_rooms), sl_House_rooms⟩)
    (c_House_rooms : PySem.W.codeIn K cd_House_rooms "House.rooms" = true)
    (k_House_rooms : PySem.W.keepIn K (.ref f_House_rooms) = true)
    (l_House_doors : K.lookup f_House_doors = some ⟨oc_House_doors, od_House_doors, .func (PySem.W.fnOf "doors" "House.doors" (defArgs s_House_doors) (defBody s_House_doors) (defScope s_House_doors) .none kV_House_doors dc_House_doors pm_House_doors an_House_doors cd_House_doors ct_House_doors), sl_House_doors⟩)
    (c_House_doors : PySem.W.codeIn K cd_House_doors "House.doors" = true)
    (k_House_doors : PySem.W.keepIn K (.ref f_House_doors) = true)
    (l_House_need_room : K.lookup f_House_need_room = some ⟨oc_House_need_room, od_House_need_room, .func (PySem.W.fnOf "need_room" "House.need_room" (defArgs s_House_need_room) (defBody s_House_need_room) (defScope s_House_need_room) .none kV_House_need_room dc_House_need_room pm_House_need_room an_House_need_room cd_House_need_room ct_House_need_room), sl_House_need_room⟩)
    (c_House_need_room : PySem.W.codeIn K cd_House_need_room "House.need_room" = true)
    (k_House_need_room : PySem.W.keepIn K (.ref f_House_need_room) = true)
    (l_House_holds : K.lookup f_House_holds = some ⟨oc_House_holds, od_House_holds, .func (PySem.W.fnOf "holds" "House.holds" (defArgs s_House_holds) (defBody s_House_holds) (defScope s_House_holds) .none kV_House_holds dc_House_holds pm_House_holds an_House_holds cd_House_holds ct_House_holds), sl_House_holds⟩)
    (c_House_holds : PySem.W.codeIn K cd_House_holds "House.holds" = true)
    (k_House_holds : PySem.W.keepIn K (.ref f_House_holds) = true)
    (l_House_found : K.lookup f_House_found = some ⟨oc_House_found, od_House_found, .func (PySem.W.fnOf "found" "House.found" (defArgs s_House_found) (defBody s_House_found) (defScope s_House_found) .none kV_House_found dc_House_found pm_House_found an_House_found cd_House_found ct_House_found), sl_House_found⟩)
    (c_House_found : PySem.W.codeIn K cd_House_found "House.found" = true)
    (k_House_found : PySem.W.keepIn K (.ref f_House_found) = true)
    (l_House_into : K.lookup f_House_into = some ⟨oc_House_into, od_House_into, .func (PySem.W.fnOf "into" "House.into" (defArgs s_House_into) (defBody s_House_into) (defScope s_House_into) .none kV_House_into dc_House_into pm_House_into an_House_into cd_House_into ct_House_into), sl_House_into⟩)
    (c_House_into : PySem.W.codeIn K cd_House_into "House.into" = true)
    (k_House_into : PySem.W.keepIn K (.ref f_House_into) = true)
    (l_House_from_room : K.lookup f_House_from_room = some ⟨oc_House_from_room, od_House_from_room, .func (PySem.W.fnOf "from_room" "House.from_room" (defArgs s_House_from_room) (defBody s_House_from_room) (defScope s_House_from_room) .none kV_House_from_room dc_House_from_room pm_House_from_room an_House_from_room cd_House_from_room ct_House_from_room), sl_House_from_room⟩)
    (c_House_from_room : PySem.W.codeIn K cd_House_from_room "House.from_room" = true)
    (k_House_from_room : PySem.W.keepIn K (.ref f_House_from_room) = true)
    (l_House_door : K.lookup f_House_door = some ⟨oc_House_door, od_House_door, .func (PySem.W.fnOf "door" "House.door" (defArgs s_House_door) (defBody s_House_door) (defScope s_House_door) .none kV_House_door dc_House_door pm_House_door an_House_door cd_House_door ct_House_door), sl_House_door⟩)
    (c_House_door : PySem.W.codeIn K cd_House_door "House.door" = true)
    (k_House_door : PySem.W.keepIn K (.ref f_House_door) = true)
    (l_House_lets : K.lookup f_House_lets = some ⟨oc_House_lets, od_House_lets, .func (PySem.W.fnOf "lets" "House.lets" (defArgs s_House_lets) (defBody s_House_lets) (defScope s_House_lets) .none kV_House_lets dc_House_lets pm_House_lets an_House_lets cd_House_lets ct_House_lets), sl_House_lets⟩)
    (c_House_lets : PySem.W.codeIn K cd_House_lets "House.lets" = true)
    (k_House_lets : PySem.W.keepIn K (.ref f_House_lets) = true)
    (l_House_total : K.lookup f_House_total = some ⟨oc_House_total, od_House_total, .func (PySem.W.fnOf "total" "House.total" (defArgs s_House_total) (defBody s_House_total) (defScope s_House_total) .none kV_House_total dc_House_total pm_House_total an_House_total cd_House_total ct_House_total), sl_House_total⟩)
    (c_House_total : PySem.W.codeIn K cd_House_total "House.total" = true)
    (k_House_total : PySem.W.keepIn K (.ref f_House_total) = true)
    (l_House_pairs : K.lookup f_House_pairs = some ⟨oc_House_pairs, od_House_pairs, .func (PySem.W.fnOf "pairs" "House.pairs" (defArgs s_House_pairs) (defBody s_House_pairs) (defScope s_House_pairs) .none kV_House_pairs dc_House_pairs pm_House_pairs an_House_pairs cd_House_pairs ct_House_pairs), sl_House_pairs⟩)
    (c_House_pairs : PySem.W.codeIn K cd_House_pairs "House.pairs" = true)
    (k_House_pairs : PySem.W.keepIn K (.ref f_House_pairs) = true)
    (pg_Door : PySem.W.plainGet K C_Door Str.empty = true)
    (hd_Door : PySem.W.hasDictIn K C_Door = true)
    (po_Door : PySem.W.plainOver K C_Door = true)
    (sa_Door : PySem.W.findIn K (.ref C_Door) "__setattr__" = some (some (.builtin "object.__setattr__")))
    (mk_Door : PySem.W.makesIn K C_Door = true)
    (kc_Door : PySem.W.keepIn K (.ref C_Door) = true)
    (ha_Door : PySem.W.findIn K (.ref C_Door) "__class__" = some (some (.builtin "object.__class__")))
    (hm_Door : PySem.W.mroIn K C_Door (.type "object") = some true)
    (na_Door_name : PySem.W.findIn K (.ref C_Door) "name" = some none)
    (na_Door_start : PySem.W.findIn K (.ref C_Door) "start" = some none)
    (na_Door_end : PySem.W.findIn K (.ref C_Door) "end" = some none)
    (na_Door_wide : PySem.W.findIn K (.ref C_Door) "wide" = some none)
    (na_Door_first : PySem.W.findIn K (.ref C_Door) "first" = some none)
    (na_Door_last : PySem.W.findIn K (.ref C_Door) "last" = some none)
    (na_Door_sizes : PySem.W.findIn K (.ref C_Door) "sizes" = some none)
    (na_Door_people : PySem.W.findIn K (.ref C_Door) "people" = some none)
    (na_Door_named_doors : PySem.W.findIn K (.ref C_Door) "named_doors" = some none)
    (in_Door : PySem.W.findIn K (.ref C_Door) "__init__" = some (some (.ref f_Door___init__)))
    (fi_Door : PySem.W.isFn K (.ref f_Door___init__) = true)
    (mt_Door_lets : PySem.W.findIn K (.ref C_Door) "lets" = some (some (.ref f_Door_lets)))
    (mf_Door_lets : PySem.W.isFn K (.ref f_Door_lets) = true)
    (mt_Door_is_exit : PySem.W.findIn K (.ref C_Door) "is_exit" = some (some (.ref f_Door_is_exit)))
    (mf_Door_is_exit : PySem.W.isFn K (.ref f_Door_is_exit) = true)
    (mt_Door_words : PySem.W.findIn K (.ref C_Door) "words" = some (some (.ref f_Door_words)))
    (mf_Door_words : PySem.W.isFn K (.ref f_Door_words) = true)
    (pg_House : PySem.W.plainGet K C_House Str.empty = true)
    (hd_House : PySem.W.hasDictIn K C_House = true)
    (po_House : PySem.W.plainOver K C_House = true)
    (sa_House : PySem.W.findIn K (.ref C_House) "__setattr__" = some (some (.builtin "object.__setattr__")))
    (mk_House : PySem.W.makesIn K C_House = true)
    (kc_House : PySem.W.keepIn K (.ref C_House) = true)
    (ha_House : PySem.W.findIn K (.ref C_House) "__class__" = some (some (.builtin "object.__class__")))
    (hm_House : PySem.W.mroIn K C_House (.type "object") = some true)
    (na_House_name : PySem.W.findIn K (.ref C_House) "name" = some none)
    (na_House_start : PySem.W.findIn K (.ref C_House) "start" = some none)
    (na_House_end : PySem.W.findIn K (.ref C_House) "end" = some none)
    (na_House_wide : PySem.W.findIn K (.ref C_House) "wide" = some none)
    (na_House_first : PySem.W.findIn K (.ref C_House) "first" = some none)
    (na_House_last : PySem.W.findIn K (.ref C_House) "last" = some none)
    (na_House_sizes : PySem.W.findIn K (.ref C_House) "sizes" = some none)
    (na_House_people : PySem.W.findIn K (.ref C_House) "people" = some none)
    (na_House_named_doors : PySem.W.findIn K (.ref C_House) "named_doors" = some none)
    (in_House : PySem.W.findIn K (.ref C_House) "__init__" = some (some (.ref f_House___init__)))
    (fi_House : PySem.W.isFn K (.ref f_House___init__) = true)
    (mt_House_rooms : PySem.W.findIn K (.ref C_House) "rooms" = some (some (.ref f_House_rooms)))
    (mf_House_rooms : PySem.W.isFn K (.ref f_House_rooms) = true)
    (mt_House_doors : PySem.W.findIn K (.ref C_House) "doors" = some (some (.ref f_House_doors)))
    (mf_House_doors : PySem.W.isFn K (.ref f_House_doors) = true)
    (mt_House_need_room : PySem.W.findIn K (.ref C_House) "need_room" = some (some (.ref f_House_need_room)))
    (mf_House_need_room : PySem.W.isFn K (.ref f_House_need_room) = true)
    (mt_House_holds : PySem.W.findIn K (.ref C_House) "holds" = some (some (.ref f_House_holds)))
    (mf_House_holds : PySem.W.isFn K (.ref f_House_holds) = true)
    (mt_House_found : PySem.W.findIn K (.ref C_House) "found" = some (some (.ref f_House_found)))
    (mf_House_found : PySem.W.isFn K (.ref f_House_found) = true)
    (mt_House_into : PySem.W.findIn K (.ref C_House) "into" = some (some (.ref f_House_into)))
    (mf_House_into : PySem.W.isFn K (.ref f_House_into) = true)
    (mt_House_from_room : PySem.W.findIn K (.ref C_House) "from_room" = some (some (.ref f_House_from_room)))
    (mf_House_from_room : PySem.W.isFn K (.ref f_House_from_room) = true)
    (mt_House_door : PySem.W.findIn K (.ref C_House) "door" = some (some (.ref f_House_door)))
    (mf_House_door : PySem.W.isFn K (.ref f_House_door) = true)
    (mt_House_lets : PySem.W.findIn K (.ref C_House) "lets" = some (some (.ref f_House_lets)))
    (mf_House_lets : PySem.W.isFn K (.ref f_House_lets) = true)
    (mt_House_total : PySem.W.findIn K (.ref C_House) "total" = some (some (.ref f_House_total)))
    (mf_House_total : PySem.W.isFn K (.ref f_House_total) = true)
    (mt_House_pairs : PySem.W.findIn K (.ref C_House) "pairs" = some (some (.ref f_House_pairs)))
    (mf_House_pairs : PySem.W.isFn K (.ref f_House_pairs) = true)
    (hn_obj : PySem.W.specialIn K (.builtin "object.__class__") "__get__" = some (some (.builtin "getset_descriptor.__get__")))
    (tk_obj : PySem.W.takesIn K (.builtin "object.__class__") = some true)
    (z_ValueError : PySem.W.nsIn K mainGlobals "ValueError" = some none)
    (z_sorted : PySem.W.nsIn K mainGlobals "sorted" = some none)
    (z_any : PySem.W.nsIn K mainGlobals "any" = some none)
    (z_range : PySem.W.nsIn K mainGlobals "range" = some none)
    (z_list : PySem.W.nsIn K mainGlobals "list" = some none)
    (z_isinstance : PySem.W.nsIn K mainGlobals "isinstance" = some none)
    (z_int : PySem.W.nsIn K mainGlobals "int" = some none)
    (z_str : PySem.W.nsIn K mainGlobals "str" = some none)
    (z_all : PySem.W.nsIn K mainGlobals "all" = some none)
    (z_dict : PySem.W.nsIn K mainGlobals "dict" = some none)
    (z_len : PySem.W.nsIn K mainGlobals "len" = some none)
    (z_max : PySem.W.nsIn K mainGlobals "max" = some none)
    (z_bool : PySem.W.nsIn K mainGlobals "bool" = some none)
    (z_sum : PySem.W.nsIn K mainGlobals "sum" = some none)
    (q_LONGEST_NAME : PySem.W.nsIn K mainGlobals "LONGEST_NAME" = some (some (.int 8 t_LONGEST_NAME))) :
    ∃ fd : FuncData, (∀ (s : Shared) (v : Value), BindsTo s fd ⟨[v], []⟩ [("_law_script", v)]) ∧ ∀ base : Heap, K.In base → base.Ns mainGlobals mg → FnOk l.prog w K mg base CX0 20 fa fd ["_law_script"] (sp_law K) := by
  have e := hfa.symm.trans (PySem.W.mg_of X G a_law)
  cases e
  have F__wall := funV_mk (st := s__wall) l__wall c__wall k__wall
  have b__wall := binds_n (K := K) (x := "_wall") (qual := "_wall") (st := s__wall) (kV := kV__wall) (doc := dc__wall) (pm := pm__wall) (an := an__wall) (cdv := cd__wall) (ct := ct__wall) (ps := ["k"]) <| of_allN 1 _ fun _ => rfl
  have F_added_up := funV_mk (st := s_added_up) l_added_up c_added_up k_added_up
  have b_added_up := binds_n (K := K) (x := "added_up") (qual := "added_up") (st := s_added_up) (kV := kV_added_up) (doc := dc_added_up) (pm := pm_added_up) (an := an_added_up) (cdv := cd_added_up) (ct := ct_added_up) (ps := ["plan"]) <| of_allN 1 _ fun _ => rfl
  have F_as_told := funV_mk (st := s_as_told) l_as_told c_as_told k_as_told
  have b_as_told := binds_n (K := K) (x := "as_told") (qual := "as_told") (st := s_as_told) (kV := kV_as_told) (doc := dc_as_told) (pm := pm_as_told) (an := an_as_told) (cdv := cd_as_told) (ct := ct_as_told) (ps := ["plan"]) <| of_allN 1 _ fun _ => rfl
  have F_signs := funV_mk (st := s_signs) l_signs c_signs k_signs
  have b_signs := binds_n (K := K) (x := "signs") (qual := "signs") (st := s_signs) (kV := kV_signs) (doc := dc_signs) (pm := pm_signs) (an := an_signs) (cdv := cd_signs) (ct := ct_signs) (ps := ["house", "plan", "room", "turn"]) <| of_allN 4 _ fun _ _ _ _ => rfl
  have F_is_whole := funV_mk (st := s_is_whole) l_is_whole c_is_whole k_is_whole
  have b_is_whole := binds_n (K := K) (x := "is_whole") (qual := "is_whole") (st := s_is_whole) (kV := kV_is_whole) (doc := dc_is_whole) (pm := pm_is_whole) (an := an_is_whole) (cdv := cd_is_whole) (ct := ct_is_whole) (ps := ["thing"]) <| of_allN 1 _ fun _ => rfl
  have F_is_name := funV_mk (st := s_is_name) l_is_name c_is_name k_is_name
  have b_is_name := binds_n (K := K) (x := "is_name") (qual := "is_name") (st := s_is_name) (kV := kV_is_name) (doc := dc_is_name) (pm := pm_is_name) (an := an_is_name) (cdv := cd_is_name) (ct := ct_is_name) (ps := ["thing"]) <| of_allN 1 _ fun _ => rfl
  have F_need_name := funV_mk (st := s_need_name) l_need_name c_need_name k_need_name
  have b_need_name := binds_n (K := K) (x := "need_name") (qual := "need_name") (st := s_need_name) (kV := kV_need_name) (doc := dc_need_name) (pm := pm_need_name) (an := an_need_name) (cdv := cd_need_name) (ct := ct_need_name) (ps := ["part", "thing"]) <| of_allN 2 _ fun _ _ => rfl
  have F_need_whole := funV_mk (st := s_need_whole) l_need_whole c_need_whole k_need_whole
  have b_need_whole := binds_n (K := K) (x := "need_whole") (qual := "need_whole") (st := s_need_whole) (kV := kV_need_whole) (doc := dc_need_whole) (pm := pm_need_whole) (an := an_need_whole) (cdv := cd_need_whole) (ct := ct_need_whole) (ps := ["part", "thing", "least"]) <| of_allN 3 _ fun _ _ _ => rfl
  have F_need_turns := funV_mk (st := s_need_turns) l_need_turns c_need_turns k_need_turns
  have b_need_turns := binds_n (K := K) (x := "need_turns") (qual := "need_turns") (st := s_need_turns) (kV := kV_need_turns) (doc := dc_need_turns) (pm := pm_need_turns) (an := an_need_turns) (cdv := cd_need_turns) (ct := ct_need_turns) (ps := ["first", "last"]) <| of_allN 2 _ fun _ _ => rfl
  have F_need_each_once := funV_mk (st := s_need_each_once) l_need_each_once c_need_each_once k_need_each_once
  have b_need_each_once := binds_n (K := K) (x := "need_each_once") (qual := "need_each_once") (st := s_need_each_once) (kV := kV_need_each_once) (doc := dc_need_each_once) (pm := pm_need_each_once) (an := an_need_each_once) (cdv := cd_need_each_once) (ct := ct_need_each_once) (ps := ["names"]) <| of_allN 1 _ fun _ => rfl
  have F_rooms_spoken_of := funV_mk (st := s_rooms_spoken_of) l_rooms_spoken_of c_rooms_spoken_of k_rooms_spoken_of
  have b_rooms_spoken_of := binds_n (K := K) (x := "rooms_spoken_of") (qual := "rooms_spoken_of") (st := s_rooms_spoken_of) (kV := kV_rooms_spoken_of) (doc := dc_rooms_spoken_of) (pm := pm_rooms_spoken_of) (an := an_rooms_spoken_of) (cdv := cd_rooms_spoken_of) (ct := ct_rooms_spoken_of) (ps := ["doors", "people"]) <| of_allN 2 _ fun _ _ => rfl
  have F_need_rooms := funV_mk (st := s_need_rooms) l_need_rooms c_need_rooms k_need_rooms
  have b_need_rooms := binds_n (K := K) (x := "need_rooms") (qual := "need_rooms") (st := s_need_rooms) (kV := kV_need_rooms) (doc := dc_need_rooms) (pm := pm_need_rooms) (an := an_need_rooms) (cdv := cd_need_rooms) (ct := ct_need_rooms) (ps := ["names", "sizes"]) <| of_allN 2 _ fun _ _ => rfl
  have F_added_people := funV_mk (st := s_added_people) l_added_people c_added_people k_added_people
  have b_added_people := binds_n (K := K) (x := "added_people") (qual := "added_people") (st := s_added_people) (kV := kV_added_people) (doc := dc_added_people) (pm := pm_added_people) (an := an_added_people) (cdv := cd_added_people) (ct := ct_added_people) (ps := ["sizes", "people"]) <| of_allN 2 _ fun _ _ => rfl
  have F_need_space := funV_mk (st := s_need_space) l_need_space c_need_space k_need_space
  have b_need_space := binds_n (K := K) (x := "need_space") (qual := "need_space") (st := s_need_space) (kV := kV_need_space) (doc := dc_need_space) (pm := pm_need_space) (an := an_need_space) (cdv := cd_need_space) (ct := ct_need_space) (ps := ["sizes", "people"]) <| of_allN 2 _ fun _ _ => rfl
  have F__law_cell_at := funV_mk (st := s__law_cell_at) l__law_cell_at c__law_cell_at k__law_cell_at
  have b__law_cell_at := binds_n (K := K) (x := "_law_cell_at") (qual := "_law_cell_at") (st := s__law_cell_at) (kV := kV__law_cell_at) (doc := dc__law_cell_at) (pm := pm__law_cell_at) (an := an__law_cell_at) (cdv := cd__law_cell_at) (ct := ct__law_cell_at) (ps := ["_law_script", "_law_k"]) <| of_allN 2 _ fun _ _ => rfl
  have F__law_drawn := funV_mk (st := s__law_drawn) l__law_drawn c__law_drawn k__law_drawn
  have b__law_drawn := binds_n (K := K) (x := "_law_drawn") (qual := "_law_drawn") (st := s__law_drawn) (kV := kV__law_drawn) (doc := dc__law_drawn) (pm := pm__law_drawn) (an := an__law_drawn) (cdv := cd__law_drawn) (ct := ct__law_drawn) (ps := ["_law_cell", "_law_k"]) <| of_allN 2 _ fun _ _ => rfl
  have F__law_name := funV_mk (st := s__law_name) l__law_name c__law_name k__law_name
  have b__law_name := binds_n (K := K) (x := "_law_name") (qual := "_law_name") (st := s__law_name) (kV := kV__law_name) (doc := dc__law_name) (pm := pm__law_name) (an := an__law_name) (cdv := cd__law_name) (ct := ct__law_name) (ps := ["_law_cell", "_law_k"]) <| of_allN 2 _ fun _ _ => rfl
  have F__law_doors := funV_mk (st := s__law_doors) l__law_doors c__law_doors k__law_doors
  have b__law_doors := binds_n (K := K) (x := "_law_doors") (qual := "_law_doors") (st := s__law_doors) (kV := kV__law_doors) (doc := dc__law_doors) (pm := pm__law_doors) (an := an__law_doors) (cdv := cd__law_doors) (ct := ct__law_doors) (ps := ["_law_cell", "_law_rooms"]) <| of_allN 2 _ fun _ _ => rfl
  have F__law_plan := funV_mk (st := s__law_plan) l__law_plan c__law_plan k__law_plan
  have b__law_plan := binds_n (K := K) (x := "_law_plan") (qual := "_law_plan") (st := s__law_plan) (kV := kV__law_plan) (doc := dc__law_plan) (pm := pm__law_plan) (an := an__law_plan) (cdv := cd__law_plan) (ct := ct__law_plan) (ps := ["_law_cells", "_law_doors_here", "_law_first", "_law_last"]) <| of_allN 4 _ fun _ _ _ _ => rfl
  have F_law := funV_mk (st := s_law) l_law c_law k_law
  have b_law := binds_n (K := K) (x := "law") (qual := "law") (st := s_law) (kV := kV_law) (doc := dc_law) (pm := pm_law) (an := an_law) (cdv := cd_law) (ct := ct_law) (ps := ["_law_script"]) <| of_allN 1 _ fun _ => rfl
  have F_Door___init__ := funV_mk (st := s_Door___init__) l_Door___init__ c_Door___init__ k_Door___init__
  have b_Door___init__ := binds_d 5 (K := K) (x := "__init__") (qual := "Door.__init__") (st := s_Door___init__) (kV := kV_Door___init__) (doc := dc_Door___init__) (pm := pm_Door___init__) (an := an_Door___init__) (cdv := cd_Door___init__) (ct := ct_Door___init__) (ps := ["self", "name", "start", "end", "wide"]) (ds := []) t_Door___init__ <| of_allN 5 _ fun _ _ _ _ _ => ⟨_, rfl, rfl⟩
  have bx_Door___init___1 := binds_d 4 (K := K) (x := "__init__") (qual := "Door.__init__") (st := s_Door___init__) (kV := kV_Door___init__) (doc := dc_Door___init__) (pm := pm_Door___init__) (an := an_Door___init__) (cdv := cd_Door___init__) (ct := ct_Door___init__) (ps := ["self", "name", "start", "end", "wide"]) (ds := [.int 1 tk_Door___init___1]) t_Door___init__ <| of_allN 4 _ fun _ _ _ _ => ⟨_, rfl, rfl⟩
  have bx_Door___init___2 := binds_d 3 (K := K) (x := "__init__") (qual := "Door.__init__") (st := s_Door___init__) (kV := kV_Door___init__) (doc := dc_Door___init__) (pm := pm_Door___init__) (an := an_Door___init__) (cdv := cd_Door___init__) (ct := ct_Door___init__) (ps := ["self", "name", "start", "end", "wide"]) (ds := [.none, .int 1 tk_Door___init___1]) t_Door___init__ <| of_allN 3 _ fun _ _ _ => ⟨_, rfl, rfl⟩
  have F_Door_lets := funV_mk (st := s_Door_lets) l_Door_lets c_Door_lets k_Door_lets
  have b_Door_lets := binds_n (K := K) (x := "lets") (qual := "Door.lets") (st := s_Door_lets) (kV := kV_Door_lets) (doc := dc_Door_lets) (pm := pm_Door_lets) (an := an_Door_lets) (cdv := cd_Door_lets) (ct := ct_Door_lets) (ps := ["self", "turn"]) <| of_allN 2 _ fun _ _ => rfl
  have F_Door_is_exit := funV_mk (st := s_Door_is_exit) l_Door_is_exit c_Door_is_exit k_Door_is_exit
  have b_Door_is_exit := binds_n (K := K) (x := "is_exit") (qual := "Door.is_exit") (st := s_Door_is_exit) (kV := kV_Door_is_exit) (doc := dc_Door_is_exit) (pm := pm_Door_is_exit) (an := an_Door_is_exit) (cdv := cd_Door_is_exit) (ct := ct_Door_is_exit) (ps := ["self"]) <| of_allN 1 _ fun _ => rfl
  have F_Door_words := funV_mk (st := s_Door_words) l_Door_words c_Door_words k_Door_words
  have b_Door_words := binds_n (K := K) (x := "words") (qual := "Door.words") (st := s_Door_words) (kV := kV_Door_words) (doc := dc_Door_words) (pm := pm_Door_words) (an := an_Door_words) (cdv := cd_Door_words) (ct := ct_Door_words) (ps := ["self"]) <| of_allN 1 _ fun _ => rfl
  have F_House___init__ := funV_mk (st := s_House___init__) l_House___init__ c_House___init__ k_House___init__
  have b_House___init__ := binds_d 6 (K := K) (x := "__init__") (qual := "House.__init__") (st := s_House___init__) (kV := kV_House___init__) (doc := dc_House___init__) (pm := pm_House___init__) (an := an_House___init__) (cdv := cd_House___init__) (ct := ct_House___init__) (ps := ["self", "rooms", "doors", "people", "last", "first"]) (ds := []) t_House___init__ <| of_allN 6 _ fun _ _ _ _ _ _ => ⟨_, rfl, rfl⟩
  have bx_House___init___1 := binds_d 5 (K := K) (x := "__init__") (qual := "House.__init__") (st := s_House___init__) (kV := kV_House___init__) (doc := dc_House___init__) (pm := pm_House___init__) (an := an_House___init__) (cdv := cd_House___init__) (ct := ct_House___init__) (ps := ["self", "rooms", "doors", "people", "last", "first"]) (ds := [.int 0 tk_House___init___0]) t_House___init__ <| of_allN 5 _ fun _ _ _ _ _ => ⟨_, rfl, rfl⟩
  have F_House_rooms := funV_mk (st := s_House_rooms) l_House_rooms c_House_rooms k_House_rooms
  have b_House_rooms := binds_n (K := K) (x := "rooms") (qual := "House.rooms") (st := s_House_rooms) (kV := kV_House_rooms) (doc := dc_House_rooms) (pm := pm_House_rooms) (an := an_House_rooms) (cdv := cd_House_rooms) (ct := ct_House_rooms) (ps := ["self"]) <| of_allN 1 _ fun _ => rfl
  have F_House_doors := funV_mk (st := s_House_doors) l_House_doors c_House_doors k_House_doors
  have b_House_doors := binds_n (K := K) (x := "doors") (qual := "House.doors") (st := s_House_doors) (kV := kV_House_doors) (doc := dc_House_doors) (pm := pm_House_doors) (an := an_House_doors) (cdv := cd_House_doors) (ct := ct_House_doors) (ps := ["self"]) <| of_allN 1 _ fun _ => rfl
  have F_House_need_room := funV_mk (st := s_House_need_room) l_House_need_room c_House_need_room k_House_need_room
  have b_House_need_room := binds_n (K := K) (x := "need_room") (qual := "House.need_room") (st := s_House_need_room) (kV := kV_House_need_room) (doc := dc_House_need_room) (pm := pm_House_need_room) (an := an_House_need_room) (cdv := cd_House_need_room) (ct := ct_House_need_room) (ps := ["self", "room"]) <| of_allN 2 _ fun _ _ => rfl
  have F_House_holds := funV_mk (st := s_House_holds) l_House_holds c_House_holds k_House_holds
  have b_House_holds := binds_n (K := K) (x := "holds") (qual := "House.holds") (st := s_House_holds) (kV := kV_House_holds) (doc := dc_House_holds) (pm := pm_House_holds) (an := an_House_holds) (cdv := cd_House_holds) (ct := ct_House_holds) (ps := ["self", "room"]) <| of_allN 2 _ fun _ _ => rfl
  have F_House_found := funV_mk (st := s_House_found) l_House_found c_House_found k_House_found
  have b_House_found := binds_n (K := K) (x := "found") (qual := "House.found") (st := s_House_found) (kV := kV_House_found) (doc := dc_House_found) (pm := pm_House_found) (an := an_House_found) (cdv := cd_House_found) (ct := ct_House_found) (ps := ["self", "room"]) <| of_allN 2 _ fun _ _ => rfl
  have F_House_into := funV_mk (st := s_House_into) l_House_into c_House_into k_House_into
  have b_House_into := binds_n (K := K) (x := "into") (qual := "House.into") (st := s_House_into) (kV := kV_House_into) (doc := dc_House_into) (pm := pm_House_into) (an := an_House_into) (cdv := cd_House_into) (ct := ct_House_into) (ps := ["self", "room"]) <| of_allN 2 _ fun _ _ => rfl
  have F_House_from_room := funV_mk (st := s_House_from_room) l_House_from_room c_House_from_room k_House_from_room
  have b_House_from_room := binds_n (K := K) (x := "from_room") (qual := "House.from_room") (st := s_House_from_room) (kV := kV_House_from_room) (doc := dc_House_from_room) (pm := pm_House_from_room) (an := an_House_from_room) (cdv := cd_House_from_room) (ct := ct_House_from_room) (ps := ["self", "room"]) <| of_allN 2 _ fun _ _ => rfl
  have F_House_door := funV_mk (st := s_House_door) l_House_door c_House_door k_House_door
  have b_House_door := binds_n (K := K) (x := "door") (qual := "House.door") (st := s_House_door) (kV := kV_House_door) (doc := dc_House_door) (pm := pm_House_door) (an := an_House_door) (cdv := cd_House_door) (ct := ct_House_door) (ps := ["self", "name"]) <| of_allN 2 _ fun _ _ => rfl
  have F_House_lets := funV_mk (st := s_House_lets) l_House_lets c_House_lets k_House_lets
  have b_House_lets := binds_n (K := K) (x := "lets") (qual := "House.lets") (st := s_House_lets) (kV := kV_House_lets) (doc := dc_House_lets) (pm := pm_House_lets) (an := an_House_lets) (cdv := cd_House_lets) (ct := ct_House_lets) (ps := ["self", "name", "turn"]) <| of_allN 3 _ fun _ _ _ => rfl
  have F_House_total := funV_mk (st := s_House_total) l_House_total c_House_total k_House_total
  have b_House_total := binds_n (K := K) (x := "total") (qual := "House.total") (st := s_House_total) (kV := kV_House_total) (doc := dc_House_total) (pm := pm_House_total) (an := an_House_total) (cdv := cd_House_total) (ct := ct_House_total) (ps := ["self"]) <| of_allN 1 _ fun _ => rfl
  have F_House_pairs := funV_mk (st := s_House_pairs) l_House_pairs c_House_pairs k_House_pairs
  have b_House_pairs := binds_n (K := K) (x := "pairs") (qual := "House.pairs") (st := s_House_pairs) (kV := kV_House_pairs) (doc := dc_House_pairs) (pm := pm_House_pairs) (an := an_House_pairs) (cdv := cd_House_pairs) (ct := ct_House_pairs) (ps := ["self"]) <| of_allN 1 _ fun _ => rfl
  have ic_Door : ICls K C_Door := ⟨⟨pg_Door, hd_Door, po_Door, sa_Door⟩, ha_Door, hn_obj, tk_obj, hm_Door⟩
  have ic_House : ICls K C_House := ⟨⟨pg_House, hd_House, po_House, sa_House⟩, ha_House, hn_obj, tk_obj, hm_House⟩
  exact ⟨PySem.W.fnOf "law" "law" (defArgs s_law) (defBody s_law) (defScope s_law) .none kV_law dc_law pm_law an_law cd_law ct_law, fun s v => .of_eq rfl, fun base _ _ => ok_law ⟨f__wall, _, F__wall, b__wall,
    f_added_up, _, F_added_up, b_added_up,
    f_as_told, _, F_as_told, b_as_told,
    f_signs, _, F_signs, b_signs,
    f_is_whole, _, F_is_whole, b_is_whole,
    f_is_name, _, F_is_name, b_is_name,
    f_need_name, _, F_need_name, b_need_name,
    f_need_whole, _, F_need_whole, b_need_whole,
    f_need_turns, _, F_need_turns, b_need_turns,
    f_need_each_once, _, F_need_each_once, b_need_each_once,
    f_rooms_spoken_of, _, F_rooms_spoken_of, b_rooms_spoken_of,
    f_need_rooms, _, F_need_rooms, b_need_rooms,
    f_added_people, _, F_added_people, b_added_people,
    f_need_space, _, F_need_space, b_need_space,
    f__law_cell_at, _, F__law_cell_at, b__law_cell_at,
    f__law_drawn, _, F__law_drawn, b__law_drawn,
    f__law_name, _, F__law_name, b__law_name,
    f__law_doors, _, F__law_doors, b__law_doors,
    f__law_plan, _, F__law_plan, b__law_plan,
    fa, _, F_law, b_law,
    f_Door___init__, _, F_Door___init__, b_Door___init__,
    f_Door_lets, _, F_Door_lets, b_Door_lets,
    f_Door_is_exit, _, F_Door_is_exit, b_Door_is_exit,
    f_Door_words, _, F_Door_words, b_Door_words,
    f_House___init__, _, F_House___init__, b_House___init__,
    f_House_rooms, _, F_House_rooms, b_House_rooms,
    f_House_doors, _, F_House_doors, b_House_doors,
    f_House_need_room, _, F_House_need_room, b_House_need_room,
    f_House_holds, _, F_House_holds, b_House_holds,
    f_House_found, _, F_House_found, b_House_found,
    f_House_into, _, F_House_into, b_House_into,
    f_House_from_room, _, F_House_from_room, b_House_from_room,
    f_House_door, _, F_House_door, b_House_door,
    f_House_lets, _, F_House_lets, b_House_lets,
    f_House_total, _, F_House_total, b_House_total,
    f_House_pairs, _, F_House_pairs, b_House_pairs,
    PySem.W.mg_of X G a__wall,
    PySem.W.mg_of X G a_added_up,
    PySem.W.mg_of X G a_as_told,
    PySem.W.mg_of X G a_signs,
    PySem.W.mg_of X G a_is_whole,
    PySem.W.mg_of X G a_is_name,
    PySem.W.mg_of X G a_need_name,
    PySem.W.mg_of X G a_need_whole,
    PySem.W.mg_of X G a_need_turns,
    PySem.W.mg_of X G a_need_each_once,
    PySem.W.mg_of X G a_rooms_spoken_of,
    PySem.W.mg_of X G a_need_rooms,
    PySem.W.mg_of X G a_added_people,
    PySem.W.mg_of X G a_need_space,
    PySem.W.mg_of X G a__law_cell_at,
    PySem.W.mg_of X G a__law_drawn,
    PySem.W.mg_of X G a__law_name,
    PySem.W.mg_of X G a__law_doors,
    PySem.W.mg_of X G a__law_plan,
    PySem.W.mg_of X G a_law,
    ⟨_, .cons ⟨_, rfl⟩ (.nil), bx_Door___init___1⟩,
    ⟨_, .cons rfl (.cons ⟨_, rfl⟩ (.nil)), bx_Door___init___2⟩,
    ⟨_, .cons ⟨_, rfl⟩ (.nil), bx_House___init___1⟩,
    C_Door, PySem.W.mg_of X G aC_Door,
    C_House, PySem.W.mg_of X G aC_House,
    C_OutError, PySem.W.mg_of X G aC_OutError,
    C_NoDoor, PySem.W.mg_of X G aC_NoDoor,
    C_NoHouse, PySem.W.mg_of X G aC_NoHouse,
    C_NoTurn, PySem.W.mg_of X G aC_NoTurn,
    C_Twice, PySem.W.mg_of X G aC_Twice,
    C_NoRoom, PySem.W.mg_of X G aC_NoRoom,
    C_Unknown, PySem.W.mg_of X G aC_Unknown,
    ⟨ic_Door, na_Door_name, na_Door_start, na_Door_end, na_Door_wide, na_Door_first, na_Door_last, na_Door_sizes, na_Door_people, na_Door_named_doors⟩,
    ⟨mk_Door, in_Door, fi_Door, kc_Door⟩,
    ⟨mt_Door_lets, mf_Door_lets, k_Door_lets⟩,
    ⟨mt_Door_is_exit, mf_Door_is_exit, k_Door_is_exit⟩,
    ⟨mt_Door_words, mf_Door_words, k_Door_words⟩,
    ⟨ic_House, na_House_name, na_House_start, na_House_end, na_House_wide, na_House_first, na_House_last, na_House_sizes, na_House_people, na_House_named_doors⟩,
    ⟨mk_House, in_House, fi_House, kc_House⟩,
    ⟨mt_House_rooms, mf_House_rooms, k_House_rooms⟩,
    ⟨mt_House_doors, mf_House_doors, k_House_doors⟩,
    ⟨mt_House_need_room, mf_House_need_room, k_House_need_room⟩,
    ⟨mt_House_holds, mf_House_holds, k_House_holds⟩,
    ⟨mt_House_found, mf_House_found, k_House_found⟩,
    ⟨mt_House_into, mf_House_into, k_House_into⟩,
    ⟨mt_House_from_room, mf_House_from_room, k_House_from_room⟩,
    ⟨mt_House_door, mf_House_door, k_House_door⟩,
    ⟨mt_House_lets, mf_House_lets, k_House_lets⟩,
    ⟨mt_House_total, mf_House_total, k_House_total⟩,
    ⟨mt_House_pairs, mf_House_pairs, k_House_pairs⟩,
    PySem.W.mg_none_of X G z_ValueError,
    PySem.W.mg_none_of X G z_sorted,
    PySem.W.mg_none_of X G z_any,
    PySem.W.mg_none_of X G z_range,
    PySem.W.mg_none_of X G z_list,
    PySem.W.mg_none_of X G z_isinstance,
    PySem.W.mg_none_of X G z_int,
    PySem.W.mg_none_of X G z_str,
    PySem.W.mg_none_of X G z_all,
    PySem.W.mg_none_of X G z_dict,
    PySem.W.mg_none_of X G z_len,
    PySem.W.mg_none_of X G z_max,
    PySem.W.mg_none_of X G z_bool,
    PySem.W.mg_none_of X G z_sum,
    ⟨t_LONGEST_NAME, PySem.W.mg_of X G q_LONGEST_NAME⟩⟩⟩
theorem walk {l : PySem.W.OpenLaw} {q : Program} {loose : List Str} {XP : (Str → Option Value) → Heap → Prop} {YP : World → Heap → Prop} {d : DefRec} {K : Params → PySem.W.Frag} (hn : l.most = some 63) (hdf : d.params.defaults = [])
    (hY : ∀ (w : World) (h : Heap), YP w h → (K w.params).In h)
    (F : ∀ (w : World) (mg : Str → Option Value) (fa : Addr) (h : Heap), (K w.params).In h → h.Ns mainGlobals mg → mg d.name = some (.ref fa) →
      ∃ fd : FuncData, (∀ (s : Shared) (u : Value), BindsTo s fd ⟨[u], []⟩ [("_law_script", u)]) ∧ ∀ base : Heap, (K w.params).In base → base.Ns mainGlobals mg → FnOk l.prog w (K w.params) mg base CX0 20 fa fd ["_law_script"] (sp_law (K w.params))) :
    PySem.W.WalkO q loose XP YP l.row.toRowW d [] (fun f vs => PySem.call f vs) :=
  L2.walk_of (n := 63) (k := 20) (x := "_law_script") (CX := fun _ => CX0) (sp := fun w => sp_law (K w.params)) hn (by decide) hdf ⟨rfl, by decide, by decide⟩ hY F (fun _ _ a ns hl _ hS => ⟨a, ns, rfl, hS, hl, fun _ => rfl⟩) fun _ _ _ _ _ z => z
end Prf
open PySem PySem.W PyProof.Rows
set_option maxRecDepth 100000 in
set_option maxHeartbeats 0 in
theorem PySem.Challenge.cw_firstout_k51_signs_holds : PySem.Challenge.rw_firstout_k51_signs.Holds := by
  w_on; o_law; k_head; (case hw => w_witness2)
  k_fill
  refine Prf.walk (l := PySem.Challenge.rw_firstout_k51_signs) rfl rfl (fun w h Y => PySem.W.kIn_of Y) ?F
  case F =>
    intro w mg fa h KX G hmg
    refine' Prf.all_mk KX G hmg ?a__wall ?a_added_up ?a_as_told ?a_signs ?a_is_whole ?a_is_name ?a_need_name ?a_need_whole ?a_need_turns ?a_need_each_once ?a_rooms_spoken_of ?a_need_rooms ?a_added_people ?a_need_space ?a__law_cell_at ?a__law_drawn ?a__law_name ?a__law_doors ?a__law_plan ?a_law ?aC_Door ?aC_House ?aC_OutError ?aC_NoDoor ?aC_NoHouse ?aC_NoTurn ?aC_Twice ?aC_NoRoom ?aC_Unknown ?a_Door___init__ ?a_Door_lets ?a_Door_is_exit ?a_Door_words ?a_House___init__ ?a_House_rooms ?a_House_doors ?a_House_need_room ?a_House_holds ?a_House_found ?a_House_into ?a_House_from_room ?a_House_door ?a_House_lets ?a_House_total ?a_House_pairs ?l__wall ?c__wall ?k__wall ?l_added_up ?c_added_up ?k_added_up ?l_as_told ?c_as_told ?k_as_told ?l_signs ?c_signs ?k_signs ?l_is_whole ?c_is_whole ?k_is_whole ?l_is_name ?c_is_name ?k_is_name ?l_need_name ?c_need_name ?k_need_name ?l_need_whole ?c_need_whole ?k_need_whole ?l_need_turns ?c_need_turns ?k_need_turns ?l_need_each_once ?c_need_each_once ?k_need_each_once ?l_rooms_spoken_of ?c_rooms_spoken_of ?k_rooms_spoken_of ?l_need_rooms ?c_need_rooms ?k_need_rooms ?l_added_people ?c_added_people ?k_added_people ?l_need_space ?c_need_space ?k_need_space ?l__law_cell_at ?c__law_cell_at ?k__law_cell_at ?l__law_drawn ?c__law_drawn ?k__law_drawn ?l__law_name ?c__law_name ?k__law_name ?l__law_doors ?c__law_doors ?k__law_doors ?l__law_plan ?c__law_plan ?k__law_plan ?l_law ?c_law ?k_law ?l_Door___init__ ?c_Door___init__ ?k_Door___init__ ?t_Door___init__ ?l_Door_lets ?c_Door_lets ?k_Door_lets ?l_Door_is_exit ?c_Door_is_exit ?k_Door_is_exit ?l_Door_words ?c_Door_words ?k_Door_words ?l_House___init__ ?c_House___init__ ?k_House___init__ ?t_House___init__ ?l_House_rooms ?c_House_rooms ?k_House_rooms ?l_House_doors ?c_House_doors ?k_House_doors ?l_House_need_room ?c_House_need_room ?k_House_need_room ?l_House_holds ?c_House_holds ?k_House_holds ?l_House_found ?c_House_found ?k_House_found ?l_House_into ?c_House_into ?k_House_into ?l_House_from_room ?c_House_from_room ?k_House_from_room ?l_House_door ?c_House_door ?k_House_door ?l_House_lets ?c_House_lets ?k_House_lets ?l_House_total ?c_House_total ?k_House_total ?l_House_pairs ?c_House_pairs ?k_House_pairs ?pg_Door ?hd_Door ?po_Door ?sa_Door ?mk_Door ?kc_Door ?ha_Door ?hm_Door ?na_Door_name ?na_Door_start ?na_Door_end ?na_Door_wide ?na_Door_first ?na_Door_last ?na_Door_sizes ?na_Door_people ?na_Door_named_doors ?in_Door ?fi_Door ?mt_Door_lets ?mf_Door_lets ?mt_Door_is_exit ?mf_Door_is_exit ?mt_Door_words ?mf_Door_words ?pg_House ?hd_House ?po_House ?sa_House ?mk_House ?kc_House ?ha_House ?hm_House ?na_House_name ?na_House_start ?na_House_end ?na_House_wide ?na_House_first ?na_House_last ?na_House_sizes ?na_House_people ?na_House_named_doors ?in_House ?fi_House ?mt_House_rooms ?mf_House_rooms ?mt_House_doors ?mf_House_doors ?mt_House_need_room ?mf_House_need_room ?mt_House_holds ?mf_House_holds ?mt_House_found ?mf_House_found ?mt_House_into ?mf_House_into ?mt_House_from_room ?mf_House_from_room ?mt_House_door ?mf_House_door ?mt_House_lets ?mf_House_lets ?mt_House_total ?mf_House_total ?mt_House_pairs ?mf_House_pairs ?hn_obj ?tk_obj ?z_ValueError ?z_sorted ?z_any ?z_range ?z_list ?z_isinstance ?z_int ?z_str ?z_all ?z_dict ?z_len ?z_max ?z_bool ?z_sum ?q_LONGEST_NAME
    (case a__wall => k_is)
    (case a_added_up => k_is)
    (case a_as_told => k_is)
    (case a_signs => k_is)
    (case a_is_whole => k_is)
    (case a_is_name => k_is)
    (case a_need_name => k_is)
    (case a_need_whole => k_is)
    (case a_need_turns => k_is)
    (case a_need_each_once => k_is)
    (case a_rooms_spoken_of => k_is)
    (case a_need_rooms => k_is)
    (case a_added_people => k_is)
    (case a_need_space => k_is)
    (case a__law_cell_at => k_is)
    (case a__law_drawn => k_is)
    (case a__law_name => k_is)
    (case a__law_doors => k_is)
    (case a__law_plan => k_is)
    (case a_law => k_is)
    (case aC_Door => k_is)
    (case aC_House => k_is)
    (case aC_OutError => k_is)
    (case aC_NoDoor => k_is)
    (case aC_NoHouse => k_is)
    (case aC_NoTurn => k_is)
    (case aC_Twice => k_is)
    (case aC_NoRoom => k_is)
    (case aC_Unknown => k_is)
    (case a_Door___init__ => k_is)
    (case a_Door_lets => k_is)
    (case a_Door_is_exit => k_is)
    (case a_Door_words => k_is)
    (case a_House___init__ => k_is)
    (case a_House_rooms => k_is)
    (case a_House_doors => k_is)
    (case a_House_need_room => k_is)
    (case a_House_holds => k_is)
    (case a_House_found => k_is)
    (case a_House_into => k_is)
    (case a_House_from_room => k_is)
    (case a_House_door => k_is)
    (case a_House_lets => k_is)
    (case a_House_total => k_is)
    (case a_House_pairs => k_is)
    (case l__wall => k_is)
    (case c__wall => k_is)
    (case k__wall => k_is)
    (case l_added_up => k_is)
    (case c_added_up => k_is)
    (case k_added_up => k_is)
    (case l_as_told => k_is)
    (case c_as_told => k_is)
    (case k_as_told => k_is)
    (case l_signs => k_is)
    (case c_signs => k_is)
    (case k_signs => k_is)
    (case l_is_whole => k_is)
    (case c_is_whole => k_is)
    (case k_is_whole => k_is)
    (case l_is_name => k_is)
    (case c_is_name => k_is)
    (case k_is_name => k_is)
    (case l_need_name => k_is)
    (case c_need_name => k_is)
    (case k_need_name => k_is)
    (case l_need_whole => k_is)
    (case c_need_whole => k_is)
    (case k_need_whole => k_is)
    (case l_need_turns => k_is)
    (case c_need_turns => k_is)
    (case k_need_turns => k_is)
    (case l_need_each_once => k_is)
    (case c_need_each_once => k_is)
    (case k_need_each_once => k_is)
    (case l_rooms_spoken_of => k_is)
    (case c_rooms_spoken_of => k_is)
    (case k_rooms_spoken_of => k_is)
    (case l_need_rooms => k_is)
    (case c_need_rooms => k_is)
    (case k_need_rooms => k_is)
    (case l_added_people => k_is)
    (case c_added_people => k_is)
    (case k_added_people => k_is)
    (case l_need_space => k_is)
    (case c_need_space => k_is)
    (case k_need_space => k_is)
    (case l__law_cell_at => k_is)
    (case c__law_cell_at => k_is)
    (case k__law_cell_at => k_is)
    (case l__law_drawn => k_is)
    (case c__law_drawn => k_is)
    (case k__law_drawn => k_is)
    (case l__law_name => k_is)
    (case c__law_name => k_is)
    (case k__law_name => k_is)
    (case l__law_doors => k_is)
    (case c__law_doors => k_is)
    (case k__law_doors => k_is)
    (case l__law_plan => k_is)
    (case c__law_plan => k_is)
    (case k__law_plan => k_is)
    (case l_law => k_is)
    (case c_law => k_is)
    (case k_law => k_is)
    (case l_Door___init__ => k_is)
    (case c_Door___init__ => k_is)
    (case k_Door___init__ => k_is)
    (case t_Door___init__ => k_is)
    (case l_Door_lets => k_is)
    (case c_Door_lets => k_is)
    (case k_Door_lets => k_is)
    (case l_Door_is_exit => k_is)
    (case c_Door_is_exit => k_is)
    (case k_Door_is_exit => k_is)
    (case l_Door_words => k_is)
    (case c_Door_words => k_is)
    (case k_Door_words => k_is)
    (case l_House___init__ => k_is)
    (case c_House___init__ => k_is)
    (case k_House___init__ => k_is)
    (case t_House___init__ => k_is)
    (case l_House_rooms => k_is)
    (case c_House_rooms => k_is)
    (case k_House_rooms => k_is)
    (case l_House_doors => k_is)
    (case c_House_doors => k_is)
    (case k_House_doors => k_is)
    (case l_House_need_room => k_is)
    (case c_House_need_room => k_is)
    (case k_House_need_room => k_is)
    (case l_House_holds => k_is)
    (case c_House_holds => k_is)
    (case k_House_holds => k_is)
    (case l_House_found => k_is)
    (case c_House_found => k_is)
    (case k_House_found => k_is)
    (case l_House_into => k_is)
    (case c_House_into => k_is)
    (case k_House_into => k_is)
    (case l_House_from_room => k_is)
    (case c_House_from_room => k_is)
    (case k_House_from_room => k_is)
    (case l_House_door => k_is)
    (case c_House_door => k_is)
    (case k_House_door => k_is)
    (case l_House_lets => k_is)
    (case c_House_lets => k_is)
    (case k_House_lets => k_is)
    (case l_House_total => k_is)
    (case c_House_total => k_is)
    (case k_House_total => k_is)
    (case l_House_pairs => k_is)
    (case c_House_pairs => k_is)
    (case k_House_pairs => k_is)
    (case pg_Door => k_is)
    (case hd_Door => k_is)
    (case po_Door => k_is)
    (case sa_Door => k_is)
    (case mk_Door => k_is)
    (case kc_Door => k_is)
    (case ha_Door => k_is)
    (case hm_Door => k_is)
    (case na_Door_name => k_is)
    (case na_Door_start => k_is)
    (case na_Door_end => k_is)
    (case na_Door_wide => k_is)
    (case na_Door_first => k_is)
    (case na_Door_last => k_is)
    (case na_Door_sizes => k_is)
    (case na_Door_people => k_is)
    (case na_Door_named_doors => k_is)
    (case in_Door => k_is)
    (case fi_Door => k_is)
    (case mt_Door_lets => k_is)
    (case mf_Door_lets => k_is)
    (case mt_Door_is_exit => k_is)
    (case mf_Door_is_exit => k_is)
    (case mt_Door_words => k_is)
    (case mf_Door_words => k_is)
    (case pg_House => k_is)
    (case hd_House => k_is)
    (case po_House => k_is)
    (case sa_House => k_is)
    (case mk_House => k_is)
    (case kc_House => k_is)
    (case ha_House => k_is)
    (case hm_House => k_is)
    (case na_House_name => k_is)
    (case na_House_start => k_is)
    (case na_House_end => k_is)
    (case na_House_wide => k_is)
    (case na_House_first => k_is)
    (case na_House_last => k_is)
    (case na_House_sizes => k_is)
    (case na_House_people => k_is)
    (case na_House_named_doors => k_is)
    (case in_House => k_is)
    (case fi_House => k_is)
    (case mt_House_rooms => k_is)
    (case mf_House_rooms => k_is)
    (case mt_House_doors => k_is)
    (case mf_House_doors => k_is)
    (case mt_House_need_room => k_is)
    (case mf_House_need_room => k_is)
    (case mt_House_holds => k_is)
    (case mf_House_holds => k_is)
    (case mt_House_found => k_is)
    (case mf_House_found => k_is)
    (case mt_House_into => k_is)
    (case mf_House_into => k_is)
    (case mt_House_from_room => k_is)
    (case mf_House_from_room => k_is)
    (case mt_House_door => k_is)
    (case mf_House_door => k_is)
    (case mt_House_lets => k_is)
    (case mf_House_lets => k_is)
    (case mt_House_total => k_is)
    (case mf_House_total => k_is)
    (case mt_House_pairs => k_is)
    (case mf_House_pairs => k_is)
    (case hn_obj => k_is)
    (case tk_obj => k_is)
    (case z_ValueError => k_is)
    (case z_sorted => k_is)
    (case z_any => k_is)
    (case z_range => k_is)
    (case z_list => k_is)
    (case z_isinstance => k_is)
    (case z_int => k_is)
    (case z_str => k_is)
    (case z_all => k_is)
    (case z_dict => k_is)
    (case z_len => k_is)
    (case z_max => k_is)
    (case z_bool => k_is)
    (case z_sum => k_is)
    (case q_LONGEST_NAME => k_is)
