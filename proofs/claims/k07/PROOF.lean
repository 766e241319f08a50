import PyProof.Rows.All
import Wide.All
import OpenK.AllK
import Wide.FinOn
import Lean
import PyProof.EqAt
import PyProof.EqKinds
import PyProof.TupleCall
import PySem.Challenge.RW_firstout_k07_whole_doors_round_doors
def PySem.W.Fast.tw6292362320832091233 : Unit := ()
def PySem.W.Fast.tw13892999581889869729 : Unit := ()
def PySem.W.Fast.tw4659801372301464808 : Unit := ()
def PySem.W.Fast.tw7180983677369842155 : Unit := ()
def PySem.W.Fast.tw648079858040751276 : Unit := ()
def PySem.W.Fast.tw7001533194270799886 : Unit := ()
def PySem.W.Fast.tw6131942079251007726 : Unit := ()
def PySem.W.Fast.tw9935271407661523119 : Unit := ()
def PySem.W.Fast.tw17831008142570758929 : Unit := ()
def PySem.W.Fast.tw18165283184590736658 : Unit := ()
def PySem.W.Fast.tw14847774818629628278 : Unit := ()
def PySem.W.Fast.tw8653696038674197495 : Unit := ()
def PySem.W.Fast.tw3248987947050878681 : Unit := ()
def PySem.W.Fast.tw5773257255852653917 : Unit := ()
def PySem.W.Fast.tw15559961519070769854 : Unit := ()
def PySem.W.Fast.tw5432146311411202782 : Unit := ()
set_option Elab.async false
set_option linter.all false
set_option maxRecDepth 100000
/-! THE HAND LAYER, for ints, bools, texts, own classes, LISTS and tuples (index, slices, in, append, pop ..), calls, loops. Paste it whole ahead of your own text; what your proof does not reach may be deleted. -/
namespace L2
open PySem PySem.Spec PyProof.Rows

/-- a key: an int or a str -/
abbrev Key := Sum Int Str
def keyIs : Key → Value → Bool
  | .inl k, v => Value.isInt k v
  | .inr x, v => Value.isStrOf x v
def keyH (w : World) : Key → Int
  | .inl k => hashInt k
  | .inr x => hashStr w x
theorem keyIs_shape : ∀ {k : Key} {v : Value}, keyIs k v = true → (∃ i t, k = Sum.inl i ∧ v = Value.int i t) ∨ (∃ x t, k = Sum.inr x ∧ v = Value.str x t)
  | .inl i, v, h => by
    obtain ⟨t, e⟩ := Value.isInt_shape (k := i) (v := v) h
    exact .inl ⟨i, t, rfl, e⟩
  | .inr x, v, h => by
    obtain ⟨t, e⟩ := Value.isStrOf_shape (x := x) (v := v) h
    exact .inr ⟨x, t, rfl, e⟩
theorem key_ll (a b : Int) : decide ((Sum.inl a : Key) = Sum.inl b) = (a == b) := by
  by_cases e : a = b
  · subst e; simp
  · have h : ¬ (Sum.inl a : Key) = Sum.inl b := fun q => e (Sum.inl.inj q)
    rw [decide_eq_false h]
    exact (beq_eq_false_iff_ne.mpr e).symm
theorem key_rr (a b : Str) : decide ((Sum.inr a : Key) = Sum.inr b) = decide (a = b) := by
  by_cases e : a = b
  · subst e; simp
  · have h : ¬ (Sum.inr a : Key) = Sum.inr b := fun q => e (Sum.inr.inj q)
    rw [decide_eq_false h, decide_eq_false e]
theorem key_lr (a : Int) (b : Str) : decide ((Sum.inl a : Key) = Sum.inr b) = false := decide_eq_false (fun q => nomatch q)
theorem key_rl (a : Str) (b : Int) : decide ((Sum.inr a : Key) = Sum.inl b) = false := decide_eq_false (fun q => nomatch q)

def mixKind (prog : Program) (w : World) : PySem.KeyKind prog w Key where
  is := keyIs
  hash := keyH w
  inj := fun v a b ha hb => by
    rcases keyIs_shape ha with ⟨i, t, rfl, rfl⟩ | ⟨x, t, rfl, rfl⟩
    · rcases keyIs_shape hb with ⟨j, u, rfl, e⟩ | ⟨y, u, rfl, e⟩
      · injection e with e1 _; rw [e1]
      · exact nomatch e
    · rcases keyIs_shape hb with ⟨j, u, rfl, e⟩ | ⟨y, u, rfl, e⟩
      · exact nomatch e
      · injection e with e1 _; rw [e1]
  byValue := fun k v h => by
    rcases keyIs_shape h with ⟨i, t, rfl, rfl⟩ | ⟨x, t, rfl, rfl⟩ <;> rfl
  pyHash := fun hv h => by
    rcases keyIs_shape hv with ⟨i, t, rfl, rfl⟩ | ⟨x, t, rfl, rfl⟩
    · exact wpAny_pyHash_int h
    · exact wpAny_pyHash_str h
  eqBool := fun hu hv h => by
    rcases keyIs_shape hu with ⟨i, t, rfl, rfl⟩ | ⟨x, t, rfl, rfl⟩
    · rcases keyIs_shape hv with ⟨j, u, rfl, rfl⟩ | ⟨y, u, rfl, rfl⟩
      · rw [key_ll] at h; exact wpAny_eqBool_int h
      · rw [key_lr] at h; exact SeqAt.EqAt.int_str i t y u _ _ _ _ h
    · rcases keyIs_shape hv with ⟨j, u, rfl, rfl⟩ | ⟨y, u, rfl, rfl⟩
      · rw [key_rl] at h; exact SeqAt.EqAt.str_int x t j u _ _ _ _ h
      · rw [key_rr] at h; exact wpAny_eqBool_str h
  «strs» := fun k x t v h => by
    rcases keyIs_shape h with ⟨i, u, rfl, e⟩ | ⟨y, u, rfl, e⟩
    · exact nomatch e
    · injection e with e1 _
      subst e1
      cases v <;> rfl

end L2

namespace L2
open PySem PySem.Spec PyProof.Rows

/-- a value, without the heap -/
inductive V where
  | non | bl (b : Bool) | int (i : Int) | str (x : Str) | byt (b : Array UInt8) | flt (b : UInt64) | ref (a : Addr) | ty (n : String)
  deriving DecidableEq

def RelV : V → Value → Prop
  | .non, u => u = Value.none
  | .bl b, u => u = Value.bool b
  | .int i, u => ∃ t, u = Value.int i t
  | .str x, u => ∃ t, u = Value.str x t
  | .byt b, u => ∃ t, u = Value.bytes b t
  | .flt b, u => ∃ t, u = Value.float b t
  | .ref a, u => u = Value.ref a
  | .ty n, u => u = Value.type n

abbrev Vals : List V → List Value → Prop := Paired RelV
theorem Vals.length {xs : List V} {us : List Value} (r : Vals xs us) : xs.length = us.length := Paired.length r
theorem Vals.get : ∀ {xs : List V} {us : List Value} {i : Nat} {x : V}, Vals xs us → xs[i]? = some x → ∃ u, us[i]? = some u ∧ RelV x u
  | _, _, _, _, .nil, e => by simp at e
  | _, _, 0, _, .cons r _, e => by simp at e; subst e; exact ⟨_, rfl, r⟩
  | _, _, i + 1, x, .cons _ t, e => by
    obtain ⟨u, h1, h2⟩ := Vals.get (i := i) (x := x) t (by simpa using e)
    exact ⟨u, by simpa using h1, h2⟩
theorem Vals.set {x : V} {u : Value} (r : RelV x u) : ∀ {xs : List V} {us : List Value} (i : Nat), Vals xs us → Vals (xs.set i x) (us.set i u)
  | _, _, _, .nil => .nil
  | _, _, 0, .cons _ t => .cons r t
  | _, _, i + 1, .cons q t => .cons q (Vals.set r i t)
theorem Vals.append : ∀ {xs ys : List V} {us ws : List Value}, Vals xs us → Vals ys ws → Vals (xs ++ ys) (us ++ ws)
  | _, _, _, _, .nil, s => s
  | _, _, _, _, .cons r t, s => .cons r (Vals.append t s)
theorem Vals.take : ∀ {xs : List V} {us : List Value} (n : Nat), Vals xs us → Vals (xs.take n) (us.take n)
  | _, _, 0, _ => .nil
  | _, _, _ + 1, .nil => .nil
  | _, _, n + 1, .cons r t => .cons r (Vals.take n t)
theorem Vals.drop : ∀ {xs : List V} {us : List Value} (n : Nat), Vals xs us → Vals (xs.drop n) (us.drop n)
  | _, _, 0, r => r
  | _, _, _ + 1, .nil => .nil
  | _, _, n + 1, .cons _ t => Vals.drop n t

def RelO : Option V → Option Value → Prop
  | some v, some u => RelV v u
  | none, none => True
  | _, _ => False
def KV {κ : Type} : List (κ × V) → List (κ × Value) → Prop := Paired fun (p : κ × V) (q : κ × Value) => p.1 = q.1 ∧ RelV p.2 q.2

/-- a key of a dict (00_mix): an int or a text -/
def kV : Key → V
  | .inl i => .int i
  | .inr x => .str x

/-- what stands at a tracked address -/
inductive HO where
  /-- a list -/
  | lst (xs : List V)
  /-- a tuple (never changes) -/
  | tup (xs : List V)
  /-- a dict whose keys are ints and texts; one whose keys are tuples of ints and texts (the empty one is both) -/
  | dK (kvs : List (Key × V)) | dT (kvs : List (List Key × V))
  /-- a set of ints: its members, its size -/
  | set (S : Int → Bool) (n : Nat)
  /-- an instance of the class at C, its dict at dx, its attributes -/
  | ins (C dx : Addr) (fs : List (Str × V))
  /-- the dict of the instance at x -/
  | own (x : Addr)
  /-- the dict of an exception -/
  | xd (fs : List (Str × V))
  /-- a bound method, f of x -/
  | met (f x : Addr)
  /-- a range object lo, lo + 1, .. below hi -/
  | rng (lo hi : Int)
  /-- a thing that is known to the object (the script; a dict while a loop walks it): read, never written while it is so -/
  | frz (o : Obj) (u : HO)
  /-- a code object's table -/
  | tbl (ps : Array Value)
  /-- any other thing, by what is true of its one object (a def of one's own: SetO a S n := HO.ext fun h => ..) -/
  | ext (φ : Heap → Prop)

abbrev Hp := Addr → Option HO
def upd (H : Hp) (a : Addr) (o : HO) : Hp := fun b => if b = a then some o else H b
theorem upd_same {H : Hp} {a : Addr} {o : HO} : upd H a o a = some o := by unfold upd; rw [if_pos rfl]
theorem upd_ne {H : Hp} {a b : Addr} {o : HO} (h : b ≠ a) : upd H a o b = H b := by unfold upd; rw [if_neg h]
theorem upd_upd {H : Hp} {a : Addr} {o u : HO} : upd (upd H a o) a u = upd H a u := by
  funext b; unfold upd; split <;> rfl
theorem ne_of_none {H : Hp} {a b : Addr} {o : HO} (h : H a = some o) (h' : H b = none) : a ≠ b := by
  intro e; subst e; rw [h] at h'; cases h'

section
variable (P : Program) (w : World)
def ObjOk (H : Hp) (h : Heap) (a : Addr) : HO → Prop
  | .lst xs => xs.length ≤ sizeLine ∧ ∃ (its : List Value) (n : Nat), Vals xs its ∧ h.get? a = some { cls := .type "list", data := .seq its.toArray n }
  | .tup xs => xs.length ≤ sizeLine ∧ ∃ its : List Value, Vals xs its ∧ IsTup h a its.toArray
  | .dK kvs => kvs.length ≤ sizeLine ∧ (a == sysModules) = false ∧ ∃ vs, KV kvs vs ∧ h.DictOf (mixKind P w) a vs
  | .dT kvs => kvs.length ≤ sizeLine ∧ (a == sysModules) = false ∧ ∃ xs : List (List Key × Addr × Value),
      Paired (fun (p : List Key × V) (q : List Key × Addr × Value) => p.1 = q.1 ∧ H q.2.1 = some (.tup (p.1.map kV)) ∧ RelV p.2 q.2.2) kvs xs ∧
      ∃ o es ep, h.get? a = some o ∧ o.ExactDict ∧ o.data = .dict es ep ∧ es.toList = xs.map (entryOfKey (tupleKind (mixKind P w))) ∧ (xs.map (·.1)).Nodup
  | .set S n => h.SetOf (intKind P w) a S n
  | .ins C dx fs => H dx = some (.own a) ∧ fs.length ≤ 1000 ∧ dx ≠ a ∧ h.get? a = some (PySem.W.instObj C dx) ∧
      ∃ mA, h.Ns1 dx mA ∧ (∀ f, RelO (fs.lookup f) (mA f)) ∧ PySem.Within mA (fs.map (·.1))
  | .own _ => ∃ o, h.get? a = some o
  | .xd fs => ∃ mA, h.Ns1 a mA ∧ ∀ f, RelO (fs.lookup f) (mA f)
  | .rng lo hi => ∃ t u v, h.get? a = some { cls := .type "range", data := .fields #[.int lo t, .int hi u, .int 1 v] }
  | .frz o u => h.get? a = some o ∧ ObjOk H h a u
  | .tbl ps => h.get? a = some { cls := .none, data := .fields ps }
  | .met f x => h.get? a = some (PySem.W.methodObj (.ref f) (.ref x))
  | .ext φ => φ h ∧ (∃ o, h.get? a = some o) ∧ ∀ h1 h2 : Heap, φ h1 → (∀ o, h1.get? a = some o → h2.get? a = some o) → φ h2
/-- the abstract heap is held -/
def HOk (H : Hp) (h : Heap) : Prop := ∀ a o, H a = some o → ObjOk P w H h a o
end

section
variable {P : Program} {w : World} {H H' : Hp} {h h' : Heap} {a : Addr} {o : HO}
theorem ObjOk.lt (x : ObjOk P w H h a o) : a < h.objs.size := by
  cases o with
  | lst xs => obtain ⟨_, _, _, _, e⟩ := x; exact Heap.lt_size e
  | tup xs => obtain ⟨_, _, _, p⟩ := x; exact p.lt
  | dK kvs => obtain ⟨_, _, _, _, o, _, _, e, _⟩ := x; exact Heap.lt_size e
  | dT kvs => obtain ⟨_, _, _, _, o, _, _, e, _⟩ := x; exact Heap.lt_size e
  | set S n => obtain ⟨o, _, _, _, e, _⟩ := x; exact Heap.lt_size e
  | ins C dx fs => obtain ⟨_, _, _, e, _⟩ := x; exact Heap.lt_size e
  | own y => obtain ⟨_, e⟩ := x; exact Heap.lt_size e
  | xd fs => obtain ⟨_, ⟨_, _, _, e, _⟩, _⟩ := x; exact Heap.lt_size e
  | rng lo hi => obtain ⟨_, _, _, e⟩ := x; exact Heap.lt_size e
  | frz ob u => obtain ⟨e, _⟩ := x; exact Heap.lt_size e
  | tbl ps => exact Heap.lt_size (show h.get? a = some _ from x)
  | met f y => exact Heap.lt_size (show h.get? a = some _ from x)
  | ext φ => obtain ⟨_, ⟨_, e⟩, _⟩ := x; exact Heap.lt_size e
theorem Paired.mapP {α β : Type} {F G : α → β → Prop} : ∀ {l₁ : List α} {l₂ : List β}, Paired F l₁ l₂ → (∀ a b, F a b → G a b) → Paired G l₁ l₂
  | _, _, .nil, _ => .nil
  | _, _, .cons r t, f => .cons (f _ _ r) (Paired.mapP t f)
/-- what an object's description leans on: its own object, its own dict, the tuples -/
theorem ObjOk.stay (x : ObjOk P w H h a o) (k : ∀ b u, (b = a ∨ H b = some (.own a)) → h.get? b = some u → h'.get? b = some u)
    (ho : ∀ b, H b = some (.own a) → H' b = some (.own a)) (ht : ∀ b xs, H b = some (.tup xs) → H' b = some (.tup xs)) : ObjOk P w H' h' a o := by
  induction o with
  | lst xs => obtain ⟨z, its, n, r, e⟩ := x; exact ⟨z, its, n, r, k _ _ (.inl rfl) e⟩
  | tup xs => obtain ⟨z, its, r, ob, e, c⟩ := x; exact ⟨z, its, r, ob, k _ _ (.inl rfl) e, c⟩
  | dK kvs => obtain ⟨z, y, vs, r, ob, es, ep, e, c⟩ := x; exact ⟨z, y, vs, r, ob, es, ep, k _ _ (.inl rfl) e, c⟩
  | dT kvs =>
    obtain ⟨z, y, xs, r, ob, es, ep, e, c⟩ := x
    exact ⟨z, y, xs, Paired.mapP r fun p q z => ⟨z.1, ht _ _ z.2.1, z.2.2⟩, ob, es, ep, k _ _ (.inl rfl) e, c⟩
  | set S n => obtain ⟨ob, es, ep, t, e, c⟩ := x; exact ⟨ob, es, ep, t, k _ _ (.inl rfl) e, c⟩
  | ins C dx fs =>
    obtain ⟨d, z, ne, e, mA, ⟨od, es, ep, e2, c⟩, r⟩ := x
    exact ⟨ho _ d, z, ne, k _ _ (.inl rfl) e, mA, ⟨od, es, ep, k _ _ (.inr d) e2, c⟩, r⟩
  | own y => obtain ⟨ob, e⟩ := x; exact ⟨ob, k _ _ (.inl rfl) e⟩
  | xd fs => obtain ⟨mA, ⟨od, es, ep, e, c⟩, r⟩ := x; exact ⟨mA, ⟨od, es, ep, k _ _ (.inl rfl) e, c⟩, r⟩
  | rng lo hi => obtain ⟨t, u, v, e⟩ := x; exact ⟨t, u, v, k _ _ (.inl rfl) e⟩
  | frz ob u ih => obtain ⟨e, q⟩ := x; exact ⟨k _ _ (.inl rfl) e, ih q⟩
  | tbl ps =>
    have e : h.get? a = some { cls := .none, data := .fields ps } := x
    show h'.get? a = some { cls := .none, data := .fields ps }
    exact k a _ (.inl rfl) e
  | met f y =>
    have e : h.get? a = some (PySem.W.methodObj (.ref f) (.ref y)) := x
    show h'.get? a = some (PySem.W.methodObj (.ref f) (.ref y))
    exact k a _ (.inl rfl) e
  | ext φ => obtain ⟨p, ⟨o, e⟩, st⟩ := x; exact ⟨st _ _ p fun o q => k _ _ (.inl rfl) q, ⟨o, k _ _ (.inl rfl) e⟩, st⟩
theorem HOk.lt (x : HOk P w H h) (e : H a = some o) : a < h.objs.size := (x a o e).lt
theorem HOk.fresh (x : HOk P w H h) (e : h.objs.size ≤ a) : H a = none := by
  cases q : H a with
  | none => rfl
  | some u => exact absurd (Nat.lt_of_lt_of_le (x.lt q) e) (Nat.lt_irrefl _)
/-- every object of the heap is kept -/
theorem HOk.kept (x : HOk P w H h) (k : ∀ b u, h.get? b = some u → h'.get? b = some u) : HOk P w H h' := fun a o e =>
  (x a o e).stay (fun b u _ q => k b u q) (fun _ q => q) fun _ _ q => q
/-- a new object is laid and tracked -/
theorem HOk.laid (x : HOk P w H h) (k : ∀ b u, h.get? b = some u → h'.get? b = some u) (hp : h.objs.size ≤ a) (new : ObjOk P w (upd H a o) h' a o) : HOk P w (upd H a o) h' := fun b u e => by
  have hn := x.fresh hp
  by_cases hb : b = a
  · subst hb; rw [upd_same] at e; cases e; exact new
  · rw [upd_ne hb] at e
    exact (x b u e).stay (fun c v _ q => k c v q) (fun c q => by rw [upd_ne (ne_of_none q hn)]; exact q) fun c xs q => by rw [upd_ne (ne_of_none q hn)]; exact q
end

/-- what may be read as u: it is u, or a known u -/
def Rd (H : Hp) (a : Addr) (u : HO) : Prop := H a = some u ∨ ∃ o, H a = some (.frz o u)
theorem Rd.ok {P : Program} {w : World} {H : Hp} {h : Heap} {a : Addr} {u : HO} (r : Rd H a u) (x : HOk P w H h) : ObjOk P w H h a u := by
  rcases r with r | ⟨o, r⟩
  · exact x a u r
  · obtain ⟨_, q⟩ := x a _ r
    exact q
/-- what may be written -/
def Mut : Option HO → Prop
  | some (.lst _) => True
  | some (.dK _) => True
  | some (.dT _) => True
  | some (.set _ _) => True
  | some (.ins _ _ _) => True
  | some (.ext _) => True
  | _ => False
section
variable {P : Program} {w : World} {H : Hp} {h h' : Heap} {x e : Addr} {o' : HO}
/-- the object at e is changed: x itself, or the dict of the instance x -/
theorem HOk.write (ok : HOk P w H h) (mu : Mut (H x)) (he : e = x ∨ H e = some (.own x)) (k : ∀ b u, b ≠ e → h.get? b = some u → h'.get? b = some u) (heo : ∃ u, h'.get? e = some u)
    (new : ObjOk P w (upd H x o') h' x o') : HOk P w (upd H x o') h' := fun b u q => by
  have nown : ∀ c y, H c = some (.own y) → c ≠ x := fun c y r z => by subst z; rw [r] at mu; exact mu
  have ntup : ∀ c xs, H c = some (.tup xs) → c ≠ x := fun c xs r z => by subst z; rw [r] at mu; exact mu
  by_cases hb : b = x
  · subst hb; rw [upd_same] at q; cases q; exact new
  · rw [upd_ne hb] at q
    by_cases hbe : b = e
    · have q' : H b = some (.own x) := by
        rcases he with z | z
        · exact absurd (hbe.trans z) hb
        · rw [hbe]; exact z
      rw [q] at q'; cases q'
      obtain ⟨v, hv⟩ := heo
      exact ⟨v, by rw [hbe]; exact hv⟩
    · refine (ok b u q).stay (fun c v hc r => k c v ?_ r) (fun c r => by rw [upd_ne (nown c b r)]; exact r) fun c xs r => by rw [upd_ne (ntup c xs r)]; exact r
      rcases hc with rfl | hc
      · exact hbe
      · rintro rfl
        rcases he with z | z
        · exact nown c b hc z
        · rw [hc] at z; cases z; exact hb rfl
end

/-! ### kept unless tracked; of the frames at fs (the callers') the slots may change (an exception that passes writes there); of the records at ex (iterators) nothing is said -/
structure Un (fs ex : List Addr) (H H' : Hp) (h h' : Heap) : Prop where
  keep : ∀ b o, h.get? b = some o → H b = none → b ∉ fs → b ∉ ex → h'.get? b = some o
  slot : ∀ b o, h.get? b = some o → H b = none → b ∈ fs → b ∉ ex → ∃ sl, h'.get? b = some { o with slots := sl }
  free : ∀ b o, h.get? b = some o → H b = none → b ∉ ex → H' b = none
  there : ∀ b o, h.get? b = some o → b ∉ ex → ∃ o', h'.get? b = some o'
  tups : ∀ b xs, H b = some (.tup xs) → H' b = some (.tup xs)
  frzs : ∀ b o u, H b = some (.frz o u) → H' b = some (.frz o u)
  tbls : ∀ b ps, H b = some (.tbl ps) → ∃ more, H' b = some (.tbl (ps ++ more))
section
variable {fs fs' ex ex' : List Addr} {H H1 H2 : Hp} {h h1 h2 h' : Heap} {a x e : Addr} {o : HO}
theorem Un.any (u : Un fs ex H H1 h h1) {b : Addr} {ob : Obj} (q : h.get? b = some ob) (n : H b = none) (hx : b ∉ ex) : ∃ sl, h1.get? b = some { ob with slots := sl } := by
  by_cases hb : b ∈ fs
  · exact u.slot b ob q n hb hx
  · exact ⟨ob.slots, u.keep b ob q n hb hx⟩
theorem Un.kept (k : ∀ b u, h.get? b = some u → h'.get? b = some u) : Un fs ex H H h h' :=
  ⟨fun b ob q _ _ _ => k b ob q, fun b ob q _ _ _ => ⟨ob.slots, k b ob q⟩, fun _ _ _ n _ => n, fun b ob q _ => ⟨ob, k b ob q⟩, fun _ _ q => q, fun _ _ _ q => q, fun _ ps q => ⟨#[], by rw [q]; simp⟩⟩
theorem Un.refl : Un fs ex H H h h := Un.kept fun _ _ q => q
theorem Un.laid (k : ∀ b u, h.get? b = some u → h'.get? b = some u) (hp : h.objs.size ≤ a) (hn : H a = none) : Un fs ex H (upd H a o) h h' where
  keep := fun b u q _ _ _ => k b u q
  slot := fun b u q _ _ _ => ⟨u.slots, k b u q⟩
  free := fun b u q n _ => by rw [upd_ne (Nat.ne_of_lt (Nat.lt_of_lt_of_le (Heap.lt_size q) hp))]; exact n
  there := fun b u q _ => ⟨u, k b u q⟩
  tups := fun b xs q => by rw [upd_ne (ne_of_none q hn)]; exact q
  frzs := fun b u xs q => by rw [upd_ne (ne_of_none q hn)]; exact q
  tbls := fun b ps q => ⟨#[], by rw [upd_ne (ne_of_none q hn), q]; simp⟩
theorem Un.write (mu : Mut (H x)) (he : e = x ∨ H e = some (.own x)) (k : ∀ b u, b ≠ e → h.get? b = some u → h'.get? b = some u) (heo : ∃ u, h'.get? e = some u) : Un fs ex H (upd H x o) h h' := by
  have hx : ∀ b, H b = none → b ≠ x := fun b n z => by subst z; rw [n] at mu; exact mu
  have hb : ∀ b, H b = none → b ≠ e := fun b n z => by
    subst z
    rcases he with r | r
    · exact hx b n r
    · rw [n] at r; cases r
  have hm : ∀ b u, H b = some u → ¬ Mut (some u) → b ≠ x := fun b u q nm z => by subst z; rw [q] at mu; exact nm mu
  refine ⟨fun b u q n _ _ => k b u (hb b n) q, fun b u q n _ _ => ⟨u.slots, k b u (hb b n) q⟩, fun b u q n _ => by rw [upd_ne (hx b n)]; exact n, fun b u q _ => ?_,
    fun b xs q => by rw [upd_ne (hm b _ q fun z => z)]; exact q, fun b u xs q => by rw [upd_ne (hm b _ q fun z => z)]; exact q, fun b ps q => ⟨#[], by rw [upd_ne (hm b _ q fun z => z), q]; simp⟩⟩
  by_cases hbe : b = e
  · subst hbe; exact heo
  · exact ⟨u, k b u hbe q⟩
end

/-! ### the heap without what is tracked -/
def trk (h : Heap) (H : Hp) : List Addr := (List.range h.objs.size).filter fun a => (H a).isSome
def hidT (h : Heap) (H : Hp) : Heap := PySem.W.hideAll h (trk h H)
theorem hidT_size (h : Heap) (H : Hp) : (hidT h H).objs.size = h.objs.size := PySem.W.hideAll_size _ _
theorem hidT_get {h : Heap} {H : Hp} {b : Addr} {o : Obj} (e : h.get? b = some o) (n : H b = none) : (hidT h H).get? b = some o :=
  PySem.W.hideAll_get _ e fun hm => by
    have q : (H b).isSome = true := (List.mem_filter.mp hm).2
    rw [n] at q; simp at q
theorem of_hidT {h : Heap} {H : Hp} {b : Addr} {o : Obj} (e : (hidT h H).get? b = some o) : h.get? b = some o ∧ H b = none := by
  have e' : h.get? b = some o := PySem.W.of_hideAll (trk h H) e
  refine ⟨e', ?_⟩
  cases q : H b with
  | none => rfl
  | some x =>
    have hm : b ∈ trk h H := List.mem_filter.mpr ⟨List.mem_range.mpr (Heap.lt_size e'), by simp [q]⟩
    have z : (hidT h H).get? b = none := PySem.W.hideAll_none (trk h H) hm
    rw [z] at e; cases e

/-! ### OpenK's ledger, filled with every new object but one -/
end L2

namespace L2
open PySem PySem.Spec PyProof.Rows

/-- the module's facts, over the base: the heap at the law's entry without what is tracked there -/
structure Mod (K : PySem.W.Frag) (mg : Str → Option Value) (base : Heap) : Prop where
  kin : K.In base
  glob : base.Ns mainGlobals mg
  blt : ∃ mb, base.Ns builtinsNs mb ∧ ∀ x : Str, x ≠ "__name__" → mb x = bootBuiltins x
  nolimit : base.NoLimit

/-- the context: a def's body (or a comprehension's block) running. base: fixed through the whole law; s₀, H₀: the entry; outer: the frames whose slots others may change (a def's callers); stack: all frames that run;
   ex: iterators that were made ahead of the entry and are walked here (a comprehension's); fn: the names whose cells were made at the entry (a def: all; a comprehension's block: its own); calm: not within an except suite; pn: pins that every state bears; xe: what is wanted of an exception that leaves the code -/
structure Cx where
  prog : Program
  w : World
  K : PySem.W.Frag
  mg : Str → Option Value
  base : Heap
  A : Around
  N : List Str
  s₀ : Shared
  H₀ : Hp
  env : Env
  outer : List Env
  stack : List Env
  ex : List Addr
  fn : Str → Bool
  calm : Bool
  pn : List (Addr × Obj)
  xe : Value → Shared → Prop
/-- the callers' frames -/
def frs (l : List Env) : List Addr := l.filterMap (·.frame)
abbrev Cx.fs (X : Cx) : List Addr := frs X.outer

def Vis (sc : Scope) (x : Str) : Prop := sc.names.lookup x = some .local ∨ sc.names.lookup x = some .cell ∨ sc.names.lookup x = some .free
def Loc (sc : Scope) (x : Str) : Prop := sc.names.lookup x = some .local ∨ sc.names.lookup x = some .cell
def Look (env : Env) (h : Heap) (m : Str → Option Value) (x : Str) (u : Value) : Prop :=
  (env.kindOf x = some .local ∧ m x = some u) ∨ ((env.kindOf x = some .cell ∨ env.kindOf x = some .free) ∧ ∃ c, env.cells.lookup x = some c ∧ h.IsCell c (some u))

structure Cx.Ok (X : Cx) : Prop where
  mod : Mod X.K X.mg X.base
  kind : X.env.scope.kind = .function
  glob : X.env.globals = mainGlobals
  blt : X.env.builtins = builtinsNs
  above : X.s₀.heap.objs.size ≤ X.env.locals
  inj : ∀ x y c, X.env.cells.lookup x = some c → X.env.cells.lookup y = some c → x = y
  has : ∀ x, (X.env.kindOf x = some .cell ∨ X.env.kindOf x = some .free) → ∃ c, X.env.cells.lookup x = some c
  cab : ∀ x c, X.fn x = true → X.env.cells.lookup x = some c → X.s₀.heap.objs.size ≤ c
  hd : X.calm = true → X.A.handled = none
  frames : X.A.frames = some X.stack
  stk : X.stack = X.outer ∨ (X.stack = X.env :: X.outer ∧ X.env.frame = some X.env.locals)
  exf : ∀ b ∈ X.ex, b ≠ X.env.locals ∧ ∀ x c, X.env.cells.lookup x = some c → c ≠ b
  bs : ∀ b o, X.base.get? b = some o → X.s₀.heap.get? b = some o ∧ X.H₀ b = none
  bsz : X.base.objs.size ≤ X.s₀.heap.objs.size
  noex : ∀ b o, X.base.get? b = some o → b ∉ X.ex
  exfs : ∀ b ∈ X.ex, b ∉ X.fs
  funs : X.s₀.heap.FunFrames X.base X.outer
  frf : ∀ b ∈ X.fs, X.H₀ b = none

structure Inv (X : Cx) (pins : List (Addr × Obj)) (σ : List (Option V)) (H : Hp) (s : Shared) : Prop where
  ok : X.Ok
  os : s.os = X.s₀.os
  bare : AllBare s.gens
  base : Un X.fs X.ex X.H₀ H X.s₀.heap s.heap
  loc : ∃ m, s.heap.Ns X.env.locals m ∧ ∀ (i : Nat) (x : Str) (v : V), X.N[i]? = some x → σ[i]? = some (some v) → Vis X.env.scope x → ∃ u, RelV v u ∧ Look X.env s.heap m x u
  cell : ∀ x c, X.env.cells.lookup x = some c → ∃ v, s.heap.IsCell c v
  free : H X.env.locals = none
  freeC : ∀ x c, X.env.cells.lookup x = some c → H c = none
  pin : ∀ p ∈ X.pn ++ pins, s.heap.get? p.1 = some p.2 ∧ H p.1 = none ∧ p.1 ≠ X.env.locals ∧ p.1 ∉ X.fs ∧ ∀ v, p.2.data ≠ .cell v
  hok : HOk X.prog X.w H s.heap
  len : σ.length = X.N.length

section
variable {X : Cx} {pins : List (Addr × Obj)} {σ : List (Option V)} {H H' : Hp} {s : Shared} {h' : Heap}

theorem Cx.Ok.nofr (ok : X.Ok) {b : Addr} {o : Obj} (e : X.base.get? b = some o) : b ∉ X.fs := fun hb => by
  have := (ok.funs.mem hb).1
  rw [e] at this; cases this
theorem Inv.bs (I : Inv X pins σ H s) : ∀ b o, X.base.get? b = some o → s.heap.get? b = some o ∧ H b = none := fun b o e =>
  ⟨I.base.keep b o (I.ok.bs b o e).1 (I.ok.bs b o e).2 (I.ok.nofr e) (I.ok.noex b o e), I.base.free b o (I.ok.bs b o e).1 (I.ok.bs b o e).2 (I.ok.noex b o e)⟩
theorem Inv.bk (I : Inv X pins σ H s) : ∀ b o, X.base.get? b = some o → s.heap.get? b = some o := fun b o e => (I.bs b o e).1
theorem Inv.mod (I : Inv X pins σ H s) : Mod X.K X.mg X.base := I.ok.mod
theorem Inv.kIn (I : Inv X pins σ H s) : X.K.In s.heap := I.ok.mod.kin.keeps I.bk
theorem Inv.lt (I : Inv X pins σ H s) : X.env.locals < s.heap.objs.size := let ⟨_, hn, _⟩ := I.loc; hn.lt
theorem Inv.sz (I : Inv X pins σ H s) : X.s₀.heap.objs.size ≤ s.heap.objs.size := Nat.le_trans I.ok.above (Nat.le_of_lt I.lt)
theorem Inv.nofs (I : Inv X pins σ H s) {a : Addr} (h : s.heap.objs.size ≤ a) : a ∉ X.fs := fun hb => by
  obtain ⟨_, o, ho, _⟩ := I.ok.funs.mem hb
  exact absurd (Nat.lt_of_lt_of_le (Heap.lt_size ho) (Nat.le_trans I.sz h)) (Nat.lt_irrefl _)
theorem Inv.cne (I : Inv X pins σ H s) : ∀ x c, X.env.cells.lookup x = some c → c ≠ X.env.locals := fun x c e z => by
  obtain ⟨v, o, ho, hd⟩ := I.cell x c e
  obtain ⟨m, ⟨o', es, ep, ho', hd', _⟩, _⟩ := I.loc
  rw [z, ho'] at ho; cases ho; rw [hd'] at hd; cases hd
theorem Inv.funs (I : Inv X pins σ H s) : s.heap.FunFrames X.base X.outer := by
  have all : ∀ (l : List Env), (∀ b ∈ frs l, b ∈ X.fs) → X.s₀.heap.FunFrames X.base l → s.heap.FunFrames X.base l := by
    intro l
    induction l with
    | nil => intro _ _; trivial
    | cons env r ih =>
      intro hs hl
      obtain ⟨hk, ⟨L, o, hf, hn, ho, hd⟩, hr⟩ := hl
      have hL : L ∈ X.fs := hs L (by unfold frs; rw [List.filterMap_cons, hf]; exact List.mem_cons_self)
      obtain ⟨sl, e⟩ := I.base.slot L o ho (I.ok.frf L hL) hL fun z => I.ok.exfs L z hL
      exact ⟨hk, ⟨L, _, hf, hn, e, hd⟩, ih (fun b hb => hs b (by unfold frs; rw [List.filterMap_cons, hf]; exact List.mem_cons_of_mem _ hb)) hr⟩
  exact all X.outer (fun _ hb => hb) I.ok.funs

/-- the frames that run, for a call -/
theorem Inv.stack (I : Inv X pins σ H s) : s.heap.FunFrames X.base X.stack := by
  rcases I.ok.stk with e | ⟨e, hf⟩
  · rw [e]; exact I.funs
  · rw [e]
    obtain ⟨m, hn, _⟩ := I.loc
    refine .cons (by rw [I.ok.kind]; decide) hf hn ?_ I.funs
    exact Heap.get?_none_of_le (Nat.le_trans I.ok.bsz I.ok.above)
theorem Inv.stkSub (I : Inv X pins σ H s) : ∀ b ∈ frs X.stack, b ∈ X.env.locals :: X.fs := fun b hb => by
  rcases I.ok.stk with e | ⟨e, hf⟩
  · rw [e] at hb; exact List.mem_cons_of_mem _ hb
  · rw [e] at hb
    unfold frs at hb
    rw [List.filterMap_cons, hf] at hb
    exact hb
theorem Inv.stkFree (I : Inv X pins σ H s) : ∀ b ∈ frs X.stack, H b = none := fun b hb => by
  rcases List.mem_cons.mp (I.stkSub b hb) with e | hb
  · rw [e]; exact I.free
  · obtain ⟨_, o, ho, _⟩ := I.ok.funs.mem hb
    exact I.base.free b o ho (I.ok.frf b hb) fun z => I.ok.exfs b z hb

/-- THE STEP: the untracked objects but the frame and the records at ch are kept (the callers' frames up to slots), the frame's map is kept, the new abstract heap is held -/
theorem Inv.step {g' : Array GenState} {t' : Nat} {d' : Drawn} {ch : List Addr} (I : Inv X pins σ H s)
    (hch : ∀ b ∈ ch, (b ∈ X.ex ∨ X.s₀.heap.objs.size ≤ b) ∧ b ≠ X.env.locals ∧ (∀ x c, X.env.cells.lookup x = some c → c ≠ b) ∧ ∀ p ∈ X.pn ++ pins, p.1 ≠ b)
    (keep : ∀ b o, b ≠ X.env.locals → b ∉ X.fs → b ∉ ch → s.heap.get? b = some o → H b = none → h'.get? b = some o)
    (slot : ∀ b o, b ≠ X.env.locals → b ∈ X.fs → b ∉ ch → s.heap.get? b = some o → H b = none → ∃ sl, h'.get? b = some { o with slots := sl }) (free : ∀ b o, b ∉ ch → s.heap.get? b = some o → H b = none → H' b = none)
    (there : ∀ b o, b ∉ ch → s.heap.get? b = some o → ∃ o', h'.get? b = some o')
    (tups : ∀ b xs, H b = some (.tup xs) → H' b = some (.tup xs)) (frzs : ∀ b o u, H b = some (.frz o u) → H' b = some (.frz o u)) (tbls : ∀ b ps, H b = some (.tbl ps) → ∃ more, H' b = some (.tbl (ps ++ more)))
    (ns : ∀ m, s.heap.Ns X.env.locals m → h'.Ns X.env.locals m) (hok : HOk X.prog X.w H' h') (hg : AllBare g') :
    Inv X pins σ H' { s with heap := h', gens := g', drawn := d', toks := t' } := by
  have neL : ∀ b o, X.s₀.heap.get? b = some o → b ≠ X.env.locals := fun b o e => Nat.ne_of_lt (Nat.lt_of_lt_of_le (Heap.lt_size e) I.ok.above)
  have neC : ∀ b o, X.s₀.heap.get? b = some o → b ∉ X.ex → b ∉ ch := fun b o e hx hb => by
    rcases (hch b hb).1 with z | z
    · exact hx z
    · exact absurd (Nat.lt_of_lt_of_le (Heap.lt_size e) z) (Nat.lt_irrefl _)
  have cellK : ∀ x c, X.env.cells.lookup x = some c → ∀ v, s.heap.IsCell c v → h'.IsCell c v := fun x c e v ⟨o, ho, hd⟩ => by
    have nch : c ∉ ch := fun z => (hch c z).2.2.1 x c e rfl
    by_cases hc : c ∈ X.fs
    · obtain ⟨sl, q⟩ := slot c o (I.cne x c e) hc nch ho (I.freeC x c e)
      exact ⟨_, q, hd⟩
    · exact ⟨o, keep c o (I.cne x c e) hc nch ho (I.freeC x c e), hd⟩
  refine ⟨I.ok, I.os, hg, ⟨fun b o e n hb hx => ?_, fun b o e n hb hx => ?_, fun b o e n hx => ?_, fun b o e hx => ?_, fun b xs e => tups b xs (I.base.tups b xs e), fun b o xs e => frzs b o xs (I.base.frzs b o xs e), fun b ps e => ?_⟩, ?_, fun x c e => ?_, ?_, fun x c e => ?_, fun p hp => ?_, hok, I.len⟩
  · exact keep b o (neL b o e) hb (neC b o e hx) (I.base.keep b o e n hb hx) (I.base.free b o e n hx)
  · obtain ⟨sl, e1⟩ := I.base.slot b o e n hb hx
    obtain ⟨sl', e2⟩ := slot b _ (neL b o e) hb (neC b o e hx) e1 (I.base.free b o e n hx)
    exact ⟨sl', e2⟩
  · obtain ⟨o', e1⟩ := I.base.there b o e hx
    exact free b o' (neC b o e hx) e1 (I.base.free b o e n hx)
  · obtain ⟨o', e1⟩ := I.base.there b o e hx
    exact there b o' (neC b o e hx) e1
  · obtain ⟨m1, e1⟩ := I.base.tbls b ps e
    obtain ⟨m2, e2⟩ := tbls b _ e1
    exact ⟨m1 ++ m2, by rw [e2, Array.append_assoc]⟩
  · obtain ⟨m, hn, hl⟩ := I.loc
    refine ⟨m, ns m hn, fun i x v e1 e2 e3 => ?_⟩
    obtain ⟨u, r, l⟩ := hl i x v e1 e2 e3
    refine ⟨u, r, ?_⟩
    rcases l with l | ⟨k, c, e, z⟩
    · exact .inl l
    · exact .inr ⟨k, c, e, cellK x c e _ z⟩
  · obtain ⟨v, z⟩ := I.cell x c e
    exact ⟨v, cellK x c e v z⟩
  · obtain ⟨m, ⟨o, _, _, ho, _⟩, _⟩ := I.loc
    exact free _ o (fun z => (hch _ z).2.1 rfl) ho I.free
  · obtain ⟨v, o, ho, hd⟩ := I.cell x c e
    exact free c o (fun z => (hch c z).2.2.1 x c e rfl) ho (I.freeC x c e)
  · obtain ⟨e, n, ne, nf, d⟩ := I.pin p hp
    have nch : p.1 ∉ ch := fun z => (hch p.1 z).2.2.2 p hp rfl
    exact ⟨keep p.1 p.2 ne nf nch e n, free p.1 p.2 nch e n, ne, nf, d⟩
/-- .. where the frame's own object is kept too -/
theorem Inv.un {t' : Nat} (I : Inv X pins σ H s) (u : Un X.fs [] H H' s.heap h') (hok : HOk X.prog X.w H' h') : Inv X pins σ H' { s with heap := h', toks := t' } := by
  obtain ⟨m, ⟨o, es, ep, ho, r⟩, _⟩ := id I.loc
  obtain ⟨sl, hL⟩ := u.any ho I.free (by simp)
  exact I.step (g' := s.gens) (d' := s.drawn) (ch := []) (fun _ z => nomatch z) (fun b o _ hb _ e n => u.keep b o e n hb (by simp)) (fun b o _ hb _ e n => u.slot b o e n hb (by simp)) (fun b o _ e n => u.free b o e n (by simp)) (fun b o _ e => u.there b o e (by simp)) u.tups u.frzs u.tbls (fun m' hm => by
    obtain ⟨o', es', ep', ho', r'⟩ := hm
    rw [ho] at ho'; cases ho'
    exact ⟨_, es', ep', hL, r'⟩) hok I.bare
/-- behind a call (or a comprehension's block): the slots of this frame may have changed too, the records at ch may have turned -/
theorem Inv.call {g' : Array GenState} {t' : Nat} {d' : Drawn} {ch : List Addr} (I : Inv X pins σ H s) (u : Un (frs X.stack) ch H H' s.heap h') (hok : HOk X.prog X.w H' h') (hg : AllBare g')
    (hch : ∀ b ∈ ch, (b ∈ X.ex ∨ X.s₀.heap.objs.size ≤ b) ∧ b ≠ X.env.locals ∧ (∀ x c, X.env.cells.lookup x = some c → c ≠ b) ∧ ∀ p ∈ X.pn ++ pins, p.1 ≠ b) :
    Inv X pins σ H' { s with heap := h', gens := g', drawn := d', toks := t' } := by
  obtain ⟨m, ⟨o, es, ep, ho, r⟩, _⟩ := id I.loc
  obtain ⟨sl, hL⟩ := u.any ho I.free fun z => (hch _ z).2.1 rfl
  exact I.step (ch := ch) hch (fun b o hL hb hc e n => u.keep b o e n (fun z => (List.mem_cons.mp (I.stkSub b z)).elim hL hb) hc) (fun b o _ _ hc e n => u.any e n hc) (fun b o hc e n => u.free b o e n hc) (fun b o hc e => u.there b o e hc) u.tups u.frzs u.tbls (fun m' hm => by
    obtain ⟨o', es', ep', ho', r'⟩ := hm
    rw [ho] at ho'; cases ho'
    exact ⟨_, es', ep', hL, r'⟩) hok hg
/-- an untracked record of ours (an iterator) has turned -/
theorem Inv.turned {t' : Nat} {it : Addr} (I : Inv X pins σ H s) (k : ∀ b o, b ≠ it → s.heap.get? b = some o → h'.get? b = some o) (hn : H it = none) (hL : it ≠ X.env.locals)
    (h1 : it ∈ X.ex ∨ X.s₀.heap.objs.size ≤ it) (h2 : ∀ x c, X.env.cells.lookup x = some c → c ≠ it) (h3 : ∀ p ∈ X.pn ++ pins, p.1 ≠ it) : Inv X pins σ H { s with heap := h', toks := t' } := by
  have nit : ∀ b u, H b = some u → b ≠ it := fun b u e z => by rw [z, hn] at e; cases e
  refine I.step (g' := s.gens) (d' := s.drawn) (ch := [it]) (fun b hb => ?_) (fun b o _ _ hc e _ => k b o (fun z => hc (by simp [z])) e) (fun b o _ _ hc e _ => ⟨o.slots, k b o (fun z => hc (by simp [z])) e⟩) (fun _ _ _ _ n => n)
    (fun b o hc e => ⟨o, k b o (fun z => hc (by simp [z])) e⟩) (fun _ _ e => e) (fun _ _ _ e => e) (fun b ps e => ⟨#[], by rw [e]; simp⟩) (fun m hm => ?_) (fun b u e => ?_) I.bare
  · have e : b = it := by simpa using hb
    subst e
    exact ⟨h1, hL, h2, h3⟩
  · obtain ⟨o, es, ep, ho, r⟩ := hm
    exact ⟨o, es, ep, k _ o (Ne.symm hL) ho, r⟩
  · refine (I.hok b u e).stay (fun c v hc q => k c v ?_ q) (fun _ q => q) fun _ _ q => q
    rcases hc with z | z
    · rw [z]; exact nit b u e
    · exact nit c _ z
theorem Inv.tok (I : Inv X pins σ H s) (t : Nat) : Inv X pins σ H { s with toks := t } := I.un (h' := s.heap) (t' := t) Un.refl I.hok
/-- all objects kept -/
theorem Inv.kept {t' : Nat} (I : Inv X pins σ H s) (k : ∀ b u, s.heap.get? b = some u → h'.get? b = some u) : Inv X pins σ H { s with heap := h', toks := t' } := I.un (Un.kept k) (I.hok.kept k)
/-- a new object laid and tracked -/
theorem Inv.laid {a : Addr} {o : HO} {t' : Nat} (I : Inv X pins σ H s) (k : ∀ b u, s.heap.get? b = some u → h'.get? b = some u) (hp : s.heap.objs.size ≤ a) (new : ObjOk X.prog X.w (upd H a o) h' a o) :
    Inv X pins σ (upd H a o) { s with heap := h', toks := t' } := I.un (Un.laid k hp (I.hok.fresh hp)) (I.hok.laid k hp new)
/-- an object written -/
theorem Inv.write {x e : Addr} {o : HO} {t' : Nat} (I : Inv X pins σ H s) (mu : Mut (H x)) (he : e = x ∨ H e = some (.own x)) (k : ∀ b u, b ≠ e → s.heap.get? b = some u → h'.get? b = some u) (heo : ∃ u, h'.get? e = some u)
    (new : ObjOk X.prog X.w (upd H x o) h' x o) : Inv X pins σ (upd H x o) { s with heap := h', toks := t' } := I.un (Un.write mu he k heo) (I.hok.write mu he k heo new)
/-- forgetting slots, pins -/
theorem Inv.weak {σ' : List (Option V)} (I : Inv X pins σ H s) (hl : σ'.length = σ.length) (w : ∀ (i : Nat) v, σ'[i]? = some (some v) → σ[i]? = some (some v)) : Inv X pins σ' H s :=
  ⟨I.ok, I.os, I.bare, I.base, let ⟨m, hn, hl'⟩ := I.loc; ⟨m, hn, fun i x v e1 e2 e3 => hl' i x v e1 (w i v e2) e3⟩, I.cell, I.free, I.freeC, I.pin, I.hok, hl.trans I.len⟩
theorem Inv.pins_of {pins' : List (Addr × Obj)} (I : Inv X pins σ H s) (h : ∀ p ∈ pins', s.heap.get? p.1 = some p.2 ∧ H p.1 = none ∧ p.1 ≠ X.env.locals ∧ p.1 ∉ X.fs ∧ ∀ v, p.2.data ≠ .cell v) : Inv X pins' σ H s :=
  ⟨I.ok, I.os, I.bare, I.base, I.loc, I.cell, I.free, I.freeC, fun p hp => (List.mem_append.mp hp).elim (fun z => I.pin p (List.mem_append_left _ z)) (h p), I.hok, I.len⟩

theorem nodup_ix {N : List Str} (hN : N.Nodup) {i j : Nat} {x : Str} (a : N[i]? = some x) (b : N[j]? = some x) : i = j := by
  obtain ⟨h1, e1⟩ := List.getElem?_eq_some_iff.mp a
  obtain ⟨h2, e2⟩ := List.getElem?_eq_some_iff.mp b
  exact (List.getElem_inj hN).mp (e1.trans e2.symm)

/-- a name is stored; what changed -/
theorem store_ok2 {M : Model} {A : Around} {E : Value → Shared → Prop} {i : Nat} {x : Str} {v : V} {u : Value} {Q : Unit → Shared → Prop} (I : Inv X pins σ H s) (hN : X.N.Nodup) (hi : X.N[i]? = some x) (hx : Loc X.env.scope x) (r : RelV v u)
    (h : ∀ s', Inv X pins (σ.set i (some v)) H s' → (∃ a, Heap.SameBut a s.heap s'.heap ∧ (a = X.env.locals ∨ X.env.cells.lookup x = some a)) → Q () s') (hf : X.fn x = true ∨ X.env.scope.names.lookup x = some .local := by first | exact .inl rfl | exact .inr rfl | assumption) : wpAny M A (storeName X.env x u) Q E s := by
  obtain ⟨m, hn, hl⟩ := id I.loc
  have hcls : (X.env.scope.kind == .class || (X.env.scope.kind == .module && X.env.locals != X.env.globals)) = false := by rw [I.ok.kind]; rfl
  have hiσ : i < σ.length := by rw [I.len]; exact (List.getElem?_eq_some_iff.mp hi).1
  have cne := I.cne
  have tracked : ∀ {a : Addr} {h' : Heap}, (∃ o, s.heap.get? a = some o ∧ H a = none) → Heap.SameBut a s.heap h' → HOk X.prog X.w H h' := fun {a h'} ha hs b ob e => by
    obtain ⟨_, _, hfree⟩ := ha
    refine (I.hok b ob e).stay (fun c w' hc q => (hs.2 c ?_).trans q) (fun _ q => q) fun _ _ q => q
    rintro rfl
    rcases hc with rfl | hc
    · rw [hfree] at e; cases e
    · rw [hfree] at hc; cases hc
  rcases hx with hk | hk
  · refine wpAny_storeName_local hk hn (fun h' hn' hs => ?_) hcls
    obtain ⟨oL, _, _, hoL, _⟩ := id hn
    refine h _ ⟨I.ok, I.os, I.bare, ⟨fun b o e n hb hx => ?_, fun b o e n hb hx => ?_, I.base.free, fun b o e hx => ?_, I.base.tups, I.base.frzs, I.base.tbls⟩, ⟨_, hn', fun j y v' e1 e2 e3 => ?_⟩, fun y c e => ?_, I.free, I.freeC, fun p hp => ?_, tracked ⟨oL, hoL, I.free⟩ hs, by simpa using I.len⟩ ⟨_, hs, .inl rfl⟩
    · exact (hs.2 b (Nat.ne_of_lt (Nat.lt_of_lt_of_le (Heap.lt_size e) I.ok.above))).trans (I.base.keep b o e n hb hx)
    · obtain ⟨sl, e1⟩ := I.base.slot b o e n hb hx
      exact ⟨sl, (hs.2 b (Nat.ne_of_lt (Nat.lt_of_lt_of_le (Heap.lt_size e) I.ok.above))).trans e1⟩
    · obtain ⟨o', e1⟩ := I.base.there b o e hx
      exact ⟨o', (hs.2 b (Nat.ne_of_lt (Nat.lt_of_lt_of_le (Heap.lt_size e) I.ok.above))).trans e1⟩
    · by_cases hj : j = i
      · subst hj
        rw [hi] at e1; cases e1
        rw [List.getElem?_set_self hiσ] at e2
        cases e2
        exact ⟨u, r, .inl ⟨hk, by simp⟩⟩
      · rw [List.getElem?_set_ne (Ne.symm hj)] at e2
        obtain ⟨u', r', q⟩ := hl j y v' e1 e2 e3
        refine ⟨u', r', ?_⟩
        rcases q with ⟨k, e⟩ | ⟨k, c, e, z⟩
        · refine .inl ⟨k, ?_⟩
          have : y ≠ x := fun e => hj (nodup_ix hN e1 (e ▸ hi))
          simp [this, e]
        · exact .inr ⟨k, c, e, z.sameBut hs (cne y c e)⟩
    · obtain ⟨w', z⟩ := I.cell y c e
      exact ⟨w', z.sameBut hs (cne y c e)⟩
    · obtain ⟨e, n, ne, nf, d⟩ := I.pin p hp
      exact ⟨(hs.2 p.1 ne).trans e, n, ne, nf, d⟩
  · have hfn : X.fn x = true := by
      rcases hf with z | z
      · exact z
      · rw [z] at hk; cases hk
    obtain ⟨c, hc⟩ := I.ok.has x (.inl hk)
    obtain ⟨w', z⟩ := I.cell x c hc
    refine wpAny_storeName_cell I.ok.kind hk hc z (fun h' hc' hs => ?_)
    obtain ⟨oc, hoc, hocd⟩ := id z
    refine h { s with heap := h' } ⟨I.ok, I.os, I.bare, ⟨fun b o e n hb hx => ?_, fun b o e n hb hx => ?_, I.base.free, fun b o e hx => ?_, I.base.tups, I.base.frzs, I.base.tbls⟩, ⟨m, hn.sameBut hs (Ne.symm (cne x c hc)), fun j y v' e1 e2 e3 => ?_⟩, fun y c' e => ?_, I.free, I.freeC, fun p hp => ?_, tracked ⟨oc, hoc, I.freeC x c hc⟩ hs, by simpa using I.len⟩ ⟨c, hs, .inr hc⟩
    · exact (hs.2 b (Nat.ne_of_lt (Nat.lt_of_lt_of_le (Heap.lt_size e) (I.ok.cab x c hfn hc)))).trans (I.base.keep b o e n hb hx)
    · obtain ⟨sl, e1⟩ := I.base.slot b o e n hb hx
      exact ⟨sl, (hs.2 b (Nat.ne_of_lt (Nat.lt_of_lt_of_le (Heap.lt_size e) (I.ok.cab x c hfn hc)))).trans e1⟩
    · obtain ⟨o', e1⟩ := I.base.there b o e hx
      exact ⟨o', (hs.2 b (Nat.ne_of_lt (Nat.lt_of_lt_of_le (Heap.lt_size e) (I.ok.cab x c hfn hc)))).trans e1⟩
    · by_cases hj : j = i
      · subst hj
        rw [hi] at e1; cases e1
        rw [List.getElem?_set_self hiσ] at e2
        cases e2
        exact ⟨u, r, .inr ⟨.inl hk, c, hc, hc'⟩⟩
      · rw [List.getElem?_set_ne (Ne.symm hj)] at e2
        obtain ⟨u', r', q⟩ := hl j y v' e1 e2 e3
        refine ⟨u', r', ?_⟩
        rcases q with q | ⟨k, c', e, z'⟩
        · exact .inl q
        · refine .inr ⟨k, c', e, z'.sameBut hs ?_⟩
          rintro rfl
          exact hj (nodup_ix hN e1 (I.ok.inj _ _ _ e hc ▸ hi))
    · by_cases hcc : c' = c
      · subst hcc; exact ⟨_, hc'⟩
      · obtain ⟨w2, z2⟩ := I.cell y c' e
        exact ⟨w2, z2.sameBut hs hcc⟩
    · obtain ⟨e, n, ne, nf, d⟩ := I.pin p hp
      refine ⟨(hs.2 p.1 ?_).trans e, n, ne, nf, d⟩
      intro q
      rw [q, hoc] at e
      have q' : oc = p.2 := Option.some.inj e
      exact d w' (by rw [← q']; exact hocd)
theorem store_ok {M : Model} {A : Around} {E : Value → Shared → Prop} {i : Nat} {x : Str} {v : V} {u : Value} {Q : Unit → Shared → Prop} (I : Inv X pins σ H s) (hN : X.N.Nodup) (hi : X.N[i]? = some x) (hx : Loc X.env.scope x) (r : RelV v u)
    (h : ∀ s', Inv X pins (σ.set i (some v)) H s' → Q () s') (hf : X.fn x = true ∨ X.env.scope.names.lookup x = some .local := by first | exact .inl rfl | exact .inr rfl | assumption) : wpAny M A (storeName X.env x u) Q E s :=
  store_ok2 I hN hi hx r (fun s' I' _ => h s' I') hf
/-- behind a call or a block, the state as it is -/
theorem Inv.call' {s' : Shared} {ch : List Addr} (I : Inv X pins σ H s) (ho : s'.os = s.os) (u : Un (frs X.stack) ch H H' s.heap s'.heap) (hok : HOk X.prog X.w H' s'.heap) (hg : AllBare s'.gens)
    (hch : ∀ b ∈ ch, (b ∈ X.ex ∨ X.s₀.heap.objs.size ≤ b) ∧ b ≠ X.env.locals ∧ (∀ x c, X.env.cells.lookup x = some c → c ≠ b) ∧ ∀ p ∈ X.pn ++ pins, p.1 ≠ b) : Inv X pins σ H' s' := by
  obtain ⟨h', g', d', t', o'⟩ := s'
  have e : o' = s.os := ho
  subst e
  exact I.call (g' := g') (t' := t') (d' := d') u hok hg hch
end

/-! ### the judgements -/
/-- an exception: its class, its own dict's address (where it has one), the abstract heap behind it -/
abbrev XK := Value → Option Addr → Hp → Prop
abbrev St := List (Option V)
abbrev VK := V → Hp → Prop
/-- an expression's reading; a test's; an argument list's -/
abbrev TE := St → Hp → VK → Prop
abbrev TT := St → Hp → (Bool → Hp → Prop) → Prop
abbrev TA := St → Hp → (List V → Hp → Prop) → Prop
/-- what is wanted behind a statement -/
structure Ends where
  nx : St → Hp → Prop
  rt : VK
  bk : St → Hp → Prop := fun _ _ => False
  ct : St → Hp → Prop := fun _ _ => False
abbrev TS := Ends → St → Hp → Prop

def EP (X : Cx) (pins : List (Addr × Obj)) (σ : St) (Q : VK) (u : Value) (s' : Shared) : Prop := ∃ v H', Inv X pins σ H' s' ∧ RelV v u ∧ Q v H'
def TP (X : Cx) (pins : List (Addr × Obj)) (σ : St) (Q : Bool → Hp → Prop) (b : Bool) (s' : Shared) : Prop := ∃ H', Inv X pins σ H' s' ∧ Q b H'
def AP (X : Cx) (pins : List (Addr × Obj)) (σ : St) (Q : List V → Hp → Prop) (us : List Value) (s' : Shared) : Prop := ∃ vs H', Inv X pins σ H' s' ∧ Vals vs us ∧ Q vs H'
def SP (X : Cx) (pins : List (Addr × Obj)) (D : Ends) (f : Flow) (s' : Shared) : Prop :=
  match f with
  | .next => ∃ σ' H', Inv X pins σ' H' s' ∧ D.nx σ' H'
  | .brk => ∃ σ' H', Inv X pins σ' H' s' ∧ D.bk σ' H'
  | .cont => ∃ σ' H', Inv X pins σ' H' s' ∧ D.ct σ' H'
  | .ret u => ∃ v σ' H', Inv X pins σ' H' s' ∧ RelV v u ∧ D.rt v H'

def PE (X : Cx) (e : Expr) (t : TE) : Prop :=
  ∀ (pins : List (Addr × Obj)) (s : Shared) (σ : St) (H : Hp) (Q : VK), Inv X pins σ H s → t σ H Q → wpAny (model X.prog X.w) X.A (eval e X.env) (EP X pins σ Q) X.xe s
def PT (X : Cx) (e : Expr) (t : TT) : Prop :=
  ∀ (pins : List (Addr × Obj)) (s : Shared) (σ : St) (H : Hp) (Q : Bool → Hp → Prop), Inv X pins σ H s → t σ H Q → wpAny (model X.prog X.w) X.A (isTrue e X.env (eval e X.env)) (TP X pins σ Q) X.xe s
/-- a test whatever its 'whole' is (and, or) -/
def PW (X : Cx) (e : Expr) (t : TT) : Prop :=
  ∀ (whole : Sem Value) (pins : List (Addr × Obj)) (s : Shared) (σ : St) (H : Hp) (Q : Bool → Hp → Prop), Inv X pins σ H s → t σ H Q → wpAny (model X.prog X.w) X.A (isTrue e X.env whole) (TP X pins σ Q) X.xe s
theorem PW.pt {X : Cx} {e : Expr} {t : TT} (h : PW X e t) : PT X e t := h _
/-- an argument list (no star), from the left -/
def PA (X : Cx) (es : List Expr) (t : TA) : Prop :=
  ∀ (pos : Pos) (pins : List (Addr × Obj)) (s : Shared) (σ : St) (H : Hp) (Q : List V → Hp → Prop), Inv X pins σ H s → t σ H Q → wpAny (model X.prog X.w) X.A (spliced (backTo pos (starEach es X.env))) (AP X pins σ Q) X.xe s
def PS (X : Cx) (st : Stmt) (t : TS) : Prop :=
  ∀ (pins : List (Addr × Obj)) (s : Shared) (σ : St) (H : Hp) (D : Ends), Inv X pins σ H s → t D σ H → wpAny (model X.prog X.w) X.A (exec st X.env) (SP X pins D) X.xe s
def PSs (X : Cx) (st : List Stmt) (t : TS) : Prop :=
  ∀ (pins : List (Addr × Obj)) (s : Shared) (σ : St) (H : Hp) (D : Ends), Inv X pins σ H s → t D σ H → wpAny (model X.prog X.w) X.A (execs st X.env) (SP X pins D) X.xe s
/-- weaken the end -/
theorem thn {α : Type} {t : Sem α} {Q Q' : α → Shared → Prop} {M : Model} {A : Around} {E : Value → Shared → Prop} {s : Shared} (h : wpAny M A t Q E s) (hQ : ∀ a s, Q a s → Q' a s) : wpAny M A t Q' E s := wpAny_mono h hQ fun _ _ x => x
end L2

namespace L2
open PySem PySem.Spec PyProof.Rows
section
variable {X : Cx}


/-! ### names and constants -/
def tVar (i : Nat) : TE := fun σ H Q => ∃ v, σ[i]? = some (some v) ∧ Q v H
def tC (v : V) : TE := fun _ H Q => Q v H
theorem pe_var {i : Nat} {x : Str} {pos : Pos} (hN : X.N[i]? = some x) (hv : Vis X.env.scope x) (hd : (x == ("__debug__" : Str)) = false := by decide) (hcd : (x == ("__classdict__" : Str)) = false := by decide) : PE X (.Name x pos) (tVar i) := by
  intro pins s σ H Q I h
  obtain ⟨v, e, h⟩ := h
  obtain ⟨m, hn, hl⟩ := I.loc
  obtain ⟨u, r, l⟩ := hl i x v hN e hv
  have fin : EP X pins σ Q u s := ⟨v, H, I, r, h⟩
  rcases l with ⟨hk, hm⟩ | ⟨hk, c, hc, hcell⟩
  · exact wpAny_Name (wpAny_loadName_local I.ok.kind hk hn hm fin) hd
  · rcases hk with hk | hk
    · exact wpAny_Name (wpAny_loadName_cell I.ok.kind hk hc hcell fin) hd
    · exact wpAny_Name (wpAny_loadName_free I.ok.kind hk hc hcell fin hcd) hd
theorem pe_int {i j pos} : PE X (.Constant (.int i) j pos) (tC (.int i)) := fun _ _ _ H _ I h => wpAny_Constant_int ⟨.int i, H, I.tok _, ⟨_, rfl⟩, h⟩
theorem pe_bl {b j pos} : PE X (.Constant (.bool b) j pos) (tC (.bl b)) := fun _ _ _ H _ I h => Constant_bool ⟨.bl b, H, I, rfl, h⟩
theorem pe_non {j pos} : PE X (.Constant .none j pos) (tC .non) := fun _ _ _ H _ I h => Constant_none ⟨.non, H, I, rfl, h⟩
theorem pe_str {x j pos} : PE X (.Constant (.str x) j pos) (tC (.str x)) := fun _ _ _ H _ I h => Calls.Constant_str ⟨.str x, H, I.tok _, ⟨_, rfl⟩, h⟩

/-- a global name of the def -/
def Gl (X : Cx) (x : Str) : Prop := X.env.kindOf x = some .globalImplicit
theorem ld_glob {E : Value → Shared → Prop} {pins : List (Addr × Obj)} {s : Shared} {σ : St} {H : Hp} {x : Str} {u : Value} {pos : Pos} {Q : Value → Shared → Prop} (I : Inv X pins σ H s) (hg : Gl X x) (hm : X.mg x = some u) (h : Q u s)
    (hd : (x == ("__debug__" : Str)) = false := by decide) : wpAny (model X.prog X.w) X.A (eval (.Name x pos) X.env) Q E s :=
  Calls.Name_function_global I.ok.kind hg (Calls.loadGlobal_global (by rw [I.ok.glob]; exact I.mod.glob.keeps I.bk) hm h) hd
theorem ld_blt {E : Value → Shared → Prop} {pins : List (Addr × Obj)} {s : Shared} {σ : St} {H : Hp} {x : Str} {u : Value} {pos : Pos} {Q : Value → Shared → Prop} (I : Inv X pins σ H s) (hg : Gl X x) (hm : X.mg x = none) (hv : bootBuiltins x = some u) (h : Q u s)
    (hn : x ≠ "__name__" := by decide) (hd : (x == ("__debug__" : Str)) = false := by decide) : wpAny (model X.prog X.w) X.A (eval (.Name x pos) X.env) Q E s := by
  obtain ⟨mb, h1, h2⟩ := I.mod.blt
  exact Calls.Name_function_global I.ok.kind hg (Calls.loadGlobal_builtin (by rw [I.ok.glob]; exact I.mod.glob.keeps I.bk) hm (by rw [I.ok.blt]; exact h1.keeps I.bk) ((h2 x hn).trans hv) h) hd
/-- a module's constant, a class, a function, as a value -/
theorem pe_glob {x : Str} {v : V} {u : Value} {pos : Pos} (hg : Gl X x) (hm : X.mg x = some u) (r : RelV v u) (hd : (x == ("__debug__" : Str)) = false := by decide) : PE X (.Name x pos) (tC v) :=
  fun _ _ _ H _ I h => ld_glob I hg hm ⟨v, H, I, r, h⟩ hd
theorem pe_bltn {x : Str} {v : V} {u : Value} {pos : Pos} (hg : Gl X x) (hm : X.mg x = none) (hv : bootBuiltins x = some u) (r : RelV v u) (hn : x ≠ "__name__" := by decide) (hd : (x == ("__debug__" : Str)) = false := by decide) : PE X (.Name x pos) (tC v) :=
  fun _ _ _ H _ I h => ld_blt I hg hm hv ⟨v, H, I, r, h⟩ hn hd

/-! ### arithmetic -/
variable {a b : Expr} {ta tb : TE} {pos : Pos}

/-! ### comparisons -/
/-- a comparison as a value, as a test -/
def tB (t : TE) : TT := fun σ H Q => t σ H fun x H1 => ∃ c, x = .bl c ∧ Q c H1
/-- an expression whose value is a bool, as a test -/
theorem pt_val {e : Expr} {t : TE} (h : PE X e t) (he : ∀ whole, isTrue e X.env whole = (do let v ← whole; standAt e.pos; holding [v] (truthy v)) := by intro _; rfl) : PT X e (tB t) := by
  intro pins s σ H Q I hw
  refine isTrue_plain (thn (h pins s σ H _ I hw) fun v s1 ⟨x, H1, I1, r1, q1⟩ => ?_) (he _)
  obtain ⟨d, rfl, q⟩ := q1
  cases r1
  exact wpAny_truthy_bool ⟨H1, I1, q⟩

/-! ### and, or, not -/
variable {tA tB' : TT} {rest : List Expr}
def tAnd (t u : TT) : TT := fun σ H Q => t σ H fun c H1 => if c = true then u σ H1 Q else Q false H1
def tOr (t u : TT) : TT := fun σ H Q => t σ H fun c H1 => if c = true then Q true H1 else u σ H1 Q
def tNot (t : TT) : TT := fun σ H Q => t σ H fun c H1 => Q (!c) H1
theorem pw_and1 (ha : PT X a tA) : PW X (.BoolOp .And [a] pos) tA := by
  intro wh pins s σ H Q I h
  refine isTrue_and (thn (ha pins s σ H Q I h) fun c s1 e => ?_)
  cases c with
  | true => exact isTrue_and_nil e
  | false => exact e
theorem pw_or1 (ha : PT X a tA) : PW X (.BoolOp .Or [a] pos) tA := by
  intro wh pins s σ H Q I h
  refine isTrue_or (thn (ha pins s σ H Q I h) fun c s1 e => ?_)
  cases c with
  | false => exact isTrue_or_nil e
  | true => exact e
theorem pw_and (ha : PT X a tA) (hb : PW X (.BoolOp .And (b :: rest) pos) tB') : PW X (.BoolOp .And (a :: b :: rest) pos) (tAnd tA tB') := by
  intro wh pins s σ H Q I h
  refine isTrue_and (thn (ha pins s σ H _ I h) fun c s1 ⟨H1, I1, q1⟩ => ?_)
  cases c with
  | true => exact hb wh pins s1 σ H1 Q I1 q1
  | false => exact ⟨H1, I1, q1⟩
theorem pw_or (ha : PT X a tA) (hb : PW X (.BoolOp .Or (b :: rest) pos) tB') : PW X (.BoolOp .Or (a :: b :: rest) pos) (tOr tA tB') := by
  intro wh pins s σ H Q I h
  refine isTrue_or (thn (ha pins s σ H _ I h) fun c s1 ⟨H1, I1, q1⟩ => ?_)
  cases c with
  | true => exact ⟨H1, I1, q1⟩
  | false => exact hb wh pins s1 σ H1 Q I1 q1
theorem pt_not (ha : PT X a tA) : PT X (.UnaryOp .Not a pos) (tNot tA) := by
  intro pins s σ H Q I h
  exact isTrue_not (ha pins s σ H (fun c H1 => Q (!c) H1) I h)
/-- .. as values (bools) -/
def tAndV (ta tb : TE) : TE := fun σ H Q => ta σ H fun x H1 => ∃ c, x = .bl c ∧ if c = true then tb σ H1 Q else Q (.bl false) H1
def tNotV (ta : TE) : TE := fun σ H Q => ta σ H fun x H1 => ∃ c, x = .bl c ∧ Q (.bl (!c)) H1
theorem pe_one {op} {t : TE} (h : PE X a t) : PE X (.BoolOp op [a] pos) t := fun pins s σ H Q I hw => BoolOp_one (h pins s σ H Q I hw)
theorem pe_and (ha : PE X a ta) (hb : PE X (.BoolOp .And (b :: rest) pos) tb) : PE X (.BoolOp .And (a :: b :: rest) pos) (tAndV ta tb) := by
  intro pins s σ H Q I h
  refine BoolOp_and (thn (ha pins s σ H _ I h) fun v s1 ⟨x, H1, I1, r1, q1⟩ => ?_)
  obtain ⟨c, rfl, q1⟩ := q1
  cases r1
  refine wpAny_truthy_bool ?_
  cases c with
  | true => exact hb pins s1 σ H1 Q I1 q1
  | false => exact ⟨.bl false, H1, I1, rfl, q1⟩
theorem pe_not (ha : PE X a ta) : PE X (.UnaryOp .Not a pos) (tNotV ta) := by
  intro pins s σ H Q I h
  refine UnaryOp_ (thn (ha pins s σ H _ I h) fun v s1 ⟨x, H1, I1, r1, q1⟩ => ?_)
  obtain ⟨c, rfl, q1⟩ := q1
  cases r1
  exact not_of (wpAny_truthy_bool ⟨.bl (!c), H1, I1, rfl, q1⟩)
/-- a if t else b -/
def tIf (t : TT) (ta tb : TE) : TE := fun σ H Q => t σ H fun c H1 => if c = true then ta σ H1 Q else tb σ H1 Q
theorem pe_ifExp {c : Expr} (hc : PT X c tA) (ha : PE X a ta) (hb : PE X b tb) : PE X (.IfExp c a b pos) (tIf tA ta tb) := by
  intro pins s σ H Q I h
  refine wpAny_IfExp (thn (hc pins s σ H _ I h) fun d s1 ⟨H1, I1, q1⟩ => ?_)
  cases d with
  | true => exact ha pins s1 σ H1 Q I1 q1
  | false => exact hb pins s1 σ H1 Q I1 q1
end
end L2

namespace L2
open PySem PySem.Spec PyProof.Rows

/-! ### a list, a tuple that is read: tracked, frozen, or an object of the module -/
def SqL (K : PySem.W.Frag) (H : Hp) (a : Addr) (xs : List V) : Prop :=
  Rd H a (.lst xs) ∨
    ∃ (o : Obj) (its : Array Value) (n : Nat), K.lookup a = some o ∧ o.cls = .type "list" ∧ o.dict = none ∧ o.data = .seq its n ∧ its.size ≤ sizeLine ∧ Vals xs its.toList
def SqT (K : PySem.W.Frag) (H : Hp) (a : Addr) (xs : List V) : Prop :=
  Rd H a (.tup xs) ∨
    ∃ (o : Obj) (its : Array Value) (n : Nat), K.lookup a = some o ∧ o.cls = .type "tuple" ∧ o.data = .seq its n ∧ its.size ≤ sizeLine ∧ Vals xs its.toList
def absV : Value → Option V
  | .none => some .non
  | .bool b => some (.bl b)
  | .int i _ => some (.int i)
  | .str x _ => some (.str x)
  | .bytes b _ => some (.byt b)
  | .float b _ => some (.flt b)
  | .ref a => some (.ref a)
  | .type n => some (.ty n)
  | _ => none
theorem RelV.abs {x : V} {u : Value} (r : RelV x u) : absV u = some x := by
  cases x with
  | non => cases r; rfl
  | bl _ => cases r; rfl
  | int _ => obtain ⟨t, rfl⟩ := r; rfl
  | str _ => obtain ⟨t, rfl⟩ := r; rfl
  | byt _ => obtain ⟨t, rfl⟩ := r; rfl
  | flt _ => obtain ⟨t, rfl⟩ := r; rfl
  | ref _ => cases r; rfl
  | ty _ => cases r; rfl
theorem RelV.inj {x y : V} {u : Value} (r : RelV x u) (q : RelV y u) : x = y := Option.some.inj (r.abs.symm.trans q.abs)
theorem Vals.inj : ∀ {xs ys : List V} {us : List Value}, Vals xs us → Vals ys us → xs = ys
  | _, _, _, .nil, .nil => rfl
  | _, _, _, .cons r t, .cons r' t' => by rw [r.inj r', Vals.inj t t']
section
variable {X : Cx} {pins : List (Addr × Obj)} {σ : St} {H : Hp} {s : Shared} {a : Addr} {xs ys : List V}
theorem SqL.of {K : PySem.W.Frag} (h : H a = some (.lst xs)) : SqL K H a xs := .inl (.inl h)
theorem SqT.of {K : PySem.W.Frag} (h : H a = some (.tup xs)) : SqT K H a xs := .inl (.inl h)
theorem Inv.list (I : Inv X pins σ H s) (h : SqL X.K H a xs) : ∃ its : List Value, Vals xs its ∧ PlainL s.heap a its.toArray ∧ xs.length ≤ sizeLine := by
  rcases h with h | ⟨o, its, n, hk, hc, hd, hs, hz, r⟩
  · obtain ⟨z, its, n, r, e⟩ := h.ok I.hok
    exact ⟨its, r, ⟨_, n, e, rfl, rfl, rfl⟩, z⟩
  · refine ⟨its.toList, r, ⟨o, n, I.kIn a o hk, hc, hd, by simpa using hs⟩, ?_⟩
    have e := r.length
    simp only [Array.length_toList] at e
    omega
theorem Inv.tuple (I : Inv X pins σ H s) (h : SqT X.K H a xs) : ∃ its : List Value, Vals xs its ∧ IsTup s.heap a its.toArray ∧ xs.length ≤ sizeLine := by
  rcases h with h | ⟨o, its, n, hk, hc, hs, hz, r⟩
  · obtain ⟨z, its, r, p⟩ := h.ok I.hok
    exact ⟨its, r, p, z⟩
  · refine ⟨its.toList, r, ⟨o, I.kIn a o hk, hc, n, by simpa using hs⟩, ?_⟩
    have e := r.length
    simp only [Array.length_toList] at e
    omega
theorem Inv.list_inj (I : Inv X pins σ H s) (h : SqL X.K H a xs) (h' : SqL X.K H a ys) : xs = ys := by
  obtain ⟨its, r, ⟨o, n, e, _, _, d⟩, _⟩ := I.list h
  obtain ⟨its', r', ⟨o', n', e', _, _, d'⟩, _⟩ := I.list h'
  rw [e] at e'; cases e'
  rw [d] at d'
  injection d' with d1 _
  have : its = its' := by simpa using congrArg Array.toList d1
  subst this
  exact r.inj r'
end

/-! ### another wish about exceptions -/
abbrev Cx.wish (X : Cx) (E : Value → Shared → Prop) : Cx := { X with xe := E }
/-- no exception leaves -/
abbrev Cx.nox (X : Cx) : Cx := X.wish fun _ _ => False
theorem Cx.Ok.wish {X : Cx} (ok : X.Ok) (E : Value → Shared → Prop) : (X.wish E).Ok :=
  ⟨ok.mod, ok.kind, ok.glob, ok.blt, ok.above, ok.inj, ok.has, ok.cab, ok.hd, ok.frames, ok.stk, ok.exf, ok.bs, ok.bsz, ok.noex, ok.exfs, ok.funs, ok.frf⟩
theorem Cx.Ok.unwish {X : Cx} {E : Value → Shared → Prop} (ok : (X.wish E).Ok) : X.Ok :=
  ⟨ok.mod, ok.kind, ok.glob, ok.blt, ok.above, ok.inj, ok.has, ok.cab, ok.hd, ok.frames, ok.stk, ok.exf, ok.bs, ok.bsz, ok.noex, ok.exfs, ok.funs, ok.frf⟩
section
variable {X : Cx} {pins : List (Addr × Obj)} {σ : St} {H : Hp} {s : Shared} {E : Value → Shared → Prop}
theorem Inv.wish (I : Inv X pins σ H s) (E : Value → Shared → Prop) : Inv (X.wish E) pins σ H s := ⟨I.ok.wish E, I.os, I.bare, I.base, I.loc, I.cell, I.free, I.freeC, I.pin, I.hok, I.len⟩
theorem Inv.unwish (I : Inv (X.wish E) pins σ H s) : Inv X pins σ H s := ⟨I.ok.unwish, I.os, I.bare, I.base, I.loc, I.cell, I.free, I.freeC, I.pin, I.hok, I.len⟩
theorem SP.unwish {D : Ends} {f : Flow} {s' : Shared} (h : SP (X.wish E) pins D f s') : SP X pins D f s' := by
  cases f with
  | next => obtain ⟨σ', H', I, q⟩ := h; exact ⟨σ', H', I.unwish, q⟩
  | brk => obtain ⟨σ', H', I, q⟩ := h; exact ⟨σ', H', I.unwish, q⟩
  | cont => obtain ⟨σ', H', I, q⟩ := h; exact ⟨σ', H', I.unwish, q⟩
  | ret u => obtain ⟨v, σ', H', I, r, q⟩ := h; exact ⟨v, σ', H', I.unwish, r, q⟩
theorem PE.nox {e : Expr} {t : TE} (h : PE X.nox e t) : PE X e t := fun pins s σ H Q I hw =>
  wpAny_mono (h pins s σ H Q (I.wish _) hw) (fun _ _ ⟨v, H', I', r, q⟩ => ⟨v, H', I'.unwish, r, q⟩) fun _ _ z => False.elim z
theorem PSs.nox {st : List Stmt} {t : TS} (h : PSs X.nox st t) : PSs X st t := fun pins s σ H D I hw =>
  wpAny_mono (h pins s σ H D (I.wish _) hw) (fun _ _ q => q.unwish) fun _ _ z => False.elim z
end

/-! ### blocks and small statements -/
section
variable {X : Cx} {st : Stmt} {rest : List Stmt} {t u : TS} {e : Expr} {te : TE} {pos : Pos}
def tNext : TS := fun D σ H => D.nx σ H
def tSeq (t u : TS) : TS := fun D σ H => t { D with nx := u D } σ H
theorem pss_nil : PSs X [] tNext := fun _ _ σ H _ I h => wpAny_execs_nil ⟨σ, H, I, h⟩
theorem pss_cons (h1 : PS X st t) (h2 : PSs X rest u) : PSs X (st :: rest) (tSeq t u) := by
  intro pins s σ H D I h
  refine wpAny_execs_cons (thn (h1 pins s σ H { D with nx := u D } I h) fun f s1 q => ?_)
  cases f with
  | next =>
    obtain ⟨σ', H', I', q⟩ := q
    exact h2 pins s1 σ' H' D I' q
  | ret v => exact q
  | brk => exact q
  | cont => exact q
theorem pss_one (h1 : PS X st t) : PSs X [st] t := by
  intro pins s σ H D I h
  refine wpAny_execs_cons (thn (h1 pins s σ H D I h) fun f s1 q => ?_)
  cases f with
  | next => exact wpAny_execs_nil q
  | ret v => exact q
  | brk => exact q
  | cont => exact q
/-- in a def's body nothing is shown -/
theorem Inv.quiet {pins : List (Addr × Obj)} {σ : St} {H : Hp} {s : Shared} (I : Inv X pins σ H s) : interactive X.env = false := by simp [interactive, I.ok.kind]
/-- an expression whose value is dropped -/
def tDrop (te : TE) : TS := fun D σ H => te σ H fun _ H1 => D.nx σ H1
theorem ps_expr (he : PE X e te) (hs : swapsWith e none pos.line X.env = pure false := by rfl) : PS X (.Expr e pos) (tDrop te) := by
  intro pins s σ H D I h
  exact wpAny_Expr_any (thn (he pins s σ H _ I h) fun v s1 ⟨x, H1, I1, r1, q1⟩ => ⟨σ, H1, I1, q1⟩) I.quiet hs
def tRet (te : TE) : TS := fun D σ H => te σ H D.rt
theorem ps_ret (he : PE X e te) : PS X (.Return (some e) pos) (tRet te) := by
  intro pins s σ H D I h
  exact wpAny_Return_some (thn (he pins s σ H _ I h) fun v s1 ⟨x, H1, I1, r1, q1⟩ => ⟨x, σ, H1, I1, r1, q1⟩)
def tIfS (c : TT) (t u : TS) : TS := fun D σ H => c σ H fun b H1 => if b = true then t D σ H1 else u D σ H1
theorem ps_if {c : Expr} {a b : List Stmt} {tc : TT} (hc : PT X c tc) (ha : PSs X a t) (hb : PSs X b u) : PS X (.If c a b pos) (tIfS tc t u) := by
  intro pins s σ H D I h
  refine wpAny_If (thn (hc pins s σ H _ I h) fun d s1 ⟨H1, I1, q1⟩ => ?_)
  cases d with
  | true => exact ha pins s1 σ H1 D I1 q1
  | false => exact hb pins s1 σ H1 D I1 q1
/-- code that the proof never comes to -/
def tNever : TS := fun _ _ _ => False
theorem ps_never : PS X st tNever := fun _ _ _ _ _ _ h => h.elim
end

/-! ### targets -/
abbrev TG := V → St → Hp → (St → Hp → Prop) → Prop
abbrev TGs := List V → St → Hp → (St → Hp → Prop) → Prop
def PG (X : Cx) (target : Expr) (t : TG) : Prop :=
  ∀ (pins : List (Addr × Obj)) (s : Shared) (σ : St) (H : Hp) (v : V) (u : Value) (Q : St → Hp → Prop), Inv X pins σ H s → RelV v u → t v σ H Q →
    wpAny (model X.prog X.w) X.A (assign target X.env u) (fun _ s' => ∃ σ' H', Inv X pins σ' H' s' ∧ Q σ' H') X.xe s
/-- several targets, one after another -/
def PGs (X : Cx) (ts : List Expr) (t : TGs) : Prop :=
  ∀ (pins : List (Addr × Obj)) (s : Shared) (σ : St) (H : Hp) (vs : List V) (us : List Value) (Q : St → Hp → Prop), Inv X pins σ H s → Vals vs us → t vs σ H Q →
    wpAny (model X.prog X.w) X.A (assignInOrder ((assignEach ts X.env).map (·.2)) us) (fun _ s' => ∃ σ' H', Inv X pins σ' H' s' ∧ Q σ' H') X.xe s
/-- o[i] = v, by values -/
abbrev TSet := V → V → V → Hp → (Hp → Prop) → Prop
def PSet (X : Cx) (t : TSet) : Prop :=
  ∀ (pins : List (Addr × Obj)) (s : Shared) (σ : St) (H : Hp) (o i v : V) (ov iv u : Value) (Q : Hp → Prop), Inv X pins σ H s → RelV o ov → RelV i iv → RelV v u → t o i v H Q →
    wpAny (model X.prog X.w) X.A (setItem ov iv u) (fun _ s' => ∃ H', Inv X pins σ H' s' ∧ Q H') X.xe s
section
variable {X : Cx} {pos : Pos}
def gName (i : Nat) : TG := fun v σ H Q => Q (σ.set i (some v)) H
theorem pg_name {i : Nat} {x : Str} (hN : X.N.Nodup) (hi : X.N[i]? = some x) (hx : Loc X.env.scope x) (hf : X.fn x = true ∨ X.env.scope.names.lookup x = some .local := by first | exact .inl rfl | exact .inr rfl | assumption) : PG X (.Name x pos) (gName i) := by
  intro pins s σ H v u Q I r h
  exact wpAny_assign_Name (store_ok I hN hi hx r (fun s' I' => ⟨_, H, I', h⟩) hf)
def gNil : TGs := fun vs σ H Q => vs = [] ∧ Q σ H
def gCons (t : TG) (u : TGs) : TGs := fun vs σ H Q => ∃ v r, vs = v :: r ∧ t v σ H fun σ' H' => u r σ' H' Q
theorem pgs_nil : PGs X [] gNil := by
  intro pins s σ H vs us Q I r h
  obtain ⟨e, h⟩ := h
  subst e
  cases r
  exact assignInOrder_nil ⟨σ, H, I, h⟩
theorem pgs_cons {e : Expr} {es : List Expr} {t : TG} {u : TGs} (h1 : PG X e t) (h2 : PGs X es u)
    (hs : (assignEach (e :: es) X.env).map (·.2) = assign e X.env :: (assignEach es X.env).map (·.2) := by rfl) : PGs X (e :: es) (gCons t u) := by
  intro pins s σ H vs us Q I r h
  obtain ⟨v, vr, e1, h⟩ := h
  subst e1
  cases r with
  | cons r rr =>
    rw [hs]
    refine assignInOrder_cons (thn (h1 pins s σ H _ _ _ I r h) fun _ s1 ⟨σ1, H1, I1, q1⟩ => ?_)
    exact h2 pins s1 σ1 H1 _ _ Q I1 rr q1
/-- (a, b, ..) = a tuple of that length -/
def gTup (K : PySem.W.Frag) (n : Nat) (t : TGs) : TG := fun v σ H Q => ∃ a xs, v = .ref a ∧ SqT K H a xs ∧ xs.length = n ∧ t xs σ H Q
theorem pg_tup {es : List Expr} {k : Nat} {t : TGs} {n : Nat} (hc : X.calm = true) (h : PGs X es t)
    (hn : (assignEach es X.env).length = n := by rfl) (hst : (assignEach es X.env).findIdx? (·.1) = none := by rfl) : PG X (.Tuple es k pos) (gTup X.K n t) := by
  intro pins s σ H v u Q I r hw
  obtain ⟨a, xs, e1, hq, hl, hw⟩ := hw
  subst e1
  cases r
  obtain ⟨its, rv, ht, hz⟩ := I.tuple hq
  refine assign_Tuple_tuple (I.ok.hd hc) ht (by simp [hn, ← hl, rv.length]) hst fun h' hx => ?_
  have I1 : Inv X pins σ H { s with heap := h' } := I.kept (t' := s.toks) fun b o e => hx b o (Nat.ne_of_lt (Heap.lt_size e)) e
  exact h pins _ σ H xs _ Q I1 (by simpa using rv) hw
/-- o[i] = .. -/
def gSub (to ti : TE) (t : TSet) : TG := fun v σ H Q => to σ H fun o H1 => ti σ H1 fun i H2 => t o i v H2 fun H3 => Q σ H3
theorem pg_sub {o i : Expr} {to ti : TE} {t : TSet} (ho : PE X o to) (hi : PE X i ti) (hs : PSet X t)
    (ha : ∀ v, assign (.Subscript o i pos) X.env v = (do
      let ov ← holding [v] (eval o X.env)
      let iv ← holding [v, ov] (eval i X.env)
      standAt pos
      holding [v, ov, iv] (setItem ov iv v)
      release [v, ov, iv] []) := by intro _; rfl) : PG X (.Subscript o i pos) (gSub to ti t) := by
  intro pins s σ H v u Q I r h
  rw [ha]
  refine wpAny_bind (wpAny_holding (thn (ho pins s σ H _ I h) fun ov s1 ⟨x, H1, I1, r1, q1⟩ => ?_))
  refine wpAny_bind (wpAny_holding (thn (hi pins s1 σ H1 _ I1 q1) fun iv s2 ⟨y, H2, I2, r2, q2⟩ => ?_))
  refine wpAny_bind (wpAny_standAt (wpAny_bind (wpAny_holding (thn (hs pins s2 σ H2 x y v ov iv u _ I2 r1 r2 r q2) fun _ s3 ⟨H3, I3, q3⟩ => ?_))))
  exact wpAny_release ⟨σ, H3, I3, q3⟩
/-- target = value -/
def tAsg (te : TE) (g : TG) : TS := fun D σ H => te σ H fun x H1 => g x σ H1 D.nx
theorem ps_asg {tg e : Expr} {te : TE} {g : TG} (he : PE X e te) (hg : PG X tg g) (hs : swapsWithSole [tg] e pos.line X.env = pure false := by rfl) (hw : swappedStores [tg] e X.env = pure none := by rfl)
    (h1 : (assignEach [tg] X.env).map (·.2) = [assign tg X.env] := by rfl) : PS X (.Assign [tg] e pos) (tAsg te g) := by
  intro pins s σ H D I h
  refine wpAny_Assign_stores (thn (he pins s σ H _ I h) fun v s1 ⟨x, H1, I1, r1, q1⟩ => ?_) hs hw
  rw [h1]
  exact thn (hg pins s1 σ H1 x v _ I1 r1 q1) fun _ s2 q => q
/-- name = value -/
theorem ps_set {i : Nat} {x : Str} {e : Expr} {te : TE} {pos' : Pos} (hN : X.N.Nodup) (hi : X.N[i]? = some x) (hx : Loc X.env.scope x) (he : PE X e te) (hs : swapsWith e (some (.Name x pos')) pos.line X.env = pure false := by rfl) (hf : X.fn x = true ∨ X.env.scope.names.lookup x = some .local := by first | exact .inl rfl | exact .inr rfl | assumption) :
    PS X (.Assign [.Name x pos'] e pos) (tAsg te (gName i)) := by
  intro pins s σ H D I h
  refine wpAny_Assign_Name (thn (he pins s σ H _ I h) fun v s1 ⟨y, H1, I1, r1, q1⟩ => ?_) hs
  exact store_ok I1 hN hi hx r1 (fun s2 I2 => ⟨_, H1, I2, q1⟩) hf
end

/-! ### while -/
section
variable {X : Cx} {pos : Pos}
end

/-! ### what a loop or a comprehension walks -/
/-- at turn i: it yields x (the heap may grow), or it stops -/
structure It where
  go : Nat → Hp → Prop
  yld : Nat → Hp → V → Hp → Prop
  stop : Nat → Hp → Prop
/-- the iterator's own objects may turn: they are not the frame's, not pinned, younger than the entry (or a comprehension's own) -/
def FpOk (X : Cx) (pins : List (Addr × Obj)) (H : Hp) (b : Addr) : Prop :=
  H b = none ∧ b ≠ X.env.locals ∧ b ∉ X.fs ∧ (b ∈ X.ex ∨ X.s₀.heap.objs.size ≤ b) ∧ (∀ x c, X.env.cells.lookup x = some c → c ≠ b) ∧ ∀ p ∈ X.pn ++ pins, p.1 ≠ b
theorem Inv.fpOk {X : Cx} {pins : List (Addr × Obj)} {σ : St} {H H' : Hp} {s : Shared} {b : Addr} (I : Inv X pins σ H s) (hb : s.heap.objs.size ≤ b) (hn : H' b = none) : FpOk X pins H' b := by
  refine ⟨hn, Nat.ne_of_gt (Nat.lt_of_lt_of_le I.lt hb), I.nofs hb, .inr (Nat.le_trans I.sz hb), fun x c e z => ?_, fun p hp z => ?_⟩
  · obtain ⟨v, q⟩ := I.cell x c e
    exact absurd (Nat.lt_of_lt_of_le q.lt (by rw [z]; exact hb)) (Nat.lt_irrefl _)
  · exact absurd (Nat.lt_of_lt_of_le (Heap.lt_size (I.pin p hp).1) (by rw [z]; exact hb)) (Nat.lt_irrefl _)
structure Turn (P : Program) (w : World) (K : PySem.W.Frag) (tg : Expr) (J : It) (fp : List Addr) (it : Addr) (tn : Nat → Heap → Prop) : Prop where
  mem : it ∈ fp
  obj : ∀ i h, tn i h → ∀ b ∈ fp, ∃ o, h.get? b = some o ∧ ∀ v, o.data ≠ .cell v
  keep : ∀ i h h', tn i h → (∀ b ∈ fp, ∀ o, h.get? b = some o → h'.get? b = some o) → tn i h'
  item : ∀ (X : Cx), X.prog = P → X.w = w → X.K = K → X.calm = true → ∀ (i : Nat) (pins : List (Addr × Obj)) (s : Shared) (σ : St) (H : Hp) (E : Value → Shared → Prop), Inv X pins σ H s → (∀ b ∈ fp, FpOk X pins H b) → tn i s.heap → J.go i H →
    wpAny (model P w) X.A (pyNext (.ref it)) (fun r s1 => ∃ u, r = some u ∧
      wpAny (model P w) X.A (letOwnedTupleGo tg (.ref it) u) (fun _ s2 => ∃ x H', Inv X pins σ H' s2 ∧ RelV x u ∧ J.yld i H x H' ∧ tn (i + 1) s2.heap ∧ ∀ b ∈ fp, H' b = none) E s1) E s
  done : ∀ (X : Cx), X.prog = P → X.w = w → X.K = K → X.calm = true → ∀ (i : Nat) (pins : List (Addr × Obj)) (s : Shared) (σ : St) (H : Hp) (E : Value → Shared → Prop), Inv X pins σ H s → (∀ b ∈ fp, FpOk X pins H b) → tn i s.heap → J.stop i H →
    wpAny (model P w) X.A (pyNext (.ref it)) (fun r s1 => r = none ∧ Inv X pins σ H s1) E s
  self : ∀ (A : Around) (i : Nat) (s : Shared) (Q : Value → Shared → Prop) (E : Value → Shared → Prop), tn i s.heap → Q (.ref it) s → wpAny (model P w) A (pyIter (.ref it)) Q E s
abbrev TI := St → Hp → (It → Hp → Prop) → Prop
/-- an iterator has come -/
def PIE (X : Cx) (pins : List (Addr × Obj)) (σ : St) (tg : Expr) (R : It → Hp → Prop) (itv : Value) (s2 : Shared) : Prop :=
  ∃ (it : Addr) (fp : List Addr) (tn : Nat → Heap → Prop) (J : It) (H' : Hp), itv = .ref it ∧ Inv X pins σ H' s2 ∧ Turn X.prog X.w X.K tg J fp it tn ∧ tn 0 s2.heap ∧ (∀ b ∈ fp, FpOk X pins H' b) ∧ R J H'
def PI (X : Cx) (tg iter : Expr) (wi : TI) : Prop :=
  ∀ (pins : List (Addr × Obj)) (s : Shared) (σ : St) (H : Hp) (R : It → Hp → Prop), Inv X pins σ H s → wi σ H R →
    wpAny (model X.prog X.w) X.A (eval iter X.env) (fun v s1 => wpAny (model X.prog X.w) X.A (pyIter v) (PIE X pins σ tg R) X.xe s1) X.xe s

/-- the step ahead of the store is nothing for an iterator that keeps no tuple -/
theorem go_of {M : Model} {A : Around} {E : Value → Shared → Prop} {s : Shared} {tg : Expr} {it : Addr} {u : Value} {o : Obj} {n : String} {vs : Array Value} {Q : Unit → Shared → Prop} (ho : s.heap.get? it = some o) (hc : o.cls = .type n) (hd : o.data = .fields vs)
    (hn : ["enumerate", "zip", "dict_itemiterator", "dict_reverseitemiterator", "odict_iterator", "itertools.zip_longest", "itertools.pairwise"].contains n = false) (hQ : Q () s) : wpAny M A (letOwnedTupleGo tg (.ref it) u) Q E s := by
  unfold letOwnedTupleGo
  cases tg <;> first
    | exact wpAny_pure hQ
    | (cases u <;> first
        | exact wpAny_pure hQ
        | (refine wpAny_bind (wpAny_load ho ?_)
           rw [hc, hd]
           show wpAny M A (if (["enumerate", "zip", "dict_itemiterator", "dict_reverseitemiterator", "odict_iterator", "itertools.zip_longest", "itertools.pairwise"].contains n && vs[0]? == some (rawInt _)) = true then _ else _) Q E s
           rw [if_neg (by intro h; rw [hn, Bool.false_and] at h; cases h)]
           exact wpAny_pure hQ))

/-- the list at a, as it stands at each turn (a loop may append to it) -/
def Itl (K : PySem.W.Frag) (a : Addr) : It :=
  ⟨fun i H => ∃ xs x, SqL K H a xs ∧ xs[i]? = some x, fun i H x H' => H' = H ∧ ∀ xs, SqL K H a xs → xs[i]? = some x, fun i H => ∃ xs, SqL K H a xs ∧ xs.length ≤ i⟩
/-- lo, lo + 1, .. (n of them) -/
def Itr (lo : Int) (n : Nat) : It := ⟨fun i _ => i < n, fun i H x H' => H' = H ∧ x = .int (lo + i), fun i _ => n ≤ i⟩
theorem turn_list {P : Program} {w : World} {K : PySem.W.Frag} {tg : Expr} (a it : Addr) : Turn P w K tg (Itl K a) [it] it (fun i h => h.IsListIter it a i) where
  mem := by simp
  obj := fun i h st b hb => by
    have e : b = it := by simpa using hb
    subst e
    obtain ⟨o, e, c, d⟩ := st
    exact ⟨o, e, fun v z => by rw [d] at z; cases z⟩
  keep := fun i h h' st k => st.at fun o e => k it (by simp) o e
  item := by
    intro X hP hw hK hc i pins s σ H E I hf st hg
    subst hP hw hK
    obtain ⟨xs, x, hq, hx⟩ := hg
    obtain ⟨its, rv, p, hz⟩ := I.list hq
    obtain ⟨u, hu, ru⟩ := rv.get hx
    obtain ⟨f0, f1, f2, f3, f4, f5⟩ := hf it (by simp)
    refine wpAny_pyNext_list_item st p.isList (x := u) (by simpa using hu) fun h' st' sb => ?_
    have I1 : Inv X pins σ H { s with heap := h' } := I.turned (t' := s.toks) (fun b o hb e => (sb.2 b hb).trans e) f0 f1 f3 f4 f5
    obtain ⟨o, e, c, d⟩ := id st'
    exact ⟨u, rfl, go_of (s := { s with heap := h' }) e c d (by decide) ⟨x, H, I1, ru, ⟨rfl, fun ys hy => by rw [I.list_inj hy hq]; exact hx⟩, st', fun b hb => (hf b hb).1⟩⟩
  done := by
    intro X hP hw hK hc i pins s σ H E I hf st hg
    subst hP hw hK
    obtain ⟨xs, hq, hx⟩ := hg
    obtain ⟨its, rv, p, hz⟩ := I.list hq
    obtain ⟨f0, f1, f2, f3, f4, f5⟩ := hf it (by simp)
    have hl := rv.length
    exact wpAny_pyNext_list_end (I.ok.hd hc) st p.isList (by simp; omega) fun h' eb => ⟨rfl, I.turned (t' := s.toks) (fun b o hb e => eb b o hb e) f0 f1 f3 f4 f5⟩
  self := fun _ _ _ _ _ st h => wpAny_pyIter_listiter st h
theorem turn_range {P : Program} {w : World} {K : PySem.W.Frag} {tg : Expr} (it : Addr) (lo : Int) (n : Nat) : Turn P w K tg (Itr lo n) [it] it (fun i h => IsRangeIter h it (lo + (i : Nat) * 1) ((n : Int) - (i : Nat)) 1) where
  mem := by simp
  obj := fun i h st b hb => by
    have e : b = it := by simpa using hb
    subst e
    exact ⟨_, st, fun v z => by
      have z' : Data.fields _ = Data.cell v := z
      cases z'⟩
  keep := fun i h h' st k => k it (by simp) _ st
  item := by
    intro X hP hw hK hc i pins s σ H E I hf st hg
    subst hP hw hK
    obtain ⟨f0, f1, f2, f3, f4, f5⟩ := hf it (by simp)
    have W := Walks.range (prog := X.prog) (w := X.w) (I.ok.hd hc) it lo 1 n
    refine W.item i s _ _ hg st fun v h' tk hv st' kk => ?_
    obtain ⟨t, rfl⟩ := hv
    have I1 : Inv X pins σ H { s with heap := h', toks := tk } := I.turned (fun b o hb e => kk b o (by simpa using hb) e) f0 f1 f3 f4 f5
    refine ⟨_, rfl, go_of (s := { s with heap := h', toks := tk }) (n := "range_iterator") st' rfl rfl (by decide) ⟨.int (lo + i), H, I1, ⟨t, ?_⟩, ⟨rfl, rfl⟩, st', fun b hb => (hf b hb).1⟩⟩
    rw [Int.mul_one]
  done := by
    intro X hP hw hK hc i pins s σ H E I hf st hg
    subst hP hw hK
    obtain ⟨f0, f1, f2, f3, f4, f5⟩ := hf it (by simp)
    exact wpAny_pyNext_range_end (I.ok.hd hc) st (by have : n ≤ i := hg; omega) fun h' eb => ⟨rfl, I.turned (t' := s.toks) (fun b o hb e => eb b o hb e) f0 f1 f3 f4 f5⟩
  self := fun _ _ _ _ _ st h => wpAny_pyIter_rangeiter st h
end L2

namespace L2
open PySem PySem.Spec PyProof.Rows
section
variable {X : Cx} {tg : Expr}
def iList (K : PySem.W.Frag) (tl : TE) : TI := fun σ H R => tl σ H fun x H1 => ∃ a, x = .ref a ∧ (∃ xs, SqL K H1 a xs) ∧ R (Itl K a) H1
theorem pi_list {l : Expr} {tl : TE} (hl : PE X l tl) : PI X tg l (iList X.K tl) := by
  intro pins s σ H R I h
  refine thn (hl pins s σ H _ I h) fun v s1 ⟨x, H1, I1, r1, q1⟩ => ?_
  obtain ⟨a, e, ⟨xs, hq⟩, q⟩ := q1
  subst e
  cases r1
  obtain ⟨its, rv, p, hz⟩ := I1.list hq
  refine wpAny_pyIter_list p.isList ?_
  refine ⟨s1.heap.objs.size, [s1.heap.objs.size], _, _, H1, rfl, I1.kept (t' := s1.toks) fun b o e => Heap.get?_push_of_some _ e, turn_list a _, ⟨_, Heap.get?_push_size _ rfl, rfl, rfl⟩, fun b hb => ?_, q⟩
  have e : b = s1.heap.objs.size := by simpa using hb
  subst e
  exact I1.fpOk (Nat.le_refl _) (I1.hok.fresh (Nat.le_refl _))
/-- a range object just made, walked -/
theorem range_it {pins : List (Addr × Obj)} {σ : St} {H : Hp} {s : Shared} {R : It → Hp → Prop} {E : Value → Shared → Prop} {lo hi : Int} {t u v : Tok} {tk : Nat} (I : Inv X pins σ H s) (h1 : -(2 ^ 62) ≤ lo) (h2 : lo < 2 ^ 62) (h3 : -(2 ^ 62) ≤ hi) (h4 : hi < 2 ^ 62)
    (q : R (Itr lo (hi - lo).toNat) H) : wpAny (model X.prog X.w) X.A (pyIter (.ref s.heap.objs.size)) (PIE X pins σ tg R) E { s with heap := s.heap.push { cls := .type "range", data := .fields #[.int lo t, .int hi u, .int 1 v] }, toks := tk } := by
  refine wpAny_pyIter_range (IsRange.new ..) (small_one h1 h2 h3 h4) ?_
  have I1 : Inv X pins σ H { s with heap := s.heap.push { cls := .type "range", data := .fields #[.int lo t, .int hi u, .int 1 v] }, toks := tk } := I.kept fun b o e => Heap.get?_push_of_some _ e
  refine ⟨(s.heap.push { cls := .type "range", data := .fields #[.int lo t, .int hi u, .int 1 v] }).objs.size, [(s.heap.push { cls := .type "range", data := .fields #[.int lo t, .int hi u, .int 1 v] }).objs.size], _, _, H, rfl,
    I1.kept (t' := tk) fun b o e => Heap.get?_push_of_some _ e, turn_range _ lo (hi - lo).toNat, ?_, fun b hb => ?_, q⟩
  · have e1 : lo + ((0 : Nat) : Int) * 1 = lo := by simp
    have e2 : (((hi - lo).toNat : Nat) : Int) - ((0 : Nat) : Int) = Builtin.Range.rangeSize lo hi 1 := by rw [rangeSize_one]; split <;> omega
    show IsRangeIter _ _ (lo + ((0 : Nat) : Int) * 1) ((((hi - lo).toNat : Nat) : Int) - ((0 : Nat) : Int)) 1
    rw [e1, e2]
    exact Heap.get?_push_size _ rfl
  · have e : b = (s.heap.push { cls := .type "range", data := .fields #[.int lo t, .int hi u, .int 1 v] }).objs.size := by simpa using hb
    subst e
    exact I1.fpOk (Nat.le_refl _) (I1.hok.fresh (Nat.le_refl _))
def iRng1 (ta : TA) : TI := fun σ H R => ta σ H fun vs H1 => ∃ j : Int, vs = [.int j] ∧ -(2 ^ 62) ≤ j ∧ j < 2 ^ 62 ∧ R (Itr 0 j.toNat) H1
theorem pi_range1 {a : Expr} {ta : TA} {p pos : Pos} (hg : Gl X "range") (hm : X.mg "range" = none) (ha : PA X [a] ta) (hs : starEach [a] X.env = [(false, eval a X.env)] := by rfl) : PI X tg (.Call (.Name "range" p) [a] [] pos) (iRng1 ta) := by
  intro pins s σ H R I h
  refine Call_ (ld_blt I hg hm boot_range (PyProof.Rows.callWith_type1 (thn (ha pos pins s σ H _ I h) fun us s1 ⟨vs, H1, I1, r1, q1⟩ => ?_) hs rfl))
  obtain ⟨j, e, q1, q2, q⟩ := q1
  subst e
  cases r1 with
  | cons r rr =>
    cases rr
    obtain ⟨t, rfl⟩ := r
    exact call_range_1 (range_it I1 (by omega) (by omega) q1 q2 (by simpa using q))

/-! ### for -/
/-- W: the invariant by the turn and a measure; N: what the body is to reach -/
def tFor (wi : TI) (g : TG) (tb : TS) : TS := fun D σ H => wi σ H fun J H1 => ∃ W : Nat → Nat → St → Hp → Prop, (∃ m, W 0 m σ H1) ∧ ∀ i m σ H, W i m σ H →
  (J.stop i H ∧ D.nx σ H) ∨ (J.go i H ∧ ∃ N : St → Hp → Prop, (∀ σ' H', N σ' H' → ∃ m', m' < m ∧ W (i + 1) m' σ' H') ∧ ∀ x H', J.yld i H x H' → g x σ H' fun σ2 H2 => tb { D with nx := N, ct := N, bk := D.nx } σ2 H2)
/-- the records at fp as they stand -/
def pinsAt (fp : List Addr) (h : Heap) : List (Addr × Obj) := fp.filterMap fun b => (h.get? b).map fun o => (b, o)
theorem mem_pinsAt {fp : List Addr} {h : Heap} {b : Addr} {o : Obj} (hb : b ∈ fp) (e : h.get? b = some o) : (b, o) ∈ pinsAt fp h := List.mem_filterMap.mpr ⟨b, hb, by rw [e]; rfl⟩
theorem of_pinsAt {fp : List Addr} {h : Heap} {p : Addr × Obj} (hp : p ∈ pinsAt fp h) : p.1 ∈ fp ∧ h.get? p.1 = some p.2 := by
  obtain ⟨b, hb, e⟩ := List.mem_filterMap.mp hp
  cases q : h.get? b with
  | none => rw [q] at e; cases e
  | some o =>
    rw [q] at e
    have e' : (b, o) = p := Option.some.inj e
    subst e'
    exact ⟨hb, q⟩
theorem Inv.pinned {pins : List (Addr × Obj)} {σ : St} {H : Hp} {s : Shared} {fp : List Addr} (I : Inv X pins σ H s) (hf : ∀ b ∈ fp, FpOk X pins H b) (ho : ∀ b ∈ fp, ∃ o, s.heap.get? b = some o ∧ ∀ v, o.data ≠ .cell v) : Inv X (pins ++ pinsAt fp s.heap) σ H s :=
  I.pins_of fun p hp => (List.mem_append.mp hp).elim (fun z => I.pin p (List.mem_append_right _ z)) fun z => by
    obtain ⟨hb, e⟩ := of_pinsAt z
    obtain ⟨f0, f1, f2, _⟩ := hf p.1 hb
    obtain ⟨o, e', d⟩ := ho p.1 hb
    rw [e] at e'; cases e'
    exact ⟨e, f0, f1, f2, d⟩
theorem Inv.unpinned {pins pl : List (Addr × Obj)} {σ : St} {H : Hp} {s : Shared} (I : Inv X (pins ++ pl) σ H s) : Inv X pins σ H s := I.pins_of fun p hp => I.pin p (List.mem_append_right _ (List.mem_append_left _ hp))
theorem ps_for {iter : Expr} {body : List Stmt} {wi : TI} {g : TG} {tb : TS} {pos : Pos} (hp : PassesOwn (model X.prog X.w) X.A X.env X.xe) (hc : X.calm = true) (hi : PI X tg iter wi) (hg : PG X tg g) (hb : PSs X body tb)
    (hs : ∀ x, foldedSetIterable iter X.env x = pure x := by intro _; rfl) : PS X (.For tg iter body [] pos) (tFor wi g tb) := by
  intro pins s σ H D I h
  refine wpAny_For (thn (hi pins s σ H _ I h) fun v s1 h1 => thn h1 fun itv s2 h2 => ?_) hs
  obtain ⟨it, fp, tn, J, H2, e, I2, T, st2, f2, W, ⟨m0, w0⟩, turn⟩ := h2
  subst e
  -- what stays true of the iterator's objects through the loop
  have stat : ∀ {H' : Hp}, (∀ b ∈ fp, H' b = none) → ∀ b ∈ fp, FpOk X pins H' b := fun hn b hb => ⟨hn b hb, (f2 b hb).2⟩
  refine codeAny_forLoop_any (fun n s' => ∃ i σ' H', Inv X pins σ' H' s' ∧ tn i s'.heap ∧ (∀ b ∈ fp, H' b = none) ∧ W i n σ' H') ?_ m0 ⟨0, σ, H2, I2, st2, fun b hb => (f2 b hb).1, w0⟩
  rintro n s3 ⟨i, σ3, H3, I3, st3, fr3, w3⟩
  rcases turn i n σ3 H3 w3 with ⟨stop, qn⟩ | ⟨go, N, hN, step⟩
  · refine wpAny_passesOwn hp (thn (T.done X rfl rfl rfl hc i pins s3 σ3 H3 X.xe I3 (stat fr3) st3 stop) fun r s4 ⟨hr, I4⟩ => ?_)
    subst hr
    exact wpAny_execs_nil ⟨σ3, H3, I4, qn⟩
  · refine wpAny_passesOwn hp (thn (T.item X rfl rfl rfl hc i pins s3 σ3 H3 X.xe I3 (stat fr3) st3 go) fun r s4 ⟨u, hr, h4⟩ => ?_)
    subst hr
    refine wpAny_passesOwn hp (thn h4 fun _ s5 ⟨x, H5, I5, r5, y5, st5, fr5⟩ => ?_)
    have I5' := I5.pinned (stat fr5) (T.obj _ _ st5)
    refine wpAny_passesOwn hp (thn (hg _ s5 σ3 H5 x u _ I5' r5 (step x H5 y5)) fun _ s6 ⟨σ6, H6, I6, q6⟩ => ?_)
    refine wpAny_passesOwn hp (thn (hb _ s6 σ6 H6 _ I6 q6) fun f s7 q7 => ?_)
    have again : ∀ {σ7 : St} {H7 : Hp}, Inv X (pins ++ pinsAt fp s5.heap) σ7 H7 s7 → N σ7 H7 → ∃ m, m < n ∧ ∃ i σ' H', Inv X pins σ' H' s7 ∧ tn i s7.heap ∧ (∀ b ∈ fp, H' b = none) ∧ W i m σ' H' := fun {σ7 H7} I7 n7 => by
      obtain ⟨m', hm, w7⟩ := hN σ7 H7 n7
      refine ⟨m', hm, i + 1, σ7, H7, I7.unpinned, T.keep _ _ _ st5 fun b hb o e => (I7.pin (b, o) (List.mem_append_right _ (List.mem_append_right _ (mem_pinsAt hb e)))).1, fun b hb => ?_, w7⟩
      obtain ⟨o, e, d⟩ := T.obj _ _ st5 b hb
      exact (I7.pin (b, o) (List.mem_append_right _ (List.mem_append_right _ (mem_pinsAt hb e)))).2.1
    cases f with
    | next => obtain ⟨σ7, H7, I7, n7⟩ := q7; exact again I7 n7
    | cont => obtain ⟨σ7, H7, I7, n7⟩ := q7; exact again I7 n7
    | brk => obtain ⟨σ7, H7, I7, q7⟩ := q7; exact ⟨σ7, H7, I7.unpinned, q7⟩
    | ret v => obtain ⟨x7, σ7, H7, I7, r7, q7⟩ := q7; exact ⟨x7, σ7, H7, I7.unpinned, r7, q7⟩
end

/-! ### the forms one uses -/
/-- over a list that the body leaves as it is -/
theorem for_list {K : PySem.W.Frag} {a : Addr} {xs : List V} {g : TG} {tb : TS} {D : Ends} {σ : St} {H : Hp} (Pv : Nat → St → Hp → Prop) (h0 : Pv 0 σ H) (hl : ∀ i σ H, i ≤ xs.length → Pv i σ H → SqL K H a xs)
    (hs : ∀ i x σ H, xs[i]? = some x → Pv i σ H → g x σ H fun σ2 H2 => tb { D with nx := Pv (i + 1), ct := Pv (i + 1), bk := D.nx } σ2 H2) (hd : ∀ σ H, Pv xs.length σ H → D.nx σ H) :
    ∃ W : Nat → Nat → St → Hp → Prop, (∃ m, W 0 m σ H) ∧ ∀ i m σ H, W i m σ H →
      ((Itl K a).stop i H ∧ D.nx σ H) ∨ ((Itl K a).go i H ∧ ∃ N : St → Hp → Prop, (∀ σ' H', N σ' H' → ∃ m', m' < m ∧ W (i + 1) m' σ' H') ∧ ∀ x H', (Itl K a).yld i H x H' → g x σ H' fun σ2 H2 => tb { D with nx := N, ct := N, bk := D.nx } σ2 H2) := by
  refine ⟨fun i m σ H => m = xs.length - i ∧ i ≤ xs.length ∧ Pv i σ H, ⟨xs.length, by simp, Nat.zero_le _, h0⟩, ?_⟩
  rintro i m σ H ⟨rfl, hi, p⟩
  have q := hl i σ H hi p
  by_cases hlt : i < xs.length
  · refine .inr ⟨⟨xs, xs[i], q, by simp [hlt]⟩, Pv (i + 1), fun σ' H' p' => ⟨xs.length - (i + 1), by omega, rfl, hlt, p'⟩, fun x H' y => ?_⟩
    obtain ⟨e, y⟩ := y
    subst e
    exact hs i x σ _ (y xs q) p
  · have e : i = xs.length := by omega
    subst e
    exact .inl ⟨⟨xs, q, Nat.le_refl _⟩, hd σ H p⟩
theorem for_range {lo : Int} {n : Nat} {g : TG} {tb : TS} {D : Ends} {σ : St} {H : Hp} (Pv : Nat → St → Hp → Prop) (h0 : Pv 0 σ H)
    (hs : ∀ i σ H, i < n → Pv i σ H → g (.int (lo + i)) σ H fun σ2 H2 => tb { D with nx := Pv (i + 1), ct := Pv (i + 1), bk := D.nx } σ2 H2) (hd : ∀ σ H, Pv n σ H → D.nx σ H) :
    ∃ W : Nat → Nat → St → Hp → Prop, (∃ m, W 0 m σ H) ∧ ∀ i m σ H, W i m σ H →
      ((Itr lo n).stop i H ∧ D.nx σ H) ∨ ((Itr lo n).go i H ∧ ∃ N : St → Hp → Prop, (∀ σ' H', N σ' H' → ∃ m', m' < m ∧ W (i + 1) m' σ' H') ∧ ∀ x H', (Itr lo n).yld i H x H' → g x σ H' fun σ2 H2 => tb { D with nx := N, ct := N, bk := D.nx } σ2 H2) := by
  refine ⟨fun i m σ H => m = n - i ∧ i ≤ n ∧ Pv i σ H, ⟨n, by simp, Nat.zero_le _, h0⟩, ?_⟩
  rintro i m σ H ⟨rfl, hi, p⟩
  by_cases hlt : i < n
  · refine .inr ⟨hlt, Pv (i + 1), fun σ' H' p' => ⟨n - (i + 1), by omega, rfl, hlt, p'⟩, fun x H' y => ?_⟩
    obtain ⟨e, y⟩ := y
    subst e y
    exact hs i σ _ hlt p
  · have e : i = n := by omega
    subst e
    exact .inl ⟨Nat.le_refl _, hd σ H p⟩
end L2

namespace L2
open PySem PySem.Spec PyProof.Rows

abbrev R2 := V → V → Hp → VK → Prop
/-- a two-place operation on values: f is binaryOp op, inplaceOp op or compareOp op -/
def OpR (X : Cx) (f : Value → Value → Sem Value) (r : R2) : Prop :=
  ∀ (pins : List (Addr × Obj)) (s : Shared) (σ : St) (H : Hp) (x y : V) (v u : Value) (Q : VK), Inv X pins σ H s → RelV x v → RelV y u → r x y H Q →
    wpAny (model X.prog X.w) X.A (f v u) (EP X pins σ Q) X.xe s
/-- a one-place operation -/
def UnR (X : Cx) (f : Value → Sem Value) (r : V → Hp → VK → Prop) : Prop :=
  ∀ (pins : List (Addr × Obj)) (s : Shared) (σ : St) (H : Hp) (x : V) (v : Value) (Q : VK), Inv X pins σ H s → RelV x v → r x H Q →
    wpAny (model X.prog X.w) X.A (f v) (EP X pins σ Q) X.xe s
/-- a call of a value that is known (a builtin, a type) with values -/
def CallR (X : Cx) (f : Value) (r : List V → Hp → VK → Prop) : Prop :=
  ∀ (pins : List (Addr × Obj)) (s : Shared) (σ : St) (H : Hp) (xs : List V) (us : List Value) (Q : VK), Inv X pins σ H s → Vals xs us → r xs H Q →
    wpAny (model X.prog X.w) X.A (call f us) (EP X pins σ Q) X.xe s

def tOp (r : R2) (ta tb : TE) : TE := fun σ H Q => ta σ H fun x H1 => tb σ H1 fun y H2 => r x y H2 Q
def tUn (r : V → Hp → VK → Prop) (ta : TE) : TE := fun σ H Q => ta σ H fun x H1 => r x H1 Q
/-- ints in, under C, and a value out -/
def rI (C : Int → Int → Prop) (g : Int → Int → V) : R2 := fun x y H Q => ∃ i j, x = .int i ∧ y = .int j ∧ C i j ∧ Q (g i j) H
def rI0 (g : Int → Int → V) : R2 := fun x y H Q => ∃ i j, x = .int i ∧ y = .int j ∧ Q (g i j) H
def rU (g : Int → V) : V → Hp → VK → Prop := fun x H Q => ∃ i, x = .int i ∧ Q (g i) H

section
variable {X : Cx} {a b c : Expr} {ta tb tc : TE} {pos : Pos}

theorem binT (ha : PE X a ta) (hb : PE X b tb) {pins : List (Addr × Obj)} {s : Shared} {σ : St} {H : Hp} {R : V → V → Hp → Prop} (I : Inv X pins σ H s)
    (h : ta σ H fun x H1 => tb σ H1 fun y H2 => R x y H2) {Q : Value → Shared → Prop} {f : Value → Value → Sem Value}
    (hf : ∀ v u s2 x y H2, Inv X pins σ H2 s2 → RelV x v → RelV y u → R x y H2 → wpAny (model X.prog X.w) X.A (f v u) Q X.xe s2) :
    wpAny (model X.prog X.w) X.A (eval a X.env) (fun v s₁ => wpAny (model X.prog X.w) X.A (eval b X.env) (fun u s₂ => wpAny (model X.prog X.w) X.A (f v u) Q X.xe s₂) X.xe s₁) X.xe s := by
  refine thn (ha pins s σ H _ I h) fun v s1 ⟨x, H1, I1, r1, q1⟩ => ?_
  refine thn (hb pins s1 σ H1 _ I1 q1) fun u s2 ⟨y, H2, I2, r2, q2⟩ => ?_
  exact hf v u s2 x y H2 I2 r1 r2 q2

theorem pe_op {op : Operator} {r : R2} (ho : OpR X (binaryOp op) r) (ha : PE X a ta) (hb : PE X b tb) : PE X (.BinOp a op b pos) (tOp r ta tb) := by
  intro pins s σ H Q I h
  exact wpAny_BinOp (binT ha hb I h fun v u s2 x y H2 I2 rx ry q => ho pins s2 σ H2 x y v u Q I2 rx ry q)
theorem pe_un {op : UnaryOp} {r : V → Hp → VK → Prop} (ho : UnR X (unaryOp op) r) (ha : PE X a ta) : PE X (.UnaryOp op a pos) (tUn r ta) := by
  intro pins s σ H Q I h
  exact UnaryOp_ (thn (ha pins s σ H _ I h) fun v s1 ⟨x, H1, I1, r1, q1⟩ => ho pins s1 σ H1 x v Q I1 r1 q1)

/-! ### ints -/
theorem opI {f : Value → Value → Sem Value} {C : Int → Int → Prop} {g : Int → Int → Int}
    (rule : ∀ (i j : Int) (t u : Tok) (s : Shared) (Q : Value → Shared → Prop) (E : Value → Shared → Prop), C i j → Q (.int (g i j) s.toks) { s with toks := s.toks + 1 } → wpAny (model X.prog X.w) X.A (f (.int i t) (.int j u)) Q E s) :
    OpR X f (rI C fun i j => .int (g i j)) := by
  intro pins s σ H x y v u Q I rx ry h
  obtain ⟨i, j, rfl, rfl, hc, q⟩ := h
  obtain ⟨t, rfl⟩ := rx
  obtain ⟨t', rfl⟩ := ry
  exact rule i j t t' s _ _ hc ⟨.int (g i j), H, I.tok _, ⟨_, rfl⟩, q⟩
theorem opI0 {f : Value → Value → Sem Value} {g : Int → Int → Int}
    (rule : ∀ (i j : Int) (t u : Tok) (s : Shared) (Q : Value → Shared → Prop) (E : Value → Shared → Prop), Q (.int (g i j) s.toks) { s with toks := s.toks + 1 } → wpAny (model X.prog X.w) X.A (f (.int i t) (.int j u)) Q E s) :
    OpR X f (rI0 fun i j => .int (g i j)) := by
  intro pins s σ H x y v u Q I rx ry h
  obtain ⟨i, j, rfl, rfl, q⟩ := h
  obtain ⟨t, rfl⟩ := rx
  obtain ⟨t', rfl⟩ := ry
  exact rule i j t t' s _ _ ⟨.int (g i j), H, I.tok _, ⟨_, rfl⟩, q⟩
theorem opB0 {f : Value → Value → Sem Value} {g : Int → Int → Bool}
    (rule : ∀ (i j : Int) (t u : Tok) (s : Shared) (Q : Value → Shared → Prop) (E : Value → Shared → Prop), Q (.bool (g i j)) s → wpAny (model X.prog X.w) X.A (f (.int i t) (.int j u)) Q E s) :
    OpR X f (rI0 fun i j => .bl (g i j)) := by
  intro pins s σ H x y v u Q I rx ry h
  obtain ⟨i, j, rfl, rfl, q⟩ := h
  obtain ⟨t, rfl⟩ := rx
  obtain ⟨t', rfl⟩ := ry
  exact rule i j t t' s _ _ ⟨.bl (g i j), H, I, rfl, q⟩

def CDiv (i j : Int) : Prop := 0 < j ∧ j < 1073741824
def CPow (i j : Int) : Prop := 0 ≤ j ∧ j ≤ 1000000 ∧ i.natAbs < 2 ^ 64
def CMul (i j : Int) : Prop := (-(2 ^ 64) < i ∧ i < 2 ^ 64) ∨ (-(2 ^ 64) < j ∧ j < 2 ^ 64)
theorem CMul.ok {i j : Int} (h : CMul i j) : IntMulOk i j := by
  rcases h with ⟨h1, h2⟩ | ⟨h1, h2⟩
  · exact .of_left (intBits_le_64 h1 h2)
  · exact .of_right (intBits_le_64 h1 h2)
theorem two_pow_nn (k : Nat) : (0 : Int) ≤ 2 ^ k := by
  rw [two_pow_cast]
  exact Int.natCast_nonneg _

theorem op_add : OpR X (binaryOp .Add) (rI0 fun i j => .int (i + j)) := opI0 fun _ _ _ _ _ _ _ q => add_int q
theorem op_sub : OpR X (binaryOp .Sub) (rI0 fun i j => .int (i - j)) := opI0 fun _ _ _ _ _ _ _ q => sub_int q
theorem op_mul : OpR X (binaryOp .Mult) (rI CMul fun i j => .int (i * j)) := opI fun _ _ _ _ _ _ _ hc q => mul_int q hc.ok
/-- // by a positive divisor -/
theorem op_fdiv : OpR X (binaryOp .FloorDiv) (rI CDiv fun i j => .int (i / j)) := opI fun i j _ _ _ _ _ hc q => by
  have h1 : (0 : Int) < j := hc.1
  have h2 : j < 1073741824 := hc.2
  exact floordiv_int (by omega) (by rw [Int.fdiv_eq_ediv_of_nonneg i (by omega)]; exact q) (.inl (PyProof.noPylong_small (by omega)))
/-- % by a positive divisor of any size -/
theorem op_mod : OpR X (binaryOp .Mod) (rI (fun _ j => 0 < j) fun i j => .int (i % j)) := opI fun i j _ _ _ _ _ hc q => by
  have h1 : (0 : Int) < j := hc
  exact mod_int' (by omega) (by rw [Int.fmod_eq_emod_of_nonneg i (by omega)]; exact q)
theorem op_pow : OpR X (binaryOp .Pow) (rI CPow fun i j => .int (i ^ j.toNat)) := opI fun _ _ _ _ _ _ _ hc q => pow_int_small hc.1 hc.2.1 hc.2.2 q
theorem op_shl : OpR X (binaryOp .LShift) (rI CPow fun i j => .int (i * 2 ^ j.toNat)) := opI fun _ _ _ _ _ _ _ hc q => lshift_int_small hc.1 hc.2.1 hc.2.2 q
theorem op_shr : OpR X (binaryOp .RShift) (rI (fun _ j => 0 ≤ j) fun i j => .int (i / 2 ^ j.toNat)) := opI fun i j _ _ _ _ _ hc q =>
  rshift_int hc (by rw [Int.fdiv_eq_ediv_of_nonneg i (two_pow_nn _)]; exact q)


theorem unI {f : Value → Sem Value} {g : Int → Int}
    (rule : ∀ (i : Int) (t : Tok) (s : Shared) (Q : Value → Shared → Prop) (E : Value → Shared → Prop), Q (.int (g i) s.toks) { s with toks := s.toks + 1 } → wpAny (model X.prog X.w) X.A (f (.int i t)) Q E s) :
    UnR X f (rU fun i => .int (g i)) := by
  intro pins s σ H x v Q I rx h
  obtain ⟨i, rfl, q⟩ := h
  obtain ⟨t, rfl⟩ := rx
  exact rule i t s _ _ ⟨.int (g i), H, I.tok _, ⟨_, rfl⟩, q⟩
theorem un_neg : UnR X (unaryOp .USub) (rU fun i => .int (-i)) := unI fun _ _ _ _ _ q => neg_int q

/-! ### bools among ints: n += (a < b) -/
end

/-! ### comparisons -/
/-- the scalars that == tells apart as data does -/
def scal : V → V → Bool
  | .non, .non => true | .non, .int _ => true | .int _, .non => true | .non, .bl _ => true | .bl _, .non => true | .non, .str _ => true | .str _, .non => true
  | .int _, .int _ => true | .bl _, .bl _ => true | .str _, .str _ => true | .byt _, .byt _ => true
  | .int _, .str _ => true | .str _, .int _ => true | .bl _, .str _ => true | .str _, .bl _ => true
  | _, _ => false
def rEq : R2 := fun x y H Q => scal x y = true ∧ Q (.bl (decide (x = y))) H
def rNe : R2 := fun x y H Q => scal x y = true ∧ Q (.bl (!decide (x = y))) H

theorem dec_int {i j : Int} : decide (V.int i = V.int j) = (i == j) := by
  rw [Bool.eq_iff_iff]
  simp
theorem dec_bl {i j : Bool} : decide (V.bl i = V.bl j) = (i == j) := by
  rw [Bool.eq_iff_iff]
  simp
theorem dec_str {i j : Str} : decide (V.str i = V.str j) = (i == j) := by
  rw [Bool.eq_iff_iff]
  simp
theorem dec_byt {i j : Array UInt8} : decide (V.byt i = V.byt j) = (i.toList == j.toList) := by
  rw [Bool.eq_iff_iff]
  cases i
  cases j
  simp

section
variable {X : Cx} {a b c : Expr} {ta tb tc : TE} {pos : Pos}
theorem fin_bl {pins : List (Addr × Obj)} {σ : St} {H : Hp} {s : Shared} {Q : VK} {k k' : Bool} (I : Inv X pins σ H s) (q : Q (.bl k) H) (e : k = k') : EP X pins σ Q (.bool k') s := by
  subst e
  exact ⟨.bl k, H, I, rfl, q⟩
theorem op_eq : OpR X (compareOp .Eq) rEq := by
  intro pins s σ H x y v u Q I rx ry h
  obtain ⟨hs, q⟩ := h
  cases x with
  | non =>
    cases rx
    cases y with
    | non => cases ry; exact PySem.EqNone.eq_none_none (fin_bl I q (by simp))
    | bl j => cases ry; exact PySem.EqNone.eq_none_bool (fin_bl I q (by simp))
    | int j => obtain ⟨t', rfl⟩ := ry; exact PySem.EqNone.eq_none_int (fin_bl I q (by simp))
    | str j => obtain ⟨t', rfl⟩ := ry; exact PySem.EqNone.eq_none_str (fin_bl I q (by simp))
    | _ => exact absurd (show false = true from hs) Bool.false_ne_true
  | bl i =>
    cases rx
    cases y with
    | non => cases ry; exact PySem.EqNone.eq_bool_none (fin_bl I q (by simp))
    | bl j => cases ry; exact eq_bool (fin_bl I q dec_bl)
    | str j => obtain ⟨t', rfl⟩ := ry; exact PySem.EqMixed.eq_bool_str (fin_bl I q (by simp))
    | _ => exact absurd (show false = true from hs) Bool.false_ne_true
  | int i =>
    obtain ⟨t, rfl⟩ := rx
    cases y with
    | non => cases ry; exact PySem.EqNone.eq_int_none (fin_bl I q (by simp))
    | int j => obtain ⟨t', rfl⟩ := ry; exact eq_int (fin_bl I q dec_int)
    | str j => obtain ⟨t', rfl⟩ := ry; exact PySem.EqMixed.eq_int_str (fin_bl I q (by simp))
    | _ => exact absurd (show false = true from hs) Bool.false_ne_true
  | str i =>
    obtain ⟨t, rfl⟩ := rx
    cases y with
    | non => cases ry; exact PySem.EqNone.eq_str_none (fin_bl I q (by simp))
    | bl j => cases ry; exact PySem.EqMixed.eq_str_bool (fin_bl I q (by simp))
    | int j => obtain ⟨t', rfl⟩ := ry; exact PySem.EqMixed.eq_str_int (fin_bl I q (by simp))
    | str j => obtain ⟨t', rfl⟩ := ry; exact eq_str (fin_bl I q dec_str)
    | _ => exact absurd (show false = true from hs) Bool.false_ne_true
  | byt i =>
    obtain ⟨t, rfl⟩ := rx
    cases y with
    | byt j => obtain ⟨t', rfl⟩ := ry; exact PySem.W.eq_bytes (fin_bl I q dec_byt)
    | _ => exact absurd (show false = true from hs) Bool.false_ne_true
  | _ => cases y <;> exact absurd (show false = true from hs) Bool.false_ne_true
theorem op_ne : OpR X (compareOp .NotEq) rNe := by
  intro pins s σ H x y v u Q I rx ry h
  obtain ⟨hs, q⟩ := h
  cases x with
  | non =>
    cases rx
    cases y with
    | non => cases ry; exact PySem.EqNone.ne_none_none (fin_bl I q (by simp))
    | bl j => cases ry; exact PySem.EqNone.ne_none_bool (fin_bl I q (by simp))
    | int j => obtain ⟨t', rfl⟩ := ry; exact PySem.EqNone.ne_none_int (fin_bl I q (by simp))
    | str j => obtain ⟨t', rfl⟩ := ry; exact PySem.EqNone.ne_none_str (fin_bl I q (by simp))
    | _ => exact absurd (show false = true from hs) Bool.false_ne_true
  | bl i =>
    cases rx
    cases y with
    | non => cases ry; exact PySem.EqNone.ne_bool_none (fin_bl I q (by simp))
    | bl j => cases ry; exact ne_bool (fin_bl I q (congrArg not dec_bl))
    | str j => obtain ⟨t', rfl⟩ := ry; exact PySem.EqMixed.ne_bool_str (fin_bl I q (by simp))
    | _ => exact absurd (show false = true from hs) Bool.false_ne_true
  | int i =>
    obtain ⟨t, rfl⟩ := rx
    cases y with
    | non => cases ry; exact PySem.EqNone.ne_int_none (fin_bl I q (by simp))
    | int j => obtain ⟨t', rfl⟩ := ry; exact ne_int (fin_bl I q (congrArg not dec_int))
    | str j => obtain ⟨t', rfl⟩ := ry; exact PySem.EqMixed.ne_int_str (fin_bl I q (by simp))
    | _ => exact absurd (show false = true from hs) Bool.false_ne_true
  | str i =>
    obtain ⟨t, rfl⟩ := rx
    cases y with
    | non => cases ry; exact PySem.EqNone.ne_str_none (fin_bl I q (by simp))
    | bl j => cases ry; exact PySem.EqMixed.ne_str_bool (fin_bl I q (by simp))
    | int j => obtain ⟨t', rfl⟩ := ry; exact PySem.EqMixed.ne_str_int (fin_bl I q (by simp))
    | str j => obtain ⟨t', rfl⟩ := ry; exact ne_str (fin_bl I q (congrArg not dec_str))
    | _ => exact absurd (show false = true from hs) Bool.false_ne_true
  | byt i =>
    obtain ⟨t, rfl⟩ := rx
    cases y with
    | byt j => obtain ⟨t', rfl⟩ := ry; exact PySem.W.ne_bytes (fin_bl I q (congrArg not dec_byt))
    | _ => exact absurd (show false = true from hs) Bool.false_ne_true
  | _ => cases y <;> exact absurd (show false = true from hs) Bool.false_ne_true

theorem op_lt : OpR X (compareOp .Lt) (rI0 fun i j => .bl (decide (i < j))) := opB0 fun _ _ _ _ _ _ _ q => lt_int q
theorem op_le : OpR X (compareOp .LtE) (rI0 fun i j => .bl (decide (i ≤ j))) := opB0 fun _ _ _ _ _ _ _ q => le_int q
theorem op_gt : OpR X (compareOp .Gt) (rI0 fun i j => .bl (decide (j < i))) := opB0 fun _ _ _ _ _ _ _ q => gt_int q
theorem op_ge : OpR X (compareOp .GtE) (rI0 fun i j => .bl (decide (j ≤ i))) := opB0 fun _ _ _ _ _ _ _ q => ge_int q

/-- is None, is not None: the right side a value none -/
theorem op_isN : OpR X (compareOp .Is) (fun x y H Q => y = .non ∧ Q (.bl (decide (x = .non))) H) := by
  intro pins s σ H x y v u Q I rx ry h
  obtain ⟨rfl, q⟩ := h
  cases ry
  refine is_none_gen (fin_bl I q ?_)
  cases x <;> first
    | (cases rx; rfl)
    | (obtain ⟨t, rfl⟩ := rx; rfl)
theorem op_notN : OpR X (compareOp .IsNot) (fun x y H Q => y = .non ∧ Q (.bl (!decide (x = .non))) H) := by
  intro pins s σ H x y v u Q I rx ry h
  obtain ⟨rfl, q⟩ := h
  cases ry
  refine isnot_none_gen (fin_bl I q ?_)
  cases x <;> first
    | (cases rx; rfl)
    | (obtain ⟨t, rfl⟩ := rx; rfl)



theorem nomark (b : Expr) {op : CmpOp} (h : op ≠ .In := by decide) (h2 : op ≠ .NotIn := by decide) : behindInMarks op b = false := by
  have e1 : (op == CmpOp.In) = false := by cases op <;> first | rfl | exact absurd rfl h
  have e2 : (op == CmpOp.NotIn) = false := by cases op <;> first | rfl | exact absurd rfl h2
  cases b <;> simp [behindInMarks, e1, e2]
/-- a comparison as a value; hm: nomark b, or (for in, not in) by with_unfolding_all rfl -/
theorem pe_cmpR {op : CmpOp} {r : R2} (ho : OpR X (compareOp op) r) (ha : PE X a ta) (hb : PE X b tb) (hm : behindInMarks op b = false) : PE X (.Compare a [op] [b] pos) (tOp r ta tb) := by
  intro pins s σ H Q I h
  exact wpAny_Compare1 (binT ha hb I h fun v u s2 x y H2 I2 rx ry q => ho pins s2 σ H2 x y v u Q I2 rx ry q) hm
/-- a reading of a value as a test -/
def tTest (t : TE) : TT := fun σ H Q => t σ H fun x H' => ∃ k, x = .bl k ∧ Q k H'
theorem pt_cmpR {op : CmpOp} {r : R2} (ho : OpR X (compareOp op) r) (ha : PE X a ta) (hb : PE X b tb) (hm : behindInMarks op b = false) : PT X (.Compare a [op] [b] pos) (tTest (tOp r ta tb)) := by
  intro pins s σ H Q I h
  refine wpAny_isTrue_Compare1 (thn (ha pins s σ H _ I h) fun v s1 ⟨x, H1, I1, r1, q1⟩ => thn (hb pins s1 σ H1 _ I1 q1) fun u s2 ⟨y, H2, I2, r2, q2⟩ =>
    thn (ho pins s2 σ H2 x y v u _ I2 r1 r2 q2) fun c s3 ⟨z, H3, I3, r3, k, e, q3⟩ => ?_) hm
  subst e
  cases r3
  exact wpAny_truthy_bool ⟨H3, I3, q3⟩
/-- a op1 b op2 c -/
def tChain (r r' : R2) (ta tb tc : TE) : TE := fun σ H Q => ta σ H fun x H1 => tb σ H1 fun y H2 => r x y H2 fun z H3 => ∃ k, z = .bl k ∧
  (if k = true then tc σ H3 fun w' H4 => r' y w' H4 Q else Q (.bl false) H3)
theorem pe_chain {op op' : CmpOp} {r r' : R2} (ho : OpR X (compareOp op) r) (ho' : OpR X (compareOp op') r') (ha : PE X a ta) (hb : PE X b tb) (hc : PE X c tc)
    (hm : lastMarks [op, op'] [b, c] = false := by with_unfolding_all rfl) : PE X (.Compare a [op, op'] [b, c] pos) (tChain r r' ta tb tc) := by
  intro pins s σ H Q I h
  refine Compare_chain (thn (ha pins s σ H _ I h) fun v s1 ⟨x, H1, I1, r1, q1⟩ => chain_link (thn (hb pins s1 σ H1 _ I1 q1) fun u s2 ⟨y, H2, I2, r2, q2⟩ =>
    thn (ho pins s2 σ H2 x y v u _ I2 r1 r2 q2) fun d s3 ⟨z, H3, I3, r3, k, e, q3⟩ => ?_)) hm
  subst e
  cases r3
  refine wpAny_truthy_bool ?_
  cases k with
  | false => exact ite_ff ⟨.bl false, H3, I3, rfl, q3⟩
  | true => exact ite_tt (chain_last (thn (hc pins s3 σ H3 _ I3 q3) fun w' s4 ⟨z', H4, I4, r4, q4⟩ => ho' pins s4 σ H4 y z' u w' Q I4 r2 r4 q4))

/-! ### truth -/
theorem line63 : (sizeLine : Nat) < 2 ^ 63 := by rw [sizeLine_eq]; decide

/-! ### strs and bytes -/
theorem op_add_str : OpR X (binaryOp .Add) (fun x y H Q => ∃ i j, x = .str i ∧ y = .str j ∧ i.length + j.length ≤ sizeLine ∧ Q (.str (i ++ j)) H) := by
  intro pins s σ H x y v u Q I rx ry h
  obtain ⟨i, j, rfl, rfl, hz, q⟩ := h
  obtain ⟨t, rfl⟩ := rx
  obtain ⟨t', rfl⟩ := ry
  exact add_str (fun t' tk => ⟨.str (i ++ j), H, I.tok _, ⟨_, rfl⟩, q⟩) hz


/-! ### scalar builtins, by CallR -/
theorem vals1 {x : V} {us : List Value} (r : Vals [x] us) : ∃ u, us = [u] ∧ RelV x u := by
  cases r with
  | cons r1 r2 => cases r2; exact ⟨_, rfl, r1⟩
theorem vals2 {x y : V} {us : List Value} (r : Vals [x, y] us) : ∃ u w', us = [u, w'] ∧ RelV x u ∧ RelV y w' := by
  cases r with
  | cons r1 r2 =>
    cases r2 with
    | cons r3 r4 => cases r4; exact ⟨_, _, rfl, r1, r3⟩
theorem call_min2 (hc : X.calm = true) : CallR X (.builtin "min") (fun xs H Q => ∃ i j, xs = [.int i, .int j] ∧ Q (.int (if j < i then j else i)) H) := by
  intro pins s σ H xs us Q I r h
  obtain ⟨i, j, rfl, q⟩ := h
  obtain ⟨u, w', rfl, ⟨t, rfl⟩, ⟨t', rfl⟩⟩ := vals2 r
  refine min_two_ints (I.ok.hd hc) fun h' tk k => ⟨_, H, I.kept k, ?_, q⟩
  by_cases hj : j < i
  · rw [if_pos hj, if_pos hj]; exact ⟨_, rfl⟩
  · rw [if_neg hj, if_neg hj]; exact ⟨_, rfl⟩
theorem call_int1 : CallR X (.type "int") (fun xs H Q => (∃ i, xs = [.int i] ∧ Q (.int i) H) ∨ ∃ k, xs = [.bl k] ∧ Q (.int (if k then 1 else 0)) H) := by
  intro pins s σ H xs us Q I r h
  rcases h with ⟨i, rfl, q⟩ | ⟨k, rfl, q⟩
  · obtain ⟨u, rfl, t, rfl⟩ := vals1 r
    exact call_int_int ⟨.int i, H, I, ⟨_, rfl⟩, q⟩
  · obtain ⟨u, rfl, r1⟩ := vals1 r
    cases r1
    exact call_int_bool ⟨.int (if k then 1 else 0), H, I.tok _, ⟨_, rfl⟩, q⟩
theorem call_str_int : CallR X (.type "str") (fun xs H Q => ∃ i, xs = [.int i] ∧ i.natAbs.log2 < 1920 ∧ Q (.str (toString i)) H) := by
  intro pins s σ H xs us Q I r h
  obtain ⟨i, rfl, hz, q⟩ := h
  obtain ⟨u, rfl, t, rfl⟩ := vals1 r
  exact PySem.P.str_of_int hz ⟨.str _, H, I.tok _, ⟨_, rfl⟩, q⟩
end
end L2

namespace L2
open PySem PySem.Spec PyProof.Rows

/-! ### an instance, its attributes a map -/
structure ObjM (h : Heap) (x dx C : Addr) (mA : Str → Option Value) : Prop where
  obj : h.get? x = some (PySem.W.instObj C dx)
  ns : h.Ns1 dx mA
  ne : dx ≠ x

theorem lookIn_ns {h : Heap} {dx : Addr} {mA : Str → Option Value} (n : h.Ns1 dx mA) : ∃ od, h.get? dx = some od ∧ ∀ name, PySem.W.lookIn name od = some (mA name) := by
  obtain ⟨o, es, ep, ho, hd, hk, _, hm⟩ := n
  refine ⟨o, ho, fun name => ?_⟩
  have e := hm name
  unfold nsFind findBy at e
  rw [← Array.find?_toList] at e
  unfold PySem.W.lookIn
  rw [hd]
  dsimp only
  split
  · rename_i y q
    rw [q] at e
    exact congrArg some e
  · rename_i q
    rw [q] at e
    have a : es.toList.any (·.refKey) = false := by
      rw [List.any_eq_false]
      intro y hy
      obtain ⟨z, t, hkey⟩ := hk y (Array.mem_toList_iff.mp hy)
      simp [DictEntry.refKey, hkey]
    have a' : ¬ es.toList.any (·.refKey) = true := by rw [a]; exact Bool.false_ne_true
    rw [if_neg a']
    exact congrArg some e

theorem ObjM.look {h : Heap} {x dx C : Addr} {mA : Str → Option Value} (I : ObjM h x dx C mA) : ∃ od, PySem.W.InstAt h x (PySem.W.instObj C dx) C (some od) ∧ ∀ name, PySem.W.lookIn name od = some (mA name) :=
  let ⟨od, ho, hl⟩ := lookIn_ns I.ns
  ⟨od, ⟨I.obj, rfl, rfl, ho⟩, hl⟩

section
variable {prog : Program} {w : World} {A : Around} {E : Value → Shared → Prop} {s : Shared} {K : PySem.W.Frag} {x dx C f : Addr} {mA : Str → Option Value} {name : Str} {v : Value}

theorem get_map {expr : Bool} {Q : Value → Shared → Prop} (X : K.In s.heap) (I : ObjM s.heap x dx C mA) (hg : PySem.W.plainGet K C name = true) (hh : PySem.W.hasDictIn K C = true)
    (ha : PySem.W.findIn K (.ref C) name = some none) (hv : mA name = some v) (hv' : PySem.W.handedIn v = true) (h : Q v { s with toks := s.toks + 1 }) :
    wpAny (model prog w) A (getAttr (.ref x) name expr) Q E s := by
  obtain ⟨od, J, hl⟩ := I.look
  exact PySem.W.get_value X J (PySem.W.plainGet_of hg).1 (PySem.W.findObj_own hh ha rfl (by rw [hl, hv])) hv' h


theorem get_meth {pl : Sem Bool} {Q : Value × List Value → Shared → Prop} (X : K.In s.heap) (I : ObjM s.heap x dx C mA) (hg : PySem.W.plainGet K C name = true)
    (hf : PySem.W.findIn K (.ref C) name = some (some (.ref f))) (ht : PySem.W.isFn K (.ref f) = true) (hv : mA name = none) (h : Q (.ref f, [.ref x]) s) :
    wpAny (model prog w) A (getMethod (.ref x) name pl) Q E s := by
  obtain ⟨od, J, hl⟩ := I.look
  exact PySem.W.method_fn X J (PySem.W.plainGet_of hg).1 (PySem.W.plainGet_of hg).2 hf (beq_iff_eq.mp ht) (by show (PySem.W.lookIn name od).map (·.isSome) = some false; rw [hl, hv]; rfl) h

theorem set_map {ns : List Str} {Q : Unit → Shared → Prop} (X : K.In s.heap) (I : ObjM s.heap x dx C mA)
    (hs : PySem.W.findIn K (.ref C) "__setattr__" = some (some (.builtin "object.__setattr__"))) (hp : PySem.W.plainOver K C = true) (ht : PySem.W.takerIn K C name = some none) (hh : PySem.W.hasDictIn K C = true)
    (hw : PySem.Within mA ns) (hsz : ns.length ≤ sizeLine)
    (h : ∀ h', ObjM h' x dx C (fun y => if y = name then some v else mA y) → Heap.SameBut dx s.heap h' → Q () { s with heap := h', toks := s.toks + 2 }) :
    wpAny (model prog w) A (setAttr (.ref x) name v) Q E s := by
  obtain ⟨od, J, hl⟩ := I.look
  refine PySem.W.set_plain X J hs (PySem.W.osa_open (s := { s with toks := s.toks + 1 }) (r := none) X J hp ht fun b => ?_)
  obtain ⟨cd, hc, hd'⟩ := PySem.W.any_some hh
  have hx : s.heap.get? x = some ⟨.ref C, some dx, .plain, #[]⟩ := I.obj
  refine wpAny_bind (wpAny_pure (wpAny_bind (wpAny_bind (wpAny_loadPart hx (wpAny_bind (PySem.W.Looks.here (s := { s with toks := s.toks + 1 }) (PySem.W.looks_clsIn X hc) ?_))))))
  rw [hd']
  refine wpAny_pure (a := some dx) (wpAny_bind (wpAny_pure (wpAny_bind ?_)))
  refine wpAny_nsSet1 (s := { s with toks := s.toks + 1 }) I.ns fun h' hn2 hs2 => ?_
  obtain ⟨oD, esD, epD, hoD, hdD, hcD⟩ := hn2.count (PySem.Within.cons name v hw)
  refine wpAny_bind (wpAny_lookBehind hoD (by rw [hdD]; exact pastItsLine_dict (Nat.le_trans hcD (by rw [List.length_cons]; omega))) ?_)
  exact wpAny_pure (h _ ⟨(hs2.2 _ (Ne.symm I.ne)).trans I.obj, hn2, I.ne⟩ hs2)

/-- C(..): the dict at the heap's end, the instance behind it; then its __init__ -/
theorem make_map {R : Result → Shared → Prop} {vs : List Value} {kw : List (Str × Value)} (X : K.In s.heap) (hm : PySem.W.makesIn K C = true)
    (hi : PySem.W.findIn K (.ref C) "__init__" = some (some (.ref f))) (hf : PySem.W.typeIn K (.ref f) = some (.type "function"))
    (h : codeAny (model prog w) (A.under (.builtin "type.__call__" ⟨.ref C :: vs, kw⟩)) (.call (.ref f) ⟨.ref (s.heap.objs.size + 1) :: vs, kw⟩) (PySem.W.InitBack (s.heap.objs.size + 1) R)
      { s with heap := (s.heap.push PySem.W.emptyDict).push (PySem.W.instObj C s.heap.objs.size) }) :
    codeAny (model prog w) A (.call (.ref C) ⟨vs, kw⟩) R s := by
  obtain ⟨hh, g, d, t, os⟩ := s
  exact PySem.W.make_core (PySem.W.makes_of X hm) (PySem.W.looks_findIn X hi) (fun self => PySem.W.bind_fn X self hf) (.inl rfl) h
end

/-! ### the attributes as a list of pairs -/
def putF (f : Str) (v : V) : List (Str × V) → List (Str × V)
  | [] => [(f, v)]
  | (g, x) :: r => if g = f then (g, v) :: r else (g, x) :: putF f v r
theorem lookup_putF (f g : Str) (v : V) : ∀ fs : List (Str × V), (putF f v fs).lookup g = if g = f then some v else fs.lookup g
  | [] => by
    show List.lookup g [(f, v)] = _
    by_cases h : g = f
    · have hb : (g == f) = true := beq_iff_eq.mpr h
      simp only [List.lookup, hb, if_pos h]
    · have hb : (g == f) = false := beq_eq_false_iff_ne.mpr h
      simp only [List.lookup, hb, if_neg h]
  | (k, x) :: r => by
    have ih := lookup_putF f g v r
    rw [show putF f v ((k, x) :: r) = (if k = f then (k, v) :: r else (k, x) :: putF f v r) from rfl]
    by_cases hk : k = f
    · rw [if_pos hk]
      by_cases h : g = k
      · have hb : (g == k) = true := beq_iff_eq.mpr h
        simp only [List.lookup, hb, if_pos (h.trans hk)]
      · have hb : (g == k) = false := beq_eq_false_iff_ne.mpr h
        simp only [List.lookup, hb, if_neg (fun e : g = f => h (e.trans hk.symm))]
    · rw [if_neg hk]
      by_cases h : g = k
      · have hb : (g == k) = true := beq_iff_eq.mpr h
        simp only [List.lookup, hb, if_neg (fun e : g = f => hk (h.symm.trans e))]
      · have hb : (g == k) = false := beq_eq_false_iff_ne.mpr h
        simp only [List.lookup, hb]
        exact ih
theorem keys_putF (f : Str) (v : V) : ∀ fs : List (Str × V), f ∈ (putF f v fs).map (·.1) ∧ ∀ g, g ∈ fs.map (·.1) → g ∈ (putF f v fs).map (·.1)
  | [] => ⟨by simp [putF], fun g h => by simp at h⟩
  | (k, x) :: r => by
    obtain ⟨i1, i2⟩ := keys_putF f v r
    rw [show putF f v ((k, x) :: r) = (if k = f then (k, v) :: r else (k, x) :: putF f v r) from rfl]
    by_cases hk : k = f
    · rw [if_pos hk]
      subst hk
      exact ⟨by simp, fun g h => by simpa using h⟩
    · rw [if_neg hk]
      refine ⟨?_, fun g h => ?_⟩
      · rw [List.map_cons]
        exact List.mem_cons_of_mem _ i1
      · rw [List.map_cons] at h ⊢
        rcases List.mem_cons.mp h with e | e
        · exact List.mem_cons.mpr (.inl e)
        · exact List.mem_cons_of_mem _ (i2 g e)
theorem length_putF (f : Str) (v : V) : ∀ fs : List (Str × V), (putF f v fs).length ≤ fs.length + 1
  | [] => by simp [putF]
  | (k, x) :: r => by
    have ih := length_putF f v r
    rw [show putF f v ((k, x) :: r) = (if k = f then (k, v) :: r else (k, x) :: putF f v r) from rfl]
    by_cases hk : k = f
    · rw [if_pos hk, List.length_cons, List.length_cons]; omega
    · rw [if_neg hk, List.length_cons, List.length_cons]; omega

theorem RelO.some_of {v : V} {o : Option Value} (r : RelO (some v) o) : ∃ u, o = some u ∧ RelV v u := by
  cases o with
  | none => exact (show False from r).elim
  | some u => exact ⟨u, rfl, r⟩
theorem RelO.none_of {o : Option Value} (r : RelO none o) : o = none := by
  cases o with
  | none => rfl
  | some u => exact (show False from r).elim
theorem handed_of {v : V} {u : Value} (r : RelV v u) : PySem.W.handedIn u = true := by
  cases v with
  | non => cases (show u = Value.none from r); rfl
  | bl b => cases (show u = Value.bool b from r); rfl
  | int i => obtain ⟨t, e⟩ := (show ∃ t, u = Value.int i t from r); cases e; rfl
  | str x => obtain ⟨t, e⟩ := (show ∃ t, u = Value.str x t from r); cases e; rfl
  | byt b => obtain ⟨t, e⟩ := (show ∃ t, u = Value.bytes b t from r); cases e; rfl
  | flt b => obtain ⟨t, e⟩ := (show ∃ t, u = Value.float b t from r); cases e; rfl
  | ref a => cases (show u = Value.ref a from r); rfl
  | ty n => cases (show u = Value.type n from r); rfl

section
variable {P : Program} {w : World} {H H' : Hp} {h h' : Heap} {a C dx : Addr} {fs fs' : List (Str × V)}
theorem ins_get (hok : HOk P w H h) (e : H a = some (.ins C dx fs)) : ∃ mA, ObjM h a dx C mA ∧ (∀ f, RelO (fs.lookup f) (mA f)) ∧ PySem.Within mA (fs.map (·.1)) ∧ fs.length ≤ 1000 ∧ H dx = some (.own a) := by
  obtain ⟨d, z, ne, ob, mA, n, r, q⟩ := (show ObjOk P w H h a (.ins C dx fs) from hok a _ e)
  exact ⟨mA, ⟨ob, n, ne⟩, r, q, z, d⟩
end

/-! ### what of the text a class must have -/
structure Cls (K : PySem.W.Frag) (C : Addr) : Prop where
  pg : PySem.W.plainGet K C Str.empty = true
  hd : PySem.W.hasDictIn K C = true
  po : PySem.W.plainOver K C = true
  sa : PySem.W.findIn K (.ref C) "__setattr__" = some (some (.builtin "object.__setattr__"))
theorem Cls.get {K : PySem.W.Frag} {C : Addr} (c : Cls K C) (f : Str) : PySem.W.plainGet K C f = true := c.pg
/-- no class of it has the name -/
def NoAttr (K : PySem.W.Frag) (C : Addr) (f : Str) : Prop := PySem.W.findIn K (.ref C) f = some none
theorem NoAttr.taker {K : PySem.W.Frag} {C : Addr} {f : Str} (n : NoAttr K C f) : PySem.W.takerIn K C f = some none := by
  unfold PySem.W.takerIn
  rw [show PySem.W.findIn K (.ref C) f = some none from n]
  rfl
/-- a method: a plain def of the class or of one above it -/
structure Meth (K : PySem.W.Frag) (C : Addr) (m : Str) (f : Addr) : Prop where
  at_ : PySem.W.findIn K (.ref C) m = some (some (.ref f))
  fn : PySem.W.isFn K (.ref f) = true
  kp : PySem.W.keepIn K (.ref f) = true

section
variable {X : Cx} {pins : List (Addr × Obj)} {σ : St} {H : Hp} {s : Shared} {a C dx : Addr} {fs : List (Str × V)} {f : Str} {v : V} {A : Around} {E : Value → Shared → Prop}

theorem getattr_ok {b : Bool} {Q : Value → Shared → Prop} (I : Inv X pins σ H s) (e : H a = some (.ins C dx fs)) (c : Cls X.K C) (n : NoAttr X.K C f) (l : fs.lookup f = some v)
    (h : ∀ u s', Inv X pins σ H s' → RelV v u → Q u s') : wpAny (model X.prog X.w) A (getAttr (.ref a) f b) Q E s := by
  obtain ⟨mA, O, r, _, _, _⟩ := ins_get I.hok e
  obtain ⟨u, hu, ru⟩ := RelO.some_of (v := v) (o := mA f) (by rw [← l]; exact r f)
  exact get_map I.kIn O (c.get f) c.hd n hu (handed_of ru) (h u _ (I.tok _) ru)


theorem getmeth_ok {m : Str} {g : Addr} {pl : Sem Bool} {Q : Value × List Value → Shared → Prop} (I : Inv X pins σ H s) (e : H a = some (.ins C dx fs)) (c : Cls X.K C) (k : Meth X.K C m g) (l : fs.lookup m = none)
    (h : Q (.ref g, [.ref a]) s) : wpAny (model X.prog X.w) A (getMethod (.ref a) m pl) Q E s := by
  obtain ⟨mA, O, r, _, _, _⟩ := ins_get I.hok e
  have hn : mA m = none := RelO.none_of (by rw [← l]; exact r m)
  exact get_meth I.kIn O (c.get m) k.at_ k.fn hn h

theorem setattr_ok {y : V} {u : Value} {Q : Unit → Shared → Prop} (I : Inv X pins σ H s) (e : H a = some (.ins C dx fs)) (c : Cls X.K C) (n : NoAttr X.K C f) (hl : fs.length < 1000) (ry : RelV y u)
    (h : ∀ s', Inv X pins σ (upd H a (.ins C dx (putF f y fs))) s' → Q () s') : wpAny (model X.prog X.w) A (setAttr (.ref a) f u) Q E s := by
  obtain ⟨mA, O, r, wi, _, ho⟩ := ins_get I.hok e
  have hz : (fs.map (·.1)).length ≤ sizeLine := by rw [List.length_map, sizeLine_eq]; omega
  refine set_map I.kIn O c.sa c.po n.taker c.hd wi hz fun h' O' sb => h _ ?_
  have hd : ∃ o, h'.get? dx = some o := let ⟨o, _, _, e', _⟩ := O'.ns; ⟨o, e'⟩
  refine I.write (x := a) (e := dx) (by rw [e]; exact True.intro) (.inr ho) (fun b q hb z => (sb.2 b hb).trans z) hd ?_
  refine ⟨by rw [upd_ne O.ne]; exact ho, ?_, O.ne, O'.obj, _, O'.ns, fun g => ?_, fun g hg => ?_⟩
  · have := length_putF f y fs; omega
  · show RelO ((putF f y fs).lookup g) (if g = f then some u else mA g)
    rw [lookup_putF]
    by_cases q : g = f
    · rw [if_pos q, if_pos q]; exact ry
    · rw [if_neg q, if_neg q]; exact r g
  · by_cases q : g = f
    · rw [q]; exact (keys_putF f y fs).1
    · refine (keys_putF f y fs).2 g (wi g fun z => hg ?_)
      show (if g = f then some u else mA g) = none
      rw [if_neg q]; exact z

/-- a new instance, tracked, without attributes -/
theorem Inv.made (I : Inv X pins σ H s) : Inv X pins σ (upd (upd H s.heap.objs.size (.own (s.heap.objs.size + 1))) (s.heap.objs.size + 1) (.ins C s.heap.objs.size []))
    { s with heap := (s.heap.push PySem.W.emptyDict).push (PySem.W.instObj C s.heap.objs.size) } := by
  have e1 : (s.heap.push PySem.W.emptyDict).get? s.heap.objs.size = some PySem.W.emptyDict := Heap.get?_push_size s.heap rfl
  have e2 : ((s.heap.push PySem.W.emptyDict).push (PySem.W.instObj C s.heap.objs.size)).get? (s.heap.objs.size + 1) = some (PySem.W.instObj C s.heap.objs.size) := by
    have := Heap.get?_push_size (s.heap.push PySem.W.emptyDict) (o := PySem.W.instObj C s.heap.objs.size) rfl
    rwa [Heap.size_push] at this
  have e3 : (s.heap.push PySem.W.emptyDict).Ns s.heap.objs.size (fun _ => none) := ⟨PySem.W.emptyDict, #[], _, e1, rfl, (fun e he => absurd he (by simp)), fun _ => rfl⟩
  have I1 := I.laid (a := s.heap.objs.size) (o := .own (s.heap.objs.size + 1)) (h' := s.heap.push PySem.W.emptyDict) (t' := s.toks) (fun b u q => Heap.get?_push_of_some _ q) (Nat.le_refl _) ⟨_, e1⟩
  refine I1.laid (a := s.heap.objs.size + 1) (o := .ins C s.heap.objs.size []) (t' := s.toks) (fun b u q => Heap.get?_push_of_some _ q) (Nat.le_of_eq (Heap.size_push _ _)) ?_
  have ne : s.heap.objs.size ≠ s.heap.objs.size + 1 := Nat.ne_of_lt (Nat.lt_succ_self _)
  refine ⟨by rw [upd_ne ne, upd_same], Nat.zero_le _, ne, e2, fun _ => none, (Heap.Ns1.of_empty e3).at fun o q => Heap.get?_push_of_some _ q, fun _ => True.intro, fun y hy => absurd rfl hy⟩

/-- e.f where nothing but the object is asked: through attributeBase (super) and the last hold -/
theorem attr_of {prog : Program} {w : World} {env : Env} {e : Expr} {f : Str} {pos : Pos} {s : Shared} {Q : Value → Shared → Prop} (hb : attributeBase e f env (eval e env) = eval e env)
    (h : wpAny (model prog w) A (eval e env) (fun o s₁ => wpAny (model prog w) A (getAttr o f true) Q E s₁) E s) : wpAny (model prog w) A (eval (.Attribute e f pos) env) Q E s :=
  Attribute_any_ h (by rw [arm_eval_Attribute, hb])
end

/-! ### readings and rules -/
/-- e.f, an attribute of the instance -/
def tFld (K : PySem.W.Frag) (ta : TE) (f : Str) : TE := fun σ H Q => ta σ H fun x H1 => ∃ a C dx fs v, x = .ref a ∧ H1 a = some (.ins C dx fs) ∧ Cls K C ∧ NoAttr K C f ∧ fs.lookup f = some v ∧ Q v H1
/-- e.f = value -/
def sFld (K : PySem.W.Frag) (ta tv : TE) (f : Str) : TS := fun D σ H => tv σ H fun y H1 => ta σ H1 fun x H2 => ∃ a C dx fs, x = .ref a ∧ H2 a = some (.ins C dx fs) ∧ Cls K C ∧ NoAttr K C f ∧ fs.length < 1000 ∧
  D.nx σ (upd H2 a (.ins C dx (putF f y fs)))

section
variable {X : Cx} {o e value : Expr} {f : Str} {pos pos' tpos : Pos} {ta tv : TE}
theorem pe_fld (he : PE X e ta) (hb : attributeBase e f X.env (eval e X.env) = eval e X.env) : PE X (.Attribute e f pos) (tFld X.K ta f) := by
  intro pins s σ H Q I h
  refine attr_of hb (thn (he pins s σ H _ I h) fun u s1 ⟨x, H1, I1, rx, a, C, dx, fs, v, ex, ea, c, n, l, q⟩ => ?_)
  subst ex
  obtain rfl : u = Value.ref a := rx
  exact getattr_ok I1 ea c n l fun u' s2 I2 ru => ⟨v, H1, I2, ru, q⟩
theorem ps_fld (ha : PE X o ta) (hv : PE X value tv) (hs : swapsWith value (some (.Attribute o f pos')) pos.line X.env = pure false) : PS X (.Assign [.Attribute o f pos'] value pos) (sFld X.K ta tv f) := by
  intro pins s σ H D I h
  refine plainObj_wpAny_Assign_Attribute (thn (hv pins s σ H _ I h) fun u s1 ⟨y, H1, I1, ry, q⟩ => thn (ha pins s1 σ H1 _ I1 q) fun ov s2 ⟨x, H2, I2, rx, a, C, dx, fs, ex, ea, c, n, l, q2⟩ => ?_) hs
  subst ex
  obtain rfl : ov = Value.ref a := rx
  exact setattr_ok I2 ea c n l ry fun s3 I3 => ⟨σ, _, I3, q2⟩

end

/-! ### isinstance -/
section
variable {X : Cx} {pins : List (Addr × Obj)} {σ : St} {H : Hp} {s : Shared} {A : Around} {E : Value → Shared → Prop} {Q : Value → Shared → Prop} {c : Value} {b : Bool}
/-- the type of a value, as the fragment's deciders take it; for an instance its class -/
inductive TyOf (K : PySem.W.Frag) (H : Hp) : V → Value → Prop where
  | non : TyOf K H .non (.type "NoneType")
  | bl (x : Bool) : TyOf K H (.bl x) (.type "bool")
  | int (i : Int) : TyOf K H (.int i) (.type "int")
  | str (x : Str) : TyOf K H (.str x) (.type "str")
  | flt (x : UInt64) : TyOf K H (.flt x) (.type "float")
  | lst {a : Addr} {xs : List V} (e : H a = some (.lst xs)) : TyOf K H (.ref a) (.type "list")
  | frz {a : Addr} {o : Obj} {xs : List V} (e : H a = some (.frz o (.lst xs))) : TyOf K H (.ref a) (.type "list")
  | tup {a : Addr} {xs : List V} (e : H a = some (.tup xs)) : TyOf K H (.ref a) (.type "tuple")
  | dK {a : Addr} {kvs : List (Key × V)} (e : H a = some (.dK kvs)) : TyOf K H (.ref a) (.type "dict")
  | dT {a : Addr} {kvs : List (List Key × V)} (e : H a = some (.dT kvs)) : TyOf K H (.ref a) (.type "dict")
  | ins {a C dx : Addr} {fs : List (Str × V)} (e : H a = some (.ins C dx fs)) (cl : Cls K C) (ha : PySem.W.findIn K (.ref C) "__class__" = some (some (.builtin "object.__class__")))
      (hn : PySem.W.specialIn K (.builtin "object.__class__") "__get__" = some (some (.builtin "getset_descriptor.__get__"))) (htk : PySem.W.takesIn K (.builtin "object.__class__") = some true)
      (hm : PySem.W.mroIn K C (.type "object") = some true) : TyOf K H (.ref a) (.ref C)
/-- isinstance(x, c) for one class c, a built-in or an own one: kitOne's answer -/
theorem isinst_ok {x : V} {u t : Value} (I : Inv X pins σ H s) (rx : RelV x u) (ty : TyOf X.K H x t) (e : PySem.W.kitOne X.K t c = some b) (h : ∀ tk, Q (.bool b) { s with toks := tk }) :
    wpAny (model X.prog X.w) A (call (.builtin "isinstance") [u, c]) Q E s := by
  cases ty with
  | non => cases (show u = Value.none from rx); exact PySem.W.kia_one PySem.W.kitx_none I.kIn True.intro e (fun z => nomatch z) h
  | bl y => cases (show u = Value.bool y from rx); exact PySem.W.kia_one PySem.W.kitx_bool I.kIn True.intro e (fun z => nomatch z) h
  | int i => obtain ⟨t, q⟩ := (show ∃ t, u = Value.int i t from rx); cases q; exact PySem.W.kia_one PySem.W.kitx_int I.kIn True.intro e (fun z => nomatch z) h
  | str y => obtain ⟨t, q⟩ := (show ∃ t, u = Value.str y t from rx); cases q; exact PySem.W.kia_one PySem.W.kitx_str I.kIn True.intro e (fun z => nomatch z) h
  | flt y => obtain ⟨t, q⟩ := (show ∃ t, u = Value.float y t from rx); cases q; exact PySem.W.kia_one PySem.W.kitx_float I.kIn True.intro e (fun z => nomatch z) h
  | @lst a xs ea =>
    cases (show u = Value.ref a from rx)
    obtain ⟨_, _, n, _, h1⟩ := (show ObjOk X.prog X.w H s.heap a (.lst xs) from I.hok a _ ea)
    exact PySem.W.kia_one PySem.W.kitx_list I.kIn ⟨_, h1, rfl⟩ e (fun z => nomatch z) h
  | @frz a ob xs ea =>
    cases (show u = Value.ref a from rx)
    obtain ⟨_, _, _, n, _, h1⟩ := (show ObjOk X.prog X.w H s.heap a (.frz ob (.lst xs)) from I.hok a _ ea)
    exact PySem.W.kia_one PySem.W.kitx_list I.kIn ⟨_, h1, rfl⟩ e (fun z => nomatch z) h
  | @tup a xs ea =>
    cases (show u = Value.ref a from rx)
    obtain ⟨_, _, _, p⟩ := (show ObjOk X.prog X.w H s.heap a (.tup xs) from I.hok a _ ea)
    obtain ⟨o, h1, h2, _⟩ := p
    exact PySem.W.kia_one PySem.W.kitx_tuple I.kIn ⟨o, h1, h2⟩ e (fun z => nomatch z) h
  | @dK a kvs ea =>
    cases (show u = Value.ref a from rx)
    obtain ⟨_, _, vs, _, p⟩ := (show ObjOk X.prog X.w H s.heap a (.dK kvs) from I.hok a _ ea)
    obtain ⟨o, es, ep, h1, h2, _⟩ := p
    exact PySem.W.kia_one PySem.W.kitx_dict I.kIn ⟨o, h1, h2.1⟩ e (fun z => nomatch z) h
  | @dT a kvs ea =>
    cases (show u = Value.ref a from rx)
    obtain ⟨_, _, xs, _, o, es, ep, h1, h2, _⟩ := (show ObjOk X.prog X.w H s.heap a (.dT kvs) from I.hok a _ ea)
    exact PySem.W.kia_one PySem.W.kitx_dict I.kIn ⟨o, h1, h2.1⟩ e (fun z => nomatch z) h
  | @ins a C dx fs ea cl ha hn htk hm =>
    cases (show u = Value.ref a from rx)
    obtain ⟨mA, O, _⟩ := ins_get I.hok ea
    obtain ⟨od, J, _⟩ := O.look
    exact PySem.W.kia_one (PySem.W.kitx_own (cl.get _) cl.hd ha hn htk hm) I.kIn J e (fun z => nomatch z) h
end
end L2

namespace L2
open PySem PySem.Spec PyProof.Rows

/-! ### room -/
structure Room (k : Nat) (A : Around) : Prop where
  hd : A.handled = none
  dp : A.depth + 3 * k + 5 < recursionLimit
  un : A.units + 16 * k + 200 < cLine
theorem Room.mono {j k : Nat} {A : Around} (r : Room k A) (h : j ≤ k) : Room j A := ⟨r.hd, by have := r.dp; omega, by have := r.un; omega⟩
theorem Room.deeper {k : Nat} {A : Around} (r : Room (k + 1) A) (env : Env) : Room k (A.deeper env) :=
  ⟨r.hd, by have := r.dp; show A.depth + 1 + 3 * k + 5 < _; omega, by have := r.un; show A.units + 3 + 16 * k + 200 < _; omega⟩
theorem make_depth {A : Around} {C : Addr} {us : List Value} {kw : List (Str × Value)} : (A.under (.builtin "type.__call__" ⟨.ref C :: us, kw⟩)).depth = A.depth + 1 := by
  first | rfl | simp [Around.under, Code.weight, Code.isCreation, Code.isGuard, Code.isCaller, Code.frames, Code.isFrame, guardIds]
theorem make_units {A : Around} {C : Addr} {us : List Value} {kw : List (Str × Value)} : (A.under (.builtin "type.__call__" ⟨.ref C :: us, kw⟩)).units = A.units + 1 := by
  first | rfl | simp [Around.under, Code.cUnits, Code.frames, Code.isFrame]
theorem Room.make {k : Nat} {A : Around} (r : Room (k + 1) A) (C : Addr) (us : List Value) (kw : List (Str × Value)) : Room k (A.under (.builtin "type.__call__" ⟨.ref C :: us, kw⟩)) :=
  ⟨r.hd, by have := r.dp; rw [make_depth]; omega, by have := r.un; rw [make_units]; omega⟩
theorem Room.depth {k : Nat} {A : Around} (r : Room k A) : A.depth < recursionLimit := by have := r.dp; omega
theorem Room.units0 {k : Nat} {A : Around} (r : Room k A) : A.units < cLine := by have := r.un; omega

/-! ### argument lists and displays -/
def tNil : TA := fun _ H Q => Q [] H
def tCons (ta : TE) (tr : TA) : TA := fun σ H Q => ta σ H fun x H1 => tr σ H1 fun xs H2 => Q (x :: xs) H2
section
variable {X : Cx} {e : Expr} {es : List Expr} {te : TE} {t : TA} {pos : Pos}
theorem pa_nil : PA X [] tNil := fun _ _ _ _ H Q I h => Calls.spliced_nil ⟨[], H, I, .nil, h⟩
theorem pa_cons (ha : PE X e te) (hr : PA X es t) (hs : starEach (e :: es) X.env = (false, eval e X.env) :: starEach es X.env := by rfl) : PA X (e :: es) (tCons te t) := by
  intro pos pins s σ H Q I h
  rw [hs]
  show wpAny _ _ (spliced ((false, eval e X.env) :: backTo pos (starEach es X.env))) _ _ s
  refine Calls.spliced_cons (thn (ha pins s σ H _ I h) fun u s1 ⟨x, H1, I1, r1, q1⟩ => ?_)
  exact thn (hr pos pins s1 σ H1 _ I1 q1) fun us s2 ⟨xs, H2, I2, r2, q2⟩ => ⟨x :: xs, H2, I2, .cons r1 r2, q2⟩

/-- a tuple, a list of written items -/
def tTup (t : TA) : TE := fun σ H Q => t σ H fun xs H1 => xs.length ≤ sizeLine ∧ ∀ p, H1 p = none → Q (.ref p) (upd H1 p (.tup xs))
def tLst (t : TA) : TE := fun σ H Q => t σ H fun xs H1 => xs.length ≤ sizeLine ∧ ∀ p, H1 p = none → Q (.ref p) (upd H1 p (.lst xs))
theorem pe_tup {x1} (h : PA X es t) : PE X (.Tuple es x1 pos) (tTup t) := by
  intro pins s σ H Q I hq
  refine wpAny_Tuple_spliced (thn (h pos pins s σ H _ I hq) fun us s1 ⟨xs, H1, I1, r, z, q⟩ => ⟨by rw [← r.length]; exact z, ?_⟩)
  have hf : H1 s1.heap.objs.size = none := I1.hok.fresh (Nat.le_refl _)
  refine ⟨.ref s1.heap.objs.size, upd H1 s1.heap.objs.size (.tup xs), I1.laid (t' := s1.toks) (fun b u e => Heap.get?_push_of_some _ e) (Nat.le_refl _) ?_, rfl, q _ hf⟩
  exact ⟨z, us, r, ⟨_, Heap.get?_push_size _ rfl, rfl, _, rfl⟩⟩
theorem pe_lst (h : PA X es t) : PE X (.List es pos) (tLst t) := by
  intro pins s σ H Q I hq
  refine wpAny_List_spliced (thn (h pos pins s σ H _ I hq) fun us s1 ⟨xs, H1, I1, r, z, q⟩ => ⟨by rw [← r.length]; exact z, ?_⟩)
  have hf : H1 s1.heap.objs.size = none := I1.hok.fresh (Nat.le_refl _)
  refine ⟨.ref s1.heap.objs.size, upd H1 s1.heap.objs.size (.lst xs), I1.laid (t' := s1.toks) (fun b u e => Heap.get?_push_of_some _ e) (Nat.le_refl _) ?_, rfl, q _ hf⟩
  exact ⟨z, us, 0, r, Heap.get?_push_size _ rfl⟩
end

/-! ### what a def promises -/
/-- a def's promise: the bound arguments in the parameters' order, the heap, the wanted end, the wanted exception -/
abbrev Sp := List V → Hp → VK → XK → Prop
/-- how an exception lies behind a call (file 08 gives it): the callers' frames, abstract heap and state ahead of the call, the wish, the exception, the state -/
abbrev CXT := List Env → Hp → Shared → XK → Value → Shared → Prop

/-- the state at a call -/
structure Env0 (P : Program) (w : World) (K : PySem.W.Frag) (mg : Str → Option Value) (base : Heap) (A : Around) (outer : List Env) (s : Shared) (H : Hp) : Prop where
  frames : A.frames = some outer
  mod : Mod K mg base
  bs : ∀ b o, base.get? b = some o → s.heap.get? b = some o ∧ H b = none
  bsz : base.objs.size ≤ s.heap.objs.size
  funs : s.heap.FunFrames base outer
  frf : ∀ b ∈ frs outer, H b = none
  hok : HOk P w H s.heap
  bare : AllBare s.gens
/-- a call's end -/
def CE (outer : List Env) (P : Program) (w : World) (H : Hp) (s : Shared) (Q : VK) (u : Value) (s' : Shared) : Prop :=
  ∃ v H', s'.os = s.os ∧ AllBare s'.gens ∧ Un (frs outer) [] H H' s.heap s'.heap ∧ HOk P w H' s'.heap ∧ RelV v u ∧ Q v H'
def CR (CX : CXT) (outer : List Env) (P : Program) (w : World) (H : Hp) (s : Shared) (Q : VK) (E : XK) (r : Result) (s' : Shared) : Prop :=
  match r with
  | .ok (.ret u) => CE outer P w H s Q u s'
  | .ok _ => False
  | .error e => CX outer H s E e s'
structure FnOk (P : Program) (w : World) (K : PySem.W.Frag) (mg : Str → Option Value) (base : Heap) (CX : CXT) (k : Nat) (f : Addr) (fd : FuncData) (ps : List Str) (sp : Sp) : Prop where
  len : ∀ vs H Q E, sp vs H Q E → vs.length = ps.length
  run : ∀ (A : Around) (outer : List Env) (s : Shared) (H : Hp) (args : Args) (us : List Value) (vs : List V) (Q : VK) (E : XK), Room k A → Env0 P w K mg base A outer s H → BindsTo s fd args (ps.zip us) → Vals vs us → sp vs H Q E →
    codeAny (model P w) A (.call (.ref f) args) (CR CX outer P w H s Q E) s
theorem FnOk.mono {P : Program} {w : World} {K : PySem.W.Frag} {mg : Str → Option Value} {base : Heap} {CX : CXT} {j k : Nat} {f : Addr} {fd : FuncData} {ps : List Str} {sp : Sp} (F : FnOk P w K mg base CX j f fd ps sp) (h : j ≤ k) :
    FnOk P w K mg base CX k f fd ps sp := ⟨F.len, fun A outer s H args us vs Q E hr => F.run A outer s H args us vs Q E (hr.mono h)⟩

theorem Env0.make {P : Program} {w : World} {K : PySem.W.Frag} {mg : Str → Option Value} {base : Heap} {A : Around} {outer : List Env} {s : Shared} {H : Hp} (e : Env0 P w K mg base A outer s H) (C : Addr) (us : List Value) (kw : List (Str × Value)) :
    Env0 P w K mg base (A.under (.builtin "type.__call__" ⟨.ref C :: us, kw⟩)) outer s H := ⟨by first | exact e.frames | (simpa [Around.under, Code.envs, Code.isFrame, pushEnvs] using e.frames), e.mod, e.bs, e.bsz, e.funs, e.frf, e.hok, e.bare⟩

section
variable {X : Cx} {pins : List (Addr × Obj)} {σ : St} {H : Hp} {s s' : Shared}
/-- from a body: what a callee wants -/
theorem Inv.env0 (I : Inv X pins σ H s) : Env0 X.prog X.w X.K X.mg X.base X.A X.stack s H :=
  ⟨I.ok.frames, I.ok.mod, I.bs, Nat.le_trans I.ok.bsz I.sz, I.stack, I.stkFree, I.hok, I.bare⟩
/-- behind a call -/
theorem Inv.after {Q : VK} {u : Value} (I : Inv X pins σ H s) (h : CE X.stack X.prog X.w H s Q u s') : EP X pins σ Q u s' := by
  obtain ⟨v, H', os, bare, un, hok, r, q⟩ := h
  obtain ⟨hh, g, d, t, os'⟩ := s'
  obtain rfl : os' = s.os := os
  exact ⟨v, H', I.call (h' := hh) (g' := g) (d' := d) (t' := t) (ch := []) un hok bare (fun b z => absurd z (by simp)), r, q⟩
end

/-! ### calls -/
/-- f(..): the written arguments, then the defaults dvs; E: what is wanted of an exception -/
def tCall (sp : Sp) (dvs : List V) (E : XK) (t : TA) : TE := fun σ H Q => t σ H fun vs H1 => sp (vs ++ dvs) H1 Q E
/-- C(..): a new instance and its dict, then __init__ -/
def tMake (C : Addr) (sp : Sp) (dvs : List V) (E : XK) (t : TA) : TE := fun σ H Q => t σ H fun vs H1 => ∀ x dx, H1 x = none → H1 dx = none → dx ≠ x →
  sp (.ref x :: (vs ++ dvs)) (upd (upd H1 dx (.own x)) x (.ins C dx [])) (fun v H2 => v = .non ∧ Q (.ref x) H2) E

/-- how the parameters are bound: us the positional arguments, kw the keywords' values by name, ds the defaults that fill up -/
def Binds (K : PySem.W.Frag) (fd : FuncData) (ps : List Str) (ds : List Value) : Prop :=
  ∀ (s : Shared) (us : List Value), K.In s.heap → (us ++ ds).length = ps.length → BindsTo s fd ⟨us, []⟩ (ps.zip (us ++ ds))
/-- every parameter is given -/
theorem Binds.all {K : PySem.W.Frag} {fd : FuncData} {ps : List Str} (h : ∀ us : List Value, us.length = ps.length → bindArgs fd ⟨us, []⟩ = pure (ps.zip us)) : Binds K fd ps [] := fun s us _ hl => by
  rw [List.append_nil] at hl ⊢
  exact .of_eq (h us hl)

/-- an exception of a callee reaches what this body wants of exceptions -/
def Passes (CX : CXT) (X : Cx) (E : XK) : Prop := ∀ (pins : List (Addr × Obj)) (σ : St) (H : Hp) (s : Shared) (e : Value) (s' : Shared), Inv X pins σ H s → CX X.stack H s E e s' → X.xe e s'

section
variable {X : Cx} {CX : CXT} {k : Nat} {f C : Addr} {fd : FuncData} {ps : List Str} {sp : Sp} {dvs : List V} {ds : List Value} {E : XK} {x m : Str} {p pos apos : Pos} {e o : Expr} {es : List Expr} {ta : TE} {t : TA}

/-- the callee runs -/
theorem run_fn {pins : List (Addr × Obj)} {σ : St} {H : Hp} {s : Shared} {Q : VK} {us : List Value} {vs : List V} (F : FnOk X.prog X.w X.K X.mg X.base CX k f fd ps sp) (hr : Room k X.A) (hb : Binds X.K fd ps ds) (hd : Vals dvs ds) (hx : Passes CX X E)
    (I : Inv X pins σ H s) (r : Vals vs us) (h : sp (vs ++ dvs) H Q E) : wpAny (model X.prog X.w) X.A (call (.ref f) us) (EP X pins σ Q) X.xe s := by
  have r2 : Vals (vs ++ dvs) (us ++ ds) := r.append hd
  have hl : (us ++ ds).length = ps.length := by rw [← r2.length]; exact F.len _ _ _ _ h
  refine wpAny_call (codeAny_mono (F.run X.A X.stack s H ⟨us, []⟩ (us ++ ds) (vs ++ dvs) Q E hr I.env0 (hb s us I.kIn hl) r2 h) fun r s' hq => ?_)
  cases r with
  | error e => exact hx pins σ H s e s' I hq
  | ok fl =>
    cases fl with
    | ret u => exact I.after hq
    | next => exact False.elim hq
    | brk => exact False.elim hq
    | cont => exact False.elim hq

theorem pe_call (F : FnOk X.prog X.w X.K X.mg X.base CX k f fd ps sp) (hr : Room k X.A) (hg : Gl X x) (hm : X.mg x = some (.ref f)) (hk : PySem.W.keepIn X.K (.ref f) = true) (hb : Binds X.K fd ps ds) (hd : Vals dvs ds) (hx : Passes CX X E)
    (ha : PA X (e :: es) t) (hdb : (x == ("__debug__" : Str)) = false := by decide) (he : starEach (e :: es) X.env = (false, eval e X.env) :: starEach es X.env := by rfl) (hpl : (backTo pos (starEach es X.env)).any (·.1) = false := by rfl) :
    PE X (.Call (.Name x p) (e :: es) [] pos) (tCall sp dvs E t) := by
  intro pins s σ H Q I h
  refine wpAny_Call_Name_kw (ld_glob I hg hm ?_ hdb)
  refine PySem.W.callWith_K (h₀ := X.base) I.ok.mod.kin hk (thn (ha pos pins s σ H _ I h) fun us s1 ⟨vs, H1, I1, r, q⟩ => ⟨I1.kIn, ?_⟩) he hpl
  exact run_fn F hr hb hd hx I1 r q


/-- what a class must have to be made -/
structure Mk (K : PySem.W.Frag) (C f : Addr) : Prop where
  makes : PySem.W.makesIn K C = true
  init : PySem.W.findIn K (.ref C) "__init__" = some (some (.ref f))
  fn : PySem.W.isFn K (.ref f) = true
  kp : PySem.W.keepIn K (.ref C) = true

theorem run_make {pins : List (Addr × Obj)} {σ : St} {H : Hp} {s : Shared} {Q : VK} {us : List Value} {vs : List V} (M : Mk X.K C f) (F : FnOk X.prog X.w X.K X.mg X.base CX k f fd ps sp) (hr : Room (k + 1) X.A) (hb : Binds X.K fd ps ds) (hd : Vals dvs ds)
    (hx : Passes CX X E) (I : Inv X pins σ H s) (r : Vals vs us)
    (h : ∀ x dx, H x = none → H dx = none → dx ≠ x → sp (.ref x :: (vs ++ dvs)) (upd (upd H dx (.own x)) x (.ins C dx [])) (fun v H2 => v = .non ∧ Q (.ref x) H2) E) :
    wpAny (model X.prog X.w) X.A (call (.ref C) us) (EP X pins σ Q) X.xe s := by
  have hq := h (s.heap.objs.size + 1) s.heap.objs.size (I.hok.fresh (Nat.le_succ _)) (I.hok.fresh (Nat.le_refl _)) (Nat.ne_of_lt (Nat.lt_succ_self _))
  have I2 := Inv.made (C := C) I
  have r2 : Vals (V.ref (s.heap.objs.size + 1) :: (vs ++ dvs)) (Value.ref (s.heap.objs.size + 1) :: (us ++ ds)) := .cons rfl (r.append hd)
  have hl : (Value.ref (s.heap.objs.size + 1) :: us ++ ds).length = ps.length := by
    have e := r2.length
    rw [F.len _ _ _ _ hq] at e
    exact e.symm
  refine wpAny_call (make_map (f := f) I.kIn M.makes M.init (beq_iff_eq.mp M.fn) (codeAny_mono (F.run _ X.stack _ _ ⟨Value.ref (s.heap.objs.size + 1) :: us, []⟩ (Value.ref (s.heap.objs.size + 1) :: (us ++ ds)) _ _ E (hr.make C us [])
    (I2.env0.make C us []) (hb _ (Value.ref (s.heap.objs.size + 1) :: us) I2.kIn hl) r2 hq) fun r s' hq' => ?_))
  cases r with
  | error e => exact hx pins σ _ _ e s' I2 hq'
  | ok fl =>
    cases fl with
    | ret u =>
      obtain ⟨v, H', I3, rv, ev, q3⟩ := I2.after hq'
      subst ev
      exact ⟨rv, ⟨V.ref (s.heap.objs.size + 1), H', I3, rfl, q3⟩⟩
    | next => exact False.elim hq'
    | brk => exact False.elim hq'
    | cont => exact False.elim hq'
theorem pe_make (M : Mk X.K C f) (F : FnOk X.prog X.w X.K X.mg X.base CX k f fd ps sp) (hr : Room (k + 1) X.A) (hg : Gl X x) (hm : X.mg x = some (.ref C)) (hb : Binds X.K fd ps ds) (hd : Vals dvs ds) (hx : Passes CX X E)
    (ha : PA X (e :: es) t) (hdb : (x == ("__debug__" : Str)) = false := by decide) (he : starEach (e :: es) X.env = (false, eval e X.env) :: starEach es X.env := by rfl) (hpl : (backTo pos (starEach es X.env)).any (·.1) = false := by rfl) :
    PE X (.Call (.Name x p) (e :: es) [] pos) (tMake C sp dvs E t) := by
  intro pins s σ H Q I h
  refine wpAny_Call_Name_kw (ld_glob I hg hm ?_ hdb)
  refine PySem.W.callWith_K (h₀ := X.base) I.ok.mod.kin M.kp (thn (ha pos pins s σ H _ I h) fun us s1 ⟨vs, H1, I1, r, q⟩ => ⟨I1.kIn, ?_⟩) he hpl
  exact run_make M F hr hb hd hx I1 r q
end

/-! ### keywords -/
section
variable {X : Cx} {CX : CXT} {k : Nat} {f C : Addr} {fd : FuncData} {ps ks : List Str} {sp : Sp} {E : XK} {x m : Str} {p pos apos kpos : Pos} {e o : Expr} {es : List Expr} {kws : List Keyword} {te ta : TE} {t tk : TA} {nm : Option Str}

variable {g : List Value → List Value → List Value} {gV : List V → List V → List V}
end

/-! ### a def's body keeps its promise -/
/-- names: the parameters first -/
structure FnScope (N P : List Str) (sc : Scope) : Prop where
  kind : sc.kind = .function
  co : sc.isCoroutine = false
  gen : sc.isGenerator = false
  nd : N.Nodup
  pre : N.take P.length = P
  par : ∀ x ∈ P, sc.names.lookup x = some .local ∨ sc.names.lookup x = some .cell
  nofree : ∀ y ∈ sc.names, y.2 ≠ .free

theorem bindL_out {kindOf : Str → Option NameKind} {x : Str} : ∀ {binds : List (Str × Value)} {m : Str → Option Value}, (∀ v, (x, v) ∉ binds) → bindL kindOf binds m x = m x
  | [], _, _ => rfl
  | (n, v) :: r, m, h => by
    unfold bindL
    rw [bindL_out fun w hw => h w (List.mem_cons_of_mem _ hw)]
    split
    · have : x ≠ n := by rintro rfl; exact h v List.mem_cons_self
      simp [this]
    · rfl
theorem bindC_out {kindOf : Str → Option NameKind} {x : Str} : ∀ {binds : List (Str × Value)} {m : Str → Option Value}, (∀ v, (x, v) ∉ binds) → bindC kindOf binds m x = m x
  | [], _, _ => rfl
  | (n, v) :: r, m, h => by
    unfold bindC
    rw [bindC_out fun w hw => h w (List.mem_cons_of_mem _ hw)]
    split
    · rfl
    · have : x ≠ n := by rintro rfl; exact h v List.mem_cons_self
      simp [this]
theorem bindL_get {kindOf : Str → Option NameKind} {x : Str} {v : Value} : ∀ {P : List Str} {vs : List Value} {i : Nat} {m : Str → Option Value}, P.Nodup → P[i]? = some x → vs[i]? = some v → kindOf x = some .local →
    bindL kindOf (P.zip vs) m x = some v
  | [], _, _, _, _, h, _, _ => by simp at h
  | _ :: _, [], _, _, _, _, h, _ => by simp at h
  | p :: P, w :: vs, 0, m, nd, h1, h2, hk => by
    simp at h1 h2; subst h1; subst h2
    show bindL kindOf ((p, w) :: P.zip vs) m p = _
    unfold bindL
    rw [bindL_out fun v hv => (List.nodup_cons.mp nd).1 (List.of_mem_zip hv).1, if_pos hk]
    simp
  | p :: P, w :: vs, i + 1, m, nd, h1, h2, hk => by
    show bindL kindOf ((p, w) :: P.zip vs) m x = _
    unfold bindL
    exact bindL_get (i := i) (List.nodup_cons.mp nd).2 (by simpa using h1) (by simpa using h2) hk
theorem bindC_get {kindOf : Str → Option NameKind} {x : Str} {v : Value} : ∀ {P : List Str} {vs : List Value} {i : Nat} {m : Str → Option Value}, P.Nodup → P[i]? = some x → vs[i]? = some v → kindOf x ≠ some .local →
    bindC kindOf (P.zip vs) m x = some v
  | [], _, _, _, _, h, _, _ => by simp at h
  | _ :: _, [], _, _, _, _, h, _ => by simp at h
  | p :: P, w :: vs, 0, m, nd, h1, h2, hk => by
    simp at h1 h2; subst h1; subst h2
    show bindC kindOf ((p, w) :: P.zip vs) m p = _
    unfold bindC
    rw [bindC_out fun v hv => (List.nodup_cons.mp nd).1 (List.of_mem_zip hv).1, if_neg hk]
    simp
  | p :: P, w :: vs, i + 1, m, nd, h1, h2, hk => by
    show bindC kindOf ((p, w) :: P.zip vs) m x = _
    unfold bindC
    exact bindC_get (i := i) (List.nodup_cons.mp nd).2 (by simpa using h1) (by simpa using h2) hk

/-- the names' values at the entry -/
def start (N : List Str) (vs : List V) : St := vs.map some ++ List.replicate (N.length - vs.length) none

/-- the context of a def's body, at its entry; an exception leaves the frame, then lies as CX says -/
def cxOf (CX : CXT) (P : Program) (w : World) (K : PySem.W.Frag) (mg : Str → Option Value) (base : Heap) (N : List Str) (qual : Str) (scope : Scope) (f : Addr) (cd : Value) (A : Around) (outer : List Env) (s : Shared) (H : Hp) (E : XK) : Cx where
  prog := P
  w := w
  K := K
  mg := mg
  base := base
  A := A.deeper (envOfC qual scope s.heap.objs.size f cd)
  N := N
  s₀ := s
  H₀ := H
  env := envOfC qual scope s.heap.objs.size f cd
  outer := outer
  stack := envOfC qual scope s.heap.objs.size f cd :: outer
  ex := []
  calm := true
  fn := fun _ => true
  pn := []
  xe := fun e s' => wpAny (model P w) (A.deeper (envOfC qual scope s.heap.objs.size f cd)) (leaving (envOfC qual scope s.heap.objs.size f cd) e) (fun _ s'' => CX outer H s E e s'') (fun e' s'' => CX outer H s E e' s'') s'

theorem cell_has {sc : Scope} {n : Nat} {x : Str} (h : sc.names.lookup x = some .cell) : ∃ c, (cellsFrom n sc.names []).lookup x = some c := by
  have q := PySem.W.cellsFrom_some sc.names n [] (.inl h)
  exact Option.isSome_iff_exists.mp q

theorem inv_start {CX : CXT} {P : Program} {w : World} {K : PySem.W.Frag} {mg : Str → Option Value} {base : Heap} {N ps : List Str} {qual : Str} {scope : Scope} {f : Addr} {cd : Value} {A : Around} {outer : List Env} {s s1 : Shared} {H : Hp} {E : XK} {us : List Value} {vs : List V}
    (S : FnScope N ps scope) (hd : A.handled = none) (e0 : Env0 P w K mg base A outer s H) (hl : vs.length = ps.length) (r : Vals vs us)
    (x : InCallC s s.heap.objs.size (bindL (envOfC qual scope s.heap.objs.size f cd).kindOf (ps.zip us) fun _ => none) (cellsFrom (s.heap.objs.size + 1) scope.names []) (bindC (envOfC qual scope s.heap.objs.size f cd).kindOf (ps.zip us) fun _ => none) s1) :
    Inv (cxOf CX P w K mg base N qual scope f cd A outer s H E) [] (start N vs) H s1 := by
  have hpl : ps.length ≤ N.length := by have := congrArg List.length S.pre; rw [List.length_take] at this; omega
  obtain ⟨h1, tk, rfl, hk⟩ := x.done
  have noA : ∀ b : Addr, b ∉ (cxOf CX P w K mg base N qual scope f cd A outer s H E).ex := fun b z => absurd (show b ∈ ([] : List Addr) from z) (by simp)
  refine ⟨⟨e0.mod, S.kind, rfl, rfl, Nat.le_refl _, fun y z c h1 h2 => ?_, fun y hy => ?_, fun y c _ h => ?_, fun _ => hd, Around.frames_deeper e0.frames, .inr ⟨rfl, rfl⟩, fun b z => absurd z (noA b), e0.bs, e0.bsz, fun b _ _ => noA b, fun b z => absurd z (noA b), e0.funs, e0.frf⟩,
    rfl, e0.bare, Un.kept hk, ⟨_, x.toInCall.ns, fun i y v h1 h2 h3 => ?_⟩, fun y c h => ⟨_, x.cell y c h⟩, e0.hok.fresh (Nat.le_refl _), fun y c h => ?_, fun p hp => absurd (show p ∈ ([] : List (Addr × Obj)) from hp) (by simp), e0.hok.kept hk, ?_⟩
  · exact name_of_addr x.apart (PySem.mem_of_lookup h1) (PySem.mem_of_lookup h2)
  · have hy : scope.names.lookup y = some .cell ∨ scope.names.lookup y = some .free := hy
    rcases hy with hy | hy
    · exact cell_has hy
    · exact absurd rfl (S.nofree _ (PySem.mem_of_lookup hy))
  · exact Nat.le_of_lt (x.above y c (PySem.mem_of_lookup h))
  · have hi : i < vs.length := by
      unfold start at h2
      by_cases hi : i < vs.length
      · exact hi
      · rw [List.getElem?_append_right (by simpa using hi)] at h2
        rw [List.getElem?_replicate] at h2
        split at h2 <;> cases h2
    have ha : vs[i]? = some v := by
      unfold start at h2
      rw [List.getElem?_append_left (by simpa using hi), List.getElem?_map] at h2
      cases e : vs[i]? with
      | none => rw [e] at h2; cases h2
      | some a => rw [e] at h2; cases h2; rfl
    obtain ⟨u, hu, rv⟩ := r.get ha
    have hp : ps[i]? = some y := by
      rw [← S.pre, List.getElem?_take_of_lt (by omega)]; exact h1
    have ndP : ps.Nodup := by rw [← S.pre]; exact S.nd.sublist (List.take_sublist _ _)
    refine ⟨u, rv, ?_⟩
    rcases S.par y (List.mem_of_getElem? hp) with k | k
    · exact .inl ⟨k, bindL_get ndP hp hu k⟩
    · obtain ⟨c, e⟩ := cell_has (n := s.heap.objs.size + 1) k
      refine .inr ⟨.inl k, c, e, ?_⟩
      have q := x.cell y c e
      rw [bindC_get ndP hp hu (by show scope.names.lookup y ≠ _; rw [k]; decide)] at q
      exact q
  · exact e0.hok.fresh (Nat.le_of_lt (x.above y c (PySem.mem_of_lookup h)))
  · unfold start
    show _ = N.length
    rw [List.length_append, List.length_map, List.length_replicate]
    omega

/-- THE RULE: a def (or a method) of the text, by its body. The body's reading t is chosen for each entry; it is run at the parameters' values -/
theorem fn_of {CX : CXT} {P : Program} {w : World} {K : PySem.W.Frag} {mg : Str → Option Value} {base : Heap} {k : Nat} {f : Addr} {name qual : Str} {params : Arguments} {body : List Stmt} {scope : Scope} {dV kV doc pm cdv ct oc : Value} {an od : Option Addr}
    {osl : Array (Option Value)} {N ps : List Str} {sp : Sp} (lk : K.lookup f = some ⟨oc, od, .func (PySem.W.fnOf name qual params body scope dV kV doc pm an cdv ct), osl⟩) (hcd : PySem.W.codeIn K cdv qual = true) (S : FnScope N ps scope)
    (len : ∀ vs H Q E, sp vs H Q E → vs.length = ps.length)
    (hbody : ∀ (A : Around) (outer : List Env) (s : Shared) (H : Hp) (vs : List V) (Q : VK) (E : XK), Room k (A.deeper (envOfC qual scope s.heap.objs.size f cdv)) → sp vs H Q E →
      ∃ t, PSs (cxOf CX P w K mg base N qual scope f cdv A outer s H E) body t ∧ t { nx := fun _ H' => Q .non H', rt := Q } (start N vs) H) :
    FnOk P w K mg base CX (k + 1) f (PySem.W.fnOf name qual params body scope dV kV doc pm an cdv ct) ps sp := by
  refine ⟨len, fun A outer s H args us vs Q E hr e0 hb r hsp => ?_⟩
  have hl := len _ _ _ _ hsp
  have KX : K.In s.heap := e0.mod.kin.keeps fun b o e => (e0.bs b o e).1
  have lim : s.heap.NoLimit := e0.mod.nolimit.keeps fun b o e => (e0.bs b o e).1
  have hkind : ∀ y ∈ ps.zip us, scope.names.lookup y.1 = some .local ∨ (scope.names.lookup y.1 = some .cell ∧ ((cellsFrom (s.heap.objs.size + 1) scope.names []).lookup y.1).isSome = true) := fun ⟨n, v⟩ hy => by
    rcases S.par n (List.of_mem_zip hy).1 with q | q
    · exact .inl q
    · exact .inr ⟨q, PySem.W.cellsFrom_some _ _ _ (.inl q)⟩
  refine codeAny_call_function hr.depth (KX _ _ lk) rfl S.co S.gen rfl (PySem.W.codeRec_of KX hcd) (hb _ _ _ _ ?_)
  refine wpAny_newFunctionEnv_cells S.kind hkind fun env he s1 x => ?_
  subst he
  refine ⟨lim.keeps x.toInCall.keep, codeAny_func ?_⟩
  obtain ⟨t, ht, hq⟩ := hbody A outer s H vs Q E (hr.deeper _) hsp
  have I : Inv (cxOf CX P w K mg base N qual scope f cdv A outer s H E) [] (start N vs) H s1 := inv_start S hr.hd e0 hl r x
  refine wpAny_mono (ht [] s1 (start N vs) H _ I hq) (fun fl s' hs => ?_) fun e s' hs => hs
  have fin : ∀ {σ' : St} {H' : Hp} {v : V} {u : Value}, Inv (cxOf CX P w K mg base N qual scope f cdv A outer s H E) [] σ' H' s' → RelV v u → Q v H' → CE outer P w H s Q u s' :=
    fun {σ' H' v u} J rv q => ⟨v, H', J.os, J.bare, J.base, J.hok, rv, q⟩
  cases fl with
  | ret u =>
    obtain ⟨v, σ', H', J, rv, q⟩ := hs
    exact fin J rv q
  | next =>
    obtain ⟨σ', H', J, q⟩ := hs
    exact fin (v := V.non) (u := Value.none) J rfl q
  | brk =>
    obtain ⟨_, _, _, q⟩ := hs
    exact False.elim q
  | cont =>
    obtain ⟨_, _, _, q⟩ := hs
    exact False.elim q
end L2

namespace L2
open PySem PySem.Spec PyProof.Rows
section
variable {X : Cx} {x : Str} {p pos : Pos} {e : Expr} {es : List Expr} {t : TA} {id T : String} {r : List V → Hp → VK → Prop}

def tCB (r : List V → Hp → VK → Prop) (t : TA) : TE := fun σ H Q => t σ H fun vs H1 => r vs H1 Q
/-- f(e, ..), f a built-in function -/
theorem pe_callB (hc : CallR X (.builtin id) r) (hg : Gl X x) (hm : X.mg x = none) (hv : bootBuiltins x = some (.builtin id)) (ha : PA X (e :: es) t) (hn : x ≠ "__name__" := by decide) (hdb : (x == ("__debug__" : Str)) = false := by decide)
    (he : starEach (e :: es) X.env = (false, eval e X.env) :: starEach es X.env := by rfl) (hpl : (backTo pos (starEach es X.env)).any (·.1) = false := by rfl) : PE X (.Call (.Name x p) (e :: es) [] pos) (tCB r t) := by
  intro pins s σ H Q I h
  refine wpAny_Call_Name_kw (ld_blt I hg hm hv ?_ hn hdb)
  exact PyProof.Rows.callWith_builtin1 (thn (ha pos pins s σ H _ I h) fun us s1 ⟨vs, H1, I1, r1, q1⟩ => hc pins s1 σ H1 vs us Q I1 r1 q1) he hpl
/-- T(e, ..), T a built-in type -/
theorem pe_callTy (hc : CallR X (.type T) r) (hg : Gl X x) (hm : X.mg x = none) (hv : bootBuiltins x = some (.type T)) (ha : PA X (e :: es) t) (hn : x ≠ "__name__" := by decide) (hdb : (x == ("__debug__" : Str)) = false := by decide)
    (he : starEach (e :: es) X.env = (false, eval e X.env) :: starEach es X.env := by rfl) (hpl : (backTo pos (starEach es X.env)).any (·.1) = false := by rfl) : PE X (.Call (.Name x p) (e :: es) [] pos) (tCB r t) := by
  intro pins s σ H Q I h
  refine wpAny_Call_Name_kw (ld_blt I hg hm hv ?_ hn hdb)
  exact PyProof.Rows.callWith_type1 (thn (ha pos pins s σ H _ I h) fun us s1 ⟨vs, H1, I1, r1, q1⟩ => hc pins s1 σ H1 vs us Q I1 r1 q1) he hpl
end
end L2

namespace HT
open PySem PyProof.Rows



section
open PySem.SeqAt
open PySem.AutoSeq1 (wpAny_loadPart')
open PySem.MeetsSeq PySem.MeetsSeq2 PySem.MeetsSeq3

end

section
variable {prog : Program} {w : World} {A : Around} {E : Value → Shared → Prop} {s : Shared}



/-! ### t[a:b], not the whole -/
/-- a slice's bound as a place among n (d where it is left out) -/
def sIx (n d : Nat) : Option Int → Nat
  | none => d
  | some v => if v < 0 then (v + (n : Int)).toNat else min v.toNat n
theorem sIx_none (n d : Nat) : sIx n d none = d := rfl
theorem sIx_nat (n d k : Nat) : sIx n d (some (k : Int)) = min k n := by
  show (if (k : Int) < 0 then ((k : Int) + (n : Int)).toNat else min (k : Int).toNat n) = min k n
  rw [if_neg (by omega), Int.toNat_natCast]

end
end HT

namespace L2
open PySem PySem.Spec PyProof.Rows

/-! ### the parts of a slice -/
abbrev TO := St → Hp → (Option Int → Hp → Prop) → Prop
/-- a slice's part (left out, or an int) -/
def PO (X : Cx) (e : Option Expr) (t : TO) : Prop :=
  ∀ (pins : List (Addr × Obj)) (s : Shared) (σ : St) (H : Hp) (Q : Option Int → Hp → Prop), Inv X pins σ H s → t σ H Q →
    wpAny (model X.prog X.w) X.A (evalPart e X.env) (fun u s' => ∃ o H', Inv X pins σ H' s' ∧ IsPart u o ∧ Q o H') X.xe s
def tNoPart : TO := fun _ H Q => Q none H
def tPart (t : TE) : TO := fun σ H Q => t σ H fun x H1 => ∃ i, x = .int i ∧ Q (some i) H1


section
variable {X : Cx} {e : Expr} {te : TE} {lo hi : Option Expr} {tl th : TO} {pos p2 : Pos}

theorem po_none : PO X none tNoPart := by
  intro pins s σ H Q I h
  rw [evalPart_none]
  exact wpAny_pure ⟨none, H, I, .none, h⟩
theorem po_some (h : PE X e te) : PO X (some e) (tPart te) := by
  intro pins s σ H Q I hw
  rw [evalPart_some]
  refine thn (h pins s σ H _ I hw) fun u s1 ⟨x, H1, I1, r1, q1⟩ => ?_
  obtain ⟨i, rfl, q⟩ := q1
  obtain ⟨t, rfl⟩ := r1
  exact ⟨some i, H1, I1, .int i t, q⟩

/-- what a slice of a value is, by values: the slice object stands at sl -/
def SlR (X : Cx) (r : V → Option Int → Option Int → Hp → VK → Prop) : Prop :=
  ∀ (pins : List (Addr × Obj)) (s : Shared) (σ : St) (H : Hp) (x : V) (v vl vu : Value) (lo hi : Option Int) (sl : Addr) (Q : VK), Inv X pins σ H s → RelV x v → s.heap.IsSliceOf sl vl vu .none → IsPart vl lo → IsPart vu hi → r x lo hi H Q →
    ∃ T id, typeLookup (.type T) "__getitem__" = pure (some (.builtin id)) ∧ s.TypeIs v T ∧ wpAny (model X.prog X.w) X.A (getItem v (.ref sl)) (EP X pins σ Q) X.xe s
def tSl (r : V → Option Int → Option Int → Hp → VK → Prop) (te : TE) (tl th : TO) : TE := fun σ H Q => te σ H fun x H1 => tl σ H1 fun l H2 => th σ H2 fun u H3 => r x l u H3 Q
/-- a[lo:hi], any a -/
theorem pe_slice {r : V → Option Int → Option Int → Hp → VK → Prop} (hr : SlR X r) (he : PE X e te) (hl : PO X lo tl) (hu : PO X hi th) : PE X (.Subscript e (.Slice lo hi none p2) pos) (tSl r te tl th) := by
  intro pins s σ H Q I h
  refine Subscript_ (thn (he pins s σ H _ I h) fun v s1 ⟨x, H1, I1, r1, q1⟩ => ?_)
  refine wpAny_Slice (thn (hl pins s1 σ H1 _ I1 q1) fun vl s2 ⟨l, H2, I2, pl, q2⟩ => thn (hu pins s2 σ H2 _ I2 q2) fun vu s3 ⟨u, H3, I3, pu, q3⟩ => ?_)
  rw [evalPart_none]
  refine wpAny_pure ?_
  have I4 : Inv X pins σ H3 { s3 with heap := s3.heap.push { cls := .type "slice", data := .fields #[vl, vu, .none] } } := I3.kept (t' := s3.toks) fun b ob q => Heap.get?_push_of_some _ q
  obtain ⟨T, id, hT, ht, hg⟩ := hr pins { s3 with heap := s3.heap.push { cls := .type "slice", data := .fields #[vl, vu, .none] } } σ H3 x v vl vu l u s3.heap.objs.size Q I4 r1 (Heap.IsSliceOf.new ..) pl pu q3
  show wpAny (model X.prog X.w) X.A (subscriptTail e (.Slice lo hi none p2) v (.ref s3.heap.objs.size)) (EP X pins σ Q) X.xe { s3 with heap := s3.heap.push { cls := .type "slice", data := .fields #[vl, vu, .none] } }
  exact tail_any (ops := [.ref s3.heap.objs.size, v]) ht hT hg (by with_unfolding_all rfl)

/-- the items of xs[lo:hi] -/
def cutV (xs : List V) (lo hi : Option Int) : List V := (xs.drop (HT.sIx xs.length 0 lo)).take (HT.sIx xs.length xs.length hi - HT.sIx xs.length 0 lo)
theorem cutV_length (xs : List V) (lo hi : Option Int) : (cutV xs lo hi).length ≤ xs.length := by
  unfold cutV
  rw [List.length_take, List.length_drop]
  omega

/-! ### t < u, t + u -/
end
end L2

namespace L2
open PySem PySem.Spec PyProof.Rows

/-! ### places -/
/-- the place that an index of any sign means -/
def ixN (n : Nat) (i : Int) : Option Nat := if 0 ≤ i then (if i < n then some i.toNat else none) else if -(n : Int) ≤ i then some (i + n).toNat else none
def atI {α : Type} (xs : List α) (i : Int) : Option α := (ixN xs.length i).bind fun j => xs[j]?
theorem ixN_seq {n : Nat} {i : Int} {j : Nat} (h : ixN n i = some j) : seqIndex? i n = some j ∧ j < n ∧ -(n : Int) ≤ i ∧ i < n := by
  unfold ixN at h
  by_cases h0 : 0 ≤ i
  · rw [if_pos h0] at h
    by_cases h1 : i < n
    · rw [if_pos h1] at h
      have e : i.toNat = j := Option.some.inj h
      exact ⟨by rw [seqIndex_of h0 h1, e], by omega, by omega, h1⟩
    · rw [if_neg h1] at h; cases h
  · rw [if_neg h0] at h
    by_cases h1 : -(n : Int) ≤ i
    · rw [if_pos h1] at h
      have e : (i + n).toNat = j := Option.some.inj h
      exact ⟨by rw [seqIndex_neg (by omega) h1, e], by omega, h1, by omega⟩
    · rw [if_neg h1] at h; cases h
theorem atI_get {α : Type} {xs : List α} {i : Int} {v : α} (h : atI xs i = some v) : ∃ j, seqIndex? i xs.length = some j ∧ xs[j]? = some v ∧ j < xs.length ∧ -(xs.length : Int) ≤ i ∧ i < xs.length := by
  unfold atI at h
  cases e : ixN xs.length i with
  | none => rw [e] at h; cases h
  | some j =>
    rw [e] at h
    obtain ⟨h1, h2, h3, h4⟩ := ixN_seq e
    exact ⟨j, h1, h, h2, h3, h4⟩
theorem atI_nat {α : Type} {xs : List α} {j : Nat} {v : α} (h : xs[j]? = some v) : atI xs (j : Int) = some v := by
  have hj : j < xs.length := (List.getElem?_eq_some_iff.mp h).1
  have e : ixN xs.length (j : Int) = some j := by
    unfold ixN
    rw [if_pos (by omega), if_pos (by omega)]; simp
  unfold atI; rw [e]; exact h

/-! ### what may be subscripted -/
/-- what stands as an index of a plain subscript -/
def PlainIx (b : Expr) : Prop := ∀ o i, subscripted b false o i = operate [o, i] (getItem o i)
/-- a subscript by values -/
def IxR (X : Cx) (r : R2) : Prop :=
  ∀ (value slice : Expr) (pins : List (Addr × Obj)) (s : Shared) (σ : St) (H : Hp) (x y : V) (v u : Value) (Q : VK), Inv X pins σ H s → RelV x v → RelV y u → r x y H Q →
    subscripted slice false v u = operate [v, u] (getItem v u) → wpAny (model X.prog X.w) X.A (subscriptTail value slice v u) (EP X pins σ Q) X.xe s
/-- a call of a builtin's method by values: the receiver, the arguments -/
def MtR (X : Cx) (id : String) (r : V → List V → Hp → VK → Prop) : Prop :=
  ∀ (pins : List (Addr × Obj)) (s : Shared) (σ : St) (H : Hp) (x : V) (xs : List V) (v : Value) (us : List Value) (Q : VK), Inv X pins σ H s → RelV x v → Vals xs us → r x xs H Q →
    wpAny (model X.prog X.w) X.A (call (.builtin id) (v :: us)) (EP X pins σ Q) X.xe s
section
variable {X : Cx} {a b : Expr} {ta tb : TE} {pos : Pos}
/-- a[b] -/
theorem pe_ix {r : R2} (hr : IxR X r) (ha : PE X a ta) (hb : PE X b tb) (hs : PlainIx b) : PE X (.Subscript a b pos) (tOp r ta tb) := by
  intro pins s σ H Q I h
  exact Subscript_ (binT ha hb I h fun v u s2 x y H2 I2 rx ry q => hr a b pins s2 σ H2 x y v u Q I2 rx ry q (hs _ _))

def rIxL (K : PySem.W.Frag) : R2 := fun x y H Q => ∃ p xs i v, x = .ref p ∧ y = .int i ∧ SqL K H p xs ∧ atI xs i = some v ∧ Q v H
def rIxT (K : PySem.W.Frag) : R2 := fun x y H Q => ∃ p xs i v, x = .ref p ∧ y = .int i ∧ SqT K H p xs ∧ atI xs i = some v ∧ Q v H
def rIxS : R2 := fun x y H Q => ∃ z i c, x = .str z ∧ y = .int i ∧ z.length ≤ sizeLine ∧ atI z.cps.toList i = some c ∧ Q (.str ⟨#[c]⟩) H
theorem ix_list : IxR X (rIxL X.K) := by
  intro value slice pins s σ H x y v u Q I rx ry h hs
  obtain ⟨p, xs, i, z, rfl, rfl, hq, he, q⟩ := h
  cases rx
  obtain ⟨t, rfl⟩ := ry
  obtain ⟨its, r, pl, hz⟩ := I.list hq
  obtain ⟨j, h1, h2, h3, h4, h5⟩ := atI_get he
  obtain ⟨w, ew, rw'⟩ := r.get h2
  have hl := r.length
  have hn := line63
  have fin : EP X pins σ Q w s := ⟨z, H, I, rw', q⟩
  by_cases h0 : 0 ≤ i
  · have hj : i.toNat = j := by
      rw [seqIndex_of h0 h5] at h1
      exact Option.some.inj h1
    exact item_listR pl.isList h0 (by omega) (by rw [hj]; simpa using ew) fin hs
  · have hj : (i + (its.toArray.size : Int)).toNat = j := by
      rw [seqIndex_neg (by omega) h4] at h1
      rw [List.size_toArray, ← hl]
      exact Option.some.inj h1
    exact subscriptTail_builtinR (x := w) pl.isList.typeIs slot_list_getitem.lookup
      (wpAny_getItem_list_neg (Q := fun r s' => r = w ∧ EP X pins σ Q r s') pl.isList (by omega) (by rw [List.size_toArray] <;> omega) (by omega) (by rw [hj]; simpa using ew) ⟨rfl, fin⟩) hs
theorem ix_tup : IxR X (rIxT X.K) := by
  intro value slice pins s σ H x y v u Q I rx ry h hs
  obtain ⟨p, xs, i, z, rfl, rfl, hq, he, q⟩ := h
  cases rx
  obtain ⟨t, rfl⟩ := ry
  obtain ⟨its, r, pl, hz⟩ := I.tuple hq
  obtain ⟨j, h1, h2, h3, h4, h5⟩ := atI_get he
  obtain ⟨w, ew, rw'⟩ := r.get h2
  have hl := r.length
  have hn := line63
  have fin : EP X pins σ Q w s := ⟨z, H, I, rw', q⟩
  exact subscriptTail_builtinR (x := w) pl.typeIs slot_tuple_getitem.lookup
    (getItem_tuple (j := j) (Q := fun r s' => r = w ∧ EP X pins σ Q r s') pl (by omega) (by omega) (by rw [List.size_toArray, ← hl]; exact h1) (by simpa using ew) ⟨rfl, fin⟩) hs
theorem ix_str : IxR X rIxS := by
  intro value slice pins s σ H x y v u Q I rx ry h hs
  obtain ⟨z, i, c, rfl, rfl, hz, he, q⟩ := h
  obtain ⟨t, rfl⟩ := rx
  obtain ⟨t', rfl⟩ := ry
  obtain ⟨j, h1, h2, h3, h4, h5⟩ := atI_get he
  have hl : z.cps.toList.length = z.length := by simp [Str.length]
  rw [hl] at h1 h4 h5
  have hn := line63
  exact tail_any (typeIs_str s z t) slot_str_getitem.lookup (getItem_str (c := c) (by
    have e1 : decide (i < -(2 ^ 63 : Int)) = false := decide_eq_false (by omega)
    have e2 : decide (i ≥ 2 ^ 63) = false := decide_eq_false (by omega)
    rw [e1, e2, Bool.or_false]) (by rw [h1]; simpa using h2) ⟨.str ⟨#[c]⟩, H, I.tok _, ⟨_, rfl⟩, q⟩) hs

/-! ### xs[i] = v, any sign -/
/-- the list's object behind a store -/
theorem mapSeq_set (its : List Value) (n j : Nat) (u : Value) : Obj.mapSeq (·.setIfInBounds j u) { cls := .type "list", data := .seq its.toArray n } = { cls := .type "list", data := .seq (its.set j u).toArray n } := by
  simp [Obj.mapSeq]
theorem Inv.lst {pins : List (Addr × Obj)} {σ : St} {H : Hp} {s : Shared} {p : Addr} {xs : List V} (I : Inv X pins σ H s) (h : H p = some (.lst xs)) :
    ∃ (its : List Value) (n : Nat), Vals xs its ∧ s.heap.get? p = some { cls := .type "list", data := .seq its.toArray n } ∧ xs.length ≤ sizeLine := by
  obtain ⟨z, its, n, r, e⟩ := I.hok p _ h
  exact ⟨its, n, r, e, z⟩
/-- the list at p is written by an update of its object -/
theorem Inv.lstUpd {pins : List (Addr × Obj)} {σ : St} {H : Hp} {s : Shared} {p : Addr} {xs ys : List V} {its its' : List Value} {n n' : Nat} {f : Obj → Obj} (I : Inv X pins σ H s) (h : H p = some (.lst xs))
    (ho : s.heap.get? p = some { cls := .type "list", data := .seq its.toArray n }) (hf : f { cls := .type "list", data := .seq its.toArray n } = { cls := .type "list", data := .seq its'.toArray n' }) (r : Vals ys its') (hz : ys.length ≤ sizeLine) (t : Nat) :
    Inv X pins σ (upd H p (.lst ys)) { s with heap := s.heap.update p f, toks := t } := by
  have e : (s.heap.update p f).get? p = some { cls := .type "list", data := .seq its'.toArray n' } := by
    rw [Heap.get?_update_self f ho (by rw [hf] <;> rfl), hf]
  refine I.write (x := p) (e := p) (by rw [h]; trivial) (.inl rfl) (fun b u hb q => (Heap.get?_update_other _ _ (Ne.symm hb)).trans q) ⟨_, e⟩ ?_
  exact ⟨hz, its', n', r, e⟩
def rSetL : V → V → V → Hp → (Hp → Prop) → Prop := fun o i v H Q => ∃ p xs k j, o = .ref p ∧ i = .int k ∧ H p = some (.lst xs) ∧ ixN xs.length k = some j ∧ Q (upd H p (.lst (xs.set j v)))
theorem set_list : PSet X rSetL := by
  intro pins s σ H o i v ov iv u Q I ro ri rv h
  obtain ⟨p, xs, k, j, rfl, rfl, hp, hj, q⟩ := h
  cases ro
  obtain ⟨t, rfl⟩ := ri
  obtain ⟨its, n, r, ho, hz⟩ := I.lst hp
  obtain ⟨h1, h2, h3, h4⟩ := ixN_seq hj
  have hl := r.length
  have hn := line63
  have I' : Inv X pins σ (upd H p (.lst (xs.set j v))) { s with heap := s.heap.update p (Obj.mapSeq (·.setIfInBounds j u)) } :=
    I.lstUpd hp ho (mapSeq_set its n j u) (r.set rv j) (by rw [List.length_set]; exact hz) s.toks
  by_cases h0 : 0 ≤ k
  · have hk : k.toNat = j := by
      rw [seqIndex_of h0 h4] at h1
      exact Option.some.inj h1
    exact PySem.W.ki_setAt ho h0 (by omega) (by rw [List.size_toArray, ← hl]; exact h4) (by rw [hk]; exact ⟨_, I', q⟩)
  · have hk : (k + (its.toArray.size : Int)).toNat = j := by
      rw [seqIndex_neg (by omega) h3] at h1
      rw [List.size_toArray, ← hl]
      exact Option.some.inj h1
    exact PySem.W.ki_setBack ho (by omega) (by rw [List.size_toArray, ← hl]; exact h3) (by omega) (by rw [hk]; exact ⟨_, I', q⟩)

/-! ### slices -/
theorem slice_bounds (lo hi : Option Int) (n : Nat) : (sliceBounds lo hi none n).1 = ((HT.sIx n 0 lo : Nat) : Int) ∧ (sliceBounds lo hi none n).2.1 = ((HT.sIx n n hi : Nat) : Int) ∧ (sliceBounds lo hi none n).2.2 = 1 := by
  refine ⟨?_, ?_, rfl⟩
  · cases lo with
    | none => simp [sliceBounds, HT.sIx]
    | some i =>
      simp only [sliceBounds, HT.sIx, Option.getD_none, show (1 : Int) > 0 by decide, if_true]
      by_cases h : i < 0
      · simp only [h, if_true] <;> omega
      · simp only [h, if_false] <;> omega
  · cases hi with
    | none => simp [sliceBounds, HT.sIx]
    | some i =>
      simp only [sliceBounds, HT.sIx, Option.getD_none, show (1 : Int) > 0 by decide, if_true]
      by_cases h : i < 0
      · simp only [h, if_true] <;> omega
      · simp only [h, if_false] <;> omega
theorem slicePick_cut (its : List Value) (lo hi : Option Int) : slicePick its.toArray lo hi none = ((its.drop (HT.sIx its.length 0 lo)).take (HT.sIx its.length its.length hi - HT.sIx its.length 0 lo)).toArray := by
  obtain ⟨h1, h2, h3⟩ := slice_bounds lo hi its.toArray.size
  unfold slicePick
  rw [h1, h2, h3]
  simp only [sliceRange_one, pick_run, List.size_toArray] <;> rfl
/-- xs[lo:hi] of a list: a new list -/
def rSlL (K : PySem.W.Frag) : V → Option Int → Option Int → Hp → VK → Prop := fun x lo hi H Q => ∃ a xs, x = .ref a ∧ SqL K H a xs ∧ ∀ p, H p = none → Q (.ref p) (upd H p (.lst (cutV xs lo hi)))
theorem sl_list : SlR X (rSlL X.K) := by
  intro pins s σ H x v vl vu lo hi sl Q I rx hs pl pu h
  obtain ⟨a, xs, rfl, hx, q⟩ := h
  cases rx
  obtain ⟨its, r, ht, hz⟩ := I.list hx
  have hlen := r.length
  refine ⟨"list", _, slot_list_getitem.lookup, ht.isList.typeIs, ?_⟩
  refine wpAny_getItem_list_slice ht.isList hs pl pu .none (by simp) ?_ (by rw [List.size_toArray] <;> omega)
  rw [slicePick_cut, ← hlen]
  refine ⟨.ref s.heap.objs.size, _, I.laid (t' := s.toks) (o := .lst (cutV xs lo hi)) (fun b ob q => Heap.get?_push_of_some _ q) (Nat.le_refl _) ?_, rfl, q _ (I.hok.fresh (Nat.le_refl _))⟩
  exact ⟨Nat.le_trans (cutV_length xs lo hi) hz, _, 0, (r.drop (HT.sIx xs.length 0 lo)).take (HT.sIx xs.length xs.length hi - HT.sIx xs.length 0 lo), Heap.get?_push_size _ rfl⟩

/-! ### in, not in: flat items -/
def flatV : V → Bool
  | .non => true
  | .bl _ => true
  | .int _ => true
  | .str _ => true
  | _ => false
/-- == of flat values -/
def eqV : V → V → Bool
  | .non, .non => true
  | .bl a, .bl b => a == b
  | .bl a, .int b => (if a then 1 else 0) == b
  | .int a, .bl b => a == (if b then 1 else 0)
  | .int a, .int b => a == b
  | .str a, .str b => a == b
  | _, _ => false
theorem eqAt_V {A : Around} {s : Shared} {y x : V} {u v : Value} (ry : RelV y u) (rx : RelV x v) (fy : flatV y = true) (fx : flatV x = true) : SeqAt.EqAt A s u v (eqV y x) := by
  cases y with
  | non =>
    cases ry
    cases x with
    | non => cases rx; exact SeqAt.EqAt.same _
    | bl b => cases rx; exact SeqAt.EqAt.none_bool b
    | int b => obtain ⟨t, rfl⟩ := rx; exact SeqAt.EqAt.none_int b t
    | str b => obtain ⟨t, rfl⟩ := rx; exact SeqAt.EqAt.none_str b t
    | _ => exact absurd (show false = true from fx) Bool.false_ne_true
  | bl a =>
    cases ry
    cases x with
    | non => cases rx; exact SeqAt.EqAt.bool_none a
    | bl b => cases rx; exact SeqAt.EqAt.bool_bool a b
    | int b => obtain ⟨t, rfl⟩ := rx; exact SeqAt.EqAt.bool_int a b t
    | str b => obtain ⟨t, rfl⟩ := rx; exact SeqAt.EqAt.bool_str a b t
    | _ => exact absurd (show false = true from fx) Bool.false_ne_true
  | int a =>
    obtain ⟨t', rfl⟩ := ry
    cases x with
    | non => cases rx; exact SeqAt.EqAt.int_none a t'
    | bl b => cases rx; exact SeqAt.EqAt.int_bool a t' b
    | int b => obtain ⟨t, rfl⟩ := rx; exact SeqAt.EqAt.int_int a t' b t
    | str b => obtain ⟨t, rfl⟩ := rx; exact SeqAt.EqAt.int_str a t' b t
    | _ => exact absurd (show false = true from fx) Bool.false_ne_true
  | str a =>
    obtain ⟨t', rfl⟩ := ry
    cases x with
    | non => cases rx; exact SeqAt.EqAt.str_none a t'
    | bl b => cases rx; exact SeqAt.EqAt.str_bool a t' b
    | int b => obtain ⟨t, rfl⟩ := rx; exact SeqAt.EqAt.str_int a t' b t
    | str b => obtain ⟨t, rfl⟩ := rx; exact SeqAt.EqAt.str_str a t' b t
    | _ => exact absurd (show false = true from fx) Bool.false_ne_true
  | _ => exact absurd (show false = true from fy) Bool.false_ne_true

/-! ### len, list(x), tuple(x) of any list or tuple that is read -/
theorem call_len_seq : CallR X (.builtin "len") (fun xs H Q => ∃ p ys, xs = [.ref p] ∧ (SqL X.K H p ys ∨ SqT X.K H p ys) ∧ Q (.int ys.length) H) := by
  intro pins s σ H xs us Q I r h
  obtain ⟨p, ys, rfl, hq, q⟩ := h
  obtain ⟨u, rfl, rx⟩ := vals1 r
  cases rx
  have hn := line63
  rcases hq with hq | hq
  · obtain ⟨its, r', pl, hz⟩ := I.list hq
    have hlen := r'.length
    exact Calls.call_len_list pl.isList (by simp only [List.size_toArray] <;> omega) ⟨.int ys.length, H, I.tok _, ⟨s.toks + 1, by rw [List.size_toArray, hlen]⟩, q⟩
  · obtain ⟨its, r', pl, hz⟩ := I.tuple hq
    have hlen := r'.length
    exact len_tuple pl (by simp only [List.size_toArray] <;> omega) ⟨.int ys.length, H, I.tok _, ⟨s.toks + 1, by rw [List.size_toArray, hlen]⟩, q⟩
theorem call_len_str : CallR X (.builtin "len") (fun xs H Q => ∃ z, xs = [.str z] ∧ z.length ≤ sizeLine ∧ Q (.int z.length) H) := by
  intro pins s σ H xs us Q I r h
  obtain ⟨z, rfl, hz, q⟩ := h
  obtain ⟨u, rfl, t, rfl⟩ := vals1 r
  have hn := line63
  exact len_str (by omega) ⟨.int z.length, H, I.tok _, ⟨_, rfl⟩, q⟩

/-! ### the call of a builtin's method: o.m(..) -/
/-- the value is of that builtin type -/
def tyV (K : PySem.W.Frag) (T : String) (x : V) (H : Hp) : Prop := match x with
  | .str _ => T = "str"
  | .int _ => T = "int"
  | .ref p => (T = "list" ∧ ∃ xs, SqL K H p xs) ∨ (T = "tuple" ∧ ∃ o, K.lookup p = some o ∧ o.cls = .type "tuple" ∧ o.dict = none) ∨
      (T = "dict" ∧ ((∃ kvs, H p = some (.dK kvs)) ∨ ∃ kvs, H p = some (.dT kvs))) ∨ (T = "set" ∧ ∃ S n, H p = some (.set S n))
  | _ => False
theorem tyV_is {pins : List (Addr × Obj)} {σ : St} {H : Hp} {s : Shared} {T : String} {x : V} {v : Value} (I : Inv X pins σ H s) (r : RelV x v) (ty : tyV X.K T x H) :
    s.TypeIs v T ∧ ∀ a, v = .ref a → ∃ ob, s.heap.get? a = some ob ∧ ob.dict = none := by
  cases x with
  | str z =>
    obtain ⟨t, rfl⟩ := r
    cases (show T = "str" from ty)
    exact ⟨typeIs_str s z t, fun _ e => nomatch e⟩
  | int i =>
    obtain ⟨t, rfl⟩ := r
    cases (show T = "int" from ty)
    exact ⟨typeIs_int s i t, fun _ e => nomatch e⟩
  | ref p =>
    cases r
    rcases ty with ⟨rfl, xs, hq⟩ | ⟨rfl, o, hk, hc, hd⟩ | ⟨rfl, hk⟩ | ⟨rfl, S, n, hk⟩
    · obtain ⟨its, _, pl, _⟩ := I.list hq
      refine ⟨pl.isList.typeIs, fun a e => ?_⟩
      cases e
      obtain ⟨o, n, e, c, hd, _⟩ := pl
      exact ⟨o, e, hd⟩
    · refine ⟨⟨o, I.kIn p o hk, hc⟩, fun a e => ?_⟩
      cases e
      exact ⟨o, I.kIn _ o hk, hd⟩
    · have z : ∃ o, s.heap.get? p = some o ∧ o.ExactDict := by
        rcases hk with ⟨kvs, hk⟩ | ⟨kvs, hk⟩
        · obtain ⟨_, _, _, _, o, _, _, e, ex, _⟩ := I.hok p _ hk
          exact ⟨o, e, ex⟩
        · obtain ⟨_, _, _, _, o, _, _, e, ex, _⟩ := I.hok p _ hk
          exact ⟨o, e, ex⟩
      obtain ⟨o, e, ex⟩ := z
      refine ⟨⟨o, e, ex.1⟩, fun a e2 => ?_⟩
      cases e2
      exact ⟨o, e, ex.2.1⟩
    · obtain ⟨o, _, _, _, e, ex, _⟩ := I.hok p _ hk
      refine ⟨⟨o, e, ex.1⟩, fun a e2 => ?_⟩
      cases e2
      exact ⟨o, e, ex.2.1⟩
  | _ => exact False.elim ty
def tBM0 (K : PySem.W.Frag) (T : String) (r : V → List V → Hp → VK → Prop) (to : TE) : TE := fun σ H Q => to σ H fun x H1 => tyV K T x H1 ∧ r x [] H1 Q
def tBM (K : PySem.W.Frag) (T : String) (r : V → List V → Hp → VK → Prop) (to : TE) (t : TA) : TE := fun σ H Q => to σ H fun x H1 => tyV K T x H1 ∧ t σ H1 fun xs H2 => r x xs H2 Q
variable {o e : Expr} {es : List Expr} {to : TE} {t : TA} {name : Str} {apos cpos : Pos} {T id : String} {r : V → List V → Hp → VK → Prop}
theorem pe_bm0 (pa : PlainAttrs T) (slot : Slot T name id) (hty : typeOf (.builtin id) = pure (.type "method_descriptor")) (hm : MtR X id r) (ho : PE X o to)
    (hbase : attributeBase o name X.env (eval o X.env) = eval o X.env := by rfl) (hline : (apos.endLine == cpos.line) = true := by rfl) : PE X (.Call (.Attribute o name apos) [] [] cpos) (tBM0 X.K T r to) := by
  intro pins s σ H Q I h
  refine wpAny_Call_method0_late hbase hline (thn (ho pins s σ H _ I h) fun v s1 ⟨x, H1, I1, r1, ty, q1⟩ => ?_)
  obtain ⟨h1, h2⟩ := tyV_is I1 r1 ty
  exact ⟨T, id, pa, slot, hty, h1, h2, Calls.callWith_builtin rfl (PySem.evalArgs_none (hm pins s1 σ H1 x [] v [] Q I1 r1 .nil q1))⟩
theorem pe_bm (pa : PlainAttrs T) (slot : Slot T name id) (hty : typeOf (.builtin id) = pure (.type "method_descriptor")) (hm : MtR X id r) (ho : PE X o to) (ha : PA X (e :: es) t)
    (hbase : attributeBase o name X.env (eval o X.env) = eval o X.env := by rfl)
    (hfew : ((backTo cpos (starEach (e :: es) X.env)).all (fun x => !x.1) && (backToKw cpos (keywordEach [] X.env)).all (fun x => x.1.isSome)
      && decide ((e :: es).length + ([] : List Keyword).length + (if ([] : List Keyword).isEmpty then 0 else 1) < 30)) = true := by rfl)
    (hline : (apos.endLine == cpos.line) = true := by rfl) (hs : starEach (e :: es) X.env = (false, eval e X.env) :: starEach es X.env := by rfl) (hplain : (backTo cpos (starEach es X.env)).any (·.1) = false := by rfl) :
    PE X (.Call (.Attribute o name apos) (e :: es) [] cpos) (tBM X.K T r to t) := by
  intro pins s σ H Q I h
  refine wpAny_Call_method_late hbase hfew hline rfl (thn (ho pins s σ H _ I h) fun v s1 ⟨x, H1, I1, r1, ty, q1⟩ => ?_)
  obtain ⟨h1, h2⟩ := tyV_is I1 r1 ty
  refine ⟨T, id, pa, slot, hty, h1, h2, ?_⟩
  have hA := ha cpos pins s1 σ H1 _ I1 q1
  rw [hs] at hA ⊢
  refine Calls.callWith_builtin (by show (false || (backTo cpos (starEach es X.env)).any (·.1)) = false; rw [hplain] <;> rfl) (Calls.evalArgs_plain ?_)
  exact thn hA fun us s2 ⟨vs, H2, I2, r2, q2⟩ => hm pins s2 σ H2 x vs v us Q I2 r1 r2 q2
/- xs.append(e), list.index on a module's tuple .. are MtR facts of 06m -/
end
end L2

namespace L2
open PySem PySem.Spec PyProof.Rows

def MtM (X : Cx) (id : String) (r : V → List V → Hp → VK → Prop) : Prop :=
  ∀ (pins : List (Addr × Obj)) (s : Shared) (σ : St) (H : Hp) (x : V) (xs : List V) (v : Value) (us : List Value) (Q : VK), Inv X pins σ H s → RelV x v → Vals xs us → r x xs H Q →
    wpAny (model X.prog X.w) X.A (call (.builtin id) (v :: us)) (EP X pins σ Q) X.xe s

/-! ### lists of values -/
theorem Vals.one : ∀ {x : V} {us : List Value}, Vals [x] us → ∃ u, us = [u] ∧ RelV x u
  | _, _, .cons r .nil => ⟨_, rfl, r⟩

section
variable {X : Cx} {pins : List (Addr × Obj)} {σ : St} {H : Hp} {s : Shared} {l b : Addr} {xs ys zs : List V}

/-! ### the two steps: a tracked list is rewritten, a new list is laid -/
theorem Inv.lset {its its' : List Value} {n : Nat} {f : Array Value → Array Value} {t' : Nat} (I : Inv X pins σ H s) (hH : H l = some (.lst xs))
    (e : s.heap.get? l = some { cls := .type "list", data := .seq its.toArray n }) (hf : f its.toArray = its'.toArray) (hv : Vals ys its') (hz : ys.length ≤ sizeLine) :
    Inv X pins σ (upd H l (.lst ys)) { s with heap := s.heap.update l (Obj.mapSeq f), toks := t' } := by
  have q := PySem.IsL.update e f
  rw [hf] at q
  refine I.write (x := l) (e := l) (by rw [hH]; exact trivial) (.inl rfl) (fun b' u hb hu => (Heap.get?_update_other s.heap (Obj.mapSeq f) (Ne.symm hb)).trans hu) ⟨_, q⟩ ?_
  exact ⟨hz, its', _, hv, q⟩
theorem Inv.lnew {its : List Value} {t' : Nat} (I : Inv X pins σ H s) (hv : Vals ys its) (hz : ys.length ≤ sizeLine) :
    Inv X pins σ (upd H s.heap.objs.size (.lst ys)) { s with heap := s.heap.push { cls := .type "list", data := .seq its.toArray }, toks := t' } :=
  I.laid (fun _ _ q => Heap.get?_push_of_some _ q) (Nat.le_refl _) ⟨hz, its, 0, hv, Heap.get?_push_size _ rfl⟩
theorem Inv.fresh (I : Inv X pins σ H s) : H s.heap.objs.size = none := I.hok.fresh (Nat.le_refl _)
theorem Inv.lstM (I : Inv X pins σ H s) (hH : H l = some (.lst xs)) : xs.length ≤ sizeLine ∧ ∃ (its : List Value) (n : Nat), Vals xs its ∧ xs.length = its.length ∧ s.heap.get? l = some { cls := .type "list", data := .seq its.toArray n } := by
  obtain ⟨z, its, n, r, e⟩ := I.hok l _ hH
  exact ⟨z, its, n, r, r.length, e⟩

end

section
variable {X : Cx}

/-! ### methods -/
def rAppend : V → List V → Hp → VK → Prop := fun x vs H Q => ∃ l xs y, x = .ref l ∧ vs = [y] ∧ H l = some (.lst xs) ∧ xs.length < sizeLine ∧ Q .non (upd H l (.lst (xs ++ [y])))
theorem mt_append : MtM X "list.append" rAppend := by
  intro pins s σ H x vs v us Q I rx rv h
  obtain ⟨l, xs, y, rfl, rfl, hH, hz, q⟩ := h
  cases rx
  obtain ⟨u, rfl, ru⟩ := rv.one
  obtain ⟨z, its, n, r, hl, e⟩ := I.lstM hH
  refine call_meets F.slot_list_append ⟨_, e, rfl⟩ F.entry_list_append (F.args_list_append_2 _ _) (PySem.list_append l its.toArray n u (by rw [List.size_toArray]; omega)) ⟨e, ?_⟩
  refine ⟨.non, _, I.lset (its' := its ++ [u]) hH e (by simp) (r.append (.cons ru .nil)) ?_, rfl, q⟩
  rw [List.length_append, List.length_singleton]
  omega






/-! ### list + list, list += list, list * int -/
def rCat : R2 := fun x y H Q => ∃ l b xs zs, x = .ref l ∧ y = .ref b ∧ H l = some (.lst xs) ∧ H b = some (.lst zs) ∧ xs.length + zs.length ≤ sizeLine ∧ ∀ p, H p = none → Q (.ref p) (upd H p (.lst (xs ++ zs)))
theorem op_cat : OpR X (binaryOp .Add) rCat := by
  intro pins s σ H x y v u Q I rx ry h
  obtain ⟨l, b, xs, zs, rfl, rfl, hH, hB, hz, q⟩ := h
  cases rx
  cases ry
  obtain ⟨z, its, n, r, hl, e⟩ := I.lstM hH
  obtain ⟨z2, its2, n2, r2, hl2, e2⟩ := I.lstM hB
  refine PySem.P.add_list e e2 ?_ (by rw [List.size_toArray, List.size_toArray]; omega)
  have ea : its.toArray ++ its2.toArray = (its ++ its2).toArray := by simp
  rw [ea]
  exact ⟨.ref _, _, I.lnew (t' := s.toks) (r.append r2) (by rw [List.length_append]; omega), rfl, q _ I.fresh⟩

/-! ### del xs[i] -/
end

/-! ### xs[a:b] = ys -/
section
variable {prog : Program} {w : World} {A : Around} {E : Value → Shared → Prop} {s : Shared}
set_option maxRecDepth 100000 in
end

section
variable {X : Cx}
end
end L2

namespace Att
open PySem PySem.W PySem.Calls PyProof.Rows

/-! ### the script -/
theorem ints_of_wellAll {P : Params} {h : Heap} : ∀ (ns : List Int) (vs : List Value), WellAll P h vs (ns.map WData.int) → IntsAre vs ns := by
  intro ns
  induction ns with
  | nil =>
    intro vs w
    rw [List.map_nil] at w
    cases w
    exact .nil
  | cons n ns ih =>
    intro vs w
    rw [List.map_cons] at w
    cases w with
    | cons a b =>
      cases a
      exact .cons _ _ (ih _ b)

theorem script_of {l : OpenLaw} {n : Nat} (hn : l.most = some n) {P : Params} {h : Heap} {args : List WData} {vals : List Value}
    (hpre : l.row.toRowW.claim.pre args = true) (hwl : WellAll P h vals args) :
    ∃ a vs ns, vals = [Value.ref a] ∧ args = [WData.list (ns.map WData.int)] ∧ h.get? a = some { cls := .type "list", data := .seq vs.toArray } ∧ IntsAre vs ns ∧ ns.length ≤ n := by
  have hsh : WShape.hasAll [] args [.list .int] = true := (pre_splitW hpre).1
  have hc : l.pre.holds [] { args := args } = true := (pre_splitW hpre).2
  obtain ⟨d, r, rfl, h1, h2⟩ := hasAllW_cons hsh
  obtain rfl := hasAllW_nil h2
  obtain ⟨xs, rfl, h3⟩ := hasW_list h1
  obtain ⟨ns, rfl⟩ := items_int h3
  have hlen : ns.length ≤ n := by
    unfold OpenLaw.pre at hc
    have h4 : (WTm.not (.lt (.lit (.int (n : Int))) (.len (.arg 0)))).holds [] { args := [.list (ns.map .int)] } = true := by
      have h4 := (holds_andW hc).1
      rw [hn] at h4
      exact h4
    have h5 := condW_of h4 (w_not (w_lt w_lit (w_len_list (w_arg rfl))))
    rw [List.length_map] at h5
    refine Nat.le_of_not_lt fun q => ?_
    have q' : (n : Int) < ((ns.length : Nat) : Int) := by omega
    first
      | (rw [decide_eq_true q'] at h5; exact absurd h5 (by decide))
      | (simp at h5; omega)
  cases hwl with
  | cons w1 w2 =>
    cases w2
    cases w1 with
    | list ho hall => exact ⟨_, _, ns, rfl, rfl, ho, ints_of_wellAll ns _ hall, hlen⟩

theorem post_true (l : OpenLaw) (args : List WData) : l.row.toRowW.claim.post args (.bool true) args = true :=
  postW_of (r := l.row.toRowW) (X := (true == true))
    (show WShape.has [] (.bool true) .bool = true by first | rfl | decide | simp [WShape.has, WShape.arms, WShape.armsAll])
    (show (WTm.eq .res (.lit (.bool true))).value [] { args := args, res := some (.bool true), after := args } = some (.bool (true == true)) from w_eq_bool (w_res rfl) w_lit) rfl

/-! ### the attachment: holds_open's last premise (the goal 'hc' behind k_head) from a wpAny of the law's body -/

/-- the same from a codeAny of the CALL (for a layer whose function contracts speak of calls) -/
theorem attach_call {l : OpenLaw} {n : Nat} {q : Program} {loose : List Str} {XP : (Str → Option Value) → Heap → Prop} {YP : World → Heap → Prop} {d : DefRec}
    (hn : l.most = some n) (hdf : d.params.defaults = [])
    (call : ∀ (w : World) (s₀ s₁ : Shared) (mg mb : Str → Option Value) (fa : Addr) (o : Obj) (pm cd doc : Value) (a : Addr) (vs : List Value) (ns : List Int),
      Ground q loose [] XP w s₀ mg mb s₁.heap → YP w s₁.heap →
      s₁.heap.get? fa = some o → o.data = .func (docDef d.name d.params d.body d.scope pm cd doc) → s₁.heap.CodeRec cd d.name → mg d.name = some (.ref fa) →
      s₁.heap.get? a = some { cls := .type "list", data := .seq vs.toArray } → IntsAre vs ns → ns.length ≤ n → s₁.gens = #[] →
      codeAny (model l.prog w) callerA (.call (.ref fa) ⟨[.ref a], []⟩) (fun r s' => r = .ok (.ret (.bool true)) ∧ OldK s₁.heap s'.heap ∧ s'.os = s₁.os ∧ AllBare s'.gens) s₁) :
    WalkO q loose XP YP l.row.toRowW d [] (fun f vs => PySem.call f vs) := by
  intro w s₀ s₁ mg mb G Y fa o pm cd doc dV kV ho hd hcd hD hmg hg args vals as hpre hlay hrd hwl hlo
  obtain rfl : dV = .none := Dflts.none hD hdf
  obtain rfl : kV = .none := Dflts.noKw hD
  obtain ⟨a, vs, ns, rfl, rfl, hobj, hints, hlen⟩ := script_of hn hpre hwl
  refine enter_call (codeAny_mono (call w s₀ s₁ mg mb fa o pm cd doc a vs ns G Y ho (fd_plain hd) hcd hmg hobj hints hlen hg) fun r s' hq => ?_)
  obtain ⟨rfl, h2, h3, h4⟩ := hq
  exact ⟨.inl ⟨.bool true, .bool true, [], rfl, fun _ => rfl, .bool true, post_true l _, fun _ => ⟨List.Pairwise.nil, fun _ hm => (nomatch hm)⟩⟩, h2, h3, h4⟩


/-! ### rules over ANY heap (no ledger) from facts about the written part K: the library's own take a ledger (News) for what they write -/
section
variable {prog : Program} {w : World} {A : Around} {E : Value → Shared → Prop} {s : Shared} {K : Frag}





/-! the whole heap as the ledger: makes every rule that writes through a ledger a rule over any heap -/

end
end Att

namespace L2
open PySem PySem.Spec PyProof.Rows

theorem vals_ints : ∀ {vs : List Value} {ns : List Int}, IntsAre vs ns → Vals (ns.map V.int) vs
  | _, _, .nil => .nil
  | _, _, .cons n t h => .cons ⟨t, rfl⟩ (vals_ints h)


end L2

namespace L2
open PySem PySem.Spec PyProof.Rows


end L2

/- THE LAST THEOREM (shape; LID, My.* are yours):
   My.Adr: a structure of the addresses that your layer names (classes, functions); My.Txt K t: a structure (Prop) of the equations over K;
   My.txt_mk : {K} {implicit addresses ..} (e1 : nsIn K mainGlobals "law" = some (some (.ref f))) (e2 : K.lookup f = some ⟨oc, od, .func (fnOf "law" "law" params body scope dV kV doc pm an cdv ct), sl⟩) (e3 : codeIn K cdv "law" = true) .. : ∃ t, My.Txt K t

set_option maxRecDepth 100000 in
set_option maxHeartbeats 0 in
theorem PySem.Challenge.cw_LID_holds : PySem.Challenge.rw_LID.Holds := by
  w_on; o_law; k_head; (case hw => w_witness2)
  k_fill
  refine L2.walk_of (l := PySem.Challenge.rw_LID) (n := 63) (k := 40) (x := "script") (CX := fun w => ..) (sp := fun _ => My.sp_law) rfl (by decide) rfl ⟨rfl, by decide, by decide⟩ (fun w h Y => PySem.W.kIn_of Y) ?F ?S ?C
  case F =>
    intro w mg fa h KX G hmg
    have T : ∃ t, My.Txt (L2.KOf KX) t := by
      dsimp only [L2.KOf]                          -- K must stand as «<heap const> w.params» for k_is
      refine' My.txt_mk ?e1 ?e2 ?e3 ..
      (case e1 => PySem.W.k_is)                    -- in the order: a name -> its address -> its object -> its parts
      (case e2 => PySem.W.k_is)
      ..
    obtain ⟨t, T⟩ := T
    have e0 := hmg.symm.trans (PySem.W.mg_of KX G T.law)
    cases e0                                       -- fa is the law's own address
    exact ⟨_, fun s u => .of_eq rfl, fun base kb nb => My.law_fn T kb nb⟩     -- if «.of_eq rfl» comes too early: refine' ⟨_, ?b, fun base kb nb => My.law_fn T kb nb⟩; exact fun s u => .of_eq rfl
  case S => exact fun w H a ns hl hO hS => ..
  case C => exact ..
(the tactic k_is has no namespace: write k_is) -/

/-! SHORT WORDS over the layer: a def of the text, its body, what a loop and a test want. -/
namespace L2
open PySem PySem.Spec PyProof.Rows

/-! ### the text by places -/
/-- the j-th statement of a class's body -/
def inClass (s : Stmt) (j : Nat) : Stmt := match s with
  | .ClassDef _ _ _ body _ _ _ _ _ _ _ => body.getD j (.Pass ⟨0, 0, 0, 0⟩)
  | _ => .Pass ⟨0, 0, 0, 0⟩
def defArgs (s : Stmt) : Arguments := match s with
  | .FunctionDef _ a _ _ _ _ _ _ _ _ => a
  | _ => { posonlyargs := [], args := [], vararg := none, kwonlyargs := [], kw_defaults := [], kwarg := none, defaults := [] }
def defBody (s : Stmt) : List Stmt := match s with
  | .FunctionDef _ _ b _ _ _ _ _ _ _ => b
  | _ => []
def defScope (s : Stmt) : Scope := match s with
  | .FunctionDef _ _ _ _ _ _ sc _ _ _ => sc
  | _ => { kind := .function, names := [], isGenerator := false, isCoroutine := false }

/-! ### no exception leaves a def -/
abbrev CX0 : CXT := fun _ _ _ _ _ _ => False
abbrev E0 : XK := fun _ _ _ => False
theorem pass0 {X : Cx} : Passes CX0 X E0 := fun _ _ _ _ _ _ _ h => h.elim

/-! ### a def (or method) of the text as it stands behind the top -/
section
variable {P : Program} {w : World} {K : PySem.W.Frag} {mg : Str → Option Value} {base : Heap}
end
theorem small1000 {n : Nat} (h : n ≤ 1000) : n < sizeLine := Nat.lt_of_le_of_lt h (by decide)

/-! ### expressions in short: the name that stands in the i-th slot -/
section
variable {X : Cx}
theorem pv (i : Nat) {x : Str} {pos : Pos} (hN : X.N[i]? = some x := by rfl) (hv : Vis X.env.scope x := by first | exact Or.inl rfl | exact Or.inr (Or.inl rfl) | exact Or.inr (Or.inr rfl)) (hd : (x == ("__debug__" : Str)) = false := by decide)
    (hcd : (x == ("__classdict__" : Str)) = false := by decide) : PE X (.Name x pos) (tVar i) := pe_var hN hv hd hcd
end

/-! ### tests -/
theorem ite2 {c A B : Prop} [Decidable c] (h1 : c → A) (h2 : ¬ c → B) : if c then A else B := by
  by_cases h : c
  · rw [if_pos h]
    exact h1 h
  · rw [if_neg h]
    exact h2 h

/-! ### heaps -/
/-- all that was tracked is as it was -/
def Same (H H' : Hp) : Prop := ∀ b o, H b = some o → H' b = some o
theorem Same.refl (H : Hp) : Same H H := fun _ _ h => h
theorem Same.trans {H H1 H2 : Hp} (a : Same H H1) (b : Same H1 H2) : Same H H2 := fun c o h => b c o (a c o h)
theorem Same.seq {K : PySem.W.Frag} {H H' : Hp} {a : Addr} {xs : List V} (e : Same H H') (h : SqL K H a xs) : SqL K H' a xs := by
  rcases h with (h | ⟨o, h⟩) | h
  · exact .inl (.inl (e _ _ h))
  · exact .inl (.inr ⟨o, e _ _ h⟩)
  · exact .inr h

end L2

set_option Elab.async false
set_option linter.all false
set_option maxRecDepth 100000
namespace L2
open PySem PySem.Spec PyProof.Rows

/-! ## an untracked list is tracked, a tracked one is let go -/
section
variable {X : Cx} {pins : List (Addr × Obj)} {σ : St} {H : Hp} {s : Shared} {D : Addr} {ys : List V}
theorem HOk.adds {P : Program} {w : World} {h : Heap} {o : HO} (x : HOk P w H h) (hn : H D = none) (new : ObjOk P w (upd H D o) h D o) : HOk P w (upd H D o) h := fun b u e => by
  by_cases hb : b = D
  · subst hb; rw [upd_same] at e; cases e; exact new
  · rw [upd_ne hb] at e
    exact (x b u e).stay (fun c v _ q => q) (fun c q => by rw [upd_ne (ne_of_none q hn)]; exact q) fun c xs q => by rw [upd_ne (ne_of_none q hn)]; exact q
theorem HOk.drops {P : Program} {w : World} {h : Heap} (x : HOk P w (upd H D (.lst ys)) h) (hn : H D = none) : HOk P w H h := fun b u e => by
  have hb : b ≠ D := ne_of_none e hn
  refine (x b u (by rw [upd_ne hb]; exact e)).stay (fun c v _ q => q) (fun c q => ?_) fun c xs q => ?_
  · by_cases hc : c = D
    · subst hc; rw [upd_same] at q; cases q
    · rw [upd_ne hc] at q; exact q
  · by_cases hc : c = D
    · subst hc; rw [upd_same] at q; cases q
    · rw [upd_ne hc] at q; exact q
theorem Inv.track {its : List Value} {n : Nat} (I : Inv X pins σ H s) (hn : H D = none) (e : s.heap.get? D = some { cls := .type "list", data := .seq its.toArray n }) (r : Vals ys its) (hz : ys.length ≤ sizeLine)
    (h0 : X.s₀.heap.objs.size ≤ D) (h1 : D ≠ X.env.locals) (h2 : ∀ x c, X.env.cells.lookup x = some c → c ≠ D) (h3 : ∀ p ∈ X.pn ++ pins, p.1 ≠ D) : Inv X pins σ (upd H D (.lst ys)) s where
  ok := I.ok
  os := I.os
  bare := I.bare
  base := by
    have lt : ∀ b o, X.s₀.heap.get? b = some o → b ≠ D := fun b o q => Nat.ne_of_lt (Nat.lt_of_lt_of_le (Heap.lt_size q) h0)
    refine ⟨I.base.keep, I.base.slot, fun b o q n' hx => ?_, I.base.there, fun b xs q => ?_, fun b o u q => ?_, fun b ps q => ?_⟩
    · rw [upd_ne (lt b o q)]; exact I.base.free b o q n' hx
    · have z := I.base.tups b xs q
      rw [upd_ne (ne_of_none z hn)]; exact z
    · have z := I.base.frzs b o u q
      rw [upd_ne (ne_of_none z hn)]; exact z
    · obtain ⟨more, z⟩ := I.base.tbls b ps q
      exact ⟨more, by rw [upd_ne (ne_of_none z hn)]; exact z⟩
  loc := I.loc
  cell := I.cell
  free := by rw [upd_ne (Ne.symm h1)]; exact I.free
  freeC := fun x c q => by rw [upd_ne (h2 x c q)]; exact I.freeC x c q
  pin := fun p hp => by
    obtain ⟨a, b, c⟩ := I.pin p hp
    exact ⟨a, by rw [upd_ne (h3 p hp)]; exact b, c⟩
  hok := I.hok.adds hn ⟨hz, its, n, r, e⟩
  len := I.len
theorem Inv.untrack (I : Inv X pins σ (upd H D (.lst ys)) s) (hn : H D = none) : Inv X pins σ H s where
  ok := I.ok
  os := I.os
  bare := I.bare
  base := by
    have low : ∀ b u, upd H D (.lst ys) b = some u → (∀ xs, u ≠ .lst xs) → H b = some u := fun b u q nl => by
      by_cases hb : b = D
      · subst hb; rw [upd_same] at q; cases q; exact absurd rfl (nl ys)
      · rw [upd_ne hb] at q; exact q
    refine ⟨I.base.keep, I.base.slot, fun b o q n' hx => ?_, I.base.there, fun b xs q => ?_, fun b o u q => ?_, fun b ps q => ?_⟩
    · have z := I.base.free b o q n' hx
      by_cases hb : b = D
      · subst hb; exact hn
      · rw [upd_ne hb] at z; exact z
    · exact low _ _ (I.base.tups b xs q) (fun _ z => by cases z)
    · exact low _ _ (I.base.frzs b o u q) (fun _ z => by cases z)
    · obtain ⟨more, z⟩ := I.base.tbls b ps q
      exact ⟨more, low _ _ z (fun _ z => by cases z)⟩
  loc := I.loc
  cell := I.cell
  free := by
    have z := I.free
    by_cases hb : X.env.locals = D
    · rw [hb]; exact hn
    · rw [upd_ne hb] at z; exact z
  freeC := fun x c q => by
    have z := I.freeC x c q
    by_cases hb : c = D
    · rw [hb]; exact hn
    · rw [upd_ne hb] at z; exact z
  pin := fun p hp => by
    obtain ⟨a, b, c⟩ := I.pin p hp
    refine ⟨a, ?_, c⟩
    by_cases hb : p.1 = D
    · rw [hb]; exact hn
    · rw [upd_ne hb] at b; exact b
  hok := I.hok.drops hn
  len := I.len
end

/-! ## the block of a comprehension -/
/-- the block's context; no exception leaves it -/
def blockCx (X : Cx) (scope : Scope) (cl : List (Str × Addr)) (N : List Str) (C : Addr) (s0 : Shared) (H0 : Hp) (fp : List Addr) : Cx where
  prog := X.prog
  w := X.w
  K := X.K
  mg := X.mg
  base := X.base
  A := X.A
  N := N
  s₀ := s0
  H₀ := H0
  env := compEnvC scope cl C X.env
  outer := X.stack
  stack := X.stack
  ex := fp
  fn := fun _ => false
  calm := X.calm
  pn := []
  xe := fun _ _ => False

/-- the names of the block: nl names of its own (none at its start), then captured ones, at the places ci of the frame around -/
structure Blk (X : Cx) (scope : Scope) (cl : List (Str × Addr)) (N : List Str) (nl : Nat) (ci : List Nat) : Prop where
  kind : scope.kind = .function
  names : ∀ y ∈ scope.names, y.2 = .local → scope.names.lookup y.1 = some .local
  nocell : ∀ y ∈ scope.names, y.2 ≠ .cell
  clos : closureFor scope X.env = pure cl
  sub : ∀ n c, cl.lookup n = some c → X.env.cells.lookup n = some c
  has : ∀ n, ((relabel scope X.env).names.lookup n = some .cell ∨ (relabel scope X.env).names.lookup n = some .free) → ∃ c, cl.lookup n = some c
  len : N.length = nl + ci.length
  cap : ∀ (j i : Nat), ci[j]? = some i → ∃ n, N[nl + j]? = some n ∧ X.N[i]? = some n ∧ (X.env.scope.names.lookup n = some .cell ∨ X.env.scope.names.lookup n = some .free) ∧
    ((relabel scope X.env).names.lookup n = some .cell ∨ (relabel scope X.env).names.lookup n = some .free) ∧ cl.lookup n = X.env.cells.lookup n

def capSt (nl : Nat) (ci : List Nat) (σ : St) : St := List.replicate nl none ++ ci.map fun i => (σ[i]?).join

theorem capSt_get {nl : Nat} {ci : List Nat} {σ : St} {k : Nat} {v : V} (h : (capSt nl ci σ)[k]? = some (some v)) : ∃ j i, k = nl + j ∧ ci[j]? = some i ∧ σ[i]? = some (some v) := by
  unfold capSt at h
  by_cases hk : k < nl
  · rw [List.getElem?_append_left (by simpa using hk), List.getElem?_replicate] at h
    split at h <;> cases h
  · rw [List.getElem?_append_right (by simpa using hk), List.length_replicate, List.getElem?_map] at h
    cases e : ci[k - nl]? with
    | none => rw [e] at h; cases h
    | some i =>
      rw [e] at h
      have h' : (σ[i]?).join = some v := by simpa using h
      refine ⟨k - nl, i, by omega, e, ?_⟩
      cases q : σ[i]? with
      | none => rw [q] at h'; cases h'
      | some o => rw [q] at h'; simp at h'; rw [h']

theorem capSt_length {nl : Nat} {ci : List Nat} {σ : St} : (capSt nl ci σ).length = nl + ci.length := by unfold capSt; simp

section
variable {X : Cx} {scope : Scope} {cl : List (Str × Addr)} {N : List Str} {nl : Nat} {ci : List Nat} {pins : List (Addr × Obj)} {σ : St} {H2 : Hp} {s2 : Shared} {fp : List Addr}

/-- the block begins: s4 is s2 with new objects only, among them the frame C -/
theorem block_start (B : Blk X scope cl N nl ci) (I : Inv X pins σ H2 s2) (f2 : ∀ b ∈ fp, FpOk X pins H2 b) (fo : ∀ b ∈ fp, ∃ o, s2.heap.get? b = some o) {C : Addr} {h4 : Heap} {t4 : Nat} {m4 : Str → Option Value} (hC : s2.heap.objs.size ≤ C) (hns : h4.Ns C m4)
    (hk : ∀ b o, s2.heap.get? b = some o → h4.get? b = some o) : Inv (blockCx X scope cl N C s2 H2 fp) [] (capSt nl ci σ) H2 { s2 with heap := h4, toks := t4 } := by
  have lt2 : ∀ b ∈ fp, b < s2.heap.objs.size := fun b hb => by obtain ⟨o, e⟩ := fo b hb; exact Heap.lt_size e
  have ok : (blockCx X scope cl N C s2 H2 fp).Ok := by
    refine ⟨I.ok.mod, B.kind, I.ok.glob, I.ok.blt, hC, fun x y c h1 h2 => I.ok.inj x y c (B.sub x c h1) (B.sub y c h2), fun x hx => B.has x hx, fun x c hf _ => (by cases hf), I.ok.hd, I.ok.frames, .inl rfl, fun b hb => ⟨?_, ?_⟩, I.bs, ?_, fun b o e hb => ?_, fun b hb z => ?_, I.stack, I.stkFree⟩
    · exact Nat.ne_of_lt (Nat.lt_of_lt_of_le (lt2 b hb) hC)
    · exact fun x c h => (f2 b hb).2.2.2.2.1 x c (B.sub x c h)
    · exact Nat.le_trans I.ok.bsz I.sz
    · rcases (f2 b hb).2.2.2.1 with z | z
      · exact I.ok.noex b o e z
      · exact absurd (Nat.lt_of_lt_of_le (Heap.lt_size e) (Nat.le_trans I.ok.bsz z)) (Nat.lt_irrefl _)
    · rcases List.mem_cons.mp (I.stkSub b z) with q | q
      · exact (f2 b hb).2.1 q
      · exact (f2 b hb).2.2.1 q
  refine ⟨ok, rfl, I.bare, Un.kept hk, ⟨m4, hns, fun k x v e1 e2 e3 => ?_⟩, fun x c e => ?_, I.hok.fresh hC, fun x c e => I.freeC x c (B.sub x c e), fun p hp => (by cases hp), I.hok.kept hk, ?_⟩
  · obtain ⟨j, i, rfl, hj, hσ⟩ := capSt_get e2
    obtain ⟨n, hn1, hn2, hk1, hk2, hl⟩ := B.cap j i hj
    have en : x = n := by
      have e1' : N[nl + j]? = some x := e1
      rw [hn1] at e1'; exact (Option.some.inj e1').symm
    subst en
    obtain ⟨m, hm, hloc⟩ := I.loc
    have vis : Vis X.env.scope x := .inr hk1
    obtain ⟨u, ru, lk⟩ := hloc i x v hn2 hσ vis
    refine ⟨u, ru, .inr ⟨hk2, ?_⟩⟩
    rcases lk with ⟨kl, _⟩ | ⟨_, c, ec, hc⟩
    · have kl' : X.env.scope.names.lookup x = some .local := kl
      rcases hk1 with z | z <;> · rw [z] at kl'; cases kl'
    · refine ⟨c, hl.trans ec, ?_⟩
      obtain ⟨o, ho, hd⟩ := hc
      exact ⟨o, hk _ _ ho, hd⟩
  · obtain ⟨v, o, ho, hd⟩ := I.cell x c (B.sub x c e)
    exact ⟨v, o, hk _ _ ho, hd⟩
  · show (capSt nl ci σ).length = N.length
    rw [capSt_length, B.len]

/-- behind the block -/
theorem block_end {C : Addr} {σ' : St} {H' : Hp} {s' : Shared} {pb : List (Addr × Obj)} (I : Inv X pins σ H2 s2) (f2 : ∀ b ∈ fp, FpOk X pins H2 b) (J : Inv (blockCx X scope cl N C s2 H2 fp) pb σ' H' s') : Inv X pins σ H' s' :=
  I.call' J.os J.base J.hok J.bare fun b hb => ⟨(f2 b hb).2.2.2.1, (f2 b hb).2.1, (f2 b hb).2.2.2.2.1, (f2 b hb).2.2.2.2.2⟩
end

section
variable {prog : Program} {w : World} {A : Around} {R : Result → Shared → Prop} {s : Shared}
theorem compLoop_go {elt target iter : Expr} {ifs : List Expr} {scope : Scope} {pos : Pos} {it acc : Value} {env : Env} (I : Nat → Shared → Prop)
    (turn : ∀ n s, I n s → wpAny (model prog w) A (pyNext it) (fun r s₁ => match r with
      | none => R (.ok .next) s₁
      | some v => wpAny (model prog w) A (letOwnedTupleGo target it v) (fun _ s₁' => wpAny (model prog w) A (assign target env v) (fun _ s₂ =>
          wpAny (model prog w) A (forIn ifs true fun c r => if r = true then do let ok ← isTrue c env (eval c env); pure (ForInStep.yield ok) else pure (ForInStep.yield r)) (fun ok s₃ =>
            if ok = true then wpAny (model prog w) A (eval elt env) (fun x s₄ =>
              wpAny (model prog w) A (call (.builtin "list.append") [acc, x]) (fun _ s₅ => ∃ m, m < n ∧ I m s₅) (notedBy (model prog w) A env fun e s' => R (.error e) s') s₄) (notedBy (model prog w) A env fun e s' => R (.error e) s') s₃
            else ∃ m, m < n ∧ I m s₃) (notedBy (model prog w) A env fun e s' => R (.error e) s') s₂) (notedBy (model prog w) A env fun e s' => R (.error e) s') s₁') (notedBy (model prog w) A env fun e s' => R (.error e) s') s₁) (notedBy (model prog w) A env fun e s' => R (.error e) s') s)
    (n : Nat) (h : I n s) :
    codeAny (model prog w) A (.compLoop (.ListComp elt [⟨target, iter, ifs, 0⟩] scope pos) 0 it acc env) R s := by
  refine codeAny_loop rfl I (fun n s hI => ?_) n h
  show wpAny _ A ((compTurn (.ListComp elt [⟨target, iter, ifs, 0⟩] scope pos) 0 it acc env).onRaise (fun x => do noteFrame x env; theTreesLotGoes x)) _ _ s
  refine wpAny_noted ?_
  rw [compTurn_list]
  refine wpAny_bind (wpAny_standAt (wpAny_bind (wpAny_mono (turn n s hI) (fun r s₁ h₁ => ?_) fun _ _ h' => h')))
  cases r with
  | none => exact wpAny_pure h₁
  | some v =>
    refine wpAny_bind (wpAny_mono h₁ (fun _ s₁' h₁' => ?_) fun _ _ h' => h')
    refine wpAny_bind (wpAny_mono h₁' (fun _ s₂ h₂ => wpAny_bind (wpAny_mono h₂ (fun ok s₃ h₃ => ?_) fun _ _ h' => h')) fun _ _ h' => h')
    cases ok with
    | false => exact wpAny_pure ⟨rfl, h₃⟩
    | true =>
      exact wpAny_bind (wpAny_bind (wpAny_mono h₃ (fun x s₄ h₄ => wpAny_bind (wpAny_mono h₄ (fun _ s₅ h₅ => wpAny_pure (wpAny_pure ⟨rfl, h₅⟩)) fun _ _ h' => h')) fun _ _ h' => h'))
end

/-- the tests of a clause -/
def PF (X : Cx) (ifs : List Expr) (t : TT) : Prop :=
  ∀ (pins : List (Addr × Obj)) (s : Shared) (σ : St) (H : Hp) (Q : Bool → Hp → Prop), Inv X pins σ H s → t σ H Q →
    wpAny (model X.prog X.w) X.A (forIn ifs true fun c r => if r = true then do let ok ← isTrue c X.env (eval c X.env); pure (ForInStep.yield ok) else pure (ForInStep.yield r)) (TP X pins σ Q) X.xe s
def tAll : TT := fun _ H Q => Q true H
theorem pf_nil {X : Cx} : PF X [] tAll := fun _ _ _ H _ I h => wpAny_tests_nil ⟨H, I, h⟩

/-- W: the invariant by the turn, a measure, the items so far and the heap -/
def tCompW (J : It) (g : TG) (ti : TT) (te : TE) (σ0 : St) (fin : List V → Hp → Prop) (H1 : Hp) : Prop :=
  ∃ W : Nat → Nat → List V → Hp → Prop, (∃ m, W 0 m [] H1) ∧ ∀ i m ys H, W i m ys H →
    (J.stop i H ∧ fin ys H) ∨
    (J.go i H ∧ ∀ x H', J.yld i H x H' → g x σ0 H' fun σ2 H2 => (σ2.length = σ0.length ∧ ∀ (j : Nat) v, σ0[j]? = some (some v) → σ2[j]? = some (some v)) ∧
      ti σ2 H2 fun b H3 => if b = true then te σ2 H3 fun y H4 => ys.length < sizeLine ∧ ∃ m', m' < m ∧ W (i + 1) m' (ys ++ [y]) H4 else ∃ m', m' < m ∧ W (i + 1) m' ys H3)
def tComp (wi : TI) (nl : Nat) (ci : List Nat) (g : TG) (ti : TT) (te : TE) : TE := fun σ H Q =>
  wi σ H fun J H1 => tCompW J g ti te (capSt nl ci σ) (fun ys H' => ∀ p, H' p = none → Q (.ref p) (upd H' p (.lst ys))) H1

section
variable {X : Cx} {scope : Scope} {cl : List (Str × Addr)} {N : List Str} {nl : Nat} {ci : List Nat} {tg elt iter : Expr} {ifs : List Expr} {pos : Pos} {wi : TI} {g : TG} {ti : TT} {te : TE}

theorem block_run {pins : List (Addr × Obj)} {σ : St} {H2 : Hp} {s2 : Shared} {fp : List Addr} {it : Addr} {J : It} {tn : Nat → Heap → Prop} {E : Value → Shared → Prop} {RR : Value → Addr → Result → Shared → Prop} {fin : List V → Hp → Prop}
    (hc : X.calm = true) (B : Blk X scope cl N nl ci) (hg : ∀ C s0 H0 fp, PG (blockCx X scope cl N C s0 H0 fp) tg g) (hi : ∀ C s0 H0 fp, PF (blockCx X scope cl N C s0 H0 fp) ifs ti) (he : ∀ C s0 H0 fp, PE (blockCx X scope cl N C s0 H0 fp) elt te)
    (I2 : Inv X pins σ H2 s2) (T : Turn X.prog X.w X.K tg J fp it tn) (st2 : tn 0 s2.heap) (f2 : ∀ b ∈ fp, FpOk X pins H2 b) (hW : tCompW J g ti te (capSt nl ci σ) fin H2)
    (hfin : ∀ (D C : Addr) (s' : Shared) (H' : Hp) (ys : List V) (oC : Obj) (m : Str → Option Value), H' D = none → Inv X (pins ++ [(C, oC)]) σ (upd H' D (.lst ys)) s' → s'.heap.Ns C m → s2.heap.objs.size ≤ C → fin ys H' → RR (.ref D) C (.ok .next) s') :
    wpAny (model X.prog X.w) X.A (newList []) (fun acc s₃ => wpAny (model X.prog X.w) X.A (newFunctionEnv scope X.env.globals cl [] X.env.qual none .none (some X.env)) (fun cenv s₄ =>
      codeAny (model X.prog X.w) X.A (.compStart (.ListComp elt [⟨tg, iter, ifs, 0⟩] scope pos) 0 (.ref it) acc { cenv with scope := relabel scope X.env }) (RR acc cenv.locals) s₄) E s₃) E s2 := by
  obtain ⟨W, ⟨m0, w0⟩, turn⟩ := hW
  refine wpAny_newObj_type (wpAny_newFunctionEnv B.nocell (by intro y hy; simp at hy) (fun h1 hns1 hsb1 => ?_) B.kind)
  dsimp only at hns1 hsb1 ⊢
  generalize hH2 : s2.heap.push { cls := .type "list", dict := none, data := .seq ([] : List Value).toArray } = G2 at hns1 hsb1 ⊢
  have hCs : G2.objs.size = s2.heap.objs.size + 1 := by rw [← hH2, Heap.size_push]
  generalize hCe : G2.objs.size = C at hns1 hsb1 hCs ⊢
  have hDC : s2.heap.objs.size ≠ C := by rw [hCs]; exact Nat.ne_of_lt (Nat.lt_succ_self _)
  have hCle : s2.heap.objs.size ≤ C := by rw [hCs]; exact Nat.le_succ _
  have old : ∀ b o, s2.heap.get? b = some o → h1.get? b = some o := fun b o e => hsb1.extBut b o (by rw [hCs]; exact Nat.ne_of_lt (Nat.lt_succ_of_lt (Heap.lt_size e))) (Heap.get?_push_of_some _ (hH2 ▸ Heap.get?_push_of_some _ e))
  have hacc : h1.get? s2.heap.objs.size = some { cls := .type "list", data := .seq ([] : List Value).toArray 0 } := hsb1.extBut _ _ hDC (Heap.get?_push_of_some _ (hH2 ▸ Heap.get?_push_size _ rfl))
  have fo : ∀ b ∈ fp, ∃ o, s2.heap.get? b = some o := fun b hb => let ⟨o, e, _⟩ := T.obj 0 _ st2 b hb; ⟨o, e⟩
  have lt2 : ∀ b ∈ fp, b < s2.heap.objs.size := fun b hb => let ⟨o, e⟩ := fo b hb; Heap.lt_size e
  have hDfp : s2.heap.objs.size ∉ fp := fun z => Nat.lt_irrefl _ (lt2 _ z)
  have hCfp : C ∉ fp := fun z => Nat.lt_irrefl _ (Nat.lt_of_lt_of_le (lt2 _ z) hCle)
  generalize hDe : s2.heap.objs.size = D at hCs hDC hCle hacc hDfp lt2
  have loop : ∀ s3 : Shared, s3 = { s2 with heap := h1, toks := s2.toks + ([] : List (Str × Value)).length } →
      codeAny (model X.prog X.w) X.A (.compLoop (.ListComp elt [⟨tg, iter, ifs, 0⟩] scope pos) 0 (.ref it) (.ref D) (compEnvC scope cl C X.env)) (RR (.ref D) C) s3 := by
    rintro s3 rfl
    have I4 : Inv (blockCx X scope cl N C s2 H2 fp) [] (capSt nl ci σ) H2 { s2 with heap := h1, toks := s2.toks + ([] : List (Str × Value)).length } := block_start B I2 f2 fo (by rw [hDe]; exact hCle) hns1 old
    have fpk : ∀ {H' : Hp}, (∀ b ∈ fp, H' b = none) → ∀ b ∈ fp, FpOk (blockCx X scope cl N C s2 H2 fp) [] H' b := fun hn b hb =>
      ⟨hn b hb, (I4.ok.exf b hb).1, I4.ok.exfs b hb, .inl hb, (I4.ok.exf b hb).2, fun p hp => by cases hp⟩
    have hDX : ∀ x c, (blockCx X scope cl N C s2 H2 fp).env.cells.lookup x = some c → c ≠ D := fun x c e => by
      obtain ⟨v, o, ho, _⟩ := I2.cell x c (B.sub x c e)
      rw [← hDe]; exact Nat.ne_of_lt (Heap.lt_size ho)
    have hDL : D ≠ (blockCx X scope cl N C s2 H2 fp).env.locals := hDC
    have hDf : D ∉ (blockCx X scope cl N C s2 H2 fp).fs := fun z => by
      rcases List.mem_cons.mp (I2.stkSub D z) with q | q
      · exact Nat.lt_irrefl _ (by have := I2.lt; rw [hDe, ← q] at this; exact this)
      · exact I2.nofs (by rw [hDe]; exact Nat.le_refl _) q
    refine compLoop_go (fun n s' => ∃ i ys its k H', W i n ys H' ∧ Inv (blockCx X scope cl N C s2 H2 fp) [] (capSt nl ci σ) H' s' ∧ tn i s'.heap ∧ (∀ b ∈ fp, H' b = none) ∧ H' D = none ∧
      s'.heap.get? D = some { cls := .type "list", data := .seq its.toArray k } ∧ Vals ys its ∧ ys.length ≤ sizeLine) ?_ m0 ?_
    · rintro n s' ⟨i, ys, its, k, H', w', I', st', fr', hD', eD, rv, hz⟩
      have IP : Inv (blockCx X scope cl N C s2 H2 fp) [(D, { cls := .type "list", data := .seq its.toArray k })] (capSt nl ci σ) H' s' := I'.pins_of fun p hp => by
        obtain rfl : p = _ := by simpa using hp
        exact ⟨eD, hD', hDL, hDf, fun v z => by cases z⟩
      have fpD : ∀ {H'' : Hp}, (∀ b ∈ fp, H'' b = none) → ∀ b ∈ fp, FpOk (blockCx X scope cl N C s2 H2 fp) [(D, { cls := .type "list", data := .seq its.toArray k })] H'' b := fun hn b hb =>
        ⟨hn b hb, (I4.ok.exf b hb).1, I4.ok.exfs b hb, .inl hb, (I4.ok.exf b hb).2, fun p hp => by
          obtain rfl : p = _ := by simpa [blockCx] using hp
          exact fun z => hDfp ((show D = b from z) ▸ hb)⟩
      rcases turn i n ys H' w' with ⟨stop, q⟩ | ⟨go, step⟩
      · refine thn (T.done (blockCx X scope cl N C s2 H2 fp) rfl rfl rfl hc i _ s' (capSt nl ci σ) H' _ IP (fpD fr') st' stop) fun r s'' ⟨hr, I''⟩ => ?_
        subst hr
        have eD2 := (I''.pin (D, _) (List.mem_append_right _ List.mem_cons_self)).1
        have J1 : Inv (blockCx X scope cl N C s2 H2 fp) [] (capSt nl ci σ) (upd H' D (.lst ys)) s'' :=
          (I''.pins_of (pins' := []) fun p hp => by cases hp).track hD' eD2 rv hz (by show s2.heap.objs.size ≤ D; rw [hDe]; exact Nat.le_refl _) hDL hDX fun p hp => by cases hp
        have K1 : Inv X pins σ (upd H' D (.lst ys)) s'' := block_end I2 f2 J1
        obtain ⟨mC, nsC, _⟩ := J1.loc
        obtain ⟨oC, es, ep, hoC, hdC, rC⟩ := id nsC
        refine hfin D C s'' H' ys oC mC hD' (K1.pins_of fun p hp => ?_) nsC (by rw [hDe]; exact hCle) q
        rcases List.mem_append.mp hp with hp | hp
        · exact K1.pin p (List.mem_append_right _ hp)
        · obtain rfl : p = (C, oC) := by simpa using hp
          refine ⟨hoC, J1.free, Nat.ne_of_gt (Nat.lt_of_lt_of_le I2.lt (by rw [hDe]; exact hCle)), I2.nofs (by rw [hDe]; exact hCle), fun v z => ?_⟩
          rw [hdC] at z; cases z
      · refine thn (T.item (blockCx X scope cl N C s2 H2 fp) rfl rfl rfl hc i _ s' (capSt nl ci σ) H' _ IP (fpD fr') st' go) fun r s4 ⟨u, hr, h4⟩ => ?_
        subst hr
        refine thn h4 fun _ s5 ⟨x, H5, I5, r5, y5, st5, fr5⟩ => ?_
        have I5' := I5.pinned (fpD fr5) (T.obj _ _ st5)
        refine wpAny_mono (hg C s2 H2 fp _ s5 (capSt nl ci σ) H5 x u _ I5' r5 (step x H5 y5)) (fun _ s6 ⟨σ6, H6, I6, ⟨hl6, hk6⟩, q6⟩ => ?_) fun _ _ f => f.elim
        refine wpAny_mono (hi C s2 H2 fp _ s6 σ6 H6 _ I6 q6) (fun b s7 ⟨H7, I7, q7⟩ => ?_) fun _ _ f => f.elim
        have pinD : ∀ {pp : List (Addr × Obj)} {σx : St} {Hx : Hp} {sx : Shared}, Inv (blockCx X scope cl N C s2 H2 fp) ([(D, ({ cls := .type "list", data := .seq its.toArray k } : Obj))] ++ pinsAt fp s5.heap) σx Hx sx →
            sx.heap.get? D = some { cls := .type "list", data := .seq its.toArray k } ∧ Hx D = none ∧ tn (i + 1) sx.heap ∧ (∀ b ∈ fp, Hx b = none) := fun {pp σx Hx sx} Ix => by
          refine ⟨(Ix.pin (D, _) (List.mem_append_right _ (List.mem_append_left _ List.mem_cons_self))).1, (Ix.pin (D, _) (List.mem_append_right _ (List.mem_append_left _ List.mem_cons_self))).2.1, T.keep _ _ _ st5 fun b hb o e => (Ix.pin (b, o) (List.mem_append_right _ (List.mem_append_right _ (mem_pinsAt hb e)))).1, fun b hb => ?_⟩
          obtain ⟨o, e, d⟩ := T.obj _ _ st5 b hb
          exact (Ix.pin (b, o) (List.mem_append_right _ (List.mem_append_right _ (mem_pinsAt hb e)))).2.1
        cases b with
        | false =>
          rw [if_neg Bool.false_ne_true] at q7 ⊢
          obtain ⟨m', hm', w7⟩ := q7
          obtain ⟨e7, n7, st7, fr7⟩ := pinD (pp := []) I7
          exact ⟨m', hm', i + 1, ys, its, k, H7, w7, (I7.pins_of (pins' := []) fun p hp => by cases hp).weak hl6.symm hk6, st7, fr7, n7, e7, rv, hz⟩
        | true =>
          rw [if_pos rfl] at q7 ⊢
          refine wpAny_mono (he C s2 H2 fp _ s7 σ6 H7 _ I7 q7) (fun y' s8 ⟨y, H8, I8, r8, hlt, m', hm', w8⟩ => ?_) fun _ _ f => f.elim
          obtain ⟨e8, n8, st8, fr8⟩ := pinD (pp := []) I8
          have I8f : Inv (blockCx X scope cl N C s2 H2 fp) (pinsAt fp s5.heap) σ6 H8 s8 := I8.pins_of fun p hp => I8.pin p (List.mem_append_right _ (List.mem_append_right _ hp))
          have I8t := I8f.track n8 e8 rv hz (by show s2.heap.objs.size ≤ D; rw [hDe]; exact Nat.le_refl _) hDL hDX fun p hp => by
            have hp' : p ∈ pinsAt fp s5.heap := by simpa [blockCx] using hp
            exact fun z => hDfp (z ▸ (of_pinsAt hp').1)
          refine wpAny_mono (mt_append (X := blockCx X scope cl N C s2 H2 fp) (pinsAt fp s5.heap) s8 σ6 _ (.ref D) [y] (.ref D) [y'] (fun _ H9 => H9 = upd H8 D (.lst (ys ++ [y]))) I8t rfl (.cons r8 .nil)
            ⟨D, ys, y, rfl, rfl, upd_same, hlt, upd_upd⟩) (fun _ s9 ⟨_, H9, I9, _, e9⟩ => ?_) fun _ _ f => f.elim
          subst e9
          obtain ⟨hz9, its9, k9, rv9, e9⟩ := I9.hok D _ upd_same
          have I9u := I9.untrack n8
          refine ⟨m', hm', i + 1, ys ++ [y], its9, k9, H8, w8, (I9u.pins_of (pins' := []) fun p hp => by cases hp).weak hl6.symm hk6, ?_, fr8, n8, e9, rv9, hz9⟩
          exact T.keep _ _ _ st5 fun b hb o e => (I9u.pin (b, o) (List.mem_append_right _ (mem_pinsAt hb e))).1
    · exact ⟨0, [], [], 0, H2, w0, I4, T.keep _ _ _ st2 fun b hb o e => old b o e, fun b hb => (f2 b hb).1, I2.hok.fresh (by rw [hDe]; exact Nat.le_refl _), hacc, .nil, Nat.zero_le _⟩
  exact codeAny_compStart_list (loop _ rfl) (T.self _ 0 _ _ _ (T.keep _ _ _ st2 fun b hb o e => old b o e) (loop _ rfl))

/-- [elt for target in iter if ..] -/
theorem pe_comp (hc : X.calm = true) (B : Blk X scope cl N nl ci) (hp : PI X tg iter wi) (hg : ∀ C s0 H0 fp, PG (blockCx X scope cl N C s0 H0 fp) tg g) (hi : ∀ C s0 H0 fp, PF (blockCx X scope cl N C s0 H0 fp) ifs ti)
    (he : ∀ C s0 H0 fp, PE (blockCx X scope cl N C s0 H0 fp) elt te) (hs : ∀ x, foldedSetIterable iter X.env x = pure x := by intro _; rfl) : PE X (.ListComp elt [⟨tg, iter, ifs, 0⟩] scope pos) (tComp wi nl ci g ti te) := by
  intro pins s σ H Q I h
  rw [eval_ListComp]
  refine wpAny_comprehension_free (use := none) rfl hs B.clos B.kind B.names (thn (hp pins s σ H _ I h) fun v s1 h1 => thn h1 fun itv s2 h2 => ?_)
  obtain ⟨it, fp, tn, J, H2, e, I2, T, st2, f2, hW⟩ := h2
  subst e
  refine block_run (RR := fun acc C => compPost (model X.prog X.w) X.A X.xe none (EP X pins σ Q) acc C) hc B hg hi he I2 T st2 f2 hW ?_
  intro D C s' H' ys oC m hD K1 hn hC q
  refine ⟨m, hn, fun h' hs' => ?_⟩
  have hL : C ≠ X.env.locals := (K1.pin (C, oC) (by simp)).2.2.1
  have I9 : Inv X pins σ (upd H' D (.lst ys)) { s' with heap := h', toks := s'.toks } := K1.unpinned.turned (t' := s'.toks) (it := C) (fun b o hb e => hs'.extBut b o hb e) (K1.pin (C, oC) (by simp)).2.1 hL (.inr (Nat.le_trans I2.sz hC)) (fun x c e z => ?_) fun p hp z => ?_
  · exact ⟨.ref D, _, I9, rfl, q D hD⟩
  · obtain ⟨v, o, ho, _⟩ := I2.cell x c e
    exact absurd (Nat.lt_of_lt_of_le (Heap.lt_size ho) (z ▸ hC)) (Nat.lt_irrefl _)
  · exact absurd (Nat.lt_of_lt_of_le (Heap.lt_size (I2.pin p hp).1) (z ▸ hC)) (Nat.lt_irrefl _)

/-- name = [elt for ..] on one row -/
theorem ps_setComp {i : Nat} {x : Str} {pos' spos : Pos} (hN : X.N.Nodup) (hix : X.N[i]? = some x) (hx : Loc X.env.scope x) (hc : X.calm = true) (B : Blk X scope cl N nl ci) (hp : PI X tg iter wi) (hg : ∀ C s0 H0 fp, PG (blockCx X scope cl N C s0 H0 fp) tg g)
    (hi : ∀ C s0 H0 fp, PF (blockCx X scope cl N C s0 H0 fp) ifs ti) (he : ∀ C s0 H0 fp, PE (blockCx X scope cl N C s0 H0 fp) elt te)
    (hsw : swapsWith (.ListComp elt [⟨tg, iter, ifs, 0⟩] scope pos) (some (.Name x pos')) spos.line X.env = pure true := by rfl) (hs : ∀ x, foldedSetIterable iter X.env x = pure x := by intro _; rfl)
    (hf : X.fn x = true ∨ X.env.scope.names.lookup x = some .local := by first | exact .inl rfl | exact .inr rfl | assumption) :
    PS X (.Assign [.Name x pos'] (.ListComp elt [⟨tg, iter, ifs, 0⟩] scope pos) spos) (tAsg (tComp wi nl ci g ti te) (gName i)) := by
  intro pins s σ H D I h
  rw [exec_Assign_Name_used _ _ _ _ hsw]
  refine wpAny_bind (wpAny_standAt (wpAny_bind ?_))
  show wpAny _ X.A (do let _ ← comprehension (.ListComp elt [⟨tg, iter, ifs, 0⟩] scope pos) scope X.env _ (newList []) false (eval iter X.env) (some (assign (.Name x pos') X.env))) _ _ s
  refine wpAny_bind (wpAny_mono (wpAny_comprehension_free (use := some (assign (.Name x pos') X.env)) (Q := fun _ s' => SP X pins D .next s') rfl hs B.clos B.kind B.names
    (thn (hp pins s σ H _ I h) fun v s1 h1 => thn h1 fun itv s2 h2 => ?_)) (fun _ s' hq => wpAny_pure (wpAny_pure hq)) fun _ _ e => e)
  obtain ⟨it, fp, tn, J, H2, e, I2, T, st2, f2, hW⟩ := h2
  subst e
  refine block_run (RR := fun acc C => compPost (model X.prog X.w) X.A X.xe (some (assign (.Name x pos') X.env)) (fun _ s' => SP X pins D .next s') acc C) hc B hg hi he I2 T st2 f2 hW ?_
  intro Dd C s' H' ys oC m hD K1 hn hC q
  show wpAny _ X.A (assign (.Name x pos') X.env (.ref Dd)) _ _ _
  refine thn (pg_name (i := i) hN hix hx hf (pins ++ [(C, oC)]) s' σ (upd H' Dd (.lst ys)) (.ref Dd) (.ref Dd) (fun σ' H'' => D.nx σ' H'') K1 rfl (q Dd hD)) fun _ s'' ⟨σ', H'', K2, q2⟩ => ?_
  have eC := K2.pin (C, oC) (by simp)
  obtain ⟨oC', es, ep, hoC, hdC, rC⟩ := id hn
  have eo : oC' = oC := by
    have := (K1.pin (C, oC) (by simp)).1
    rw [hoC] at this; exact Option.some.inj this
  subst eo
  refine ⟨m, ⟨oC', es, ep, eC.1, hdC, rC⟩, fun h' hs' => ?_⟩
  have hL : C ≠ X.env.locals := eC.2.2.1
  have I9 : Inv X pins σ' H'' { s'' with heap := h', toks := s''.toks } := K2.unpinned.turned (t' := s''.toks) (it := C) (fun b o hb e => hs'.extBut b o hb e) eC.2.1 hL (.inr (Nat.le_trans I2.sz hC)) (fun x c e z => ?_) fun p hp z => ?_
  · exact ⟨σ', H'', I9, q2⟩
  · obtain ⟨v, o, ho, _⟩ := I2.cell x c e
    exact absurd (Nat.lt_of_lt_of_le (Heap.lt_size ho) (z ▸ hC)) (Nat.lt_irrefl _)
  · exact absurd (Nat.lt_of_lt_of_le (Heap.lt_size (I2.pin p hp).1) (z ▸ hC)) (Nat.lt_irrefl _)
end
end L2

set_option Elab.async false
set_option linter.all false
set_option maxRecDepth 100000
namespace L2
open PySem PySem.Spec PyProof.Rows

/-! ## the signs of a text, walked -/
def Its (x : Str) : It := ⟨fun i _ => i < x.cps.size, fun i H v H' => H' = H ∧ ∃ c, x.cps[i]? = some c ∧ v = .str ⟨#[c]⟩, fun i _ => i = x.cps.size⟩
theorem turn_str {P : Program} {w : World} {K : PySem.W.Frag} {tg : Expr} (it : Addr) (x : Str) (t : Tok) (ty : String)
    (hty : ["enumerate", "zip", "dict_itemiterator", "dict_reverseitemiterator", "odict_iterator", "itertools.zip_longest", "itertools.pairwise"].contains ty = false)
    (W : ∀ A' : Around, A'.handled = none → Walks P w A' it [it] [it] x.cps.size (SignAt x) (fun i h => h.IsStrIter it ty x t i))
    (hself : ∀ (A : Around) (i : Nat) (s : Shared) (Q : Value → Shared → Prop) (E : Value → Shared → Prop), s.heap.IsStrIter it ty x t i → Q (.ref it) s → wpAny (model P w) A (pyIter (.ref it)) Q E s) :
    Turn P w K tg (Its x) [it] it (fun i h => h.IsStrIter it ty x t i) where
  mem := by simp
  obj := fun i h st b hb => by
    have e : b = it := by simpa using hb
    subst e
    obtain ⟨o, e, c, d⟩ := st
    exact ⟨o, e, fun v z => by rw [d] at z; cases z⟩
  keep := fun i h h' st k => let ⟨o, ho, r⟩ := st; ⟨o, k it (by simp) o ho, r⟩
  item := by
    intro X hP hw hK hc i pins s σ H E I hf st hg
    subst hP hw hK
    obtain ⟨f0, f1, f2, f3, f4, f5⟩ := hf it (by simp)
    refine (W X.A (I.ok.hd hc)).item i s _ _ hg st fun v h' tk hv st' kk => ?_
    obtain ⟨c, u, hc', rfl⟩ := hv
    have I1 : Inv X pins σ H { s with heap := h', toks := tk } := I.turned (fun b o hb e => kk b o (by simpa using hb) e) f0 f1 f3 f4 f5
    obtain ⟨o, e, c1, d⟩ := id st'
    exact ⟨_, rfl, go_of (s := { s with heap := h', toks := tk }) e c1 d hty ⟨.str ⟨#[c]⟩, H, I1, ⟨u, rfl⟩, ⟨rfl, c, hc', rfl⟩, st', fun b hb => (hf b hb).1⟩⟩
  done := by
    intro X hP hw hK hc i pins s σ H E I hf st hg
    subst hP hw hK
    obtain ⟨f0, f1, f2, f3, f4, f5⟩ := hf it (by simp)
    have e : i = x.cps.size := hg
    subst e
    exact (W X.A (I.ok.hd hc)).done s _ _ st fun h' tk kk => ⟨rfl, I.turned (fun b o hb e => kk b o (by simpa using hb) e) f0 f1 f3 f4 f5⟩
  self := hself
def iStr (tl : TE) : TI := fun σ H R => tl σ H fun x H1 => ∃ z, x = .str z ∧ R (Its z) H1
theorem pi_str {X : Cx} {tg l : Expr} {tl : TE} (hl : PE X l tl) : PI X tg l (iStr tl) := by
  intro pins s σ H R I h
  refine thn (hl pins s σ H _ I h) fun v s1 ⟨x, H1, I1, rx, z, ez, q⟩ => ?_
  subst ez
  obtain ⟨t, rfl⟩ := rx
  cases ha : z.cps.all (· < 128)
  · refine wpAny_pyIter_wide ha ⟨s1.heap.objs.size, [s1.heap.objs.size], _, Its z, H1, rfl, I1.kept (t' := s1.toks) fun b u e => Heap.get?_push_of_some _ e, turn_str _ z t "str_iterator" (by decide) (fun A' hA => Walks.strWide hA _ z t) (fun _ _ _ _ _ st h => wpAny_pyIter_striter_wide st h), ⟨_, Heap.get?_push_size _ rfl, rfl, rfl⟩, fun b hb => ?_, q⟩
    have e : b = s1.heap.objs.size := by simpa using hb
    subst e
    exact I1.fpOk (Nat.le_refl _) (I1.hok.fresh (Nat.le_refl _))
  · refine wpAny_pyIter_ascii ha ⟨s1.heap.objs.size, [s1.heap.objs.size], _, Its z, H1, rfl, I1.kept (t' := s1.toks) fun b u e => Heap.get?_push_of_some _ e, turn_str _ z t "str_ascii_iterator" (by decide) (fun A' hA => Walks.strAscii hA _ z t) (fun _ _ _ _ _ st h => wpAny_pyIter_striter_ascii st h), ⟨_, Heap.get?_push_size _ rfl, rfl, rfl⟩, fun b hb => ?_, q⟩
    have e : b = s1.heap.objs.size := by simpa using hb
    subst e
    exact I1.fpOk (Nat.le_refl _) (I1.hok.fresh (Nat.le_refl _))

/-! ## comprehensions whose items are told by their places, the heap as it was -/
theorem comp_of {J : It} {g : TG} {ti : TT} {te : TE} {σ0 : St} {fin : List V → Hp → Prop} {H1 : Hp} (n : Nat) (f : Nat → V) (hn : n ≤ sizeLine) (Ok : Hp → Prop) (h0 : Ok H1)
    (hst : ∀ H, Ok H → J.stop n H) (hgo : ∀ i H, i < n → Ok H → J.go i H)
    (hstep : ∀ i H x H', i < n → Ok H → J.yld i H x H' → g x σ0 H' fun σ2 H2 => (σ2.length = σ0.length ∧ ∀ (j : Nat) v, σ0[j]? = some (some v) → σ2[j]? = some (some v)) ∧ ti σ2 H2 fun b H3 => b = true ∧ te σ2 H3 fun y H4 => y = f i ∧ Ok H4)
    (mono : ∀ σ H (Q Q' : Bool → Hp → Prop), (∀ b H', Q b H' → Q' b H') → ti σ H Q → ti σ H Q') (mono2 : ∀ σ H (Q Q' : VK), (∀ b H', Q b H' → Q' b H') → te σ H Q → te σ H Q') (mono3 : ∀ x σ H (Q Q' : St → Hp → Prop), (∀ σ' H', Q σ' H' → Q' σ' H') → g x σ H Q → g x σ H Q')
    (hfin : ∀ H, Ok H → fin ((List.range n).map f) H) : tCompW J g ti te σ0 fin H1 := by
  refine ⟨fun i m ys H => m = n - i ∧ i ≤ n ∧ ys = (List.range i).map f ∧ Ok H, ⟨n, by simp, Nat.zero_le _, rfl, h0⟩, ?_⟩
  rintro i m ys H ⟨rfl, hi, rfl, ok⟩
  by_cases hlt : i < n
  · refine .inr ⟨hgo i H hlt ok, fun x H' y => ?_⟩
    refine mono3 _ _ _ _ _ (fun σ' H'' q => ⟨q.1, mono _ _ _ _ (fun b H3 q => ?_) q.2⟩) (hstep i H x H' hlt ok y)
    obtain ⟨rfl, q⟩ := q
    rw [if_pos rfl]
    refine mono2 _ _ _ _ (fun v H4 q => ?_) q
    obtain ⟨rfl, ok4⟩ := q
    refine ⟨by rw [List.length_map, List.length_range]; omega, n - (i + 1), by omega, rfl, hlt, ?_, ok4⟩
    rw [List.range_succ, List.map_append]; rfl
  · have e : i = n := by omega
    subst e
    exact .inl ⟨hst H ok, hfin H ok⟩

/-! ## calls -/
section
variable {X : Cx}
theorem all_getD : ∀ bs : List Bool, (List.range bs.length).all (fun i => bs.getD i true) = bs.all id
  | [] => rfl
  | b :: bs => by
    rw [List.length_cons, List.range_succ_eq_map, List.all_cons, List.all_map, List.all_cons, ← all_getD bs]
    rfl
theorem call_all_bools (hc : X.calm = true) : CallR X (.builtin "all") (fun xs H Q => ∃ (p : Addr) (bs : List Bool), xs = [.ref p] ∧ SqL X.K H p (bs.map V.bl) ∧ Q (.bl (bs.all id)) H) := by
  intro pins s σ H xs us Q I r h
  obtain ⟨p, bs, rfl, hq, q⟩ := h
  obtain ⟨u, rfl, rx⟩ := vals1 r
  cases rx
  obtain ⟨its, r', pl, hz⟩ := I.list hq
  have hl := pl.isList
  have hlt : p < s.heap.objs.size := by obtain ⟨_, e, _⟩ := hl; exact Heap.lt_size e
  have hlen : bs.length = its.length := by have := r'.length; rw [List.length_map] at this; exact this
  refine call_all_walk (wpAny_pyIter_list hl ?_)
  refine ⟨s.heap.objs.size, _, _, its.toArray.size, _, _, fun i => bs.getD i true, rfl, Walks.list (show X.A.in1.handled = none from I.ok.hd hc) s.heap.objs.size p (Nat.ne_of_lt hlt) its.toArray, ⟨⟨_, Heap.get?_push_size _ rfl, rfl, rfl⟩, hl.push _⟩, ?_, ?_⟩
  · intro i v s' Q' E' hi hQ
    have hi' : its[i]? = some v := by simpa using hi
    have hib : i < bs.length := by rw [hlen]; exact (List.getElem?_eq_some_iff.mp hi').1
    obtain ⟨u, hu, ru⟩ := r'.get (i := i) (x := V.bl bs[i]) (by rw [List.getElem?_map, List.getElem?_eq_getElem hib]; rfl)
    rw [hi'] at hu; cases hu
    have : v = Value.bool bs[i] := ru
    subst this
    refine wpAny_truthy_bool ?_
    have eb : bs.getD i true = bs[i] := by rw [List.getD_eq_getElem?_getD, List.getElem?_eq_getElem hib]; rfl
    have hQ' : Q' (bs.getD i true) s' := hQ
    rw [eb] at hQ'
    exact hQ'
  · intro h' tk hk
    have eall : (List.range its.toArray.size).all (fun i => bs.getD i true) = bs.all id := by
      rw [List.size_toArray, ← hlen]
      exact all_getD bs
    rw [eall]
    refine ⟨.bl (bs.all id), H, ?_, rfl, q⟩
    have I1 : Inv X pins σ H { s with heap := s.heap.push { cls := .type "list_iterator", data := .fields #[.ref p, .int 0 0] }, toks := s.toks } := I.kept fun b u e => Heap.get?_push_of_some _ e
    obtain ⟨f0, f1, f2, f3, f4, f5⟩ := I.fpOk (Nat.le_refl _) (I.hok.fresh (Nat.le_refl _))
    exact I1.turned (fun b o hb e => hk b o (by simpa using hb) e) f0 f1 f3 f4 f5

theorem call_isinst : CallR X (.builtin "isinstance") (fun xs H Q => ∃ x c t u b, xs = [x, c] ∧ TyOf X.K H x t ∧ RelV c u ∧ PySem.W.kitOne X.K t u = some b ∧ Q (.bl b) H) := by
  intro pins s σ H xs us Q I r h
  obtain ⟨x, c, t, u, b, rfl, ty, rc, e, q⟩ := h
  obtain ⟨v1, v2, rfl, r1, r2⟩ := vals2 r
  have e2 : v2 = u := by
    cases c with
    | non => exact (show v2 = _ from r2).trans (show u = _ from rc).symm
    | bl b => exact (show v2 = _ from r2).trans (show u = _ from rc).symm
    | ref b => exact (show v2 = _ from r2).trans (show u = _ from rc).symm
    | ty b => exact (show v2 = _ from r2).trans (show u = _ from rc).symm
    | int i =>
      obtain ⟨t1, rfl⟩ := (show ∃ t, u = _ from rc)
      cases ty <;> simp [PySem.W.kitOne, PySem.W.kitCls] at e
    | str i =>
      obtain ⟨t1, rfl⟩ := (show ∃ t, u = _ from rc)
      cases ty <;> simp [PySem.W.kitOne, PySem.W.kitCls] at e
    | byt i =>
      obtain ⟨t1, rfl⟩ := (show ∃ t, u = _ from rc)
      cases ty <;> simp [PySem.W.kitOne, PySem.W.kitCls] at e
    | flt i =>
      obtain ⟨t1, rfl⟩ := (show ∃ t, u = _ from rc)
      cases ty <;> simp [PySem.W.kitOne, PySem.W.kitCls] at e
  subst e2
  exact isinst_ok I r1 ty e fun tk => ⟨.bl b, H, I.tok tk, rfl, q⟩

theorem op_le_str : OpR X (compareOp .LtE) (fun x y H Q => ∃ i j, x = .str i ∧ y = .str j ∧ Q (.bl (!decide (j.cps.toList < i.cps.toList))) H) := by
  intro pins s σ H x y v u Q I rx ry h
  obtain ⟨i, j, rfl, rfl, q⟩ := h
  obtain ⟨t, rfl⟩ := rx
  obtain ⟨t', rfl⟩ := ry
  exact P.le_str ⟨.bl _, H, I, rfl, q⟩

/-- z[lo:hi] of a text -/
theorem isPart_str {v : Value} {o : Option Int} (p : IsPart v o) : ∃ l : Option (Int × Tok), v = partValue l ∧ o = l.map (·.1) := by
  cases p with
  | none => exact ⟨none, rfl, rfl⟩
  | int i u => exact ⟨some (i, u), rfl, rfl⟩
def rSlS : V → Option Int → Option Int → Hp → VK → Prop := fun x lo hi H Q => ∃ z, x = .str z ∧ z.length ≤ sizeLine ∧ Q (.str (Txt.slice z lo hi)) H
theorem sl_str : SlR X rSlS := by
  intro pins s σ H x v vl vu lo hi sl Q I rx hs pl pu h
  obtain ⟨z, rfl, hz, q⟩ := h
  obtain ⟨t, rfl⟩ := rx
  obtain ⟨l, rfl, rfl⟩ := isPart_str pl
  obtain ⟨u, rfl, rfl⟩ := isPart_str pu
  refine ⟨"str", _, F.slot_str_getitem.lookup, typeIs_str _ _ _, ?_⟩
  exact wpAny_getItem_str_slice (l := l) (u := u) (st := none) hs rfl (post_val_or_str ⟨Nat.le_trans (Txt.slice_le z _ _) hz, fun t' k => ⟨.str _, H, I.tok k, ⟨t', rfl⟩, q⟩⟩)

/-- sep.join(list of texts) -/
theorem strsAre_of : ∀ {ys : List Str} {us : List Value}, Vals (ys.map V.str) us → StrsAre us ys
  | [], _, .nil => .nil
  | y :: ys, _, .cons r t => by
    obtain ⟨u, rfl⟩ := r
    exact .cons y u (strsAre_of t)
def rJoin (K : PySem.W.Frag) : V → List V → Hp → VK → Prop := fun x vs H Q => ∃ (z : Str) (p : Addr) (ys : List Str), x = .str z ∧ vs = [.ref p] ∧ SqL K H p (ys.map V.str) ∧ (ys.map (·.length)).sum + ys.length * z.length ≤ 16777216 ∧ Q (.str (Txt.join z ys)) H
theorem mt_join : MtR X "str.join" (rJoin X.K) := by
  intro pins s σ H x xs v us Q I rx rs h
  obtain ⟨z, p, ys, rfl, rfl, hq, hz, q⟩ := h
  obtain ⟨t, rfl⟩ := rx
  obtain ⟨u, rfl, ru⟩ := vals1 rs
  cases ru
  obtain ⟨its, r', pl, _⟩ := I.list hq
  exact join_list pl.isList (by rw [List.toList_toArray]; exact strsAre_of r') hz fun t' k => ⟨.str _, H, I.tok k, ⟨t', rfl⟩, q⟩
end
end L2

set_option Elab.async false
set_option linter.all false
set_option maxRecDepth 100000
namespace L2
open PySem PySem.Spec PyProof.Rows

/-! ## the names of a block -/
def blkOk (xs : List (Str × NameKind)) (XN : List Str) (ns : List (Str × NameKind)) (N : List Str) (nl : Nat) (ci : List Nat) : Bool :=
  (ns.all fun y => y.2 != .cell && (y.2 != .local || ns.lookup y.1 == some .local) && (y.2 != .free || (xs.lookup y.1 == some .cell && ns.lookup y.1 == some .free))) &&
  (N.length == nl + ci.length) &&
  (List.range ci.length).all fun j => match ci[j]?, N[nl + j]? with
    | some i, some n => XN[i]? == some n && xs.lookup n == some .cell && ns.lookup n == some .free
    | _, _ => false
def clOf (ns : List (Str × NameKind)) (cs : List (Str × Addr)) : List (Str × Addr) → List (Str × Addr)
  | acc => ns.foldl (fun acc y => if y.2 == .free then (y.1, (cs.lookup y.1).getD 0) :: acc else acc) acc
theorem closureFor_go {env : Env} : ∀ (ns : List (Str × NameKind)) (acc : List (Str × Addr)), (∀ y ∈ ns, y.2 = .free → ∃ c, env.cells.lookup y.1 = some c) →
    (forIn ns acc fun x r => (do
      let (name, kind) := x
      if (kind == NameKind.free) = true then do
          let c ← cellOf env name
          pure (ForInStep.yield ((name, c) :: r))
        else pure (ForInStep.yield r)) : Sem (List (Str × Addr))) = pure (clOf ns env.cells acc)
  | [], acc, _ => rfl
  | (n, k) :: r, acc, h => by
    have ih := fun acc => closureFor_go r acc fun y hy => h y (List.mem_cons_of_mem _ hy)
    rw [List.forIn_cons]
    by_cases hk : k = .free
    · subst hk
      obtain ⟨c, e⟩ := h (n, .free) List.mem_cons_self rfl
      have e1 : cellOf env n = pure c := by unfold cellOf; rw [e]
      simp only [beq_self_eq_true, if_true, e1]
      show (forIn r ((n, c) :: acc) _ : Sem (List (Str × Addr))) = _
      rw [ih]
      show _ = pure (clOf ((n, NameKind.free) :: r) env.cells acc)
      simp only [clOf, List.foldl_cons, beq_self_eq_true, if_true, e, Option.getD_some]
    · have hb : (k == NameKind.free) = false := by simpa using hk
      simp only [hb, Bool.false_eq_true, if_false]
      show (forIn r acc _ : Sem (List (Str × Addr))) = _
      rw [ih]
      simp only [clOf, List.foldl_cons, hb, Bool.false_eq_true, if_false]
theorem clOf_lookup {cs : List (Str × Addr)} : ∀ (ns : List (Str × NameKind)) (acc : List (Str × Addr)) (n : Str), (∀ y ∈ ns, y.2 = .free → ∃ c, cs.lookup y.1 = some c) →
    ((n, NameKind.free) ∈ ns ∨ acc.lookup n = cs.lookup n) → (∀ c, acc.lookup n = some c → cs.lookup n = some c) → (clOf ns cs acc).lookup n = cs.lookup n
  | [], acc, n, _, h, _ => by
    rcases h with h | h
    · cases h
    · exact h
  | (m, k) :: r, acc, n, hc, h, hs => by
    have hc' : ∀ y ∈ r, y.2 = .free → ∃ c, cs.lookup y.1 = some c := fun y hy => hc y (List.mem_cons_of_mem _ hy)
    show (clOf r cs (if k == .free then (m, (cs.lookup m).getD 0) :: acc else acc)).lookup n = cs.lookup n
    by_cases hk : k = .free
    · subst hk
      obtain ⟨c, e⟩ := hc (m, .free) List.mem_cons_self rfl
      simp only [beq_self_eq_true, if_true, e, Option.getD_some]
      by_cases hm : n = m
      · subst hm
        have q : List.lookup n ((n, c) :: acc) = some c := by simp [List.lookup_cons]
        exact clOf_lookup r _ n hc' (.inr (q.trans e.symm)) fun c' z => by rw [q] at z; cases z; exact e
      · have hb : (n == m) = false := by simpa using hm
        have q : List.lookup n ((m, c) :: acc) = acc.lookup n := by simp [List.lookup_cons, hb]
        refine clOf_lookup r _ n hc' ?_ fun c' z => hs c' (q ▸ z)
        rcases h with h | h
        · rcases List.mem_cons.mp h with z | z
          · cases z; exact absurd rfl hm
          · exact .inl z
        · exact .inr (q.trans h)
    · have hb : (k == NameKind.free) = false := by simpa using hk
      simp only [hb, Bool.false_eq_true, if_false]
      refine clOf_lookup r _ n hc' ?_ hs
      rcases h with h | h
      · rcases List.mem_cons.mp h with z | z
        · cases z; exact absurd rfl hk
        · exact .inl z
      · exact .inr h
theorem clOf_sub {cs : List (Str × Addr)} : ∀ (ns : List (Str × NameKind)) (acc : List (Str × Addr)), (∀ y ∈ ns, y.2 = .free → ∃ c, cs.lookup y.1 = some c) →
    (∀ n c, acc.lookup n = some c → cs.lookup n = some c) → ∀ n c, (clOf ns cs acc).lookup n = some c → cs.lookup n = some c
  | [], acc, _, hs, n, c, h => hs n c h
  | (m, k) :: r, acc, hc, hs, n, c, h => by
    have hc' : ∀ y ∈ r, y.2 = .free → ∃ c, cs.lookup y.1 = some c := fun y hy => hc y (List.mem_cons_of_mem _ hy)
    have h' : (clOf r cs (if k == .free then (m, (cs.lookup m).getD 0) :: acc else acc)).lookup n = some c := h
    refine clOf_sub r _ hc' ?_ n c h'
    intro n' c' z
    by_cases hk : k = .free
    · subst hk
      obtain ⟨d, e⟩ := hc (m, .free) List.mem_cons_self rfl
      simp only [beq_self_eq_true, if_true, e, Option.getD_some] at z
      by_cases hm : n' = m
      · subst hm
        simp [List.lookup_cons] at z
        subst z; exact e
      · have hb : (n' == m) = false := by simpa using hm
        simp [List.lookup_cons, hb] at z
        exact hs n' c' z
    · have hb : (k == NameKind.free) = false := by simpa using hk
      simp only [hb, Bool.false_eq_true, if_false] at z
      exact hs n' c' z
theorem lookup_relabel_free {env : Env} (hkf : env.scope.kind = .function) : ∀ {names : List (Str × NameKind)} {x : Str}, names.lookup x = some .free → env.kindOf x = some .cell →
    (names.map fun (n, k) => if (k == NameKind.free && env.scope.kind == .function && env.kindOf n == some .cell) then (n, NameKind.cell) else (n, k)).lookup x = some .cell
  | [], _, h, _ => by simp at h
  | (n, k) :: r, x, h, hc => by
    show List.lookup x ((if (k == NameKind.free && env.scope.kind == .function && env.kindOf n == some .cell) = true then (n, NameKind.cell) else (n, k)) :: _) = _
    cases hx : x == n with
    | true =>
      simp only [List.lookup_cons, hx] at h
      cases h
      have e : x = n := by simpa using hx
      subst e
      rw [hkf, hc]
      simp [List.lookup_cons]
    | false =>
      simp only [List.lookup_cons, hx] at h
      have ih := lookup_relabel_free hkf h hc
      split
      · simp only [List.lookup_cons, hx]; exact ih
      · simp only [List.lookup_cons, hx]; exact ih
theorem lookup_relabel_back {env : Env} : ∀ {names : List (Str × NameKind)} {x : Str} {k' : NameKind}, (∀ y ∈ names, y.2 ≠ .cell) → (k' = .cell ∨ k' = .free) →
    (names.map fun (n, k) => if (k == NameKind.free && env.scope.kind == .function && env.kindOf n == some .cell) then (n, NameKind.cell) else (n, k)).lookup x = some k' → (x, NameKind.free) ∈ names
  | [], _, _, _, _, h => by simp at h
  | (n, k) :: r, x, k', hn, hk', h => by
    have h' : List.lookup x ((if (k == NameKind.free && env.scope.kind == .function && env.kindOf n == some .cell) = true then (n, NameKind.cell) else (n, k)) :: r.map _) = some k' := h
    cases hx : x == n with
    | true =>
      have e : x = n := by simpa using hx
      subst e
      by_cases hf : k = .free
      · subst hf; exact List.mem_cons_self
      · have hb : (k == NameKind.free) = false := by simpa using hf
        simp only [hb, Bool.false_and, Bool.false_eq_true, if_false, List.lookup_cons, hx] at h'
        cases h'
        rcases hk' with z | z
        · exact absurd z (hn (x, k) List.mem_cons_self)
        · exact absurd z hf
    | false =>
      have h2 : List.lookup x (r.map fun (n, k) => if (k == NameKind.free && env.scope.kind == .function && env.kindOf n == some .cell) then (n, NameKind.cell) else (n, k)) = some k' := by
        split at h'
        · simp only [List.lookup_cons, hx] at h'; exact h'
        · simp only [List.lookup_cons, hx] at h'; exact h'
      exact List.mem_cons_of_mem _ (lookup_relabel_back (fun y hy => hn y (List.mem_cons_of_mem _ hy)) hk' h2)

/-- the block of a comprehension in a def's body -/
theorem blk {X : Cx} {scope : Scope} {N : List Str} {nl : Nat} {ci : List Nat} (n0 : Nat) (hX : X.env.cells = cellsFrom n0 X.env.scope.names []) (hkf : X.env.scope.kind = .function) (hk : scope.kind = .function)
    (h : blkOk X.env.scope.names X.N scope.names N nl ci = true) : Blk X scope (clOf scope.names X.env.cells []) N nl ci := by
  unfold blkOk at h
  rw [Bool.and_eq_true, Bool.and_eq_true] at h
  obtain ⟨⟨h1, h2⟩, h3⟩ := h
  rw [List.all_eq_true] at h1
  have h1' : ∀ y ∈ scope.names, y.2 ≠ .cell ∧ (y.2 = .local → scope.names.lookup y.1 = some .local) ∧ (y.2 = .free → X.env.scope.names.lookup y.1 = some .cell ∧ scope.names.lookup y.1 = some .free) := fun y hy => by
    have q := h1 y hy
    simp only [Bool.and_eq_true, Bool.or_eq_true, bne_iff_ne, ne_eq, beq_iff_eq] at q
    obtain ⟨⟨q1, q2⟩, q3⟩ := q
    exact ⟨q1, fun e => q2.resolve_left fun z => z e, fun e => q3.resolve_left fun z => z e⟩
  have hcs : ∀ y ∈ scope.names, y.2 = .free → ∃ c, X.env.cells.lookup y.1 = some c := fun y hy e => by
    rw [hX]
    exact cell_has ((h1' y hy).2.2 e).1
  refine ⟨hk, fun y hy => (h1' y hy).2.1, fun y hy => (h1' y hy).1, ?_, ?_, ?_, by simpa using h2, ?_⟩
  · unfold closureFor
    refine (congrArg (fun m : Sem (List (Str × Addr)) => m >>= fun cs => pure cs) (closureFor_go scope.names [] hcs)).trans ?_
    rfl
  · exact clOf_sub scope.names [] hcs fun n c z => by cases z
  · intro n hn
    have hm : (n, NameKind.free) ∈ scope.names := by
      rcases hn with z | z
      · exact lookup_relabel_back (fun y hy => (h1' y hy).1) (.inl rfl) z
      · exact lookup_relabel_back (fun y hy => (h1' y hy).1) (.inr rfl) z
    obtain ⟨c, e⟩ := hcs _ hm rfl
    exact ⟨c, (clOf_lookup scope.names [] n hcs (.inl hm) fun c z => by cases z).trans e⟩
  · intro j i hj
    have hjl : j < ci.length := (List.getElem?_eq_some_iff.mp hj).1
    rw [List.all_eq_true] at h3
    have q := h3 j (List.mem_range.mpr hjl)
    rw [hj] at q
    cases e : N[nl + j]? with
    | none => rw [e] at q; cases q
    | some n =>
      rw [e] at q
      simp only [Bool.and_eq_true, beq_iff_eq] at q
      obtain ⟨⟨q1, q2⟩, q3⟩ := q
      refine ⟨n, rfl, q1, .inl q2, .inl (lookup_relabel_free hkf q3 q2), ?_⟩
      exact clOf_lookup scope.names [] n hcs (.inl (PySem.mem_of_lookup q3)) fun c z => by cases z

/-! ## a def of the text, by its promise -/
structure Fc (P : Program) (w : World) (K : PySem.W.Frag) (mg : Str → Option Value) (base : Heap) (x : Str) (k : Nat) (ps : List Str) (sp : Sp) : Prop where
  ex : ∃ f fd, mg x = some (.ref f) ∧ PySem.W.keepIn K (.ref f) = true ∧ Binds K fd ps [] ∧ FnOk P w K mg base CX0 k f fd ps sp
theorem pe_f {X : Cx} {x : Str} {k k' : Nat} {ps : List Str} {sp : Sp} {e : Expr} {es : List Expr} {t : TA} {p pos : Pos} (F : Fc X.prog X.w X.K X.mg X.base x k ps sp) (hr : Room k' X.A) (ha : PA X (e :: es) t) (hk : k ≤ k' := by decide) (hg : Gl X x := by rfl)
    (hdb : (x == ("__debug__" : Str)) = false := by decide) (he : starEach (e :: es) X.env = (false, eval e X.env) :: starEach es X.env := by rfl) (hpl : (backTo pos (starEach es X.env)).any (·.1) = false := by rfl) :
    PE X (.Call (.Name x p) (e :: es) [] pos) (tCall sp [] E0 t) := by
  obtain ⟨f, fd, hm, kp, b, G⟩ := F.ex
  exact pe_call G (hr.mono hk) hg hm kp b .nil pass0 ha hdb he hpl
theorem pe_ty {X : Cx} {x : Str} {n : String} {pos : Pos} (hg : Gl X x) (hm : X.mg x = none) (hv : bootBuiltins x = some (.type n)) (hn : x ≠ "__name__" := by decide) (hd : (x == ("__debug__" : Str)) = false := by decide) : PE X (.Name x pos) (tC (.ty n)) := pe_bltn hg hm hv rfl hn hd
theorem pe_gint {X : Cx} {x : Str} {i : Int} {t : Tok} {pos : Pos} (hg : Gl X x) (hm : X.mg x = some (.int i t)) (hd : (x == ("__debug__" : Str)) = false := by decide) : PE X (.Name x pos) (tC (.int i)) := pe_glob hg hm ⟨t, rfl⟩ hd
theorem pe_cls {X : Cx} {x : Str} {a : Addr} {pos : Pos} (hg : Gl X x) (hm : X.mg x = some (.ref a)) (hd : (x == ("__debug__" : Str)) = false := by decide) : PE X (.Name x pos) (tC (.ref a)) := pe_glob hg hm rfl hd
theorem bt_isinstance : bootBuiltins "isinstance" = some (.builtin "isinstance") := by decide +kernel
theorem bt_all : bootBuiltins "all" = some (.builtin "all") := by decide +kernel
theorem bt_len : bootBuiltins "len" = some (.builtin "len") := by decide +kernel
theorem bt_min : bootBuiltins "min" = some (.builtin "min") := by decide +kernel
theorem bt_int : bootBuiltins "int" = some (.type "int") := by decide +kernel
theorem bt_str : bootBuiltins "str" = some (.type "str") := by decide +kernel
theorem bt_bool : bootBuiltins "bool" = some (.type "bool") := by decide +kernel
theorem bt_list : bootBuiltins "list" = some (.type "list") := by decide +kernel

/-! ## which of the built-in types a value is of -/
inductive BTy (K : PySem.W.Frag) (H : Hp) : V → String → Prop where
  | non : BTy K H .non "NoneType"
  | bl (x : Bool) : BTy K H (.bl x) "bool"
  | int (i : Int) : BTy K H (.int i) "int"
  | str (x : Str) : BTy K H (.str x) "str"
  | lst {a : Addr} {xs : List V} (e : H a = some (.lst xs)) : BTy K H (.ref a) "list"
  | tup {a : Addr} {xs : List V} (e : H a = some (.tup xs)) : BTy K H (.ref a) "tuple"
  | dK {a : Addr} {kvs : List (Key × V)} (e : H a = some (.dK kvs)) : BTy K H (.ref a) "dict"
theorem BTy.ty {K : PySem.W.Frag} {H : Hp} {x : V} {n : String} (b : BTy K H x n) : TyOf K H x (.type n) := by
  cases b with
  | non => exact .non
  | bl => exact .bl _
  | int => exact .int _
  | str => exact .str _
  | lst e => exact .lst e
  | tup e => exact .tup e
  | dK e => exact .dK e
def isB (n c : String) : Bool := n == c || (n == "bool" && c == "int")
theorem kit_b {K : PySem.W.Frag} {H : Hp} {x : V} {n : String} (b : BTy K H x n) (c : String) (hc : c = "int" ∨ c = "bool" ∨ c = "str") : PySem.W.kitOne K (.type n) (.type c) = some (isB n c) := by
  cases b <;> rcases hc with rfl | rfl | rfl <;> kernel_rfl
end L2

set_option Elab.async false
set_option linter.all false
set_option maxRecDepth 100000
namespace L2
open PySem PySem.Spec PyProof.Rows

/-! ## comprehensions over a range, a list, a text: the items by an invariant -/
theorem comp_name {J : It} {te : TE} {σ0 : St} {fin : List V → Hp → Prop} {H1 : Hp} (n : Nat) (Ok : Nat → List V → Hp → Prop) (hn : n ≤ sizeLine) (h00 : σ0[0]? = some none) (h0 : Ok 0 [] H1) (hlen : ∀ i ys H, Ok i ys H → ys.length ≤ i)
    (hst : ∀ ys H, Ok n ys H → J.stop n H ∧ fin ys H) (hstep : ∀ i ys H, i < n → Ok i ys H → J.go i H ∧ ∀ x H', J.yld i H x H' → ∀ R : VK, (∀ y H4, Ok (i + 1) (ys ++ [y]) H4 → R y H4) → te (σ0.set 0 (some x)) H' R) : tCompW J (gName 0) tAll te σ0 fin H1 := by
  refine ⟨fun i m ys H => m = n - i ∧ i ≤ n ∧ Ok i ys H, ⟨n, by simp, Nat.zero_le _, h0⟩, ?_⟩
  rintro i m ys H ⟨rfl, hi, ok⟩
  by_cases hlt : i < n
  · obtain ⟨go, st⟩ := hstep i ys H hlt ok
    refine .inr ⟨go, fun x H' y => ⟨⟨by simp, fun j v hv => ?_⟩, ?_⟩⟩
    · cases j with
      | zero => rw [h00] at hv; cases hv
      | succ j => rw [List.getElem?_set_ne (by omega)]; exact hv
    · unfold tAll
      dsimp only
      rw [if_pos rfl]
      exact st x H' y _ fun z H4 ok4 => ⟨by have := hlen i ys H ok; omega, n - (i + 1), by omega, rfl, hlt, ok4⟩
  · have e : i = n := by omega
    subst e
    exact .inl (hst ys H ok)
theorem comp_range {lo : Int} {n : Nat} {te : TE} {σ0 : St} {fin : List V → Hp → Prop} {H1 : Hp} (Ok : Nat → List V → Hp → Prop) (hn : n ≤ sizeLine) (h00 : σ0[0]? = some none) (h0 : Ok 0 [] H1) (hlen : ∀ i ys H, Ok i ys H → ys.length ≤ i) (hfin : ∀ ys H, Ok n ys H → fin ys H)
    (hstep : ∀ i ys H, i < n → Ok i ys H → ∀ R : VK, (∀ y H4, Ok (i + 1) (ys ++ [y]) H4 → R y H4) → te (σ0.set 0 (some (.int (lo + i)))) H R) : tCompW (Itr lo n) (gName 0) tAll te σ0 fin H1 :=
  comp_name n Ok hn h00 h0 hlen (fun ys H ok => ⟨Nat.le_refl _, hfin ys H ok⟩) fun i ys H hi ok => ⟨hi, fun x H' y => by
    obtain ⟨e1, e2⟩ := y
    subst e1 e2
    exact hstep i ys _ hi ok⟩
theorem comp_list {K : PySem.W.Frag} {a : Addr} {xs : List V} {te : TE} {σ0 : St} {fin : List V → Hp → Prop} {H1 : Hp} (Ok : Nat → List V → Hp → Prop) (hn : xs.length ≤ sizeLine) (h00 : σ0[0]? = some none) (h0 : Ok 0 [] H1) (hlen : ∀ i ys H, Ok i ys H → ys.length ≤ i)
    (hl : ∀ i ys H, Ok i ys H → SqL K H a xs) (hfin : ∀ ys H, Ok xs.length ys H → fin ys H)
    (hstep : ∀ i x ys H, xs[i]? = some x → Ok i ys H → ∀ R : VK, (∀ y H4, Ok (i + 1) (ys ++ [y]) H4 → R y H4) → te (σ0.set 0 (some x)) H R) : tCompW (Itl K a) (gName 0) tAll te σ0 fin H1 :=
  comp_name xs.length Ok hn h00 h0 hlen (fun ys H ok => ⟨⟨xs, hl _ _ _ ok, Nat.le_refl _⟩, hfin ys H ok⟩) fun i ys H hi ok => ⟨⟨xs, xs[i], hl _ _ _ ok, List.getElem?_eq_getElem hi⟩, fun x H' y => by
    obtain ⟨e1, e2⟩ := y
    subst e1
    exact hstep i x ys _ (e2 xs (hl _ _ _ ok)) ok⟩

/-! ## two lists of flat values that are one -/
section
variable {X : Cx}
theorem eqV_self {x : V} (h : flatV x = true) : eqV x x = true := by
  cases x <;> first | rfl | (simp [eqV]; done) | exact absurd h Bool.false_ne_true
theorem eqAts {A : Around} {s : Shared} {xs : List V} {us ws : List Value} (hf : xs.all flatV = true) (r : Vals xs us) (q : Vals xs ws) : ∀ j (h1 : j < us.toArray.size) (h2 : j < ws.toArray.size), SeqAt.EqAt A s us.toArray[j] ws.toArray[j] true := by
  intro j h1 h2
  have hj : j < xs.length := by rw [r.length]; simpa using h1
  obtain ⟨u, e1, ru⟩ := r.get (i := j) (x := xs[j]) (List.getElem?_eq_getElem hj)
  obtain ⟨v, e2, rv⟩ := q.get (i := j) (x := xs[j]) (List.getElem?_eq_getElem hj)
  have hfx : flatV xs[j] = true := (List.all_eq_true.mp hf) _ (List.getElem_mem hj)
  have q1 : us.toArray[j] = u := by
    have := (List.getElem?_eq_some_iff.mp e1).2
    simpa using this
  have q2 : ws.toArray[j] = v := by
    have := (List.getElem?_eq_some_iff.mp e2).2
    simpa using this
  rw [q1, q2]
  have := eqAt_V (A := A) (s := s) ru rv hfx hfx
  rw [eqV_self hfx] at this
  exact this
theorem all_true (n : Nat) : (List.range n).all (fun _ => true) = true := by simp
def rSameL (K : PySem.W.Frag) (r : Bool) : R2 := fun x y H Q => ∃ a b xs, x = .ref a ∧ y = .ref b ∧ SqL K H a xs ∧ SqL K H b xs ∧ xs.all flatV = true ∧ Q (.bl r) H
theorem op_neL (hu : X.A.units < cLine) : OpR X (compareOp .NotEq) (rSameL X.K false) := by
  intro pins s σ H x y v u Q I rx ry h
  obtain ⟨a, b, xs, rfl, rfl, ha, hb, hf, q⟩ := h
  cases rx; cases ry
  obtain ⟨its, r, pl, hz⟩ := I.list ha
  obtain ⟨its2, r2, pl2, _⟩ := I.list hb
  refine SeqAt.RcNeAt.lists (e := fun _ => true) pl.isList pl2.isList (by simp [← r.length, ← r2.length]) hu (eqAts hf r r2) X.prog X.w X.xe _ ⟨.bl false, H, I, ?_, q⟩
  rw [all_true]; rfl
end

/-! ## defs with defaults, methods, classes -/
structure FunV (K : PySem.W.Frag) (x qual : Str) (st : Stmt) (f : Addr) (fd : FuncData) : Prop where
  ex : ∃ (oc : Value) (od : Option Addr) (dV kV doc pm : Value) (an : Option Addr) (cdv ct : Value) (osl : Array (Option Value)),
    fd = PySem.W.fnOf x qual (defArgs st) (defBody st) (defScope st) dV kV doc pm an cdv ct ∧ K.lookup f = some ⟨oc, od, .func fd, osl⟩ ∧ PySem.W.codeIn K cdv qual = true
  kp : PySem.W.keepIn K (.ref f) = true
section
variable {P : Program} {w : World} {K : PySem.W.Frag} {mg : Str → Option Value} {base : Heap}
theorem FunV.ok {x qual : Str} {st : Stmt} {f : Addr} {fd : FuncData} {N ps : List Str} {k : Nat} {sp : Sp} (F : FunV K x qual st f fd) (S : FnScope N ps (defScope st)) (len : ∀ vs H Q E, sp vs H Q E → vs.length = ps.length)
    (hbody : ∀ (cdv : Value) (A : Around) (outer : List Env) (s : Shared) (H : Hp) (vs : List V) (Q : VK) (E : XK), Room k (A.deeper (envOfC qual (defScope st) s.heap.objs.size f cdv)) → sp vs H Q E →
      ∃ t, PSs (cxOf CX0 P w K mg base N qual (defScope st) f cdv A outer s H E).nox (defBody st) t ∧ t { nx := fun _ H' => Q .non H', rt := Q } (start N vs) H) : FnOk P w K mg base CX0 (k + 1) f fd ps sp := by
  obtain ⟨oc, od, dV, kV, doc, pm, an, cdv, ct, osl, rfl, lk, hcd⟩ := F.ex
  refine fn_of lk hcd S len fun A outer s H vs Q E hr h => ?_
  obtain ⟨t, h1, h2⟩ := hbody cdv A outer s H vs Q E hr h
  exact ⟨t, PSs.nox h1, h2⟩
theorem funV_mk {x qual : Str} {st : Stmt} {f : Addr} {oc : Value} {od an : Option Addr} {osl : Array (Option Value)} {dV kV doc pm cdv ct : Value} (l : K.lookup f = some ⟨oc, od, .func (PySem.W.fnOf x qual (defArgs st) (defBody st) (defScope st) dV kV doc pm an cdv ct), osl⟩) (c : PySem.W.codeIn K cdv qual = true)
    (k : PySem.W.keepIn K (.ref f) = true) : FunV K x qual st f (PySem.W.fnOf x qual (defArgs st) (defBody st) (defScope st) dV kV doc pm an cdv ct) := ⟨⟨oc, od, dV, kV, doc, pm, an, cdv, ct, osl, rfl, l, c⟩, k⟩

/-- a method of a class by its promise -/
structure Mc (P : Program) (w : World) (K : PySem.W.Frag) (mg : Str → Option Value) (base : Heap) (C : Addr) (nm : Str) (k : Nat) (sp : Sp) : Prop where
  ex : ∃ f fd ps, Cls K C ∧ Meth K C nm f ∧ Binds K fd ps [] ∧ FnOk P w K mg base CX0 k f fd ps sp
/-- a class by the promise of its __init__, called with all but the defaults dvs -/
structure Kc (P : Program) (w : World) (K : PySem.W.Frag) (mg : Str → Option Value) (base : Heap) (x : Str) (C : Addr) (k : Nat) (dvs : List V) (sp : Sp) : Prop where
  ex : ∃ f fd ps ds, mg x = some (.ref C) ∧ Mk K C f ∧ Vals dvs ds ∧ Binds K fd ps ds ∧ FnOk P w K mg base CX0 k f fd ps sp
end
section
variable {X : Cx} {k k' : Nat} {sp : Sp} {x m : Str} {p pos apos : Pos} {e o : Expr} {es : List Expr} {ta : TE} {t : TA} {C : Addr} {dvs : List V}
def tMD (M : Addr → Sp → Prop) (m : Str) (ta : TE) (t : TA) : TE := fun σ H Q => ta σ H fun x H1 => ∃ a C dx fs sp, x = .ref a ∧ H1 a = some (.ins C dx fs) ∧ fs.lookup m = none ∧ M C sp ∧ t σ H1 fun vs H2 => sp (x :: vs) H2 Q E0
theorem pe_md (k : Nat) {pl : Sem Bool} (hr : Room k' X.A) (ho : PE X o ta) (ha : PA X (e :: es) t) (hk : k ≤ k' := by decide)
    (hst : starEach (e :: es) X.env = (false, eval e X.env) :: starEach es X.env := by rfl) (hpl : (backTo pos (starEach es X.env)).any (·.1) = false := by rfl)
    (ht : eval (.Call (.Attribute o m apos) (e :: es) [] pos) X.env = (do
      let ov ← eval o X.env
      standAt apos.atName
      let (f, first) ← holding [ov] (getMethod ov m pl)
      callWith pos f first (backTo pos (starEach (e :: es) X.env)) (backToKw pos (keywordEach [] X.env))) := by rfl) :
    PE X (.Call (.Attribute o m apos) (e :: es) [] pos) (tMD (fun C sp => Mc X.prog X.w X.K X.mg X.base C m k sp) m ta t) := by
  intro pins s σ H Q I h
  refine PySem.W.methodCall_KW (pl := pl) (thn (ho pins s σ H _ I h) fun u s1 ⟨x, H1, I1, rx, a, C, dx, fs, sp, ex, ea, l, M, q⟩ => ?_) ht
  subst ex
  obtain rfl : u = Value.ref a := rx
  obtain ⟨f, fd, ps, c, hm, hb, F⟩ := M.ex
  refine getmeth_ok I1 ea c hm l ?_
  refine PySem.W.callWith_K (first := [.ref a]) (h₀ := X.base) I.ok.mod.kin hm.kp (thn (ha pos pins s1 σ H1 _ I1 q) fun us s2 ⟨vs, H2, I2, r, q2⟩ => ⟨I2.kIn, ?_⟩) hst hpl
  exact run_fn (us := .ref a :: us) (vs := .ref a :: vs) (dvs := []) F (hr.mono hk) hb .nil pass0 I2 (.cons rfl r) (by rw [List.append_nil]; exact q2)
theorem pe_md0 (k : Nat) {pl : Sem Bool} (hr : Room k' X.A) (ho : PE X o ta) (hk : k ≤ k' := by decide)
    (ht : eval (.Call (.Attribute o m apos) [] [] pos) X.env = (do
      let ov ← eval o X.env
      standAt apos.atName
      let (f, first) ← holding [ov] (getMethod ov m pl)
      callWith pos f first (backTo pos (starEach [] X.env)) (backToKw pos (keywordEach [] X.env))) := by rfl) :
    PE X (.Call (.Attribute o m apos) [] [] pos) (tMD (fun C sp => Mc X.prog X.w X.K X.mg X.base C m k sp) m ta tNil) := by
  intro pins s σ H Q I h
  refine PySem.W.methodCall_KW (pl := pl) (thn (ho pins s σ H _ I h) fun u s1 ⟨x, H1, I1, rx, a, C, dx, fs, sp, ex, ea, l, M, q⟩ => ?_) ht
  subst ex
  obtain rfl : u = Value.ref a := rx
  obtain ⟨f, fd, ps, c, hm, hb, F⟩ := M.ex
  refine getmeth_ok I1 ea c hm l ?_
  exact PySem.W.callWith_K0 (first := [.ref a]) I1.kIn hm.kp (run_fn (us := [.ref a]) (vs := [.ref a]) (dvs := []) F (hr.mono hk) hb .nil pass0 I1 (.cons rfl .nil) q)
theorem pe_mk (F : Kc X.prog X.w X.K X.mg X.base x C k dvs sp) (hr : Room k' X.A) (ha : PA X (e :: es) t) (hk : k + 1 ≤ k' := by decide) (hg : Gl X x := by rfl)
    (hdb : (x == ("__debug__" : Str)) = false := by decide) (he : starEach (e :: es) X.env = (false, eval e X.env) :: starEach es X.env := by rfl) (hpl : (backTo pos (starEach es X.env)).any (·.1) = false := by rfl) :
    PE X (.Call (.Name x p) (e :: es) [] pos) (tMake C sp dvs E0 t) := by
  obtain ⟨f, fd, ps, ds, hm, M, hd, hb, G⟩ := F.ex
  exact pe_make M G (hr.mono hk) hg hm hb hd pass0 ha hdb he hpl
/-- D.m(self, ..), D a class of the text: the class's own def, called as it stands -/
structure Dc (P : Program) (w : World) (K : PySem.W.Frag) (mg : Str → Option Value) (base : Heap) (x m : Str) (k : Nat) (sp : Sp) : Prop where
  ex : ∃ C f fd ps, mg x = some (.ref C) ∧ PySem.W.specialIn K (.ref C) "__getattribute__" = some (some (.builtin "type.__getattribute__")) ∧ PySem.W.readsIn K C (.type "type") = true ∧ PySem.W.findCls K (.ref C) (.type "type") m = some (.val (.ref f)) ∧
    PySem.W.keepIn K (.ref f) = true ∧ Binds K fd ps [] ∧ FnOk P w K mg base CX0 k f fd ps sp
theorem pe_dm {pl : Sem Bool} (F : Dc X.prog X.w X.K X.mg X.base x m k sp) (hr : Room k' X.A) (ha : PA X (e :: es) t) (hk : k ≤ k' := by decide) (hg : Gl X x := by rfl) (hdb : (x == ("__debug__" : Str)) = false := by decide)
    (hst : starEach (e :: es) X.env = (false, eval e X.env) :: starEach es X.env := by rfl) (hpl : (backTo pos (starEach es X.env)).any (·.1) = false := by rfl)
    (ht : eval (.Call (.Attribute (.Name x p) m apos) (e :: es) [] pos) X.env = (do
      let ov ← eval (.Name x p) X.env
      standAt apos.atName
      let (f, first) ← holding [ov] (getMethod ov m pl)
      callWith pos f first (backTo pos (starEach (e :: es) X.env)) (backToKw pos (keywordEach [] X.env))) := by rfl) :
    PE X (.Call (.Attribute (.Name x p) m apos) (e :: es) [] pos) (tCall sp [] E0 t) := by
  intro pins s σ H Q I h
  obtain ⟨C, f, fd, ps, hm, hga, hrd, hfc, kp, hb, G⟩ := F.ex
  refine PySem.W.methodCall_KW (pl := pl) (ld_glob I hg hm ?_ hdb) ht
  refine PySem.W.method_cls I.kIn hga (PySem.W.cls_value I.kIn hrd hfc (handed_of (v := .ref f) rfl) ?_)
  have I1 := I.tok (s.toks + 1)
  refine PySem.W.callWith_K (first := []) (h₀ := X.base) I.ok.mod.kin kp (thn (ha pos pins _ σ H _ I1 h) fun us s2 ⟨vs, H2, I2, r, q2⟩ => ⟨I2.kIn, ?_⟩) hst hpl
  exact run_fn G (hr.mono hk) hb .nil pass0 I2 r q2
end
end L2

set_option Elab.async false
set_option linter.all false
set_option maxRecDepth 100000
namespace L2
open PySem PySem.Spec PyProof.Rows

/-! ## readings by name, so that a rule finds its place by its head -/
def rAddS : R2 := fun x y H Q => ∃ i j, x = .str i ∧ y = .str j ∧ i.length + j.length ≤ sizeLine ∧ Q (.str (i ++ j)) H
def rIsN : R2 := fun x y H Q => y = .non ∧ Q (.bl (decide (x = .non))) H
def rNotN : R2 := fun x y H Q => y = .non ∧ Q (.bl (!decide (x = .non))) H
def rLeS : R2 := fun x y H Q => ∃ i j, x = .str i ∧ y = .str j ∧ Q (.bl (!decide (j.cps.toList < i.cps.toList))) H
def rIsi (K : PySem.W.Frag) : List V → Hp → VK → Prop := fun xs H Q => ∃ x c t u b, xs = [x, c] ∧ TyOf K H x t ∧ RelV c u ∧ PySem.W.kitOne K t u = some b ∧ Q (.bl b) H
def rAll (K : PySem.W.Frag) : List V → Hp → VK → Prop := fun xs H Q => ∃ (p : Addr) (bs : List Bool), xs = [.ref p] ∧ SqL K H p (bs.map V.bl) ∧ Q (.bl (bs.all id)) H
def rLenS : List V → Hp → VK → Prop := fun xs H Q => ∃ z, xs = [.str z] ∧ z.length ≤ sizeLine ∧ Q (.int z.length) H
def rLenL (K : PySem.W.Frag) : List V → Hp → VK → Prop := fun xs H Q => ∃ p ys, xs = [.ref p] ∧ (SqL K H p ys ∨ SqT K H p ys) ∧ Q (.int ys.length) H
def rMin2 : List V → Hp → VK → Prop := fun xs H Q => ∃ i j, xs = [.int i, .int j] ∧ Q (.int (if j < i then j else i)) H
def rInt1 : List V → Hp → VK → Prop := fun xs H Q => (∃ i, xs = [.int i] ∧ Q (.int i) H) ∨ ∃ k, xs = [.bl k] ∧ Q (.int (if k then 1 else 0)) H
def rStrI : List V → Hp → VK → Prop := fun xs H Q => ∃ i, xs = [.int i] ∧ i.natAbs.log2 < 1920 ∧ Q (.str (toString i)) H
section
variable {X : Cx}
theorem op_addS : OpR X (binaryOp .Add) rAddS := op_add_str
theorem op_isn : OpR X (compareOp .Is) rIsN := op_isN
theorem op_notn : OpR X (compareOp .IsNot) rNotN := op_notN
theorem op_leS : OpR X (compareOp .LtE) rLeS := op_le_str
theorem call_isi : CallR X (.builtin "isinstance") (rIsi X.K) := call_isinst
theorem call_all (hc : X.calm = true) : CallR X (.builtin "all") (rAll X.K) := call_all_bools hc
theorem call_lenS : CallR X (.builtin "len") rLenS := call_len_str
theorem call_lenL : CallR X (.builtin "len") (rLenL X.K) := call_len_seq
theorem call_minI (hc : X.calm = true) : CallR X (.builtin "min") rMin2 := call_min2 hc
theorem call_intI : CallR X (.type "int") rInt1 := call_int1
theorem call_strI : CallR X (.type "str") rStrI := call_str_int
/-- i ** j, both written -/
theorem pe_powc {i j : Int} (n : Int) {k1 k2 p1 p2 pos} (h : i ^ j.toNat = n) (c : CPow i j) : PE X (.BinOp (.Constant (.int i) k1 p1) .Pow (.Constant (.int j) k2 p2) pos) (tC (.int n)) := by
  subst h
  intro pins s σ H Q I q
  exact pe_op op_pow pe_int pe_int pins s σ H Q I ⟨i, j, rfl, rfl, c, q⟩
end

/-! ## what is wanted behind, by name -/
def BoolP (P : Bool → Hp → Prop) : VK := fun x H => ∃ k, x = .bl k ∧ P k H
def IntP (O : Option Int → Hp → Prop) : VK := fun x H => ∃ i, x = .int i ∧ O (some i) H
def NewL (Q : VK) : List V → Hp → Prop := fun xs H => xs.length ≤ sizeLine ∧ ∀ p, H p = none → Q (.ref p) (upd H p (.lst xs))
def NewT (Q : VK) : List V → Hp → Prop := fun xs H => xs.length ≤ sizeLine ∧ ∀ p, H p = none → Q (.ref p) (upd H p (.tup xs))
def NewF (Q : VK) : List V → Hp → Prop := fun ys H => ∀ p, H p = none → Q (.ref p) (upd H p (.lst ys))
def FldP (K : PySem.W.Frag) (f : Str) (Q : VK) : VK := fun x H => ∃ a C dx fs v, x = .ref a ∧ H a = some (.ins C dx fs) ∧ Cls K C ∧ NoAttr K C f ∧ fs.lookup f = some v ∧ Q v H
def SFldP (K : PySem.W.Frag) (f : Str) (y : V) (q : Hp → Prop) : VK := fun x H => ∃ a C dx fs, x = .ref a ∧ H a = some (.ins C dx fs) ∧ Cls K C ∧ NoAttr K C f ∧ fs.length < 1000 ∧ q (upd H a (.ins C dx (putF f y fs)))
def MdP (M : Addr → Sp → Prop) (m : Str) (t : TA) (σ : St) (Q : VK) : VK := fun x H => ∃ a C dx fs sp, x = .ref a ∧ H a = some (.ins C dx fs) ∧ fs.lookup m = none ∧ M C sp ∧ t σ H fun vs H2 => sp (x :: vs) H2 Q E0
def MakeP (C : Addr) (sp : Sp) (dvs : List V) (E : XK) (Q : VK) : List V → Hp → Prop := fun vs H1 => ∀ x dx, H1 x = none → H1 dx = none → dx ≠ x →
  sp (.ref x :: (vs ++ dvs)) (upd (upd H1 dx (.own x)) x (.ins C dx [])) (fun v H2 => v = .non ∧ Q (.ref x) H2) E
def BmP (K : PySem.W.Frag) (T : String) (r : V → List V → Hp → VK → Prop) (t : TA) (σ : St) (Q : VK) : VK := fun x H1 => tyV K T x H1 ∧ t σ H1 fun xs H2 => r x xs H2 Q
def Bm0P (K : PySem.W.Frag) (T : String) (r : V → List V → Hp → VK → Prop) (Q : VK) : VK := fun x H1 => tyV K T x H1 ∧ r x [] H1 Q
def ItLP (K : PySem.W.Frag) (R : It → Hp → Prop) : VK := fun x H1 => ∃ a, x = .ref a ∧ (∃ xs, SqL K H1 a xs) ∧ R (Itl K a) H1
def It1P (R : It → Hp → Prop) : List V → Hp → Prop := fun vs H1 => ∃ j : Int, vs = [.int j] ∧ -(2 ^ 62) ≤ j ∧ j < 2 ^ 62 ∧ R (Itr 0 j.toNat) H1

/-! ## rules: what must be shown of a reading -/
section
variable {nx bk ct : St → Hp → Prop} {rt : VK} {σ : St} {H : Hp} {Q : VK} {t u : TS} {te ta tb tc : TE} {g : TG} {c d : TT} {v : V} {K : PySem.W.Frag} {E : XK}
-- statements
theorem rd_seq (h : t ⟨u ⟨nx, rt, bk, ct⟩, rt, bk, ct⟩ σ H) : tSeq t u ⟨nx, rt, bk, ct⟩ σ H := h
/-- a statement, then what holds behind it on every way -/
theorem rd_seqR (R : St → Hp → Prop) (h2 : ∀ σ' H', R σ' H' → u ⟨nx, rt, bk, ct⟩ σ' H') (h1 : ∀ nx' : St → Hp → Prop, (∀ σ' H', R σ' H' → nx' σ' H') → t ⟨nx', rt, bk, ct⟩ σ H) : tSeq t u ⟨nx, rt, bk, ct⟩ σ H := h1 _ h2
theorem rd_seqIf {v : TS} (h : tSeq (tIfS c t u) v ⟨nx, rt, bk, ct⟩ σ H) : tSeq (tIfS c t u) v ⟨nx, rt, bk, ct⟩ σ H := h
theorem rd_next (h : nx σ H) : tNext ⟨nx, rt, bk, ct⟩ σ H := h
theorem rd_asg (h : te σ H fun x H1 => g x σ H1 nx) : tAsg te g ⟨nx, rt, bk, ct⟩ σ H := h
theorem rd_ret (h : te σ H rt) : tRet te ⟨nx, rt, bk, ct⟩ σ H := h
theorem rd_drop (h : te σ H fun _ H1 => nx σ H1) : tDrop te ⟨nx, rt, bk, ct⟩ σ H := h
theorem rd_if (h : c σ H fun b H1 => if b = true then t ⟨nx, rt, bk, ct⟩ σ H1 else u ⟨nx, rt, bk, ct⟩ σ H1) : tIfS c t u ⟨nx, rt, bk, ct⟩ σ H := h
/-- what a loop wants -/
def ForP (J : It) (g : TG) (tb : TS) (D : Ends) (σ : St) (H : Hp) : Prop :=
  ∃ W : Nat → Nat → St → Hp → Prop, (∃ m, W 0 m σ H) ∧ ∀ i m σ H, W i m σ H →
    (J.stop i H ∧ D.nx σ H) ∨ (J.go i H ∧ ∃ N : St → Hp → Prop, (∀ σ' H', N σ' H' → ∃ m', m' < m ∧ W (i + 1) m' σ' H') ∧ ∀ x H', J.yld i H x H' → g x σ H' fun σ2 H2 => tb { D with nx := N, ct := N, bk := D.nx } σ2 H2)
theorem rd_for {wi : TI} {tb : TS} (h : wi σ H fun J H1 => ForP J g tb ⟨nx, rt, bk, ct⟩ σ H1) : tFor wi g tb ⟨nx, rt, bk, ct⟩ σ H := h
-- names
theorem rd_v0 {l : St} (h : Q v H) : tVar 0 (some v :: l) H Q := ⟨v, rfl, h⟩
theorem rd_v1 {a0} {l : St} (h : Q v H) : tVar 1 (a0 :: some v :: l) H Q := ⟨v, rfl, h⟩
theorem rd_v2 {a0 a1} {l : St} (h : Q v H) : tVar 2 (a0 :: a1 :: some v :: l) H Q := ⟨v, rfl, h⟩
theorem rd_v3 {a0 a1 a2} {l : St} (h : Q v H) : tVar 3 (a0 :: a1 :: a2 :: some v :: l) H Q := ⟨v, rfl, h⟩
theorem rd_v4 {a0 a1 a2 a3} {l : St} (h : Q v H) : tVar 4 (a0 :: a1 :: a2 :: a3 :: some v :: l) H Q := ⟨v, rfl, h⟩
theorem rd_v5 {a0 a1 a2 a3 a4} {l : St} (h : Q v H) : tVar 5 (a0 :: a1 :: a2 :: a3 :: a4 :: some v :: l) H Q := ⟨v, rfl, h⟩
theorem rd_v6 {a0 a1 a2 a3 a4 a5} {l : St} (h : Q v H) : tVar 6 (a0 :: a1 :: a2 :: a3 :: a4 :: a5 :: some v :: l) H Q := ⟨v, rfl, h⟩
theorem rd_v7 {a0 a1 a2 a3 a4 a5 a6} {l : St} (h : Q v H) : tVar 7 (a0 :: a1 :: a2 :: a3 :: a4 :: a5 :: a6 :: some v :: l) H Q := ⟨v, rfl, h⟩
theorem rd_v8 {a0 a1 a2 a3 a4 a5 a6 a7} {l : St} (h : Q v H) : tVar 8 (a0 :: a1 :: a2 :: a3 :: a4 :: a5 :: a6 :: a7 :: some v :: l) H Q := ⟨v, rfl, h⟩
theorem rd_v9 {a0 a1 a2 a3 a4 a5 a6 a7 a8} {l : St} (h : Q v H) : tVar 9 (a0 :: a1 :: a2 :: a3 :: a4 :: a5 :: a6 :: a7 :: a8 :: some v :: l) H Q := ⟨v, rfl, h⟩
theorem rd_v10 {a0 a1 a2 a3 a4 a5 a6 a7 a8 a9} {l : St} (h : Q v H) : tVar 10 (a0 :: a1 :: a2 :: a3 :: a4 :: a5 :: a6 :: a7 :: a8 :: a9 :: some v :: l) H Q := ⟨v, rfl, h⟩
theorem rd_v11 {a0 a1 a2 a3 a4 a5 a6 a7 a8 a9 a10} {l : St} (h : Q v H) : tVar 11 (a0 :: a1 :: a2 :: a3 :: a4 :: a5 :: a6 :: a7 :: a8 :: a9 :: a10 :: some v :: l) H Q := ⟨v, rfl, h⟩
theorem rd_v12 {a0 a1 a2 a3 a4 a5 a6 a7 a8 a9 a10 a11} {l : St} (h : Q v H) : tVar 12 (a0 :: a1 :: a2 :: a3 :: a4 :: a5 :: a6 :: a7 :: a8 :: a9 :: a10 :: a11 :: some v :: l) H Q := ⟨v, rfl, h⟩
variable {q : St → Hp → Prop}
theorem rd_s1 {a0 a} {l : St} (h : q (a0 :: some v :: l) H) : gName 1 v (a0 :: a :: l) H q := h
theorem rd_s2 {a0 a1 a} {l : St} (h : q (a0 :: a1 :: some v :: l) H) : gName 2 v (a0 :: a1 :: a :: l) H q := h
theorem rd_s3 {a0 a1 a2 a} {l : St} (h : q (a0 :: a1 :: a2 :: some v :: l) H) : gName 3 v (a0 :: a1 :: a2 :: a :: l) H q := h
theorem rd_s4 {a0 a1 a2 a3 a} {l : St} (h : q (a0 :: a1 :: a2 :: a3 :: some v :: l) H) : gName 4 v (a0 :: a1 :: a2 :: a3 :: a :: l) H q := h
theorem rd_s5 {a0 a1 a2 a3 a4 a} {l : St} (h : q (a0 :: a1 :: a2 :: a3 :: a4 :: some v :: l) H) : gName 5 v (a0 :: a1 :: a2 :: a3 :: a4 :: a :: l) H q := h
theorem rd_s6 {a0 a1 a2 a3 a4 a5 a} {l : St} (h : q (a0 :: a1 :: a2 :: a3 :: a4 :: a5 :: some v :: l) H) : gName 6 v (a0 :: a1 :: a2 :: a3 :: a4 :: a5 :: a :: l) H q := h
theorem rd_s7 {a0 a1 a2 a3 a4 a5 a6 a} {l : St} (h : q (a0 :: a1 :: a2 :: a3 :: a4 :: a5 :: a6 :: some v :: l) H) : gName 7 v (a0 :: a1 :: a2 :: a3 :: a4 :: a5 :: a6 :: a :: l) H q := h
theorem rd_s8 {a0 a1 a2 a3 a4 a5 a6 a7 a} {l : St} (h : q (a0 :: a1 :: a2 :: a3 :: a4 :: a5 :: a6 :: a7 :: some v :: l) H) : gName 8 v (a0 :: a1 :: a2 :: a3 :: a4 :: a5 :: a6 :: a7 :: a :: l) H q := h
theorem rd_s9 {a0 a1 a2 a3 a4 a5 a6 a7 a8 a} {l : St} (h : q (a0 :: a1 :: a2 :: a3 :: a4 :: a5 :: a6 :: a7 :: a8 :: some v :: l) H) : gName 9 v (a0 :: a1 :: a2 :: a3 :: a4 :: a5 :: a6 :: a7 :: a8 :: a :: l) H q := h
theorem rd_s10 {a0 a1 a2 a3 a4 a5 a6 a7 a8 a9 a} {l : St} (h : q (a0 :: a1 :: a2 :: a3 :: a4 :: a5 :: a6 :: a7 :: a8 :: a9 :: some v :: l) H) : gName 10 v (a0 :: a1 :: a2 :: a3 :: a4 :: a5 :: a6 :: a7 :: a8 :: a9 :: a :: l) H q := h
theorem rd_s11 {a0 a1 a2 a3 a4 a5 a6 a7 a8 a9 a10 a} {l : St} (h : q (a0 :: a1 :: a2 :: a3 :: a4 :: a5 :: a6 :: a7 :: a8 :: a9 :: a10 :: some v :: l) H) : gName 11 v (a0 :: a1 :: a2 :: a3 :: a4 :: a5 :: a6 :: a7 :: a8 :: a9 :: a10 :: a :: l) H q := h
theorem rd_s12 {a0 a1 a2 a3 a4 a5 a6 a7 a8 a9 a10 a11 a} {l : St} (h : q (a0 :: a1 :: a2 :: a3 :: a4 :: a5 :: a6 :: a7 :: a8 :: a9 :: a10 :: a11 :: some v :: l) H) : gName 12 v (a0 :: a1 :: a2 :: a3 :: a4 :: a5 :: a6 :: a7 :: a8 :: a9 :: a10 :: a11 :: a :: l) H q := h
-- expressions
theorem rd_C (h : Q v H) : tC v σ H Q := h
theorem rd_op {r : R2} (h : ta σ H fun x H1 => tb σ H1 fun y H2 => r x y H2 Q) : tOp r ta tb σ H Q := h
theorem rd_un {r : V → Hp → VK → Prop} (h : ta σ H fun x H1 => r x H1 Q) : tUn r ta σ H Q := h
theorem rd_I0 {f : Int → Int → V} {i j : Int} (h : Q (f i j) H) : rI0 f (.int i) (.int j) H Q := ⟨i, j, rfl, rfl, h⟩
theorem rd_U {f : Int → V} {i : Int} (h : Q (f i) H) : rU f (.int i) H Q := ⟨i, rfl, h⟩
theorem rd_div {f : Int → Int → V} {i j : Int} (h0 : 0 < j) (h1 : j < 1073741824) (h : Q (f i j) H) : rI CDiv f (.int i) (.int j) H Q := ⟨i, j, rfl, rfl, ⟨h0, h1⟩, h⟩
theorem rd_mod {f : Int → Int → V} {i j : Int} (h0 : 0 < j) (h : Q (f i j) H) : rI (fun _ j => 0 < j) f (.int i) (.int j) H Q := ⟨i, j, rfl, rfl, h0, h⟩
theorem rd_mulL {f : Int → Int → V} {i j : Int} (h0 : -18446744073709551616 < i) (h1 : i < 18446744073709551616) (h : Q (f i j) H) : rI CMul f (.int i) (.int j) H Q := ⟨i, j, rfl, rfl, .inl ⟨by omega, by omega⟩, h⟩
theorem rd_mulR {f : Int → Int → V} {i j : Int} (h0 : -18446744073709551616 < j) (h1 : j < 18446744073709551616) (h : Q (f i j) H) : rI CMul f (.int i) (.int j) H Q := ⟨i, j, rfl, rfl, .inr ⟨by omega, by omega⟩, h⟩
theorem rd_pow {f : Int → Int → V} {i j : Int} (h0 : 0 ≤ j) (h1 : j ≤ 1000000) (h2 : i.natAbs < 2 ^ 64) (h : Q (f i j) H) : rI CPow f (.int i) (.int j) H Q := ⟨i, j, rfl, rfl, ⟨h0, h1, h2⟩, h⟩
theorem rd_nonneg {f : Int → Int → V} {i j : Int} (h0 : 0 ≤ j) (h : Q (f i j) H) : rI (fun _ j => 0 ≤ j) f (.int i) (.int j) H Q := ⟨i, j, rfl, rfl, h0, h⟩
theorem dec_i {i j : Int} : decide (V.int i = V.int j) = decide (i = j) := by simp
theorem dec_b {i j : Bool} : decide (V.bl i = V.bl j) = decide (i = j) := by simp
theorem dec_s {i j : Str} : decide (V.str i = V.str j) = decide (i = j) := by simp
theorem rd_eqI {i j : Int} (h : Q (.bl (decide (i = j))) H) : rEq (.int i) (.int j) H Q := ⟨rfl, by rw [dec_i]; exact h⟩
theorem rd_eqS {i j : Str} (h : Q (.bl (decide (i = j))) H) : rEq (.str i) (.str j) H Q := ⟨rfl, by rw [dec_s]; exact h⟩
theorem rd_eqNN (h : Q (.bl true) H) : rEq .non .non H Q := ⟨rfl, h⟩
theorem rd_neI {i j : Int} (h : Q (.bl (!decide (i = j))) H) : rNe (.int i) (.int j) H Q := ⟨rfl, by rw [dec_i]; exact h⟩
theorem rd_neB {i j : Bool} (h : Q (.bl (!decide (i = j))) H) : rNe (.bl i) (.bl j) H Q := ⟨rfl, by rw [dec_b]; exact h⟩
theorem rd_isNN (h : Q (.bl true) H) : rIsN .non .non H Q := ⟨rfl, h⟩
theorem rd_isNS {i : Str} (h : Q (.bl false) H) : rIsN (.str i) .non H Q := ⟨rfl, by rw [decide_eq_false (fun z => by cases z)]; exact h⟩
theorem rd_isNV (h : Q (.bl (decide (v = .non))) H) : rIsN v .non H Q := ⟨rfl, h⟩
theorem rd_ntNN (h : Q (.bl false) H) : rNotN .non .non H Q := ⟨rfl, h⟩
theorem rd_ntNS {i : Str} (h : Q (.bl true) H) : rNotN (.str i) .non H Q := ⟨rfl, by rw [decide_eq_false (fun z => by cases z)]; exact h⟩
theorem rd_addS {i j : Str} (hl : i.length + j.length ≤ sizeLine) (h : Q (.str (i ++ j)) H) : rAddS (.str i) (.str j) H Q := ⟨i, j, rfl, rfl, hl, h⟩
theorem rd_andV (h : ta σ H (BoolP fun c H1 => if c = true then tb σ H1 Q else Q (.bl false) H1)) : tAndV ta tb σ H Q := h
theorem rd_ifE (h : c σ H fun k H1 => if k = true then ta σ H1 Q else tb σ H1 Q) : tIf c ta tb σ H Q := h
theorem rd_call {sp : Sp} {t : TA} (h : t σ H fun vs H1 => sp vs H1 Q E) : tCall sp [] E t σ H Q := by
  unfold tCall
  simp only [List.append_nil]
  exact h
theorem rd_cb {r : List V → Hp → VK → Prop} {t : TA} (h : t σ H fun vs H1 => r vs H1 Q) : tCB r t σ H Q := h
theorem rd_lst {t : TA} (h : t σ H (NewL Q)) : tLst t σ H Q := h
theorem rd_tup {t : TA} (h : t σ H (NewT Q)) : tTup t σ H Q := h
theorem rd_new' {o : HO} {R : V → Hp → Prop} (h : ∀ p H', H p = none → Same H H' → H' p = some o → R (.ref p) H') : ∀ p, H p = none → R (.ref p) (upd H p o) :=
  fun p hp => h p _ hp (fun b u e => by rw [upd_ne (ne_of_none e hp)]; exact e) upd_same
theorem rd_newL {xs : List V} (hn : xs.length ≤ sizeLine) (h : ∀ p H', H p = none → Same H H' → H' p = some (.lst xs) → Q (.ref p) H') : NewL Q xs H := ⟨hn, rd_new' h⟩
theorem rd_newT {xs : List V} (hn : xs.length ≤ sizeLine) (h : ∀ p H', H p = none → Same H H' → H' p = some (.tup xs) → Q (.ref p) H') : NewT Q xs H := ⟨hn, rd_new' h⟩
theorem rd_newF {xs : List V} (h : ∀ p H', H p = none → Same H H' → H' p = some (.lst xs) → Q (.ref p) H') : NewF Q xs H := rd_new' h
theorem rd_fld {f : Str} (h : ta σ H (FldP K f Q)) : tFld K ta f σ H Q := h
theorem rd_fldV {a C dx : Addr} {fs : List (Str × V)} {f : Str} (e : H a = some (.ins C dx fs)) (cl : Cls K C) (na : NoAttr K C f) (l : fs.lookup f = some v) (h : Q v H) : FldP K f Q (.ref a) H := ⟨a, C, dx, fs, v, rfl, e, cl, na, l, h⟩
theorem rd_sfld {f : Str} (h : ta σ H fun y H1 => tb σ H1 (SFldP K f y (nx σ))) : sFld K tb ta f ⟨nx, rt, bk, ct⟩ σ H := h
theorem rd_sfldV {a C dx : Addr} {fs : List (Str × V)} {f : Str} {y : V} {w : Hp → Prop} (e : H a = some (.ins C dx fs)) (cl : Cls K C) (na : NoAttr K C f) (l : decide (fs.length < 1000) = true)
    (h : ∀ H', (∀ b o, H b = some o → b ≠ a → H' b = some o) → H' a = some (.ins C dx (putF f y fs)) → w H') : SFldP K f y w (.ref a) H :=
  ⟨a, C, dx, fs, rfl, e, cl, na, of_decide_eq_true l, h _ (fun b o q hb => by rw [upd_ne hb]; exact q) upd_same⟩
theorem rd_md {M : Addr → Sp → Prop} {m : Str} {t : TA} (h : ta σ H (MdP M m t σ Q)) : tMD M m ta t σ H Q := h
theorem rd_mdV {M : Addr → Sp → Prop} {m : Str} {t : TA} {a C dx : Addr} {fs : List (Str × V)} {sp : Sp} (e : H a = some (.ins C dx fs)) (l : fs.lookup m = none) (F : M C sp) (h : t σ H fun vs H2 => sp (.ref a :: vs) H2 Q E0) : MdP M m t σ Q (.ref a) H :=
  ⟨a, C, dx, fs, sp, rfl, e, l, F, h⟩
theorem rd_make {C : Addr} {sp : Sp} {dvs : List V} {t : TA} (h : t σ H (MakeP C sp dvs E Q)) : tMake C sp dvs E t σ H Q := h
/-- a new object by what its __init__ promises -/
theorem rd_makeV {C : Addr} {sp : Sp} {dvs vs : List V} {fs : List (Str × V)}
    (hsp : ∀ p dx H0 (Q' : VK), H0 p = some (.ins C dx []) → (∀ H', (∀ b o, H0 b = some o → b ≠ p → H' b = some o) → H' p = some (.ins C dx fs) → Q' .non H') → Same H H0 → sp (.ref p :: (vs ++ dvs)) H0 Q' E)
    (k : ∀ p dx H', H p = none → Same H H' → H' p = some (.ins C dx fs) → Q (.ref p) H') : MakeP C sp dvs E Q vs H := by
  intro x dx nx nd ne
  have s0 : Same H (upd (upd H dx (.own x)) x (.ins C dx [])) := fun b o e => by
    rw [upd_ne (ne_of_none e nx), upd_ne (ne_of_none e nd)]; exact e
  exact hsp x dx _ _ upd_same (fun H' sb e => ⟨rfl, k x dx H' nx (fun b o q => sb b o (s0 b o q) (ne_of_none q nx)) e⟩) s0
theorem rd_comp {wi : TI} {nl : Nat} {ci : List Nat} {ti : TT} (h : wi σ H fun J H1 => tCompW J g ti te (capSt nl ci σ) (NewF Q) H1) : tComp wi nl ci g ti te σ H Q := h
theorem rd_sl {r : V → Option Int → Option Int → Hp → VK → Prop} {tl th : TO} (h : te σ H fun x H1 => tl σ H1 fun l H2 => th σ H2 fun u H3 => r x l u H3 Q) : tSl r te tl th σ H Q := h
theorem rd_slS {z : Str} {lo hi : Option Int} (hz : z.length ≤ sizeLine) (h : (Txt.slice z lo hi).length ≤ z.length → Q (.str (Txt.slice z lo hi)) H) : rSlS (.str z) lo hi H Q := ⟨z, rfl, hz, h (Txt.slice_le _ _ _)⟩
theorem rd_slL {a : Addr} {xs : List V} {lo hi : Option Int} (e : SqL K H a xs) (h : ∀ p H', H p = none → Same H H' → H' p = some (.lst (cutV xs lo hi)) → Q (.ref p) H') : rSlL K (.ref a) lo hi H Q := ⟨a, xs, rfl, e, rd_new' h⟩
theorem rd_ixL {p : Addr} {xs : List V} {i : Int} (e : SqL K H p xs) (l : atI xs i = some v) (h : Q v H) : rIxL K (.ref p) (.int i) H Q := ⟨p, xs, i, v, rfl, rfl, e, l, h⟩
theorem rd_ixSm {z : Str} {i : Int} (hz : z.length ≤ sizeLine) (h0 : 0 ≤ i) (h1 : i < z.length) (h : ∀ c, c ∈ z.cps.toList → Q (.str ⟨#[c]⟩) H) : rIxS (.str z) (.int i) H Q := by
  have hlt : i.toNat < z.cps.toList.length := by rw [Array.length_toList]; show i.toNat < z.length; omega
  have e := atI_nat (xs := z.cps.toList) (j := i.toNat) (v := z.cps.toList[i.toNat]) (List.getElem?_eq_getElem hlt)
  rw [show ((i.toNat : Nat) : Int) = i by omega] at e
  exact ⟨z, i, _, rfl, rfl, hz, e, h _ (List.getElem_mem hlt)⟩
theorem rd_ix2i {p : Addr} {a b i : Int} (e : SqL K H p [.int a, .int b]) (h0 : 0 ≤ i) (h1 : i < 2) (h : ∀ v, (i = 0 ∧ v = a) ∨ (i = 1 ∧ v = b) → Q (.int v) H) : rIxL K (.ref p) (.int i) H Q := by
  have : i = 0 ∨ i = 1 := by omega
  rcases this with rfl | rfl
  · exact ⟨p, _, 0, _, rfl, rfl, e, rfl, h a (.inl ⟨rfl, rfl⟩)⟩
  · exact ⟨p, _, 1, _, rfl, rfl, e, rfl, h b (.inr ⟨rfl, rfl⟩)⟩
theorem rd_ix3i {p : Addr} {a b c i : Int} (e : SqL K H p [.int a, .int b, .int c]) (h0 : 0 ≤ i) (h1 : i < 3) (h : ∀ v, (i = 0 ∧ v = a) ∨ (i = 1 ∧ v = b) ∨ (i = 2 ∧ v = c) → Q (.int v) H) : rIxL K (.ref p) (.int i) H Q := by
  have : i = 0 ∨ i = 1 ∨ i = 2 := by omega
  rcases this with rfl | rfl | rfl
  · exact ⟨p, _, 0, _, rfl, rfl, e, rfl, h a (.inl ⟨rfl, rfl⟩)⟩
  · exact ⟨p, _, 1, _, rfl, rfl, e, rfl, h b (.inr (.inl ⟨rfl, rfl⟩))⟩
  · exact ⟨p, _, 2, _, rfl, rfl, e, rfl, h c (.inr (.inr ⟨rfl, rfl⟩))⟩
def cutI (ns : List Int) (lo hi : Option Int) : List Int := (ns.drop (HT.sIx ns.length 0 lo)).take (HT.sIx ns.length ns.length hi - HT.sIx ns.length 0 lo)
theorem cutV_ints (ns : List Int) (lo hi : Option Int) : cutV (ns.map V.int) lo hi = (cutI ns lo hi).map V.int := by
  unfold cutV cutI
  rw [List.length_map, List.map_take, List.map_drop]
theorem cutI_len (ns : List Int) (lo hi : Option Int) : (cutI ns lo hi).length ≤ ns.length := by
  unfold cutI
  rw [List.length_take, List.length_drop]
  omega
theorem rd_slI {a : Addr} {ns : List Int} {lo hi : Option Int} (e : SqL K H a (ns.map V.int)) (h : ∀ p H', H p = none → Same H H' → H' p = some (.lst ((cutI ns lo hi).map V.int)) → Q (.ref p) H') : rSlL K (.ref a) lo hi H Q :=
  rd_slL e (by rw [cutV_ints]; exact h)
theorem rd_setLm {p : Addr} {xs : List V} {k : Int} {j : Nat} {R : Hp → Prop} (e : H p = some (.lst xs)) (l : ixN xs.length k = some j) (h : ∀ H', (∀ b o, H b = some o → b ≠ p → H' b = some o) → H' p = some (.lst (xs.set j v)) → R H') : rSetL (.ref p) (.int k) v H R :=
  ⟨p, xs, k, j, rfl, rfl, e, l, h _ (fun b o q hb => by rw [upd_ne hb]; exact q) upd_same⟩
theorem rd_catL {l b : Addr} {xs zs : List V} (e : H l = some (.lst xs)) (e2 : H b = some (.lst zs)) (hn : xs.length + zs.length ≤ sizeLine) (h : ∀ p H', H p = none → Same H H' → H' p = some (.lst (xs ++ zs)) → Q (.ref p) H') : rCat (.ref l) (.ref b) H Q :=
  ⟨l, b, xs, zs, rfl, rfl, e, e2, hn, rd_new' h⟩
theorem rd_sameL {r : Bool} {a b : Addr} {xs : List V} (e : SqL K H a xs) (e2 : SqL K H b xs) (hf : xs.all flatV = true) (h : Q (.bl r) H) : rSameL K r (.ref a) (.ref b) H Q := ⟨a, b, xs, rfl, rfl, e, e2, hf, h⟩
theorem rd_bm {T : String} {r : V → List V → Hp → VK → Prop} {to : TE} {t : TA} (h : to σ H (BmP K T r t σ Q)) : tBM K T r to t σ H Q := h
theorem rd_bm0 {T : String} {r : V → List V → Hp → VK → Prop} {to : TE} (h : to σ H (Bm0P K T r Q)) : tBM0 K T r to σ H Q := h
theorem rd_bmS {r : V → List V → Hp → VK → Prop} {t : TA} {z : Str} (h : t σ H fun xs H2 => r (.str z) xs H2 Q) : BmP K "str" r t σ Q (.str z) H := ⟨rfl, h⟩
theorem rd_bmL {r : V → List V → Hp → VK → Prop} {t : TA} {p : Addr} {xs : List V} (e : SqL K H p xs) (h : t σ H fun xs H2 => r (.ref p) xs H2 Q) : BmP K "list" r t σ Q (.ref p) H := ⟨.inl ⟨rfl, xs, e⟩, h⟩
theorem rd_bm0I {r : V → List V → Hp → VK → Prop} {i : Int} (h : r (.int i) [] H Q) : Bm0P K "int" r Q (.int i) H := ⟨rfl, h⟩
theorem rd_join {z : Str} {p : Addr} {ys : List Str} (e : SqL K H p (ys.map V.str)) (hn : (ys.map (·.length)).sum + ys.length * z.length ≤ 16777216) (h : Q (.str (Txt.join z ys)) H) : rJoin K (.str z) [.ref p] H Q := ⟨z, p, ys, rfl, rfl, e, hn, h⟩
-- built-ins
theorem rd_isiB {x : V} {n cn : String} (b : BTy K H x n) (hc : cn = "int" ∨ cn = "bool" ∨ cn = "str") (h : Q (.bl (isB n cn)) H) : rIsi K [x, .ty cn] H Q := ⟨x, .ty cn, _, _, _, rfl, b.ty, rfl, kit_b b cn hc, h⟩
theorem rd_isiII {i : Int} (h : Q (.bl true) H) : rIsi K [.int i, .ty "int"] H Q := rd_isiB (.int i) (.inl rfl) h
theorem rd_isiIB {i : Int} (h : Q (.bl false) H) : rIsi K [.int i, .ty "bool"] H Q := rd_isiB (.int i) (.inr (.inl rfl)) h
/-- what isinstance asks of a class -/
structure ICls (K : PySem.W.Frag) (C : Addr) : Prop where
  cl : Cls K C
  ha : PySem.W.findIn K (.ref C) "__class__" = some (some (.builtin "object.__class__"))
  hn : PySem.W.specialIn K (.builtin "object.__class__") "__get__" = some (some (.builtin "getset_descriptor.__get__"))
  tk : PySem.W.takesIn K (.builtin "object.__class__") = some true
  hm : PySem.W.mroIn K C (.type "object") = some true
theorem rd_isiC {a C dx D : Addr} {fs : List (Str × V)} {b : Bool} (e : H a = some (.ins C dx fs)) (ic : ICls K C) (k : PySem.W.kitOne K (.ref C) (.ref D) = some b) (h : Q (.bl b) H) : rIsi K [.ref a, .ref D] H Q :=
  ⟨.ref a, .ref D, _, _, b, rfl, .ins e ic.cl ic.ha ic.hn ic.tk ic.hm, rfl, k, h⟩
theorem rd_lenS {z : Str} (hz : z.length ≤ sizeLine) (h : Q (.int z.length) H) : rLenS [.str z] H Q := ⟨z, rfl, hz, h⟩
theorem rd_lenL {p : Addr} {ys : List V} (e : SqL K H p ys) (h : Q (.int ys.length) H) : rLenL K [.ref p] H Q := ⟨p, ys, rfl, .inl e, h⟩
theorem rd_min2 {i j : Int} (h : Q (.int (min i j)) H) : rMin2 [.int i, .int j] H Q := ⟨i, j, rfl, by
  have e : (if j < i then j else i) = min i j := by omega
  rw [e]; exact h⟩
theorem rd_intB {k : Bool} (h : Q (.int (if k then 1 else 0)) H) : rInt1 [.bl k] H Q := .inr ⟨k, rfl, h⟩
-- tests
variable {B : Bool → Hp → Prop}
theorem rd_test (h : te σ H (BoolP B)) : tTest te σ H B := h
theorem rd_tB (h : te σ H (BoolP B)) : tB te σ H B := h
theorem rd_and (h : c σ H fun k H1 => if k = true then d σ H1 B else B false H1) : tAnd c d σ H B := h
theorem rd_or (h : c σ H fun k H1 => if k = true then B true H1 else d σ H1 B) : tOr c d σ H B := h
theorem rd_not (h : c σ H fun k H1 => B (!k) H1) : tNot c σ H B := h
theorem rd_exb {b : Bool} {P : Bool → Hp → Prop} (h : P b H) : BoolP P (.bl b) H := ⟨b, rfl, h⟩
theorem rd_ifT {A B : Prop} (h : A) : if true = true then A else B := by rw [if_pos rfl]; exact h
theorem rd_ifF {A B : Prop} (h : B) : if false = true then A else B := by rw [if_neg Bool.false_ne_true]; exact h
theorem rd_ifnT {A B : Prop} (h : B) : if (!true) = true then A else B := rd_ifF h
theorem rd_ifnF {A B : Prop} (h : A) : if (!false) = true then A else B := rd_ifT h
theorem rd_ifN {p A B : Prop} [Decidable p] (hp : ¬ p) (h : B) : if decide p = true then A else B := by rw [if_neg (by rw [decide_eq_false hp]; exact Bool.false_ne_true)]; exact h
theorem rd_ifnP {p A B : Prop} [Decidable p] (hp : p) (h : B) : if (!decide p) = true then A else B := by rw [decide_eq_true hp]; exact rd_ifF h
theorem rd_if2 {p A B : Prop} [Decidable p] (h1 : p → A) (h2 : ¬ p → B) : if decide p = true then A else B := ite2 (fun h => h1 (of_decide_eq_true h)) fun h => h2 fun z => h (decide_eq_true z)
-- argument lists, slices' parts
variable {L : List V → Hp → Prop} {O : Option Int → Hp → Prop} {tr : TA}
theorem rd_nil (h : L [] H) : tNil σ H L := h
theorem rd_cons (h : te σ H fun x H1 => tr σ H1 fun xs H2 => L (x :: xs) H2) : tCons te tr σ H L := h
theorem rd_noPart (h : O none H) : tNoPart σ H O := h
theorem rd_part (h : te σ H (IntP O)) : tPart te σ H O := h
theorem rd_exi {i : Int} (h : O (some i) H) : IntP O (.int i) H := ⟨i, rfl, h⟩
-- targets
variable {vs : List V} {gs : TGs}
theorem rd_gsub {to ti : TE} {ts : TSet} (h : to σ H fun o H1 => ti σ H1 fun i H2 => ts o i v H2 fun H3 => q σ H3) : gSub to ti ts v σ H q := h
theorem rd_gnil (h : q σ H) : gNil [] σ H q := ⟨rfl, h⟩
theorem rd_gcons (h : g v σ H fun σ' H' => gs vs σ' H' q) : gCons g gs (v :: vs) σ H q := ⟨v, vs, rfl, h⟩
theorem rd_gtup {a : Addr} {n : Nat} (e : SqT K H a vs) (hl : vs.length = n) (h : gs vs σ H q) : gTup K n gs (.ref a) σ H q := ⟨a, vs, rfl, e, hl, h⟩
-- what is walked
variable {R : It → Hp → Prop}
theorem rd_iList (h : te σ H (ItLP K R)) : iList K te σ H R := h
theorem rd_iListV {a : Addr} {xs : List V} (e : SqL K H a xs) (h : R (Itl K a) H) : ItLP K R (.ref a) H := ⟨a, rfl, ⟨xs, e⟩, h⟩
theorem rd_iRng1 (h : tr σ H (It1P R)) : iRng1 tr σ H R := h
theorem rd_iRng1V {j : Int} (h0 : -4611686018427387904 ≤ j) (h1 : j < 4611686018427387904) (h : R (Itr 0 j.toNat) H) : It1P R [.int j] H := ⟨j, rfl, by omega, by omega, h⟩
-- loops
/-- for over a list that stays -/
theorem rd_forL {a : Addr} {tb : TS} (xs : List V) (Pv : Nat → St → Hp → Prop) (h0 : Pv 0 σ H) (hl : ∀ i σ H, i ≤ xs.length → Pv i σ H → SqL K H a xs)
    (hs : ∀ i x σ H, xs[i]? = some x → Pv i σ H → g x σ H fun σ2 H2 => tb ⟨Pv (i + 1), rt, nx, Pv (i + 1)⟩ σ2 H2) (hd : ∀ σ H, Pv xs.length σ H → nx σ H) : ForP (Itl K a) g tb ⟨nx, rt, bk, ct⟩ σ H :=
  for_list (D := ⟨nx, rt, bk, ct⟩) Pv h0 hl hs hd
/-- for over a list of ints that stays -/
theorem rd_forI {a : Addr} {tb : TS} (ns : List Int) (Pv : Nat → St → Hp → Prop) (h0 : Pv 0 σ H) (hl : ∀ i σ H, Pv i σ H → SqL K H a (ns.map V.int))
    (hs : ∀ i n σ H, ns[i]? = some n → Pv i σ H → g (.int n) σ H fun σ2 H2 => tb ⟨Pv (i + 1), rt, nx, Pv (i + 1)⟩ σ2 H2) (hd : ∀ σ H, Pv ns.length σ H → nx σ H) : ForP (Itl K a) g tb ⟨nx, rt, bk, ct⟩ σ H := by
  refine rd_forL (ns.map V.int) Pv h0 (fun i σ H _ p => hl i σ H p) (fun i x σ H hx p => ?_) (fun σ H p => hd σ H (by rw [List.length_map] at p; exact p))
  rw [List.getElem?_map] at hx
  cases e : ns[i]? with
  | none => rw [e] at hx; cases hx
  | some n =>
    rw [e] at hx
    cases hx
    exact hs i n σ H e p
theorem rd_forR {lo : Int} {n : Nat} {tb : TS} (Pv : Nat → St → Hp → Prop) (h0 : Pv 0 σ H)
    (hs : ∀ i σ H, i < n → Pv i σ H → g (.int (lo + i)) σ H fun σ2 H2 => tb ⟨Pv (i + 1), rt, nx, Pv (i + 1)⟩ σ2 H2) (hd : ∀ σ H, Pv n σ H → nx σ H) : ForP (Itr lo n) g tb ⟨nx, rt, bk, ct⟩ σ H :=
  for_range (D := ⟨nx, rt, bk, ct⟩) Pv h0 hs hd
end

/-! ## comprehensions [e for x in ..], one name, each item by what it makes of x, the heap may grow -/
section
variable {K : PySem.W.Frag} {te : TE} {σ : St} {ci : List Nat} {rest : St} {fin : List V → Hp → Prop} {H : Hp} {a : Addr}
theorem capSt1 (hr : ci.map (fun i => (σ[i]?).join) = rest) : capSt 1 ci σ = none :: rest := by
  unfold capSt
  rw [hr]; rfl
/-- over a range: the i-th item has P i -/
theorem comp_rangeP {lo : Int} {n : Nat} (P : Nat → V → Prop) (hn : n ≤ sizeLine) (hr : ci.map (fun i => (σ[i]?).join) = rest)
    (hs : ∀ i H1, i < n → Same H H1 → ∀ R : VK, (∀ y H2, P i y → Same H1 H2 → R y H2) → te (some (.int (lo + i)) :: rest) H1 R)
    (hf : ∀ ys H1, Same H H1 → ys.length = n → (∀ i y, ys[i]? = some y → P i y) → fin ys H1) : tCompW (Itr lo n) (gName 0) tAll te (capSt 1 ci σ) fin H := by
  rw [capSt1 hr]
  refine comp_range (fun i ys H1 => Same H H1 ∧ ys.length = i ∧ ∀ j y, ys[j]? = some y → P j y) hn rfl ⟨Same.refl _, rfl, fun j y h => by simp at h⟩ (fun i ys H1 ok => Nat.le_of_eq ok.2.1) (fun ys H1 ok => hf ys H1 ok.1 ok.2.1 ok.2.2) ?_
  intro i ys H1 hi ⟨s1, hl, hp⟩ R hR
  refine hs i H1 hi s1 R fun y H2 hy s2 => hR y H2 ⟨s1.trans s2, by simp [hl], fun j z hz => ?_⟩
  by_cases hj : j < ys.length
  · rw [List.getElem?_append_left hj] at hz
    exact hp j z hz
  · rw [List.getElem?_append_right (by omega)] at hz
    have hj0 : j - ys.length = 0 := by
      cases e : j - ys.length with
      | zero => rfl
      | succ k => rw [e] at hz; simp at hz
    rw [hj0] at hz
    have : z = y := by simpa using hz.symm
    subst this
    have : j = i := by omega
    subst this
    exact hy
/-- over a list -/
theorem comp_listP {xs : List V} (P : Nat → V → Prop) (hn : xs.length ≤ sizeLine) (hr : ci.map (fun i => (σ[i]?).join) = rest) (hl : ∀ H1, Same H H1 → SqL K H1 a xs)
    (hs : ∀ i x H1, xs[i]? = some x → Same H H1 → ∀ R : VK, (∀ y H2, P i y → Same H1 H2 → R y H2) → te (some x :: rest) H1 R)
    (hf : ∀ ys H1, Same H H1 → ys.length = xs.length → (∀ i y, ys[i]? = some y → P i y) → fin ys H1) : tCompW (Itl K a) (gName 0) tAll te (capSt 1 ci σ) fin H := by
  rw [capSt1 hr]
  refine comp_list (xs := xs) (fun i ys H1 => Same H H1 ∧ ys.length = i ∧ ∀ j y, ys[j]? = some y → P j y) hn rfl ⟨Same.refl _, rfl, fun j y h => by simp at h⟩ (fun i ys H1 ok => Nat.le_of_eq ok.2.1) (fun i ys H1 ok => hl H1 ok.1) (fun ys H1 ok => hf ys H1 ok.1 ok.2.1 ok.2.2) ?_
  intro i x ys H1 hi ⟨s1, hl', hp⟩ R hR
  refine hs i x H1 hi s1 R fun y H2 hy s2 => hR y H2 ⟨s1.trans s2, by simp [hl'], fun j z hz => ?_⟩
  by_cases hj : j < ys.length
  · rw [List.getElem?_append_left hj] at hz
    exact hp j z hz
  · rw [List.getElem?_append_right (by omega)] at hz
    have hj0 : j - ys.length = 0 := by
      cases e : j - ys.length with
      | zero => rfl
      | succ k => rw [e] at hz; simp at hz
    rw [hj0] at hz
    have : z = y := by simpa using hz.symm
    subst this
    have : j = i := by omega
    subst this
    exact hy
end

section
variable {K : PySem.W.Frag} {te : TE} {σ : St} {ci : List Nat} {rest : St} {fin : List V → Hp → Prop} {H : Hp} {a : Addr}
theorem map_of_get {α β : Type} {xs : List α} {ys : List β} {f : α → β} (hl : ys.length = xs.length) (h : ∀ (i : Nat) y, ys[i]? = some y → ∃ x, xs[i]? = some x ∧ y = f x) : ys = xs.map f := by
  apply List.ext_getElem?
  intro i
  rw [List.getElem?_map]
  cases e : ys[i]? with
  | none =>
    have : xs[i]? = none := by
      rw [List.getElem?_eq_none_iff] at e ⊢
      omega
    rw [this]; rfl
  | some y =>
    obtain ⟨x, hx, rfl⟩ := h i y e
    rw [hx]; rfl
/-- [e for n in ints] -/
theorem comp_ints {ns : List Int} (f : Int → V) (hn : ns.length ≤ sizeLine) (hr : ci.map (fun i => (σ[i]?).join) = rest) (hl : ∀ H1, Same H H1 → SqL K H1 a (ns.map V.int))
    (hs : ∀ n H1, n ∈ ns → Same H H1 → ∀ R : VK, (∀ H2, Same H1 H2 → R (f n) H2) → te (some (.int n) :: rest) H1 R)
    (hf : ∀ H1, Same H H1 → fin (ns.map f) H1) : tCompW (Itl K a) (gName 0) tAll te (capSt 1 ci σ) fin H := by
  refine comp_listP (xs := ns.map V.int) (fun i y => ∃ n, ns[i]? = some n ∧ y = f n) (by rw [List.length_map]; exact hn) hr hl ?_ ?_
  · intro i x H1 hx s1 R hR
    rw [List.getElem?_map] at hx
    cases e : ns[i]? with
    | none => rw [e] at hx; cases hx
    | some n =>
      rw [e] at hx
      cases hx
      exact hs n H1 (List.mem_of_getElem? e) s1 R fun H2 s2 => hR _ H2 ⟨n, e, rfl⟩ s2
  · intro ys H1 s1 hl' hp
    rw [map_of_get (f := f) (xs := ns) (by rw [hl', List.length_map]) hp]
    exact hf H1 s1
end

/-! ## heaps -/
theorem Same.at {H H' : Hp} {b : Addr} {o : HO} (s : Same H H') (h : H b = some o) : H' b = some o := s b o h
/-- all but what stands at p -/
def SameBut (p : Addr) (H H' : Hp) : Prop := ∀ b o, H b = some o → b ≠ p → H' b = some o
theorem SameBut.upd {p : Addr} {H : Hp} {o : HO} : SameBut p H (upd H p o) := fun b u e hb => by rw [upd_ne hb]; exact e
theorem SameBut.same {p : Addr} {H H0 H' : Hp} (n : H0 p = none) (s : Same H0 H) (b : SameBut p H H') : Same H0 H' := fun c o e => b c o (s c o e) (ne_of_none e n)

theorem rd_start {t : TS} {D : Ends} {N : List Str} {vs : List V} {σ : St} {H : Hp} (e : start N vs = σ) (h : t D σ H) : t D (start N vs) H := e ▸ h
theorem SameBut.refl {p : Addr} {H : Hp} : SameBut p H H := fun _ _ e _ => e
theorem SameBut.snoc {p : Addr} {H H1 H2 : Hp} (b : ∀ c o, H1 c = some o → c ≠ p → H2 c = some o) (a : SameBut p H H1) : SameBut p H H2 := fun c o h hc => b c o (a c o h hc) hc
theorem SameBut.snocS {p : Addr} {H H1 H2 : Hp} (b : Same H1 H2) (a : SameBut p H H1) : SameBut p H H2 := fun c o h hc => b c o (a c o h hc)
theorem Same.snoc {H H1 H2 : Hp} (b : Same H1 H2) (a : Same H H1) : Same H H2 := a.trans b
theorem lk_same {f : Str} {v : V} {fs : List (Str × V)} : (putF f v fs).lookup f = some v := by rw [lookup_putF, if_pos rfl]
theorem lk_ne {f g : Str} {v : V} {o : Option V} {fs : List (Str × V)} (h : decide (g = f) = false) (l : fs.lookup g = o) : (putF f v fs).lookup g = o := by rw [lookup_putF, if_neg (of_decide_eq_false h)]; exact l
theorem lk_nil {f : Str} : ([] : List (Str × V)).lookup f = none := rfl

/-! ## defs' arguments, classes -/
section
variable {K : PySem.W.Frag} {x qual : Str} {st : Stmt} {kV doc pm cdv ct : Value} {an : Option Addr} {ps : List Str}
theorem binds_n (h : ∀ us : List Value, us.length = ps.length → bindArgs (PySem.W.fnOf x qual (defArgs st) (defBody st) (defScope st) .none kV doc pm an cdv ct) ⟨us, []⟩ = pure (ps.zip us)) :
    Binds K (PySem.W.fnOf x qual (defArgs st) (defBody st) (defScope st) .none kV doc pm an cdv ct) ps [] := .all h
theorem binds_d (k : Nat) {T : Addr} {ds : List Value} {oc : Value} {od : Option Addr} {sl : Array (Option Value)} {items : Array Value} {n : Nat} (lt : K.lookup T = some ⟨oc, od, .seq items n, sl⟩)
    (h : ∀ us : List Value, us.length = k → ∃ k, bindArgs (PySem.W.fnOf x qual (defArgs st) (defBody st) (defScope st) (.ref T) kV doc pm an cdv ct) ⟨us, []⟩ = seqItems? (.ref T) >>= k ∧ k (some items) = pure (ps.zip (us ++ ds))) (hk : k + ds.length = ps.length := by rfl) :
    Binds K (PySem.W.fnOf x qual (defArgs st) (defBody st) (defScope st) (.ref T) kV doc pm an cdv ct) ps ds := fun s us hK hl => by
  obtain ⟨k, h1, h2⟩ := h us (by rw [List.length_append] at hl; omega)
  exact .of_defaults (T := T) (items := items) (n := n) rfl (hK T _ lt) rfl h1 h2
theorem kit_same {C : Addr} : PySem.W.kitOne K (.ref C) (.ref C) = some true := by
  unfold PySem.W.kitOne
  rw [if_pos (beq_self_eq_true _)]
theorem kit_ne {C D : Addr} {cd : ClassData} {b : Bool} (ne : (Value.ref C == Value.ref D) = false) (c : PySem.W.clsIn K D = some cd) (t : PySem.W.typeIn K (.ref D) = some (.type "type")) (s : PySem.W.subIn K (.ref C) (.ref D) = some b) :
    PySem.W.kitOne K (.ref C) (.ref D) = some b := by
  unfold PySem.W.kitOne
  rw [ne, if_neg Bool.false_ne_true]
  show (if ((PySem.W.clsIn K D).isSome && PySem.W.typeIn K (.ref D) == some (.type "type")) = true then PySem.W.subIn K (.ref C) (.ref D) else none) = _
  rw [c, t, if_pos (by rfl)]
  exact s
end

/-! ## numbers as texts -/
def numS (i : Int) : Str := (toString i : String)
theorem digits_len {m : Nat} (h : m < 10 ^ 31) : (Nat.toDigits 10 m).length ≤ 31 := by
  have := PySem.digitsCore_len_pow 10 (by decide) 31 (m + 1) m [] (by decide) h
  simpa [Nat.toDigits] using this
theorem lit_len (s : String) : (Str.ofString s).length = s.length := by
  rw [Str.ofString_eq_toList]
  show (s.toList.map Char.toNat).toArray.size = _
  rw [List.size_toArray, List.length_map, String.length_toList]
theorem numS_len {i : Int} (h0 : -1000000000000000000000000000000 < i) (h1 : i < 1000000000000000000000000000000) : (numS i).length ≤ 40 := by
  unfold numS
  rw [lit_len]
  cases i with
  | ofNat m =>
    show (Nat.repr m).length ≤ 40
    have := digits_len (m := m) (by have h1' : ((m : Nat) : Int) < 1000000000000000000000000000000 := h1; omega)
    have e : (Nat.repr m).length = (Nat.toDigits 10 m).length := by rw [← String.length_toList, Nat.toList_repr]
    omega
  | negSucc m =>
    show ("-" ++ Nat.repr (m + 1)).length ≤ 40
    have := digits_len (m := m + 1) (by have h0' : -1000000000000000000000000000000 < -(((m : Nat) : Int) + 1) := h0; omega)
    have e : (Nat.repr (m + 1)).length = (Nat.toDigits 10 (m + 1)).length := by rw [← String.length_toList, Nat.toList_repr]
    rw [String.length_append]
    have : "-".length = 1 := rfl
    omega
theorem log2_lt {n : Nat} (h : n < 2 ^ 100) : n.log2 < 1920 := by
  by_cases h0 : n = 0
  · subst h0; decide
  · exact Nat.lt_trans (Nat.log2_lt h0 |>.mpr h) (by decide)
theorem rd_str {i : Int} {H : Hp} {Q : VK} (h0 : -1000000000000000000000000000000 < i) (h1 : i < 1000000000000000000000000000000) (h : (numS i).length ≤ 40 → Q (.str (numS i)) H) : rStrI [.int i] H Q :=
  ⟨i, rfl, log2_lt (by omega), h (numS_len h0 h1)⟩

/-! ## texts -/
def sgB (c : Nat) : Bool := decide (97 ≤ c) && decide (c ≤ 122)
def lowB (z : Str) : Bool := z.cps.toList.all sgB
def nameB (z : Str) : Bool := decide (1 ≤ (z.length : Int)) && decide ((z.length : Int) ≤ 8) && lowB z
theorem nameB_len {z : Str} (h : nameB z = true) : z.length ≤ 8 := by
  unfold nameB at h
  simp only [Bool.and_eq_true, decide_eq_true_eq] at h
  omega
theorem nameB_of {z : Str} (h0 : 1 ≤ z.length) (h1 : z.length ≤ 8) (h2 : lowB z = true) : nameB z = true := by
  unfold nameB
  simp only [Bool.and_eq_true, decide_eq_true_eq]
  exact ⟨⟨by omega, by omega⟩, h2⟩
theorem lowB_one {c : Nat} {z : Str} (h : lowB z = true) (hc : c ∈ z.cps.toList) : lowB ⟨#[c]⟩ = true := by
  unfold lowB at h ⊢
  rw [List.all_eq_true] at h
  show [c].all sgB = true
  rw [List.all_cons, h c hc]; rfl
theorem sum_len_le (k : Nat) : ∀ (l : List Str), (∀ z ∈ l, z.length ≤ k) → (l.map (·.length)).sum ≤ l.length * k
  | [], _ => by simp
  | z :: l, h => by
    have h1 := h z List.mem_cons_self
    have h2 := sum_len_le k l fun y hy => h y (List.mem_cons_of_mem _ hy)
    rw [List.map_cons, List.sum_cons, List.length_cons, Nat.succ_mul]
    omega
theorem slice_mem {z : Str} {l u : Option Int} {c : Nat} (h : c ∈ (Txt.slice z l u).cps.toList) : c ∈ z.cps.toList := by
  unfold Txt.slice at h
  split at h
  · exact h
  · rw [List.toList_toArray] at h
    obtain ⟨i, _, hi⟩ := List.mem_filterMap.mp h
    rw [← Array.getElem?_toList] at hi
    exact List.mem_of_getElem? hi
theorem lowB_slice {z : Str} {l u : Option Int} (h : lowB z = true) : lowB (Txt.slice z l u) = true := by
  unfold lowB at h ⊢
  rw [List.all_eq_true] at h ⊢
  exact fun c hc => h c (slice_mem hc)
theorem str_app_cps (x y : Str) : (x ++ y).cps.toList = x.cps.toList ++ y.cps.toList := by
  show (x.cps ++ y.cps).toList = _
  simp
theorem str_app_len (x y : Str) : (x ++ y).length = x.length + y.length := by
  show (x.cps ++ y.cps).size = _
  rw [Array.size_append]; rfl
theorem one_len (c : Nat) : (⟨#[c]⟩ : Str).length = 1 := rfl
theorem lowB_app {x y : Str} (h : lowB x = true) (h' : lowB y = true) : lowB (x ++ y) = true := by
  unfold lowB at h h' ⊢
  rw [str_app_cps, List.all_append, h, h']; rfl
theorem str_ext {x y : Str} (h : x.cps.toList = y.cps.toList) : x = y := by
  cases x; cases y
  have : _ = _ := Array.ext' h
  cases this; rfl
theorem join_cons (sep x y : Str) (r : List Str) : Txt.join sep (x :: y :: r) = x ++ sep ++ Txt.join sep (y :: r) := by
  show Builtin.Str.glued sep (x :: y :: r) = x ++ sep ++ Builtin.Str.glued sep (y :: r)
  rw [StrLaws.glued_eq_join, StrLaws.glued_eq_join]
  rfl
theorem join_one (sep x : Str) : Txt.join sep [x] = x := by
  show Builtin.Str.glued sep [x] = x
  rw [StrLaws.glued_eq_join]
  rfl
theorem str_assoc (x y z : Str) : x ++ y ++ z = x ++ (y ++ z) := by
  apply str_ext
  simp only [str_app_cps, List.append_assoc]
end L2

set_option Elab.async false
set_option linter.all false
set_option maxRecDepth 100000
namespace L2
open PySem PySem.Spec PyProof.Rows

/-! ## a, b, .. = a list -/
section
variable {prog : Program} {w : World} {A : Around} {E : Value → Shared → Prop} {s : Shared}
end
section
variable {X : Cx} {pos : Pos}
end

/-! ## lists of ints from nought on -/
section
variable {nx bk ct : St → Hp → Prop} {rt : VK} {σ : St} {H : Hp} {g : TG} {K : PySem.W.Frag} {a : Addr} {tb : TS} {xs : List V}
end
theorem rd_modF {H : Hp} {Q : VK} {i j : Int} (h0 : 0 < j) (h : 0 ≤ i % j → i % j < j → Q (.int (i % j)) H) : rI (fun _ j => 0 < j) (fun i j => .int (i % j)) (.int i) (.int j) H Q := ⟨i, j, rfl, rfl, h0, h (Int.emod_nonneg _ (by omega)) (Int.emod_lt_of_pos _ h0)⟩
theorem mul_if {p : Prop} [Decidable p] (x : Int) : x * (if decide p = true then 1 else 0) = if p then x else 0 := by
  by_cases h : p
  · simp [h]
  · simp [h]
end L2

set_option Elab.async false
set_option linter.all false
set_option maxRecDepth 100000
namespace L2
open PySem PySem.Spec PyProof.Rows PySem.W

/-! ## isinstance of an exception of an own class -/
/-- what the written part says of an exception class -/
structure ExcK (K : Frag) (C : Addr) : Prop where
  ga : findIn K (.ref C) "__getattribute__" = some (some (.builtin "BaseException.__getattribute__"))
  gg : findIn K (.ref C) "__getattr__" = some none
  cl : findIn K (.ref C) "__class__" = some (some (.builtin "object.__class__"))
  so : subIn K (.ref C) (.type "object") = some true
  sb : subIn K (.ref C) (.type "BaseException") = some true
  cd : ∃ cd, clsIn K C = some cd
section
variable {prog : Program} {w : World} {A : Around} {E : Value → Shared → Prop} {h : Heap} {g : Array GenState} {d : Drawn} {t : Nat} {os : OsState} {a C : Addr} {o : Obj} {vs : Array Value} {K : Frag}
theorem exc_type {M : Model} (hx : h.get? a = some o) (hc : o.cls = .ref C) (hd : o.data = .fields vs) : Looks M h (typeOf (.ref a)) (.ref C) := by
  have L : Looks M h (typeOf (.ref a)) o.cls := by
    refine (Looks.ld hx).andThen ?_
    exact .now
  rw [hc] at L
  exact L
theorem class_get_exc {R : Result → Shared → Prop} (X : K.In h) (k : ExcK K C) (hx : h.get? a = some o) (hc : o.cls = .ref C) (hd : o.data = .fields vs) (hq : R (.ok (.ret (.ref C))) ⟨h, g, d, t, os⟩) :
    codeAny (model prog w) A (.call (.builtin "getset_descriptor.__get__") ⟨[.builtin "object.__class__", .ref a, .ref C], []⟩) R ⟨h, g, d, t, os⟩ := by
  have hT5 : (⟨h, g, d, t, os⟩ : Shared).TypeIs (.builtin "object.__class__") "getset_descriptor" := F.typeOf_object_class
  have L0 := exc_type (M := model prog w) hx hc hd
  have L1 : Looks (model prog w) h (isSubtype (.ref C) (.type (".".intercalate ("object.__class__".cutAt '.').dropLast))) true := by rw [F.owner_object_class]; exact looks_subIn X k.so
  refine codeAny_call_builtin F.slot_gs_get.plain F.entry_gs_get (F.slot_gs_get.check _ _ _ _ _ _ _ _ hT5 (F.args_gs_get _ _ _) ?_)
  repeat (any_goals (first | assumption | (with_reducible refine L0.at ?_) | (with_reducible refine L1.at ?_) | wp_step))
  refine ⟨Code.quiet_builtin _ (by decide +kernel), codeAny_builtin F.entry_object_class ?_⟩
  repeat (any_goals (first | assumption | (with_reducible refine L0.at ?_) | wp_step))
theorem class_entry_exc {tk : Tok} {Q : Fin → Shared → Prop} (X : K.In h) (k : ExcK K C) (hx : h.get? a = some o) (hc : o.cls = .ref C) (hd : o.data = .fields vs) (hq : Q (.done (.ret (.ref C))) ⟨h, g, d, t, os⟩) :
    wpAny (model prog w) A (Builtin.«object.__getattribute__» ⟨[.ref a, .str "__class__" tk], []⟩) Q E ⟨h, g, d, t, os⟩ := by
  have hT5 : (⟨h, g, d, t, os⟩ : Shared).TypeIs (.builtin "object.__class__") "getset_descriptor" := F.typeOf_object_class
  have L0 := exc_type (M := model prog w) hx hc hd
  have L1 := looks_findIn (M := model prog w) X k.cl
  have f5 := F.typeOf_object_class
  have f6 := F.slot_gs_get.lookup
  have f7 := F.slot_gs_set.lookup
  repeat (any_goals (first | assumption | (with_reducible refine L0.at ?_) | (with_reducible refine L1.at ?_) | wp_step))
  refine class_get_exc X k hx hc hd ?_
  repeat (any_goals (first | assumption | wp_step))
theorem check_ga_exc {M : Model} {nameV : Value} {Q : Unit → Shared → Prop} (X : K.In h) (k : ExcK K C) (hx : h.get? a = some o) (hc : o.cls = .ref C) (hd : o.data = .fields vs) (hq : Q () ⟨h, g, d, t, os⟩) :
    wpAny M A (checkBuiltinCall "BaseException.__getattribute__" ⟨[.ref a, nameV], []⟩) Q E ⟨h, g, d, t, os⟩ := by
  have hk : builtinKind "BaseException.__getattribute__" = some .slot := by decide +kernel
  have hsplit : splitId "BaseException.__getattribute__" = some ("BaseException", "__getattribute__") := by decide +kernel
  have ha := F.args_bexc_ga (.ref a) nameV
  have L0 := exc_type (M := M) hx hc hd
  have L1 := looks_subIn (M := M) X k.sb
  simp only [checkBuiltinCall, hk, hsplit]
  refine wpAny_bind ?_
  · unfold isInstance
    repeat (first | (with_reducible refine L0.at ?_) | (with_reducible refine L1.at ?_) | wp_step)
    exact hq
theorem class_call_exc {tk : Tok} {R : Result → Shared → Prop} (X : K.In h) (k : ExcK K C) (hx : h.get? a = some o) (hc : o.cls = .ref C) (hd : o.data = .fields vs) (hq : R (.ok (.ret (.ref C))) ⟨h, g, d, t, os⟩) :
    codeAny (model prog w) A (.call (.builtin "BaseException.__getattribute__") ⟨[.ref a, .str "__class__" tk], []⟩) R ⟨h, g, d, t, os⟩ :=
  codeAny_call_builtin F.excAttr_ValueError.ga.plain F.entry_bexc_ga (check_ga_exc X k hx hc hd (class_entry_exc X k hx hc hd hq))
theorem class_by_exc {tk : Tok} {fill expr : Bool} {Q : Value → Shared → Prop} (X : K.In h) (k : ExcK K C) (hx : h.get? a = some o) (hc : o.cls = .ref C) (hd : o.data = .fields vs) (hq : Q (.ref C) ⟨h, g, d, t, os⟩) :
    wpAny (model prog w) A (getAttrBy (.ref a) (.str "__class__" tk) fill expr) Q E ⟨h, g, d, t, os⟩ := by
  have L0 := exc_type (M := model prog w) hx hc hd
  have L1 := looks_findIn (M := model prog w) X k.ga
  have L2 := looks_findIn (M := model prog w) X k.gg
  have f3 := F.excAttr_ValueError.ga.bind (.ref a)
  have hx0 : (expr && onTheHeap (Value.builtin "BaseException.__getattribute__")) = false := by cases expr <;> rfl
  have hx2 : (Value.builtin "BaseException.__getattribute__" == Value.builtin "object.__getattribute__") = false := by decide +kernel
  have hx1 : (onTheHeap (Value.ref C) && Value.builtin "BaseException.__getattribute__" == Value.builtin "object.__getattribute__") = false := by rw [hx2]; rfl
  repeat (any_goals (first | assumption | (with_reducible refine L0.at ?_) | (with_reducible refine L1.at ?_) | (with_reducible refine L2.at ?_) | wp_step))
  refine class_call_exc X k hx hc hd ?_
  repeat (any_goals (first | assumption | wp_step))
theorem class_attr_exc {Q : Option Value → Shared → Prop} (X : K.In h) (k : ExcK K C) (hx : h.get? a = some o) (hc : o.cls = .ref C) (hd : o.data = .fields vs) (hq : Q (some (.ref C)) ⟨h, g, d, t + 1, os⟩) :
    wpAny (model prog w) A (getAttr? (.ref a) "__class__") Q E ⟨h, g, d, t, os⟩ := by
  unfold getAttr? getAttrBy?
  repeat (any_goals (first | assumption | with_reducible apply class_by_exc X k hx hc hd | wp_step))
end
/-- an exception of the class at C stands at a -/
def ExcAt (a C : Addr) (h : Heap) : Prop := ∃ o vs, h.get? a = some o ∧ o.cls = .ref C ∧ o.data = .fields vs
theorem kitx_exc {K : Frag} {a C : Addr} (k : ExcK K C) : KitX K (.ref a) (.ref C) (ExcAt a C) where
  ty := fun M h X ⟨o, vs, hx, hc, hd⟩ => exc_type hx hc hd
  it := fun _ _ X _ => by
    obtain ⟨cd, hcD⟩ := k.cd
    unfold clsIn at hcD
    split at hcD
    · rename_i c' d' cd' sl' ho
      intro A' Q' E' s' k q
      unfold isType loadHead
      exact wpAny_bind (wpAny_loadPart (k _ _ (X _ _ ho)) (wpAny_pure q))
    · cases hcD
  ne := fun h tp dd its n sl X htp => by
    obtain ⟨cd, hcD⟩ := k.cd
    refine Bool.eq_false_iff.mpr fun q => ?_
    have e : C = tp := Value.ref.inj (beq_iff_eq.mp q)
    subst e
    unfold clsIn at hcD
    split at hcD
    · rename_i c' d' cd' sl' ho
      have z := (X _ _ ho).symm.trans htp
      cases z
    · cases hcD
  ca := fun {_ _ _ _ _ s} X ⟨o, vs, hx, hc, hd⟩ q => by
    obtain ⟨h, g, d, t, os⟩ := s
    exact class_attr_exc X k hx hc hd q
end L2

set_option Elab.async false
set_option linter.all false
set_option maxRecDepth 100000
namespace L2
open PySem PySem.Spec PyProof.Rows PySem.W

/-! ## exceptions that leave a def -/
section
variable {P : Program} {w : World} {H H' : Hp} {h h' : Heap} {a : Addr} {o : HO}
theorem ObjOk.there (x : ObjOk P w H h a o) : ∃ ob, h.get? a = some ob := by
  cases o with
  | lst xs => obtain ⟨_, _, _, _, e⟩ := x; exact ⟨_, e⟩
  | tup xs => obtain ⟨_, _, _, ob, e, _⟩ := x; exact ⟨_, e⟩
  | dK kvs => obtain ⟨_, _, _, _, o, _, _, e, _⟩ := x; exact ⟨_, e⟩
  | dT kvs => obtain ⟨_, _, _, _, o, _, _, e, _⟩ := x; exact ⟨_, e⟩
  | set S n => obtain ⟨o, _, _, _, e, _⟩ := x; exact ⟨_, e⟩
  | ins C dx fs => obtain ⟨_, _, _, e, _⟩ := x; exact ⟨_, e⟩
  | own y => exact x
  | xd fs => obtain ⟨_, ⟨_, _, _, e, _⟩, _⟩ := x; exact ⟨_, e⟩
  | rng lo hi => obtain ⟨_, _, _, e⟩ := x; exact ⟨_, e⟩
  | frz ob u => obtain ⟨e, _⟩ := x; exact ⟨_, e⟩
  | tbl ps => exact ⟨_, (show h.get? a = some _ from x)⟩
  | met f y => exact ⟨_, (show h.get? a = some _ from x)⟩
  | ext φ => obtain ⟨_, e, _⟩ := x; exact e
end

/-- how an exception lies behind a call: B is what stays whatever frame it leaves next -/
def CXE (P : Program) (w : World) : CXT := fun outer H s E e s' =>
  ∃ ea cls a0 H' B, e = .ref ea ∧ s'.os = s.os ∧ AllBare s'.gens ∧ Un (frs outer) [] H H' s.heap s'.heap ∧ HOk P w H' s'.heap ∧ H' ea = none ∧ s.heap.get? ea = none ∧
    Heap.FlyingW B outer ea cls a0 s'.heap ∧ (∀ b, (H' b ≠ none ∨ ∃ o, s.heap.get? b = some o) → b ∉ frs outer → ∃ o, B.get? b = some o) ∧ E cls none H'

section
variable {X : Cx} {pins : List (Addr × Obj)} {σ : St} {H H1 : Hp} {s s1 : Shared} {h2 B : Heap}
/-- the heap turns to h2: B stays, the frames stay up to their slots; B covers what is tracked and what was there at the entry -/
theorem un_up (I : Inv X pins σ H s) (hex : X.ex = []) (st : B.StaysIn h2) (sb : B.StaysIn s.heap) (up : s.heap.UpToSlots h2) (cov : ∀ b, (H b ≠ none ∨ ∃ o, X.s₀.heap.get? b = some o) → b ∉ frs X.stack → ∃ o, B.get? b = some o) (hst : X.stack = X.env :: X.outer) (hf : X.env.frame = some X.env.locals) :
    Un X.fs [] X.H₀ H X.s₀.heap h2 ∧ HOk X.prog X.w H h2 := by
  have hfr : ∀ b, b ∈ frs X.stack → b = X.env.locals ∨ b ∈ X.fs := fun b hb => List.mem_cons.mp (I.stkSub b hb)
  have nloc : ∀ b o, X.s₀.heap.get? b = some o → b ≠ X.env.locals := fun b o q z => by
    have e1 := Nat.lt_of_lt_of_le (Heap.lt_size q) I.ok.above
    rw [z] at e1
    exact Nat.lt_irrefl _ e1
  have same : ∀ b o, (H b ≠ none ∨ ∃ o, X.s₀.heap.get? b = some o) → b ∉ frs X.stack → s.heap.get? b = some o → h2.get? b = some o := fun b o hc hb q => by
    obtain ⟨o', e⟩ := cov b hc hb
    have e1 := sb b o' e
    rw [q] at e1
    cases e1
    exact st b _ e
  have ub := I.base
  rw [hex] at ub
  refine ⟨⟨fun b o q n hb _ => ?_, fun b o q n hb _ => ?_, fun b o q n _ => ub.free b o q n (by simp), fun b o q _ => ?_, ub.tups, ub.frzs, ub.tbls⟩, fun b u e => ?_⟩
  · have q1 := ub.keep b o q n hb (by simp)
    exact same b o (.inr ⟨o, q⟩) (fun z => (hfr b z).elim (nloc b o q) hb) q1
  · obtain ⟨sl, q1⟩ := ub.slot b o q n hb (by simp)
    obtain ⟨_, o', ho', hd⟩ := I.funs.mem hb
    have hd1 : ∀ vs, ({ o with slots := sl } : Obj).data ≠ .fields vs := fun vs z => by
      rw [q1] at ho'
      cases ho'
      exact hd vs z
    obtain ⟨sl2, q2⟩ := up b _ q1 hd1
    exact ⟨sl2, q2⟩
  · obtain ⟨o1, q1⟩ := ub.there b o q (by simp)
    by_cases hb : b ∈ frs X.stack
    · obtain ⟨_, o', ho', hd⟩ := I.stack.mem hb
      rw [q1] at ho'
      cases ho'
      obtain ⟨sl2, q2⟩ := up b _ q1 hd
      exact ⟨_, q2⟩
    · exact ⟨o1, same b o1 (.inr ⟨o, q⟩) hb q1⟩
  · refine (I.hok b u e).stay (fun c v hc q => ?_) (fun _ q => q) fun _ _ q => q
    have hn : H c ≠ none := by
      rcases hc with z | z
      · rw [z, e]; simp
      · rw [z]; simp
    exact same c v (.inl hn) (fun z => hn (I.stkFree c z)) q
end

/-- an exception of a callee passes through a def -/
theorem passE {P : Program} {w : World} {K : PySem.W.Frag} {mg : Str → Option Value} {base : Heap} {N : List Str} {qual : Str} {scope : Scope} {f : Addr} {cd : Value} {A : Around} {outer : List Env} {s₀ : Shared} {H₀ : Hp} {E : XK} :
    Passes (CXE P w) (cxOf (CXE P w) P w K mg base N qual scope f cd A outer s₀ H₀ E) E := by
  intro pins σ H s e s' I h
  obtain ⟨ea, cls, a0, H', B, rfl, os, bare, un, hok, hn, new, fl, cov, q⟩ := h
  have I' := I.call' (ch := []) os un hok bare (fun b z => absurd z (by simp))
  have there : ∀ b o, s₀.heap.get? b = some o → ∃ o', s.heap.get? b = some o' := fun b o e => I.base.there b o e (fun z => absurd (show b ∈ ([] : List Addr) from z) (by simp))
  show wpAny _ _ (leaving _ _) _ _ s'
  refine wpAny_leaves_onW (I.ok.frames) rfl fl fun h2 fl2 up => ?_
  obtain ⟨un2, hok2⟩ := un_up (B := B) (h2 := h2) I' rfl fl2.1 fl.1 up (fun b hb hs => cov b (hb.imp id fun ⟨o, e⟩ => there b o e) hs) rfl rfl
  refine ⟨ea, cls, a0, H', B, rfl, I'.os, bare, un2, hok2, hn, ?_, fl2, fun b hb hs => cov b (hb.imp id fun ⟨o, e⟩ => there b o e) fun z => ?_, q⟩
  · cases e : s₀.heap.get? ea with
    | none => rfl
    | some o =>
      obtain ⟨o', e'⟩ := there ea o e
      rw [new] at e'
      cases e'
  · rcases List.mem_cons.mp (I.stkSub b z) with e | hb'
    · rcases hb with hb | ⟨o, e2⟩
      · exact hb (by rw [e]; exact I'.free)
      · have e1 := Nat.lt_of_lt_of_le (Heap.lt_size e2) I.ok.above
        rw [e] at e1
        exact Nat.lt_irrefl _ e1
    · exact hs hb'

/-- a def raises: what was made leaves its frame -/
theorem leave_made {P : Program} {w : World} {K : PySem.W.Frag} {mg : Str → Option Value} {base : Heap} {N : List Str} {qual : Str} {scope : Scope} {f : Addr} {cd : Value} {A : Around} {outer : List Env} {s₀ : Shared} {H₀ : Hp} {E : XK}
    {pins : List (Addr × Obj)} {σ : St} {H : Hp} {s1 : Shared} {h' : Heap} {ea : Addr} {cls : Value} {args : List Value} (I : Inv (cxOf (CXE P w) P w K mg base N qual scope f cd A outer s₀ H₀ E) pins σ H s1)
    (m : Heap.MadeExcOf s1.heap h' ea cls args) (q : E cls none H) : (cxOf (CXE P w) P w K mg base N qual scope f cd A outer s₀ H₀ E).xe (.ref ea) { s1 with heap := h' } := by
  have there : ∀ b o, s₀.heap.get? b = some o → ∃ o', s1.heap.get? b = some o' := fun b o e => I.base.there b o e (fun z => absurd (show b ∈ ([] : List Addr) from z) (by simp))
  have hin : ∀ env ∈ (cxOf (CXE P w) P w K mg base N qual scope f cd A outer s₀ H₀ E).stack, ∀ b, env.frame = some b → b ∈ frs (cxOf (CXE P w) P w K mg base N qual scope f cd A outer s₀ H₀ E).stack := fun env he b hb => List.mem_filterMap.mpr ⟨env, he, hb⟩
  have hk : (hideAll s1.heap (frs (cxOf (CXE P w) P w K mg base N qual scope f cd A outer s₀ H₀ E).stack)).StaysIn s1.heap := fun b o e => of_hideAll _ e
  have cov : ∀ b, (H b ≠ none ∨ ∃ o, s₀.heap.get? b = some o) → b ∉ frs (cxOf (CXE P w) P w K mg base N qual scope f cd A outer s₀ H₀ E).stack →
      ∃ o, (hideAll s1.heap (frs (cxOf (CXE P w) P w K mg base N qual scope f cd A outer s₀ H₀ E).stack)).get? b = some o := fun b hb hs => by
    have : ∃ o, s1.heap.get? b = some o := by
      rcases hb with hb | ⟨o, e⟩
      · cases e : H b with
        | none => exact absurd e hb
        | some u => exact (I.hok b u e).there
      · exact there b o e
    obtain ⟨o, e⟩ := this
    exact ⟨o, hideAll_get _ e hs⟩
  show wpAny _ _ (leaving _ _) _ _ _
  refine wpAny_leaves_madeW (s := { s1 with heap := h' }) (h := s1.heap) (base := hideAll s1.heap (frs (cxOf (CXE P w) P w K mg base N qual scope f cd A outer s₀ H₀ E).stack)) (I.ok.frames) rfl hk (funFrames_hide I.stack hin) m fun h2 t fl _ _ up => ?_
  have up2 : s1.heap.UpToSlots h2 := (Heap.UpToSlots.of_keeps m.keeps).trans up
  obtain ⟨un2, hok2⟩ := un_up (h2 := h2) I rfl fl.1 hk up2 cov rfl rfl
  have hn : H ea = none := by
    cases e : H ea with
    | none => rfl
    | some u =>
      obtain ⟨o, e2⟩ := (I.hok ea u e).there
      rw [m.new] at e2
      cases e2
  refine ⟨ea, cls, .ref t, H, _, rfl, I.os, I.bare, un2, hok2, hn, ?_, fl, fun b hb hs => cov b hb fun z => ?_, q⟩
  · cases e : s₀.heap.get? ea with
    | none => rfl
    | some o =>
      obtain ⟨o', e'⟩ := there ea o e
      rw [m.new] at e'
      cases e'
  · rcases List.mem_cons.mp (I.stkSub b z) with e | hb'
    · rcases hb with hb | ⟨o, e2⟩
      · exact hb (by rw [e]; exact I.free)
      · have e1 := Nat.lt_of_lt_of_le (Heap.lt_size e2) I.ok.above
        rw [e] at e1
        exact Nat.lt_irrefl _ e1
    · exact hs hb'
end L2

set_option Elab.async false
set_option linter.all false
set_option maxRecDepth 100000
namespace L2
open PySem PySem.Spec PyProof.Rows PySem.W

/-! ## raise C(..), C an exception class of the text -/
/-- what is made by a raise reaches what the body wants of exceptions -/
def Raises (X : Cx) (E : XK) : Prop := ∀ (pins : List (Addr × Obj)) (σ : St) (H : Hp) (s1 : Shared) (h' : Heap) (ea : Addr) (cls : Value) (args : List Value), Inv X pins σ H s1 → Heap.MadeExcOf s1.heap h' ea cls args → E cls none H → X.xe (.ref ea) { s1 with heap := h' }
theorem raiseE {P : Program} {w : World} {K : PySem.W.Frag} {mg : Str → Option Value} {base : Heap} {N : List Str} {qual : Str} {scope : Scope} {f : Addr} {cd : Value} {A : Around} {outer : List Env} {s₀ : Shared} {H₀ : Hp} {E : XK} :
    Raises (cxOf (CXE P w) P w K mg base N qual scope f cd A outer s₀ H₀ E) E := fun _ _ _ _ _ _ _ _ I m q => leave_made I m q
abbrev bmV : List Value := [.type "ValueError", .type "Exception", .type "BaseException", .type "object"]
/-- an exception class of the text under ValueError without an __init__ of its own -/
abbrev ExcI (K : PySem.W.Frag) (C : Addr) : Prop := excIn K C bmV "ValueError.__new__" = true
theorem exc_obj {K : Frag} {h₀ : Heap} {C : Addr} {bmB : List Value} {newId : String} (X : K.In h₀) (q : excIn K C bmB newId = true) :
    ∃ bm N nm q bs hdct sn sub ab col dd k0 k1 k2 k3 k5 mN, h₀.get? C = some (excClassObj nm q C N bs bm hdct sn sub ab col dd k0 k1 k2 k3 k5 newId) ∧ h₀.Ns N mN ∧ mN "__init__" = none ∧ OwnTail h₀ bmB bm := by
  unfold excIn at q
  split at q
  · rename_i dd cd sl ho
    split at q
    · rename_i C' bm k0 k1 k2 k3 n k5 hm hs
      simp only [Bool.and_eq_true, beq_iff_eq, Bool.not_eq_true'] at q
      obtain ⟨⟨⟨⟨⟨rfl, rfl⟩, hdel⟩, ht⟩, hok⟩, hni⟩ := q
      obtain ⟨nm, bs, mro, ns, qn, hd, sn, sub, ab, col, del⟩ := cd
      dsimp only at hm hdel hok hni
      subst hm hdel
      have hsl : sl = #[k0, k1, k2, k3, some (.builtin n), k5] := by
        obtain ⟨l⟩ := sl
        simp only at hs
        rw [hs]
      subst hsl
      exact ⟨bm, ns, nm, qn, bs, hd, sn, sub, ab, col, dd, k0, k1, k2, k3, k5, _, X _ _ ho, .of_isNs (isNs_of_in X hok), nsMap_none_of_in X hok hni, tail_of_in X ht⟩
    · cases q
  · cases q
section
variable {X : Cx} {E : XK} {x : Str} {C : Addr} {np cpos pos : Pos} {e : Expr} {es : List Expr} {t : TA}
def tRaise (C : Addr) (E : XK) (t : TA) : TS := fun D σ H => t σ H fun vs H1 => vs.length ≤ sizeLine ∧ E (.ref C) none H1
theorem ps_raise (hm : X.mg x = some (.ref C)) (hc : ExcI X.K C) (hx : Raises X E) (ha : PA X (e :: es) t) (cm : X.calm = true := by rfl) (hg : Gl X x := by rfl) (hdb : (x == ("__debug__" : Str)) = false := by decide)
    (he : starEach (e :: es) X.env = (false, eval e X.env) :: starEach es X.env := by rfl) (hpl : (backTo cpos (starEach es X.env)).any (·.1) = false := by rfl) :
    PS X (.Raise (some (.Call (.Name x np) (e :: es) [] cpos)) none pos) (tRaise C E t) := by
  intro pins s σ H D I h
  obtain ⟨tl, N, nm, q, bs, hdct, sn, sub, ab, col, dd, k0, k1, k2, k3, k5, mN, hC, hN, hni, T⟩ := exc_obj I.ok.mod.kin hc
  refine wpAny_Raise_call_subT (C := C) (nm := nm) (q := q) (N := N) (bs := bs) (bm := tl) (hdct := hdct) (sn := sn) (sub := sub) (ab := ab) (col := col) (dd := dd) (k0 := k0) (k1 := k1) (k2 := k2) (k3 := k3) (k5 := k5)
    PySem.F.excBase_ValueError (mN := mN) (T.hasType PySem.F.excBase_ValueError.hasBase) (I.ok.hd cm) (by rw [he]; show (false || (backTo cpos (starEach es X.env)).any (·.1)) = false; rw [hpl]; rfl) hni (ld_glob I hg hm ⟨rfl, ?_⟩ hdb)
  have hh := ha cpos pins s σ H _ I h
  rw [he] at hh ⊢
  refine Calls.evalArgs_plain (wpAny_mono hh (fun vs s₂ h₂ => ?_) fun _ _ y => y)
  obtain ⟨us, H2, I2, r, z, q2⟩ := h₂
  exact ⟨rfl, by rw [← r.length]; exact z, I2.bk _ _ hC, hN.keeps I2.bk, T.keeps I2.bk, fun h' ea m => hx pins σ H2 s₂ h' ea _ _ I2 m q2⟩
end

/-! ## defs that may raise, by their promises -/
structure McE (P : Program) (w : World) (K : PySem.W.Frag) (mg : Str → Option Value) (base : Heap) (C : Addr) (nm : Str) (k : Nat) (sp : Sp) : Prop where
  ex : ∃ f fd ps, Cls K C ∧ Meth K C nm f ∧ Binds K fd ps [] ∧ FnOk P w K mg base (CXE P w) k f fd ps sp
section
variable {X : Cx} {k k' : Nat} {sp : Sp} {x m : Str} {p pos apos : Pos} {e o : Expr} {es : List Expr} {ta : TE} {t : TA} {C : Addr} {dvs : List V} {E : XK} {ps : List Str}
def tMDE (M : Addr → Sp → Prop) (m : Str) (E : XK) (ta : TE) (t : TA) : TE := fun σ H Q => ta σ H fun x H1 => ∃ a C dx fs sp, x = .ref a ∧ H1 a = some (.ins C dx fs) ∧ fs.lookup m = none ∧ M C sp ∧ t σ H1 fun vs H2 => sp (x :: vs) H2 Q E
theorem pe_md0E (k : Nat) {pl : Sem Bool} (hr : Room k' X.A) (hx : Passes (CXE X.prog X.w) X E) (ho : PE X o ta) (hk : k ≤ k' := by decide)
    (ht : eval (.Call (.Attribute o m apos) [] [] pos) X.env = (do
      let ov ← eval o X.env
      standAt apos.atName
      let (f, first) ← holding [ov] (getMethod ov m pl)
      callWith pos f first (backTo pos (starEach [] X.env)) (backToKw pos (keywordEach [] X.env))) := by rfl) :
    PE X (.Call (.Attribute o m apos) [] [] pos) (tMDE (fun C sp => McE X.prog X.w X.K X.mg X.base C m k sp) m E ta tNil) := by
  intro pins s σ H Q I h
  refine PySem.W.methodCall_KW (pl := pl) (thn (ho pins s σ H _ I h) fun u s1 ⟨x, H1, I1, rx, a, C, dx, fs, sp, ex, ea, l, M, q⟩ => ?_) ht
  subst ex
  obtain rfl : u = Value.ref a := rx
  obtain ⟨f, fd, ps, c, hm, hb, F⟩ := M.ex
  refine getmeth_ok I1 ea c hm l ?_
  exact PySem.W.callWith_K0 (first := [.ref a]) I1.kIn hm.kp (run_fn (us := [.ref a]) (vs := [.ref a]) (dvs := []) F (hr.mono hk) hb .nil hx I1 (.cons rfl .nil) q)
end
section
variable {P : Program} {w : World} {K : PySem.W.Frag} {mg : Str → Option Value} {base : Heap}
theorem FunV.okE {x qual : Str} {st : Stmt} {f : Addr} {fd : FuncData} {N ps : List Str} {k : Nat} {sp : Sp} (F : FunV K x qual st f fd) (S : FnScope N ps (defScope st)) (len : ∀ vs H Q E, sp vs H Q E → vs.length = ps.length)
    (hbody : ∀ (cdv : Value) (A : Around) (outer : List Env) (s : Shared) (H : Hp) (vs : List V) (Q : VK) (E : XK), Room k (A.deeper (envOfC qual (defScope st) s.heap.objs.size f cdv)) → sp vs H Q E →
      ∃ t, PSs (cxOf (CXE P w) P w K mg base N qual (defScope st) f cdv A outer s H E) (defBody st) t ∧ t { nx := fun _ H' => Q .non H', rt := Q } (start N vs) H) : FnOk P w K mg base (CXE P w) (k + 1) f fd ps sp := by
  obtain ⟨oc, od, dV, kV, doc, pm, an, cdv, ct, osl, rfl, lk, hcd⟩ := F.ex
  exact fn_of lk hcd S len fun A outer s H vs Q E hr h => hbody cdv A outer s H vs Q E hr h
end
end L2

set_option Elab.async false
set_option linter.all false
set_option maxRecDepth 100000
namespace L2
open PySem PySem.Spec PyProof.Rows PySem.W

/-! ## try: .. except C as n: .. -/
/-- in a suite that handles the exception at ea: no def of the text is called there, and nothing leaves it -/
abbrev Cx.inx (X : Cx) (ea : Addr) : Cx := { X with A := X.A.mark (some (.ref ea)), calm := false, xe := fun _ _ => False }
section
variable {X : Cx} {pins : List (Addr × Obj)} {σ : St} {H : Hp} {s : Shared} {ea : Addr}
theorem Cx.Ok.inx (ok : X.Ok) (ea : Addr) : (X.inx ea).Ok :=
  ⟨ok.mod, ok.kind, ok.glob, ok.blt, ok.above, ok.inj, ok.has, ok.cab, (fun z => by cases z), ok.frames, ok.stk, ok.exf, ok.bs, ok.bsz, ok.noex, ok.exfs, ok.funs, ok.frf⟩
theorem Inv.inx (I : Inv X pins σ H s) (ea : Addr) : Inv (X.inx ea) pins σ H s := ⟨I.ok.inx ea, I.os, I.bare, I.base, I.loc, I.cell, I.free, I.freeC, I.pin, I.hok, I.len⟩
theorem Inv.outx (ok : X.Ok) (I : Inv (X.inx ea) pins σ H s) : Inv X pins σ H s := ⟨ok, I.os, I.bare, I.base, I.loc, I.cell, I.free, I.freeC, I.pin, I.hok, I.len⟩
end

/-- behind a passing exception, the heap turns to h6: B stays, the frames stay up to their slots -/
theorem un_lift {P : Program} {w : World} {fs : List Addr} {H1 H' : Hp} {h1 h' h6 B : Heap} (un : Un fs [] H1 H' h1 h') (hok : HOk P w H' h') (cov : ∀ b, (H' b ≠ none ∨ ∃ o, h1.get? b = some o) → b ∉ fs → ∃ o, B.get? b = some o)
    (sb : B.StaysIn h') (st : B.StaysIn h6) (up : h'.UpToSlots h6) (hf : ∀ b ∈ fs, H' b = none ∧ ∃ o, h'.get? b = some o ∧ ∀ vs, o.data ≠ .fields vs) : Un fs [] H1 H' h1 h6 ∧ HOk P w H' h6 := by
  have same : ∀ b o, (H' b ≠ none ∨ ∃ o, h1.get? b = some o) → b ∉ fs → h'.get? b = some o → h6.get? b = some o := fun b o hc hb q => by
    obtain ⟨o', e⟩ := cov b hc hb
    have e1 := sb b o' e
    rw [q] at e1
    cases e1
    exact st b _ e
  have atf : ∀ b o, b ∈ fs → h'.get? b = some o → ∃ sl, h6.get? b = some { o with slots := sl } := fun b o hb q => by
    obtain ⟨_, o', e, d⟩ := hf b hb
    rw [q] at e
    cases e
    exact up b _ q d
  refine ⟨⟨fun b o q n hb hx => same b o (.inr ⟨o, q⟩) hb (un.keep b o q n hb hx), fun b o q n hb hx => ?_, un.free, fun b o q hx => ?_, un.tups, un.frzs, un.tbls⟩, fun b u e => ?_⟩
  · obtain ⟨sl, q1⟩ := un.slot b o q n hb hx
    obtain ⟨sl2, q2⟩ := atf b _ hb q1
    exact ⟨sl2, q2⟩
  · obtain ⟨o1, q1⟩ := un.there b o q hx
    by_cases hb : b ∈ fs
    · obtain ⟨sl, q2⟩ := atf b o1 hb q1
      exact ⟨_, q2⟩
    · exact ⟨o1, same b o1 (.inr ⟨o, q⟩) hb q1⟩
  · refine (hok b u e).stay (fun c v hc q => ?_) (fun _ q => q) fun _ _ q => q
    have hn : H' c ≠ none := by
      rcases hc with z | z
      · rw [z, e]; simp
      · rw [z]; simp
    exact same c v (.inl hn) (fun z => hn (hf c z).1) q
/-- the exception itself is tracked -/
theorem un_exc {P : Program} {w : World} {fs : List Addr} {H1 H' : Hp} {h1 h6 : Heap} {ea C : Addr} (un : Un fs [] H1 H' h1 h6) (hok : HOk P w H' h6) (new : h1.get? ea = none) (hn : H' ea = none) (x : ExcAt ea C h6) :
    Un fs [] H1 (upd H' ea (.ext (ExcAt ea C))) h1 h6 ∧ HOk P w (upd H' ea (.ext (ExcAt ea C))) h6 := by
  have ne1 : ∀ b o, h1.get? b = some o → b ≠ ea := fun b o q z => by rw [z, new] at q; cases q
  refine ⟨⟨un.keep, un.slot, fun b o q n hx => by rw [upd_ne (ne1 b o q)]; exact un.free b o q n hx, un.there, fun b xs q => ?_, fun b o u q => ?_, fun b ps q => ?_⟩, fun b u e => ?_⟩
  · have z := un.tups b xs q
    rw [upd_ne (ne_of_none z hn)]; exact z
  · have z := un.frzs b o u q
    rw [upd_ne (ne_of_none z hn)]; exact z
  · obtain ⟨m, z⟩ := un.tbls b ps q
    exact ⟨m, by rw [upd_ne (ne_of_none z hn)]; exact z⟩
  · by_cases hb : b = ea
    · subst hb
      rw [upd_same] at e
      cases e
      obtain ⟨o, vs, h1, h2, h3⟩ := id x
      refine ⟨x, ⟨o, h1⟩, fun g1 g2 ⟨o', vs', q1, q2, q3⟩ k => ⟨o', vs', k _ q1, q2, q3⟩⟩
    · rw [upd_ne hb] at e
      exact (hok b u e).stay (fun _ _ _ q => q) (fun c q => by rw [upd_ne (ne_of_none q hn)]; exact q) fun c xs q => by rw [upd_ne (ne_of_none q hn)]; exact q

/-- an expression whose exceptions are told: they lie as a call's, from a state of this body -/
def XW (X : Cx) (pins : List (Addr × Obj)) (σ : St) (R : XK) (e : Value) (s' : Shared) : Prop := ∃ H1 s1, Inv X pins σ H1 s1 ∧ CXE X.prog X.w X.stack H1 s1 R e s'
def PEx (X : Cx) (e : Expr) (t : XK → TE) : Prop :=
  ∀ (R : XK) (pins : List (Addr × Obj)) (s : Shared) (σ : St) (H : Hp) (Q : VK), Inv X pins σ H s → t R σ H Q → wpAny (model X.prog X.w) X.A (eval e X.env) (EP X pins σ Q) (XW X pins σ R) s
theorem PE.noxx {X : Cx} {e : Expr} {t : TE} (h : PE X.nox e t) {E : Value → Shared → Prop} : ∀ (pins : List (Addr × Obj)) (s : Shared) (σ : St) (H : Hp) (Q : VK), Inv X pins σ H s → t σ H Q → wpAny (model X.prog X.w) X.A (eval e X.env) (EP X pins σ Q) E s :=
  fun pins s σ H Q I q => wpAny_mono (h pins s σ H Q (I.wish _) q) (fun _ _ ⟨vs, H', I', r, z⟩ => ⟨vs, H', I'.unwish, r, z⟩) fun _ _ z => False.elim z
section
variable {X : Cx} {k k' : Nat} {sp : Sp} {x m : Str} {p pos apos : Pos} {e o : Expr} {es : List Expr} {ta : TE} {t : TA} {C f : Addr} {dvs : List V} {ds : List Value} {R : XK} {ps : List Str} {fd : FuncData}
theorem run_fx {pins : List (Addr × Obj)} {σ : St} {H : Hp} {s : Shared} {Q : VK} {us : List Value} {vs : List V} (F : FnOk X.prog X.w X.K X.mg X.base (CXE X.prog X.w) k f fd ps sp) (hr : Room k X.A) (hb : Binds X.K fd ps ds) (hd : Vals dvs ds)
    (I : Inv X pins σ H s) (r : Vals vs us) (h : sp (vs ++ dvs) H Q R) : wpAny (model X.prog X.w) X.A (call (.ref f) us) (EP X pins σ Q) (XW X pins σ R) s := by
  have r2 : Vals (vs ++ dvs) (us ++ ds) := r.append hd
  have hl : (us ++ ds).length = ps.length := by rw [← r2.length]; exact F.len _ _ _ _ h
  refine wpAny_call (codeAny_mono (F.run X.A X.stack s H ⟨us, []⟩ (us ++ ds) (vs ++ dvs) Q R hr I.env0 (hb s us I.kIn hl) r2 h) fun r s' hq => ?_)
  cases r with
  | error e => exact ⟨H, s, I, hq⟩
  | ok fl =>
    cases fl with
    | ret u => exact I.after hq
    | next => exact False.elim hq
    | brk => exact False.elim hq
    | cont => exact False.elim hq
theorem pex_md0 (k : Nat) {pl : Sem Bool} (hr : Room k' X.A) (ho : PE X.nox o ta) (hk : k ≤ k' := by decide)
    (ht : eval (.Call (.Attribute o m apos) [] [] pos) X.env = (do
      let ov ← eval o X.env
      standAt apos.atName
      let (f, first) ← holding [ov] (getMethod ov m pl)
      callWith pos f first (backTo pos (starEach [] X.env)) (backToKw pos (keywordEach [] X.env))) := by rfl) :
    PEx X (.Call (.Attribute o m apos) [] [] pos) (fun R => tMDE (fun C sp => McE X.prog X.w X.K X.mg X.base C m k sp) m R ta tNil) := by
  intro R pins s σ H Q I h
  refine PySem.W.methodCall_KW (pl := pl) (thn (ho.noxx pins s σ H _ I h) fun u s1 ⟨x, H1, I1, rx, a, C, dx, fs, sp, ex, ea, l, M, q⟩ => ?_) ht
  subst ex
  obtain rfl : u = Value.ref a := rx
  obtain ⟨f, fd, ps, c, hm, hb, F⟩ := M.ex
  refine getmeth_ok I1 ea c hm l ?_
  exact PySem.W.callWith_K0 (first := [.ref a]) I1.kIn hm.kp (run_fx (us := [.ref a]) (vs := [.ref a]) (dvs := []) F (hr.mono hk) hb .nil I1 (.cons rfl .nil) q)
end

/-- behind the suite: the name is gone -/
theorem name_goes {X : Cx} {pins : List (Addr × Obj)} {σ : St} {H : Hp} {s : Shared} {M : Model} {A : Around} {E : Value → Shared → Prop} {i : Nat} {n : Str} {pos : Pos} {Q : Unit → Shared → Prop} (I : Inv X pins σ H s) (hN : X.N.Nodup) (hi : X.N[i]? = some n) (hk : X.env.scope.names.lookup n = some .local)
    (h : ∀ s', Inv X pins (σ.set i none) H s' → Q () s') : wpAny M A (do bindName X.env n .none; unbindBehindTheSuite X.env n pos) Q E s := by
  obtain ⟨m, hn, hl⟩ := id I.loc
  have hcls : (X.env.scope.kind == .class || (X.env.scope.kind == .module && X.env.locals != X.env.globals)) = false := by rw [I.ok.kind]; rfl
  have cne := I.cne
  have tracked : ∀ {a : Addr} {h' : Heap}, (∃ o, s.heap.get? a = some o ∧ H a = none) → Heap.SameBut a s.heap h' → HOk X.prog X.w H h' := fun {a h'} ha hs b ob e => by
    obtain ⟨_, _, hfree⟩ := ha
    refine (I.hok b ob e).stay (fun c w' hc q => (hs.2 c ?_).trans q) (fun _ q => q) fun _ _ q => q
    rintro rfl
    rcases hc with rfl | hc
    · rw [hfree] at e; cases e
    · rw [hfree] at hc; cases hc
  refine wpAny_nameGoes_keeps hk hn hcls fun h' v hn' hs => ?_
  obtain ⟨oL, _, _, hoL, _⟩ := id hn
  refine h _ ⟨I.ok, I.os, I.bare, ⟨fun b o e n hb hx => ?_, fun b o e n hb hx => ?_, I.base.free, fun b o e hx => ?_, I.base.tups, I.base.frzs, I.base.tbls⟩, ⟨_, hn', fun j y v' e1 e2 e3 => ?_⟩, fun y c e => ?_, I.free, I.freeC, fun p hp => ?_, tracked ⟨oL, hoL, I.free⟩ hs, by simpa using I.len⟩
  · exact (hs.2 b (Nat.ne_of_lt (Nat.lt_of_lt_of_le (Heap.lt_size e) I.ok.above))).trans (I.base.keep b o e n hb hx)
  · obtain ⟨sl, e1⟩ := I.base.slot b o e n hb hx
    exact ⟨sl, (hs.2 b (Nat.ne_of_lt (Nat.lt_of_lt_of_le (Heap.lt_size e) I.ok.above))).trans e1⟩
  · obtain ⟨o', e1⟩ := I.base.there b o e hx
    exact ⟨o', (hs.2 b (Nat.ne_of_lt (Nat.lt_of_lt_of_le (Heap.lt_size e) I.ok.above))).trans e1⟩
  · by_cases hj : j = i
    · subst hj
      rw [List.getElem?_set] at e2
      simp at e2
    · rw [List.getElem?_set_ne (Ne.symm hj)] at e2
      obtain ⟨u', r', q⟩ := hl j y v' e1 e2 e3
      refine ⟨u', r', ?_⟩
      rcases q with ⟨k, e⟩ | ⟨k, c, e, z⟩
      · refine .inl ⟨k, ?_⟩
        have : y ≠ n := fun e => hj (nodup_ix hN e1 (e ▸ hi))
        simp [this, e]
      · exact .inr ⟨k, c, e, z.sameBut hs (cne y c e)⟩
  · obtain ⟨w', z⟩ := I.cell y c e
    exact ⟨w', z.sameBut hs (cne y c e)⟩
  · obtain ⟨e, n, ne, nf, d⟩ := I.pin p hp
    exact ⟨(hs.2 p.1 ne).trans e, n, ne, nf, d⟩

section
variable {X : Cx} {i : Nat} {n x : Str} {T : Addr} {np hpos pos epos : Pos} {e : Expr} {tc : XK → TE} {b₀ : Stmt} {suite : List Stmt} {ts : TS}
/-- what is wanted of the exception: it is of the class at C, under the class at T, and the suite reads -/
def HandP (K : PySem.W.Frag) (T : Addr) (i : Nat) (ts : TS) (D : Ends) (σ : St) : XK := fun cls _ H1 => ∃ C, cls = .ref C ∧ PySem.W.exmOne K (.ref C) (.ref T) = some true ∧
  ∀ ea, H1 ea = none → ts { nx := fun σ' H' => D.nx (σ'.set i none) H', rt := D.rt, bk := fun σ' H' => D.bk (σ'.set i none) H', ct := fun σ' H' => D.ct (σ'.set i none) H' } (σ.set i (some (.ref ea))) (upd H1 ea (.ext (ExcAt ea C)))
end

/-! ## isinstance of a handled exception -/
def rIsx (K : PySem.W.Frag) : List V → Hp → VK → Prop := fun xs H Q => ∃ a C c u b, xs = [.ref a, c] ∧ H a = some (.ext (ExcAt a C)) ∧ ExcK K C ∧ (c = .ref u ∧ PySem.W.kitOne K (.ref C) (.ref u) = some b) ∧ Q (.bl b) H
theorem call_isx {X : Cx} : CallR X (.builtin "isinstance") (rIsx X.K) := by
  intro pins s σ H xs us Q I r h
  obtain ⟨a, C, c, u, b, rfl, hs, k, ⟨rfl, e⟩, q⟩ := h
  obtain ⟨v1, v2, rfl, r1, r2⟩ := vals2 r
  obtain rfl : v1 = .ref a := r1
  obtain rfl : v2 = .ref u := r2
  obtain ⟨z, _⟩ := I.hok a _ hs
  exact kia_one (kitx_exc k) I.kIn z e (fun z => by cases z) fun tk => ⟨.bl b, H, I.tok tk, rfl, q⟩
end L2

set_option Elab.async false
set_option linter.all false
set_option maxRecDepth 100000
namespace L2
open PySem PySem.Spec PyProof.Rows PySem.W
/-- nothing is wanted of exceptions: none comes -/
theorem passX0 {P : Program} {w : World} {X : Cx} : Passes (CXE P w) X E0 := fun _ _ _ _ _ _ _ h => by
  obtain ⟨_, _, _, _, _, _, _, _, _, _, _, _, _, _, q⟩ := h
  exact q.elim

/-! ## f-strings of texts and ints -/
section
variable {X : Cx} {x : Str} {j : Nat} {p pos : Pos} {e v1 v2 : Expr} {es : List Expr} {te : TE} {t : TJ}
end
/-! ### how they read -/
theorem rd_raise {C : Addr} {E : XK} {t : TA} {D : Ends} {σ : St} {H : Hp} (h : t σ H fun vs H1 => vs.length ≤ sizeLine ∧ E (.ref C) none H1) : tRaise C E t D σ H := h
end L2
namespace L2
open PySem PySem.W
section
variable {K : Frag} {C D : Addr} {cd : ClassData} {b : Bool}
theorem exm_mk (c : clsIn K D = some cd) (t : typeIn K (.ref D) = some (.type "type")) (sb : subIn K (.ref D) (.type "BaseException") = some true) (s : subIn K (.ref C) (.ref D) = some b) : exmOne K (.ref C) (.ref D) = some b := by
  unfold exmOne
  rw [if_pos (by rw [sb]; rfl)]
  show (if ((clsIn K D).isSome && typeIn K (.ref D) == some (.type "type")) = true then subIn K (.ref C) (.ref D) else none) = _
  rw [c, t, if_pos (by rfl)]
  exact s
end
variable {K : Frag} {H : Hp} {Q : VK}
theorem rd_isx {a C D : Addr} {b : Bool} (e : H a = some (.ext (ExcAt a C))) (k : ExcK K C) (i : kitOne K (.ref C) (.ref D) = some b) (h : Q (.bl b) H) : rIsx K [.ref a, .ref D] H Q := ⟨a, C, .ref D, D, b, rfl, e, k, ⟨rfl, i⟩, h⟩
end L2
namespace L2
open PySem PySem.W
theorem call_isxK {X : Cx} (K : Frag) (h : X.K = K) : CallR X (.builtin "isinstance") (rIsx K) := by
  subst h
  exact call_isx
end L2

set_option Elab.async false
set_option linter.all false
set_option maxRecDepth 100000
set_option maxHeartbeats 4000000
/-! Closures: a lambda that keeps one name of the def that makes it; handed on, called from elsewhere. -/
namespace L2
open PySem PySem.Spec PyProof.Rows

/-- an object that is known and that nobody changes -/
abbrev kn (o : Obj) : HO := .frz o (.ext fun _ => True)
theorem kn_ok {P : Program} {w : World} {H : Hp} {h : Heap} {a : Addr} {o : Obj} (e : h.get? a = some o) : ObjOk P w H h a (kn o) := ⟨e, trivial, ⟨o, e⟩, fun _ _ _ _ => trivial⟩
theorem kn_get {P : Program} {w : World} {H : Hp} {h : Heap} {a : Addr} {o : Obj} (x : HOk P w H h) (e : H a = some (kn o)) : h.get? a = some o := (x a _ e).1


section
variable {X : Cx} {pins : List (Addr × Obj)} {σ : St} {H : Hp} {s : Shared}

end

section
variable {X : Cx} {CX : CXT} {k k' : Nat} {sp : Sp} {E : XK} {x y : Str} {p pos : Pos} {e : Expr} {es : List Expr} {t : TA} {i : Nat} {c : Addr}
end

/-! ### the lambda's own frame -/
/-- the context of a lambda's body -/
def cxL (CX : CXT) (P : Program) (w : World) (K : PySem.W.Frag) (mg : Str → Option Value) (base : Heap) (N : List Str) (qual : Str) (scope : Scope) (f : Addr) (cd : Value) (cl : List (Str × Addr)) (A : Around) (outer : List Env) (s : Shared) (H : Hp) (E : XK) : Cx where
  prog := P
  w := w
  K := K
  mg := mg
  base := base
  A := A.deeper (PySem.W.envX qual scope s.heap.objs.size f cd cl)
  N := N
  s₀ := s
  H₀ := H
  env := PySem.W.envX qual scope s.heap.objs.size f cd cl
  outer := outer
  stack := PySem.W.envX qual scope s.heap.objs.size f cd cl :: outer
  ex := []
  calm := true
  fn := fun _ => false
  pn := []
  xe := fun e s' => wpAny (model P w) (A.deeper (PySem.W.envX qual scope s.heap.objs.size f cd cl)) (leaving (PySem.W.envX qual scope s.heap.objs.size f cd cl) e) (fun _ s'' => CX outer H s E e s'') (fun e' s'' => CX outer H s E e' s'') s'

/-- F is the lambda of this text, made with the cell c for the name y -/
def LamAt (H : Hp) (F : Addr) (fd : FuncData) (qual : Str) (args : Arguments) (body : Expr) (sc : Scope) (y : Str) (c : Addr) : Prop :=
  ∃ (c' : Addr) (pm ctv : Value) (oc : Obj) (fv : Array Value) (t : Tok), fd = PySem.W.kla_fn "<lambda>" qual args body sc [(y, c)] pm (.ref c') ctv ∧
    H F = some (kn (PySem.W.kla_obj "<lambda>" qual args body sc [(y, c)] pm c' ctv)) ∧ H c' = some (kn oc) ∧ oc.data = .fields fv ∧ fv[1]? = some (.str qual t)
theorem LamAt.same {H H' : Hp} {F : Addr} {fd : FuncData} {qual : Str} {args : Arguments} {body : Expr} {sc : Scope} {y : Str} {c : Addr} (x : LamAt H F fd qual args body sc y c) (s : Same H H') : LamAt H' F fd qual args body sc y c :=
  let ⟨c', pm, ctv, oc, fv, t, e1, e2, e3, r⟩ := x; ⟨c', pm, ctv, oc, fv, t, e1, s _ _ e2, s _ _ e3, r⟩

section
variable {P : Program} {w : World} {K : PySem.W.Frag} {mg : Str → Option Value} {base : Heap}
end

/-! ### a function in a name, called -/
section
variable {X : Cx} {k k' : Nat} {x : Str} {p pos : Pos} {e : Expr} {es : List Expr} {t : TA}
def tCallV (F : Addr → FuncData → List Str → Sp → Prop) (K : PySem.W.Frag) (i : Nat) (t : TA) : TE := fun σ H Q => ∃ f o fd, σ[i]? = some (some (.ref f)) ∧ H f = some (kn o) ∧ o.data = .func fd ∧
  t σ H fun vs H1 => ∃ ps sp, H1 f = some (kn o) ∧ Binds K fd ps [] ∧ F f fd ps sp ∧ sp vs H1 Q E0
theorem fnAt_of {h : Heap} {f : Addr} {o : Obj} {fd : FuncData} (e : h.get? f = some o) (d : o.data = .func fd) : PySem.W.FnAt f h := by
  obtain ⟨oc, od, dt, sl⟩ := o
  have d' : dt = .func fd := d
  subst d'
  exact ⟨oc, od, fd, sl, e⟩
theorem pe_callV (k : Nat) (i : Nat) (hr : Room k' X.A) (ha : PA X (e :: es) t) (hk : k ≤ k' := by decide) (hN : X.N[i]? = some x := by rfl) (hv : Vis X.env.scope x := by first | exact Or.inl rfl | exact Or.inr (Or.inl rfl) | exact Or.inr (Or.inr rfl))
    (hdb : (x == ("__debug__" : Str)) = false := by decide) (hcd : (x == ("__classdict__" : Str)) = false := by decide) (he : starEach (e :: es) X.env = (false, eval e X.env) :: starEach es X.env := by rfl) (hpl : (backTo pos (starEach es X.env)).any (·.1) = false := by rfl) :
    PE X (.Call (.Name x p) (e :: es) [] pos) (tCallV (fun f fd ps sp => FnOk X.prog X.w X.K X.mg X.base CX0 k f fd ps sp) X.K i t) := by
  intro pins s σ H Q I h
  obtain ⟨f, o, fd, hi, hf, hd, h⟩ := h
  refine wpAny_Call_Name_kw (thn (pe_var (i := i) hN hv hdb hcd pins s σ H (fun v' H' => v' = .ref f ∧ H' f = some (kn o) ∧ t σ H' fun vs H1 => ∃ ps sp, H1 f = some (kn o) ∧ Binds X.K fd ps [] ∧ FnOk X.prog X.w X.K X.mg X.base CX0 k f fd ps sp ∧ sp vs H1 Q E0) I ⟨_, hi, rfl, hf, h⟩) fun u s1 ⟨v1, H1, I1, rv, e1, hf1, q1⟩ => ?_)
  subst e1
  obtain rfl : u = Value.ref f := rv
  refine PySem.W.callWith_F (fnAt_of (kn_get I1.hok hf1) hd) (thn (ha pos pins s1 σ H1 _ I1 q1) fun us s2 ⟨vs, H2, I2, r, ps, sp, hf2, hb, F, q⟩ => ⟨fnAt_of (kn_get I2.hok hf2) hd, ?_⟩) he hpl
  have q' : sp (vs ++ []) H2 Q E0 := by rw [List.append_nil]; exact q
  exact run_fn (us := us) (vs := vs) F (hr.mono hk) hb .nil pass0 I2 r q'
end

/-! ### a lambda made -/
section
variable {X : Cx} {args : Arguments} {body : Expr} {lsc : Scope} {pos : Pos} {y : Str} {c cL PL : Addr}
def tLam (qual : Str) (args : Arguments) (body : Expr) (lsc : Scope) (y : Str) (c PL : Addr) : TE := fun _ H Q => H PL = some (.tbl #[]) ∧
  ∀ F fd H', H F = none → LamAt H' F fd qual args body lsc y c → (∀ b u, H b = some u → (∀ ps, u ≠ .tbl ps) → H' b = some u) → Q (.ref F) H'
theorem pe_lam (hcode : X.env.code = .ref cL) (C : PySem.W.CodeHd X.base cL PL) (B : X.base.BuiltinsAt X.mg PL) (hcl : closureFor lsc X.env = pure [(y, c)]) (hdef : defaultsOf args X.env = ([], []) := by rfl) :
    PE X (.Lambda args body lsc pos) (tLam (X.env.qual ++ "<lambda>") args body lsc y c PL) := by
  intro pins s σ H Q I h
  obtain ⟨hP, h⟩ := h
  refine PySem.W.kla_eval hdef ?_
  have gP : s.heap.get? PL = some (PySem.W.tabObj #[]) := I.hok PL _ hP
  have hg : s.heap.Ns mainGlobals X.mg := I.mod.glob.keeps I.bk
  have hgP : mainGlobals ≠ PL := fun q => by
    obtain ⟨o, es, ep, e, hd, _⟩ := hg
    rw [q, gP] at e; cases e; cases hd
  obtain ⟨bm, ob, b1, b2, b3, b4, b5, b6⟩ := B
  refine PySem.W.kla_makeFunction (mg := X.mg) (ps := #[]) hcl I.ok.glob hg hcode (C.keeps I.bk) gP trivial rfl hgP ⟨bm, ob, b1, b2, b3, b4, I.bk _ _ b5, b6⟩ fun c' ctv h' tk hx hge hlt hrec htb => ?_
  obtain ⟨c₂, oc, fv, t, e2, hoc, hd, hv⟩ := hrec
  cases e2
  generalize hps : (#[] ++ #[rawInt pos.line, rawInt pos.col, Value.ref c'] : Array Value) = ps' at htb
  generalize hoF : PySem.W.kla_obj "<lambda>" (X.env.qual ++ "<lambda>") args body lsc [(y, c)] ((X.mg "__name__").getD .none) c' ctv = oF
  have pu : ∀ b o, h'.get? b = some o → (h'.push oF).get? b = some o := fun b o e => Heap.get?_push_of_some _ e
  have gF : (h'.push oF).get? h'.objs.size = some oF := Heap.get?_push_size _ (by subst hoF; rfl)
  have nPc : PL ≠ c' := Nat.ne_of_lt (Nat.lt_of_lt_of_le (Heap.lt_size gP) hge)
  have ncF : c' ≠ h'.objs.size := Nat.ne_of_lt hlt
  have nPF : PL ≠ h'.objs.size := Nat.ne_of_lt (Heap.lt_size htb)
  have ltc : ∀ b u, H b = some u → b ≠ c' := fun b u e => Nat.ne_of_lt (Nat.lt_of_lt_of_le (I.hok.lt e) hge)
  have ltF : ∀ b u, H b = some u → b ≠ h'.objs.size := fun b u e => Nat.ne_of_lt (Nat.lt_trans (Nat.lt_of_lt_of_le (I.hok.lt e) hge) hlt)
  have at0 : ∀ b, b ≠ PL → b ≠ c' → b ≠ h'.objs.size → upd (upd (upd H PL (.tbl ps')) c' (kn oc)) h'.objs.size (kn oF) b = H b := fun b n1 n2 n3 => by rw [upd_ne n3, upd_ne n2, upd_ne n1]
  have atP : upd (upd (upd H PL (.tbl ps')) c' (kn oc)) h'.objs.size (kn oF) PL = some (.tbl ps') := by rw [upd_ne nPF, upd_ne nPc, upd_same]
  have atc : upd (upd (upd H PL (.tbl ps')) c' (kn oc)) h'.objs.size (kn oF) c' = some (kn oc) := by rw [upd_ne ncF, upd_same]
  have atF : upd (upd (upd H PL (.tbl ps')) c' (kn oc)) h'.objs.size (kn oF) h'.objs.size = some (kn oF) := upd_same
  generalize upd (upd (upd H PL (.tbl ps')) c' (kn oc)) h'.objs.size (kn oF) = H3 at at0 atP atc atF
  have keepH : ∀ b u, H b = some u → (∀ ps, u ≠ .tbl ps) → H3 b = some u := fun b u e nt => by
    rw [at0 b (fun z => by rw [z, hP] at e; cases e; exact nt _ rfl) (ltc b u e) (ltF b u e)]; exact e
  have sz : ∀ b o, s.heap.get? b = some o → b ≠ c' ∧ b ≠ h'.objs.size := fun b o e =>
    ⟨Nat.ne_of_lt (Nat.lt_of_lt_of_le (Heap.lt_size e) hge), Nat.ne_of_lt (Nat.lt_trans (Nat.lt_of_lt_of_le (Heap.lt_size e) hge) hlt)⟩
  have nP : ∀ b, H b = none → b ≠ PL := fun b n z => by rw [z, hP] at n; cases n
  have I' : Inv X pins σ H3 { s with heap := h'.push oF, toks := tk } := by
    refine I.un ⟨fun b o e n _ _ => pu b o (hx b o (nP b n) e), fun b o e n _ _ => ⟨o.slots, pu b o (hx b o (nP b n) e)⟩, fun b o e n _ => ?_, fun b o e _ => ?_, fun b xs e => keepH b _ e (fun ps z => by cases z), fun b o u e => keepH b _ e (fun ps z => by cases z), fun b ps e => ?_⟩ fun b o e => ?_
    · rw [at0 b (nP b n) (sz b o e).1 (sz b o e).2]; exact n
    · by_cases hb : b = PL
      · subst hb; exact ⟨_, pu _ _ htb⟩
      · exact ⟨o, pu b o (hx b o hb e)⟩
    · by_cases hb : b = PL
      · subst hb
        rw [hP] at e
        cases e
        exact ⟨ps', by rw [atP, Array.empty_append]⟩
      · refine ⟨#[], ?_⟩
        rw [at0 b hb (ltc b _ e) (ltF b _ e), e, Array.append_empty]
    · by_cases hF : b = h'.objs.size
      · subst hF
        rw [atF] at e; cases e
        exact kn_ok gF
      by_cases hc' : b = c'
      · subst hc'
        rw [atc] at e; cases e
        exact kn_ok (pu _ _ hoc)
      by_cases hb : b = PL
      · subst hb
        rw [atP] at e; cases e
        exact pu _ _ htb
      rw [at0 b hb hc' hF] at e
      refine (I.hok b o e).stay (fun d u hd' q => pu d u (hx d u ?_ q)) (fun d q => keepH d _ q fun ps z => by cases z) fun d xs q => keepH d _ q fun ps z => by cases z
      rcases hd' with z | z
      · rw [z]; exact hb
      · intro z2; rw [z2, hP] at z; cases z
  refine ⟨.ref h'.objs.size, H3, I', rfl, h _ _ H3 ?_ ⟨c', _, ctv, oc, fv, t, rfl, by rw [hoF]; exact atF, atc, hd, hv⟩ keepH⟩
  exact I.hok.fresh (Nat.le_trans hge (Nat.le_of_lt hlt))
end
end L2

set_option Elab.async false
set_option linter.all false
set_option maxRecDepth 100000
set_option maxHeartbeats 4000000
/-! Closures: the head of a law whose def makes a lambda (the table of its code object is tracked); numbers by bits. -/
namespace L2
open PySem PySem.Spec PyProof.Rows

section
variable {P : Program} {w : World} {K : PySem.W.Frag} {mg : Str → Option Value} {base : Heap}
end

theorem law_callT {P : Program} {w : World} {K : PySem.W.Frag} {mg mb : Str → Option Value} {CX : CXT} {k : Nat} {fa a cL PL : Addr} {fd : FuncData} {x : Str} {sp : Sp} {s₁ : Shared} {vs : List Value} {ns : List Int}
    (KX : K.In s₁.heap) (hns : s₁.heap.Ns mainGlobals mg) (hb : s₁.heap.Ns builtinsNs mb) (hbb : ∀ x : Str, x ≠ "__name__" → mb x = bootBuiltins x) (hlim : s₁.heap.NoLimit) (hg : s₁.gens = #[])
    (C : PySem.W.CodeHd s₁.heap cL PL) (hP : s₁.heap.get? PL = some (PySem.W.tabObj #[])) (hKP : K.lookup PL = none)
    (hbm : ∃ bm ob, mg "__builtins__" = some (.ref bm) ∧ bm ≠ builtinsNs ∧ s₁.heap.get? bm = some ob ∧ ob.cls = .type "module" ∧ ob.dict = some builtinsNs ∧ ob.data = .plain)
    (ha : s₁.heap.get? a = some { cls := .type "list", data := .seq vs.toArray }) (hi : IntsAre vs ns) (hl : ns.length ≤ sizeLine) (hr : Room k callerA)
    (F : ∀ base : Heap, PySem.W.CodeHd base cL PL → base.BuiltinsAt mg PL → FnOk P w K mg base CX k fa fd [x] sp) (hbind : ∀ (s : Shared) (u : Value), BindsTo s fd ⟨[u], []⟩ [(x, u)])
    (hsp : ∀ H : Hp, SqL K H a (ns.map V.int) → H PL = some (.tbl #[]) → sp [.ref a] H (fun v _ => v = .bl true) fun _ _ _ => False)
    (hCX : ∀ H e s', CX [] H s₁ (fun _ _ _ => False) e s' → False) :
    codeAny (model P w) callerA (.call (.ref fa) ⟨[.ref a], []⟩) (fun r s' => r = .ok (.ret (.bool true)) ∧ OldK s₁.heap s'.heap ∧ s'.os = s₁.os ∧ AllBare s'.gens) s₁ := by
  have rv := vals_ints hi
  have lenV := hi.length
  have naP : a ≠ PL := fun z => by rw [z, hP] at ha; cases ha
  have core : ∀ H : Hp, H PL = some (.tbl #[]) → SqL K H a (ns.map V.int) → HOk P w H s₁.heap → (∀ b, H b ≠ none → b = a ∨ b = PL) → (H a ≠ none → K.lookup a = none) → (∀ u, H a = some u → ∃ o xs, u = .frz o (.lst xs)) →
      codeAny (model P w) callerA (.call (.ref fa) ⟨[.ref a], []⟩) (fun r s' => r = .ok (.ret (.bool true)) ∧ OldK s₁.heap s'.heap ∧ s'.os = s₁.os ∧ AllBare s'.gens) s₁ := by
    intro H hHP hS hok hA hK hfz
    have base_of : ∀ {b : Addr} {o : Obj}, s₁.heap.get? b = some o → H b = none → (hidT s₁.heap H).get? b = some o := fun e n => hidT_get e n
    have noT : ∀ {b : Addr} {o : Obj}, s₁.heap.get? b = some o → o.cls ≠ .none → o.cls ≠ .type "list" → H b = none := fun {b o} e n1 n2 => by
      cases q : H b with
      | none => rfl
      | some u =>
        rcases hA b (by rw [q]; simp) with z | z
        · rw [z, ha] at e; cases e; exact absurd rfl n2
        · rw [z, hP] at e; cases e; exact absurd rfl n1
    have noA : ∀ {b : Addr} {o : Obj} {es : Array DictEntry} {ep : Nat}, s₁.heap.get? b = some o → o.data = .dict es ep → H b = none := fun {b o es ep} e d => by
      cases q : H b with
      | none => rfl
      | some u =>
        rcases hA b (by rw [q]; simp) with z | z
        · rw [z, ha] at e; cases e
          have d' : Data.seq vs.toArray _ = Data.dict es ep := d
          cases d'
        · rw [z, hP] at e; cases e
          have d' : Data.fields #[] = Data.dict es ep := d
          cases d'
    have nsK : ∀ {b : Addr} {m : Str → Option Value}, s₁.heap.Ns b m → (hidT s₁.heap H).Ns b m := fun {b m} ⟨o, es, ep, e, d, r⟩ => ⟨o, es, ep, base_of e (noA e d), d, r⟩
    have hKb : K.In (hidT s₁.heap H) := fun b o e => base_of (KX b o e) (by
      cases q : H b with
      | none => rfl
      | some u =>
        rcases hA b (by rw [q]; simp) with z | z
        · subst z
          rw [hK (by rw [q]; simp)] at e; cases e
        · rw [z, hKP] at e; cases e)
    have hM : Mod K mg (hidT s₁.heap H) := ⟨hKb, nsK hns, ⟨mb, nsK hb, hbb⟩, let ⟨mc, h1, h2⟩ := hlim; ⟨mc, nsK h1, h2⟩⟩
    have e0 : Env0 P w K mg (hidT s₁.heap H) callerA [] s₁ H := ⟨rfl, hM, fun b o e => of_hidT e, Nat.le_of_eq (hidT_size _ _), trivial, fun b hb => absurd (show b ∈ ([] : List Addr) from hb) (by simp), hok, .of_eq hg⟩
    have hC : PySem.W.CodeHd (hidT s₁.heap H) cL PL := by
      obtain ⟨o, fv, file, tf, flags, tg, inF, text, tt, e1, e2, r⟩ := C
      exact ⟨o, fv, file, tf, flags, tg, inF, text, tt, base_of e1 (noT e1 (by rw [e2]; intro z; cases z) (by rw [e2]; decide)), e2, r⟩
    have hB : (hidT s₁.heap H).BuiltinsAt mg PL := by
      obtain ⟨bm, ob, b1, b2, b3, b4, b5, b6⟩ := hbm
      refine ⟨bm, ob, b1, b2, fun z => ?_, fun z => ?_, base_of b3 (noT b3 (by rw [b4]; intro z; cases z) (by rw [b4]; decide)), b4, b5, b6⟩
      · obtain ⟨o, es, ep, e, hd, _⟩ := hns
        rw [z, e] at b3; cases b3; rw [hd] at b6; cases b6
      · rw [z, hP] at b3; cases b3; cases b4
    refine codeAny_mono ((F _ hC hB).run callerA [] s₁ H ⟨[.ref a], []⟩ [.ref a] [.ref a] _ _ hr e0 (hbind s₁ (.ref a)) (.cons rfl .nil) (hsp H hS hHP)) fun r s' h => ?_
    cases r with
    | error e => exact (hCX H e s' h).elim
    | ok fl =>
      cases fl with
      | next => exact False.elim h
      | brk => exact False.elim h
      | cont => exact False.elim h
      | ret u =>
        obtain ⟨v, H', os, bare, un, hok', r', q⟩ := h
        have q' : v = .bl true := q
        subst q'
        obtain rfl : u = Value.bool true := r'
        have kept : ∀ b o, b ≠ PL → s₁.heap.get? b = some o → s'.heap.get? b = some o := fun b o nb e => by
          cases q : H b with
          | none => exact un.keep b o e q (by intro z; exact absurd (show b ∈ ([] : List Addr) from z) (by simp)) (by simp)
          | some u =>
            rcases hA b (by rw [q]; simp) with z | z
            · subst z
              obtain ⟨ob, xs, rfl⟩ := hfz u q
              have z2 := un.frzs b ob _ q
              obtain ⟨e1, _⟩ := hok b _ q
              obtain ⟨e2, _⟩ := hok' b _ z2
              rw [e] at e1; cases e1
              exact e2
            · exact absurd z nb
        obtain ⟨more, hm⟩ := un.tbls PL #[] hHP
        have gP' : s'.heap.get? PL = some (PySem.W.tabObj (#[] ++ more)) := hok' PL _ hm
        refine ⟨rfl, ⟨fun b o e => ?_, fun b o e => ?_⟩, os, bare⟩
        · by_cases hb : b = PL
          · subst hb
            rw [hP] at e; cases e
            exact .inr (.inl ⟨(C.tab hP).isCodeTable, rfl, #[], more, rfl, gP'⟩)
          · exact .inl (kept b o hb e)
        · by_cases hb : b = PL
          · subst hb; exact ⟨_, gP'⟩
          · exact ⟨o, kept b o hb e⟩
  cases hk : K.lookup a with
  | some o =>
    have e := KX a o hk
    rw [ha] at e
    cases e
    refine core (fun b => if b = PL then some (.tbl #[]) else none) (if_pos rfl) (.inr ⟨_, vs.toArray, _, hk, rfl, rfl, rfl, by rw [List.size_toArray, lenV]; exact hl, by simpa using rv⟩) (fun b u z => ?_) (fun b z => ?_) (fun z => absurd (if_neg naP) z) (fun u z => ?_)
    · by_cases hb : b = PL
      · have z' := (if_pos hb).symm.trans z
        cases z'
        subst hb
        exact hP
      · have z' := (if_neg hb).symm.trans z
        cases z'
    · by_cases hb : b = PL
      · exact .inr hb
      · exact absurd (if_neg hb) z
    · have z' := (if_neg naP).symm.trans z
      cases z'
  | none =>
    have eP : (if PL = a then some (HO.frz { cls := .type "list", data := .seq vs.toArray } (.lst (ns.map V.int))) else if PL = PL then some (.tbl #[]) else none) = some (.tbl #[]) := by rw [if_neg (Ne.symm naP), if_pos rfl]
    refine core (fun b => if b = a then some (.frz { cls := .type "list", data := .seq vs.toArray } (.lst (ns.map V.int))) else if b = PL then some (.tbl #[]) else none) eP (.inl (.inr ⟨{ cls := .type "list", data := .seq vs.toArray }, if_pos rfl⟩)) (fun b u z => ?_) (fun b z => ?_) (fun _ => hk) (fun u z => ?_)
    · by_cases hb : b = a
      · have z' := (if_pos hb).symm.trans z
        cases z'
        subst hb
        exact ⟨ha, by rw [List.length_map]; exact hl, vs, _, rv, ha⟩
      · have z1 := (if_neg hb).symm.trans z
        by_cases hb2 : b = PL
        · have z' := (if_pos hb2).symm.trans z1
          cases z'
          subst hb2
          exact hP
        · have z' := (if_neg hb2).symm.trans z1
          cases z'
    · by_cases hb : b = a
      · exact .inl hb
      · by_cases hb2 : b = PL
        · exact .inr hb2
        · exact absurd ((if_neg hb).trans (if_neg hb2)) z
    · have z' := (if_pos rfl).symm.trans z
      cases z'
      exact ⟨_, _, rfl⟩


/-! ### numbers by bits -/
section
variable {X : Cx} {o : Expr} {to : TE} {ap pos : Pos}
def CDivB (i j : Int) : Prop := 0 < j ∧ j < 2 ^ 100
theorem op_fdivB : OpR X (binaryOp .FloorDiv) (rI CDivB fun i j => .int (i / j)) := opI fun i j _ _ _ _ _ hc q => by
  have h1 : (0 : Int) < j := hc.1
  have h2 : j < 2 ^ 100 := hc.2
  refine floordiv_int (by omega) (by rw [Int.fdiv_eq_ediv_of_nonneg i (by omega)]; exact q) (.inl (PyProof.noPylong_of_log2 ?_))
  have h3 : j.natAbs < 2 ^ 100 := by omega
  have h4 := Nat.log2_lt (n := j.natAbs) (k := 100) (by omega)
  omega
/-- n.bit_length() -/
def rBL : V → List V → Hp → VK → Prop := fun x xs H Q => ∃ i, x = .int i ∧ xs = [] ∧ Q (.int (Builtin.Int.intBits i)) H
theorem mt_bitlen : MtR X "int.bit_length" rBL := by
  intro pins s σ H x xs v us Q I rx rs h
  obtain ⟨i, rfl, rfl, q⟩ := h
  obtain ⟨t, rfl⟩ := rx
  cases rs
  exact call_int_bit_length ⟨.int (Builtin.Int.intBits i), H, I.tok _, ⟨_, rfl⟩, q⟩
/-- above its bits a number has none set -/
theorem bits_none {b t : Int} (hb : 0 ≤ b) (h : (Builtin.Int.intBits b : Int) ≤ t) : b / 2 ^ t.toNat % 2 = 0 := by
  have ht : Builtin.Int.intBits b ≤ t.toNat := by omega
  have hlt : b < 2 ^ t.toNat := by
    unfold Builtin.Int.intBits at ht
    by_cases h0 : b = 0
    · subst h0; exact Int.pow_pos (by decide)
    · rw [if_neg (by simpa using h0)] at ht
      have h1 : b.natAbs < 2 ^ (b.natAbs.log2 + 1) := Nat.lt_log2_self
      have h2 : 2 ^ (b.natAbs.log2 + 1) ≤ 2 ^ t.toNat := Nat.pow_le_pow_right (by decide) ht
      have h3 : ((2 ^ t.toNat : Nat) : Int) = (2 : Int) ^ t.toNat := by simp
      omega
  rw [Int.ediv_eq_zero_of_lt hb hlt]; rfl
theorem rd_bitlen {H : Hp} {Q : VK} {i : Int} (h : Q (.int (Builtin.Int.intBits i)) H) : rBL (.int i) [] H Q := ⟨i, rfl, rfl, h⟩
theorem rd_divB {H : Hp} {Q : VK} {f : Int → Int → V} {i j : Int} (h0 : 0 < j) (h1 : j < 2 ^ 100) (h : Q (f i j) H) : rI CDivB f (.int i) (.int j) H Q := ⟨i, j, rfl, rfl, ⟨h0, h1⟩, h⟩

/-! ### list(range(n)) -/
theorem vals_get : ∀ {xs : List V} {us : List Value}, xs.length = us.length → (∀ (i : Nat) x u, xs[i]? = some x → us[i]? = some u → RelV x u) → Vals xs us
  | [], [], _, _ => .nil
  | [], _ :: _, h, _ => by simp at h
  | _ :: _, [], h, _ => by simp at h
  | x :: xs, u :: us, h, k => .cons (k 0 x u rfl rfl) (vals_get (by simpa using h) fun i y w e1 e2 => k (i + 1) y w (by simpa using e1) (by simpa using e2))
theorem bt_range : bootBuiltins "range" = some (.type "range") := by decide +kernel
def rRange1 : List V → Hp → VK → Prop := fun xs H Q => ∃ n : Int, xs = [.int n] ∧ ∀ r, H r = none → Q (.ref r) (upd H r (.rng 0 n))
theorem call_rangeV : CallR X (.type "range") rRange1 := by
  intro pins s σ H xs us Q I r h
  obtain ⟨n, rfl, q⟩ := h
  obtain ⟨u, rfl, rx⟩ := vals1 r
  obtain ⟨t, rfl⟩ := rx
  refine call_range_1 ⟨.ref s.heap.objs.size, _, I.laid (fun b o e => Heap.get?_push_of_some _ e) (Nat.le_refl _) ?_, rfl, q _ (I.hok.fresh (Nat.le_refl _))⟩
  exact ⟨_, _, _, Heap.get?_push_size _ rfl⟩
def numsV (n : Nat) : List V := (List.range n).map fun (i : Nat) => V.int (i : Int)
def rListR : List V → Hp → VK → Prop := fun xs H Q => ∃ (r : Addr) (n : Nat), xs = [.ref r] ∧ H r = some (.rng 0 n) ∧ n ≤ 1000 ∧ ∀ l, H l = none → Q (.ref l) (upd H l (.lst (numsV n)))
theorem call_listR (hc : X.calm = true) : CallR X (.type "list") rListR := by
  intro pins s σ H xs us Q I r h
  obtain ⟨p, n, rfl, hp, hn, q⟩ := h
  obtain ⟨u, rfl, rx⟩ := vals1 r
  cases rx
  obtain ⟨t, u', v, e⟩ := I.hok p _ hp
  refine call_list_range (n := n) (I.ok.hd hc) (a := 0) (b := n) (c := 1) e ?_ ?_ (by omega) fun h' tk acc' c' hk hS' hacc => ?_
  · exact small_one (by decide) (by decide) (by omega) (by omega)
  · rw [rangeSize_nat]
    omega
  · refine ⟨.ref s.heap.objs.size, _, I.laid (t' := tk) hk (Nat.le_refl _) (show ObjOk X.prog X.w _ h' _ (.lst (numsV n)) from ⟨by unfold numsV; rw [List.length_map, List.length_range, sizeLine_eq]; omega, acc'.toList, c', vals_get ?_ fun i x u h1 h2 => ?_, by rw [Array.toArray_toList]; exact hS'⟩), rfl, q _ (I.hok.fresh (Nat.le_refl _))⟩
    · unfold numsV
      rw [List.length_map, List.length_range, Array.length_toList, hacc.1]
    · obtain ⟨tt, rfl⟩ := hacc.2 i u (by simpa using h2)
      unfold numsV at h1
      rw [List.getElem?_map] at h1
      cases e3 : (List.range n)[i]? with
      | none => rw [e3] at h1; cases h1
      | some j =>
        rw [e3] at h1
        cases h1
        obtain ⟨_, e4⟩ := List.getElem?_eq_some_iff.mp e3
        rw [List.getElem_range] at e4
        subst e4
        exact ⟨tt, by rw [Int.mul_one, Int.zero_add]⟩
theorem rd_range1 {H : Hp} {Q : VK} {n : Int} (h : ∀ r H', H r = none → Same H H' → H' r = some (.rng 0 n) → Q (.ref r) H') : rRange1 [.int n] H Q := ⟨n, rfl, rd_new' h⟩
theorem rd_listR {H : Hp} {Q : VK} {r : Addr} {n : Nat} (e : H r = some (.rng 0 n)) (hn : n ≤ 1000) (h : ∀ l H', H l = none → Same H H' → H' l = some (.lst (numsV n)) → Q (.ref l) H') : rListR [.ref r] H Q := ⟨r, n, rfl, e, hn, rd_new' h⟩
end

/-! ### D.m(self, ..) with defaults -/
structure DcD (P : Program) (w : World) (K : PySem.W.Frag) (mg : Str → Option Value) (base : Heap) (x m : Str) (k : Nat) (dvs : List V) (sp : Sp) : Prop where
  ex : ∃ C f fd ps ds, mg x = some (.ref C) ∧ PySem.W.specialIn K (.ref C) "__getattribute__" = some (some (.builtin "type.__getattribute__")) ∧ PySem.W.readsIn K C (.type "type") = true ∧ PySem.W.findCls K (.ref C) (.type "type") m = some (.val (.ref f)) ∧
    PySem.W.keepIn K (.ref f) = true ∧ Vals dvs ds ∧ Binds K fd ps ds ∧ FnOk P w K mg base CX0 k f fd ps sp
section
variable {X : Cx} {k k' : Nat} {sp : Sp} {x m : Str} {p pos apos : Pos} {e : Expr} {es : List Expr} {t : TA} {dvs : List V}
theorem pe_dmD {pl : Sem Bool} (F : DcD X.prog X.w X.K X.mg X.base x m k dvs sp) (hr : Room k' X.A) (ha : PA X (e :: es) t) (hk : k ≤ k' := by decide) (hg : Gl X x := by rfl) (hdb : (x == ("__debug__" : Str)) = false := by decide)
    (hst : starEach (e :: es) X.env = (false, eval e X.env) :: starEach es X.env := by rfl) (hpl : (backTo pos (starEach es X.env)).any (·.1) = false := by rfl)
    (ht : eval (.Call (.Attribute (.Name x p) m apos) (e :: es) [] pos) X.env = (do
      let ov ← eval (.Name x p) X.env
      standAt apos.atName
      let (f, first) ← holding [ov] (getMethod ov m pl)
      callWith pos f first (backTo pos (starEach (e :: es) X.env)) (backToKw pos (keywordEach [] X.env))) := by rfl) :
    PE X (.Call (.Attribute (.Name x p) m apos) (e :: es) [] pos) (tCall sp dvs E0 t) := by
  intro pins s σ H Q I h
  obtain ⟨C, f, fd, ps, ds, hm, hga, hrd, hfc, kp, hd, hb, G⟩ := F.ex
  refine PySem.W.methodCall_KW (pl := pl) (ld_glob I hg hm ?_ hdb) ht
  refine PySem.W.method_cls I.kIn hga (PySem.W.cls_value I.kIn hrd hfc (handed_of (v := .ref f) rfl) ?_)
  have I1 := I.tok (s.toks + 1)
  refine PySem.W.callWith_K (first := []) (h₀ := X.base) I.ok.mod.kin kp (thn (ha pos pins _ σ H _ I1 h) fun us s2 ⟨vs, H2, I2, r, q2⟩ => ⟨I2.kIn, ?_⟩) hst hpl
  exact run_fn G (hr.mono hk) hb hd pass0 I2 r q2
theorem rd_callD {E : XK} {σ : St} {H : Hp} {Q : VK} (h : t σ H fun vs H1 => sp (vs ++ dvs) H1 Q E) : tCall sp dvs E t σ H Q := h
end
end L2

set_option Elab.async false
set_option linter.all false
set_option maxRecDepth 100000
set_option maxHeartbeats 4000000
/-! Closures that leave the def that makes them: the cell is tracked behind the return. try: name = call. -/
namespace L2
open PySem PySem.Spec PyProof.Rows

/-- the cell at c holds v, and nobody changes it any more -/
def KCell (H : Hp) (c : Addr) (v : V) : Prop := ∃ o u, H c = some (kn o) ∧ o.data = .cell (some u) ∧ RelV v u
theorem KCell.same {H H' : Hp} {c : Addr} {v : V} (x : KCell H c v) (s : Same H H') : KCell H' c v := let ⟨o, u, e, r⟩ := x; ⟨o, u, s _ _ e, r⟩

/-- an address let go -/
def off (H : Hp) (c : Addr) : Hp := fun b => if b = c then none else H b
theorem off_same {H : Hp} {c : Addr} : off H c c = none := by unfold off; rw [if_pos rfl]
theorem off_ne {H : Hp} {c b : Addr} (h : b ≠ c) : off H c b = H b := by unfold off; rw [if_neg h]
theorem off_some {H : Hp} {c b : Addr} {u : HO} (h : off H c b = some u) : b ≠ c ∧ H b = some u := by
  by_cases hb : b = c
  · subst hb; rw [off_same] at h; cases h
  · rw [off_ne hb] at h; exact ⟨hb, h⟩
theorem off_back {H : Hp} {c : Addr} {u : HO} (h : H c = some u) : upd (off H c) c u = H := by
  funext b
  by_cases hb : b = c
  · subst hb; rw [upd_same, h]
  · rw [upd_ne hb, off_ne hb]
section
variable {P : Program} {w : World}
theorem hok_off {H : Hp} {h : Heap} {c : Addr} {o : Obj} (x : HOk P w H h) (e : H c = some (kn o)) : HOk P w (off H c) h := fun b u q => by
  obtain ⟨hb, q'⟩ := off_some q
  refine (x b u q').stay (fun _ _ _ z => z) (fun d z => ?_) fun d xs z => ?_
  · rw [off_ne (by rintro rfl; rw [e] at z; cases z)]; exact z
  · rw [off_ne (by rintro rfl; rw [e] at z; cases z)]; exact z
theorem hok_on {H : Hp} {h : Heap} {c : Addr} {o : Obj} (x : HOk P w H h) (n : H c = none) (g : h.get? c = some o) : HOk P w (upd H c (kn o)) h := fun b u q => by
  by_cases hb : b = c
  · subst hb
    rw [upd_same] at q; cases q
    exact kn_ok g
  · rw [upd_ne hb] at q
    exact (x b u q).stay (fun _ _ _ z => z) (fun d z => by rw [upd_ne (ne_of_none z n)]; exact z) fun d xs z => by rw [upd_ne (ne_of_none z n)]; exact z
/-- what is kept while c is let go, and taken up again -/
theorem un_off {fs : List Addr} {H H' : Hp} {h h' : Heap} {c : Addr} {o : Obj} (e : H c = some (kn o)) (g : h.get? c = some o) (hf : c ∉ fs) (x : Un fs [] (off H c) H' h h') : Un fs [] H (upd H' c (kn o)) h h' where
  keep := fun b ob q n hb hx => x.keep b ob q (by rw [off_ne (by rintro rfl; rw [e] at n; cases n)]; exact n) hb hx
  slot := fun b ob q n hb hx => x.slot b ob q (by rw [off_ne (by rintro rfl; rw [e] at n; cases n)]; exact n) hb hx
  free := fun b ob q n hx => by
    have hb : b ≠ c := by rintro rfl; rw [e] at n; cases n
    rw [upd_ne hb]
    exact x.free b ob q (by rw [off_ne hb]; exact n) hx
  there := x.there
  tups := fun b xs q => by
    have hb : b ≠ c := by rintro rfl; rw [e] at q; cases q
    rw [upd_ne hb]
    exact x.tups b xs (by rw [off_ne hb]; exact q)
  frzs := fun b ob u q => by
    by_cases hb : b = c
    · subst hb
      rw [e] at q; cases q
      exact upd_same
    · rw [upd_ne hb]
      exact x.frzs b ob u (by rw [off_ne hb]; exact q)
  tbls := fun b ps q => by
    have hb : b ≠ c := by rintro rfl; rw [e] at q; cases q
    obtain ⟨m, z⟩ := x.tbls b ps (by rw [off_ne hb]; exact q)
    exact ⟨m, by rw [upd_ne hb]; exact z⟩
end

section
variable {P : Program} {w : World} {K : PySem.W.Frag} {mg : Str → Option Value} {base : Heap}
/-- a lambda whose cell is tracked: its body reads at the heap without it -/
theorem fn_lamT {k : Nat} {f c : Addr} {fd : FuncData} {qual : Str} {args : Arguments} {body : Expr} {sc : Scope} {x y : Str} {v : V} {sp : Sp}
    (hk : sc.kind = .function) (hco : sc.isCoroutine = false) (hgen : sc.isGenerator = false) (hcell : ∀ z ∈ sc.names, z.2 ≠ .cell) (hx : sc.names.lookup x = some .local) (hfree : ∀ z, sc.names.lookup z = some .free → z = y) (hy : sc.names.lookup y = some .free)
    (len : ∀ vs H Q E, sp vs H Q E → ∃ a, vs = [a] ∧ LamAt H f fd qual args body sc y c ∧ KCell H c v)
    (hbody : ∀ (cdv : Value) (A : Around) (outer : List Env) (s : Shared) (H : Hp) (a : V) (Q : VK) (E : XK), Room k (A.deeper (PySem.W.envX qual sc s.heap.objs.size f cdv [(y, c)])) → sp [a] H Q E →
      ∃ t, PE (cxL CX0 P w K mg base [x, y] qual sc f cdv [(y, c)] A outer s (off H c) E).nox body t ∧ ∀ o, H c = some (kn o) → t [some a, some v] (off H c) (fun r H' => Q r (upd H' c (kn o)))) :
    FnOk P w K mg base CX0 (k + 1) f fd [x] sp := by
  refine ⟨fun vs H Q E h => ?_, fun A outer s H ar us vs Q E hr e0 hb r hsp => ?_⟩
  · obtain ⟨a, rfl, _⟩ := len vs H Q E h
    rfl
  obtain ⟨a, rfl, ⟨c', pm, ctv, oc, fv, tt, rfl, hF, hc', hd, hv⟩, oC, uv, eC, hdC, rv⟩ := len vs H Q E hsp
  obtain ⟨u, rfl, ra⟩ : ∃ u, us = [u] ∧ RelV a u := by
    cases r with
    | cons r1 r2 => cases r2; exact ⟨_, rfl, r1⟩
  obtain ⟨t, ht, hq⟩ := hbody (.ref c') A outer s H a Q E (hr.deeper _) hsp
  have hq := hq oC eC
  have gC := kn_get e0.hok eC
  have lim : s.heap.NoLimit := e0.mod.nolimit.keeps fun b o e => (e0.bs b o e).1
  refine PySem.W.kla_callFunE hr.depth (kn_get e0.hok hF) rfl hco hgen rfl ⟨c', oc, fv, tt, rfl, kn_get e0.hok hc', hd, hv⟩ (hb _ _ _ _ ?_)
  refine wpAny_newFunctionEnv hcell (fun z hz => by
    have hz' : z ∈ [(x, u)] := hz
    rw [List.mem_singleton] at hz'
    rw [hz']; exact hx) (fun h₁ hns hsb => ⟨lim.fresh _ hsb, ?_⟩) hk
  have hk₁ : ∀ b o, s.heap.get? b = some o → h₁.get? b = some o := fun b o e => hsb.extBut b o (Nat.ne_of_lt (Heap.lt_size e)) (Heap.get?_push_of_some _ e)
  have lkY : ∀ z (d : Addr), ([(y, c)] : List (Str × Addr)).lookup z = some d → z = y ∧ d = c := fun z d e => by
    rw [List.lookup_cons] at e
    cases q : z == y with
    | true => rw [q] at e; cases e; exact ⟨eq_of_beq q, rfl⟩
    | false => rw [q] at e; cases e
  have lkC : ([(y, c)] : List (Str × Addr)).lookup y = some c := by rw [List.lookup_cons, beq_self_eq_true]
  have nc : ∀ b o, base.get? b = some o → b ≠ c := fun b o e z => by
    have := (e0.bs b o e).2
    rw [z, eC] at this; cases this
  have ncf : c ∉ frs outer := fun z => by rw [e0.frf c z] at eC; cases eC
  show codeAny (model P w) A (.expr body (PySem.W.envX qual sc s.heap.objs.size f (.ref c') [(y, c)])) _ _
  have hokO := hok_off e0.hok eC
  have I : Inv (cxL CX0 P w K mg base [x, y] qual sc f (.ref c') [(y, c)] A outer s (off H c) E) [] [some a, some v] (off H c) { s with heap := h₁, toks := s.toks + ([x].zip [u]).length } := by
    have noA : ∀ b : Addr, b ∉ (cxL CX0 P w K mg base [x, y] qual sc f (.ref c') [(y, c)] A outer s (off H c) E).ex := fun b z => absurd (show b ∈ ([] : List Addr) from z) (by simp)
    refine ⟨⟨e0.mod, hk, rfl, rfl, Nat.le_refl _, fun z1 z2 d h1 h2 => ?_, fun z hz => ?_, fun z d hf _ => absurd (show false = true from hf) Bool.false_ne_true, fun _ => hr.hd, Around.frames_deeper e0.frames, .inr ⟨rfl, rfl⟩, fun b z => absurd z (noA b), fun b o e => ⟨(e0.bs b o e).1, by show off H c b = none; rw [off_ne (nc b o e)]; exact (e0.bs b o e).2⟩, e0.bsz, fun b _ _ => noA b, fun b z => absurd z (noA b), e0.funs, fun b hb => ?_⟩,
      rfl, e0.bare, Un.kept hk₁, ⟨_, hns, fun i z v' h1 h2 h3 => ?_⟩, fun z d h => ?_, hokO.fresh (Nat.le_refl _), fun z d h => ?_, fun p hp => absurd (show p ∈ ([] : List (Addr × Obj)) from hp) (by simp), hokO.kept hk₁, rfl⟩
    · exact (lkY z1 d h1).1.trans (lkY z2 d h2).1.symm
    · have hz : sc.names.lookup z = some .cell ∨ sc.names.lookup z = some .free := hz
      rcases hz with hz | hz
      · exact absurd rfl (hcell _ (PySem.mem_of_lookup hz))
      · rw [hfree z hz]; exact ⟨c, lkC⟩
    · show off H c b = none
      by_cases hbc : b = c
      · rw [hbc]; exact off_same
      · rw [off_ne hbc]; exact e0.frf b hb
    · match i, h1, h2 with
      | 0, h1, h2 =>
        cases h1; cases h2
        refine ⟨u, ra, .inl ⟨hx, ?_⟩⟩
        show ([(x, u)].reverse).lookup x = some u
        rw [List.reverse_singleton, List.lookup_cons, beq_self_eq_true]
      | 1, h1, h2 =>
        cases h1; cases h2
        exact ⟨uv, rv, .inr ⟨.inr hy, c, lkC, oC, hk₁ _ _ gC, hdC⟩⟩
      | i + 2, h1, h2 => cases h1
    · rw [(lkY z d h).2]; exact ⟨_, oC, hk₁ _ _ gC, hdC⟩
    · rw [(lkY z d h).2]; exact off_same
  refine PySem.W.kla_codeExpr (wpAny_mono (PE.nox ht [] _ [some a, some v] (off H c) _ I hq) (fun u' s' ⟨v', H', J, rv', q⟩ => ?_) fun e s' hs => ?_)
  · have Jb : Un (frs outer) [] (off H c) H' s.heap s'.heap := J.base
    have gC' : s'.heap.get? c = some oC := Jb.keep c oC gC off_same ncf (by simp)
    have nC' : H' c = none := Jb.free c oC gC off_same (by simp)
    exact ⟨v', upd H' c (kn oC), J.os, J.bare, un_off eC gC ncf Jb, hok_on J.hok nC' gC', rv', q⟩
  · exact wpAny_mono hs (fun _ s'' z => z.elim) fun _ s'' z => z.elim
end

/-! ### a return that tells the names -/
def SPr (X : Cx) (pins : List (Addr × Obj)) (D : Ends) (R : St → V → Hp → Prop) (f : Flow) (s' : Shared) : Prop :=
  match f with
  | .ret u => ∃ v σ' H', Inv X pins σ' H' s' ∧ RelV v u ∧ (D.rt v H' ∨ R σ' v H')
  | f => SP X pins D f s'
def PRs (X : Cx) (st : List Stmt) (t : Ends → (St → V → Hp → Prop) → St → Hp → Prop) : Prop :=
  ∀ (pins : List (Addr × Obj)) (s : Shared) (σ : St) (H : Hp) (D : Ends) (R : St → V → Hp → Prop), Inv X pins σ H s → t D R σ H → wpAny (model X.prog X.w) X.A (execs st X.env) (SPr X pins D R) X.xe s
section
variable {X : Cx} {st : Stmt} {rest : List Stmt} {t : TS} {u : Ends → (St → V → Hp → Prop) → St → Hp → Prop} {e : Expr} {te : TE} {pos : Pos}
def tSeqR (t : TS) (u : Ends → (St → V → Hp → Prop) → St → Hp → Prop) : Ends → (St → V → Hp → Prop) → St → Hp → Prop := fun D R => t { D with nx := u D R }
def tRetR (te : TE) : Ends → (St → V → Hp → Prop) → St → Hp → Prop := fun _ R σ H => te σ H (R σ)
theorem rd_seqC {nx bk ct : St → Hp → Prop} {rt : VK} {R : St → V → Hp → Prop} {σ : St} {H : Hp} (h : t ⟨u ⟨nx, rt, bk, ct⟩ R, rt, bk, ct⟩ σ H) : tSeqR t u ⟨nx, rt, bk, ct⟩ R σ H := h
theorem rd_retC {D : Ends} {R : St → V → Hp → Prop} {σ : St} {H : Hp} (h : te σ H (R σ)) : tRetR te D R σ H := h
theorem prs_cons (h1 : PS X st t) (h2 : PRs X rest u) : PRs X (st :: rest) (tSeqR t u) := by
  intro pins s σ H D R I h
  refine wpAny_execs_cons (thn (h1 pins s σ H { D with nx := u D R } I h) fun f s1 q => ?_)
  cases f with
  | next =>
    obtain ⟨σ', H', I', q⟩ := q
    exact h2 pins s1 σ' H' D R I' q
  | ret v => obtain ⟨v, σ', H', I, r, q⟩ := q; exact ⟨v, σ', H', I, r, .inl q⟩
  | brk => exact q
  | cont => exact q
theorem prs_ret (he : PE X e te) : PRs X [.Return (some e) pos] (tRetR te) := by
  intro pins s σ H D R I h
  refine wpAny_execs_cons ?_
  exact wpAny_Return_some (thn (he pins s σ H _ I h) fun v s1 ⟨x, H1, I1, r1, q1⟩ => ⟨x, σ, H1, I1, r1, .inr q1⟩)
end
theorem un_on {fs : List Addr} {H H' : Hp} {h h' : Heap} {c : Addr} {u : HO} (n : H' c = none) (hc : h.objs.size ≤ c) (x : Un fs [] H H' h h') : Un fs [] H (upd H' c u) h h' where
  keep := x.keep
  slot := x.slot
  free := fun b ob q n' hx => by
    rw [upd_ne (Nat.ne_of_lt (Nat.lt_of_lt_of_le (Heap.lt_size q) hc))]
    exact x.free b ob q n' hx
  there := x.there
  tups := fun b xs q => by rw [upd_ne (ne_of_none (x.tups b xs q) n)]; exact x.tups b xs q
  frzs := fun b ob u' q => by rw [upd_ne (ne_of_none (x.frzs b ob u' q) n)]; exact x.frzs b ob u' q
  tbls := fun b ps q => by
    obtain ⟨m, z⟩ := x.tbls b ps q
    exact ⟨m, by rw [upd_ne (ne_of_none z n)]; exact z⟩
section
variable {P : Program} {w : World} {K : PySem.W.Frag} {mg : Str → Option Value} {base : Heap}
/-- what a return that tells the names wants: behind it the cell of the name in slot i is tracked -/
def RetC (i : Nat) (c : Addr) (Q : VK) : St → V → Hp → Prop := fun σ v H' => ∃ cv, σ[i]? = some (some cv) ∧ ∀ H2, Same H' H2 → H' c = none → KCell H2 c cv → Q v H2
theorem FunV.okR {x qual : Str} {st : Stmt} {f : Addr} {fd : FuncData} {N ps : List Str} {k i : Nat} {y : Str} {sp : Sp} (F : FunV K x qual st f fd) (S : FnScope N ps (defScope st)) (hi : N[i]? = some y) (hyc : (defScope st).names.lookup y = some .cell) (len : ∀ vs H Q E, sp vs H Q E → vs.length = ps.length)
    (hbody : ∀ (cdv : Value) (A : Around) (outer : List Env) (s : Shared) (H : Hp) (vs : List V) (Q : VK) (E : XK) (c : Addr), fd.code = cdv → (cellsFrom (s.heap.objs.size + 1) (defScope st).names []).lookup y = some c → Room k (A.deeper (envOfC qual (defScope st) s.heap.objs.size f cdv)) → sp vs H Q E →
      ∃ t, PRs (cxOf CX0 P w K mg base N qual (defScope st) f cdv A outer s H E).nox (defBody st) t ∧ t { nx := fun _ H' => Q .non H', rt := Q } (RetC i c Q) (start N vs) H) : FnOk P w K mg base CX0 (k + 1) f fd ps sp := by
  obtain ⟨oc, od, dV, kV, doc, pm, an, cdv, ct, osl, rfl, lk, hcd⟩ := F.ex
  refine ⟨len, fun A outer s H args us vs Q E hr e0 hb r hsp => ?_⟩
  have hl := len _ _ _ _ hsp
  have KX : K.In s.heap := e0.mod.kin.keeps fun b o e => (e0.bs b o e).1
  have lim : s.heap.NoLimit := e0.mod.nolimit.keeps fun b o e => (e0.bs b o e).1
  have hkind : ∀ y ∈ ps.zip us, (defScope st).names.lookup y.1 = some .local ∨ ((defScope st).names.lookup y.1 = some .cell ∧ ((cellsFrom (s.heap.objs.size + 1) (defScope st).names []).lookup y.1).isSome = true) := fun ⟨n, v⟩ hy => by
    rcases S.par n (List.of_mem_zip hy).1 with q | q
    · exact .inl q
    · exact .inr ⟨q, PySem.W.cellsFrom_some _ _ _ (.inl q)⟩
  refine codeAny_call_function hr.depth (KX _ _ lk) rfl S.co S.gen rfl (PySem.W.codeRec_of KX hcd) (hb _ _ _ _ ?_)
  refine wpAny_newFunctionEnv_cells S.kind hkind fun env he s1 x => ?_
  subst he
  refine ⟨lim.keeps x.toInCall.keep, codeAny_func ?_⟩
  obtain ⟨c, hc⟩ := cell_has (n := s.heap.objs.size + 1) hyc
  obtain ⟨t, ht, hq⟩ := hbody cdv A outer s H vs Q E c rfl hc (hr.deeper _) hsp
  have I : Inv (cxOf CX0 P w K mg base N qual (defScope st) f cdv A outer s H E) [] (start N vs) H s1 := inv_start S hr.hd e0 hl r x
  refine wpAny_mono (ht [] s1 (start N vs) H _ _ (I.wish _) hq) (fun fl s' hs => ?_) fun e s' hs => False.elim hs
  have fin : ∀ {σ' : St} {H' : Hp} {v : V} {u : Value}, Inv (cxOf CX0 P w K mg base N qual (defScope st) f cdv A outer s H E).nox [] σ' H' s' → RelV v u → Q v H' → CE outer P w H s Q u s' :=
    fun {σ' H' v u} J rv q => ⟨v, H', J.os, J.bare, J.base, J.hok, rv, q⟩
  cases fl with
  | ret u =>
    obtain ⟨v, σ', H', J, rv, q⟩ := hs
    rcases q with q | ⟨cv, hi', q⟩
    · exact fin J rv q
    · obtain ⟨m, hn, hl'⟩ := J.loc
      obtain ⟨u', ru, lk'⟩ := hl' i y cv hi hi' (.inr (.inl hyc))
      have hcell : s'.heap.IsCell c (some u') := by
        rcases lk' with ⟨z, _⟩ | ⟨_, c2, e1, e2⟩
        · have z' : (defScope st).names.lookup y = some .local := z
          rw [hyc] at z'; cases z'
        · have e1' : (cellsFrom (s.heap.objs.size + 1) (defScope st).names []).lookup y = some c2 := e1
          rw [hc] at e1'; cases e1'; exact e2
      obtain ⟨oC, hoC, hdC⟩ := hcell
      have nC : H' c = none := J.freeC y c hc
      have cs : s.heap.objs.size ≤ c := J.ok.cab y c rfl hc
      exact ⟨v, upd H' c (kn oC), J.os, J.bare, un_on nC cs J.base, hok_on J.hok nC hoC, rv, q _ (fun b o e => by rw [upd_ne (ne_of_none e nC)]; exact e) nC ⟨oC, u', upd_same, hdC, ru⟩⟩
  | next =>
    obtain ⟨σ', H', J, q⟩ := hs
    exact fin (v := V.non) (u := Value.none) J rfl q
  | brk =>
    obtain ⟨_, _, _, q⟩ := hs
    exact False.elim q
  | cont =>
    obtain ⟨_, _, _, q⟩ := hs
    exact False.elim q
/-- a def that raises nothing, among those that may -/
theorem FnOk.toX {CX : CXT} {k : Nat} {f : Addr} {fd : FuncData} {ps : List Str} {sp : Sp} (F : FnOk P w K mg base CX0 k f fd ps sp) : FnOk P w K mg base CX k f fd ps (fun vs H Q _ => sp vs H Q E0) :=
  ⟨fun vs H Q _ h => F.len vs H Q E0 h, fun A outer s H args us vs Q E hr e0 hb hv hs => codeAny_mono (F.run A outer s H args us vs Q E0 hr e0 hb hv hs) fun r s' h => by
    cases r with
    | error e => exact False.elim h
    | ok fl => cases fl <;> exact h⟩
end

def MdPE (M : Addr → Sp → Prop) (m : Str) (E : XK) (t : TA) (σ : St) (Q : VK) : VK := fun x H => ∃ a C dx fs sp, x = .ref a ∧ H a = some (.ins C dx fs) ∧ fs.lookup m = none ∧ M C sp ∧ t σ H fun vs H2 => sp (x :: vs) H2 Q E
theorem rd_mdE {M : Addr → Sp → Prop} {m : Str} {E : XK} {ta : TE} {t : TA} {σ : St} {H : Hp} {Q : VK} (h : ta σ H (MdPE M m E t σ Q)) : tMDE M m E ta t σ H Q := h
theorem rd_mdEV {M : Addr → Sp → Prop} {m : Str} {E : XK} {t : TA} {σ : St} {H : Hp} {Q : VK} {a C dx : Addr} {fs : List (Str × V)} {sp : Sp} (e : H a = some (.ins C dx fs)) (l : fs.lookup m = none) (F : M C sp) (h : t σ H fun vs H2 => sp (.ref a :: vs) H2 Q E) : MdPE M m E t σ Q (.ref a) H :=
  ⟨a, C, dx, fs, sp, rfl, e, l, F, h⟩

section
open PySem.W
variable {X : Cx} {i j : Nat} {n x y : Str} {T : Addr} {np yp hpos pos epos : Pos} {e : Expr} {tc : XK → TE} {b₀ : Stmt} {suite : List Stmt} {ts : TS}
/-- try: y = call; except C as n: .. -/
def tTryA (K : PySem.W.Frag) (T : Addr) (i j : Nat) (tc : XK → TE) (ts : TS) : TS := fun D σ H => tc (HandP K T i ts D σ) σ H fun v H1 => D.nx (σ.set j (some v)) H1
theorem ps_tryA (hN : X.N.Nodup) (hi : X.N[i]? = some n) (hj : X.N[j]? = some y) (hk : X.env.scope.names.lookup n = some .local) (hkj : X.env.scope.names.lookup y = some .local) (hst : X.stack = X.env :: X.outer) (hfr : X.env.frame = some X.env.locals) (hm : X.mg x = some (.ref T)) (he : PEx X e tc) (hs : ∀ ea, PSs (X.inx ea) (b₀ :: suite) ts)
    (hg : Gl X x := by rfl) (hdb : (x == ("__debug__" : Str)) = false := by decide) (hsw : swapsWith e (some (.Name y yp)) epos.line X.env = pure false := by rfl) :
    PS X (.Try [.Assign [.Name y yp] e epos] [.ExceptHandler (some (.Name x np)) (some n) (b₀ :: suite) hpos] [] [] pos) (tTryA X.K T i j tc ts) := by
  intro pins s σ H D I h
  refine wpAny_Try_except ?_
  refine wpAny_execs_cons (wpAny_Assign_Name ?_ hsw)
  refine wpAny_mono (he _ pins s σ H _ I h) (fun v s1 ⟨v', H1, I1, r1, q1⟩ => ?_) fun ev s' hx => ?_
  · exact store_ok I1 hN hj (.inl hkj) r1 (fun s2 I2 => wpAny_execs_nil (wpAny_execs_nil ⟨_, H1, I2, q1⟩)) (.inr hkj)
  obtain ⟨H1, s1, I1, ea, cls, a0, H', B, rfl, os, bare, un, hok, hn, new, fl, cov, C, rfl, hex, hq⟩ := hx
  have frms : ∀ b ∈ frs X.stack, H' b = none := fun b hb => by
    obtain ⟨_, o, ho, _⟩ := I1.stack.mem hb
    exact un.free b o ho (I1.stkFree b hb) (by simp)
  have fl0 := fl
  rw [hst] at fl0
  refine wpAny_looks_onW (by rw [I.ok.frames, hst]) hfr fl0 fun h4 hheld4 up4 => ?_
  refine wpAny_landsW hheld4 fun h5 hfl5 up5 => ?_
  have step : ∀ h6, Heap.FlyingW B (X.env :: X.outer) ea (.ref C) a0 h6 → s'.heap.UpToSlots h6 → Inv X pins σ (upd H' ea (.ext (ExcAt ea C))) { s' with heap := h6 } := fun h6 f6 up6 => by
    obtain ⟨un2, hok2⟩ := un_lift un hok cov fl.1 f6.1 up6 fun b hb => ⟨frms b hb, (fl.2.2.1.mem hb).2⟩
    obtain ⟨oe, vs, q1, q2, q3, _⟩ := f6.first
    obtain ⟨un3, hok3⟩ := un_exc (C := C) un2 hok2 new hn ⟨oe, vs, q1, q2, q3⟩
    exact I1.call' (s' := { s' with heap := h6 }) (ch := []) os un3 hok3 bare fun b z => absurd z (by simp)
  have I5 := step h5 hfl5 (up4.trans up5)
  obtain ⟨ob, hob, hobc⟩ := hfl5.there
  have LT : Looks (model X.prog X.w) h5 (typeOf (.ref ea)) (.ref C) := by
    rw [← hobc]
    exact (Looks.ld hob).andThen .now
  refine wpAny_handleBy_cons (codeAny_handlers_test ?_) (by intro q; cases q)
  refine ld_glob (X := X.inx ea) (I5.inx ea) hg hm ?_ hdb
  refine (PySem.W.exm_one I5.kIn LT hex).here ?_
  show codeAny _ _ _ _ _
  refine codeAny_handlers_suite_as ?_
  refine lands_againW hfl5 fun h6 hfl6 up6 => ?_
  have I6 := step h6 hfl6 ((up4.trans up5).trans up6)
  refine store_ok (X := X.inx ea) (v := .ref ea) (I6.inx ea) hN hi (.inl hk) rfl (fun s7 I7 => ?_) (.inr hk)
  refine wpAny_mono (hs ea pins s7 _ _ _ I7 (hq ea hn)) (fun f s8 hsp => ?_) fun _ _ z => False.elim z
  cases f with
  | next =>
    obtain ⟨σ', H8, I8, q8⟩ := hsp
    exact name_goes (I8.outx I.ok) hN hi hk fun s9 I9 => ⟨_, H8, I9, q8⟩
  | brk =>
    obtain ⟨σ', H8, I8, q8⟩ := hsp
    exact name_goes (I8.outx I.ok) hN hi hk fun s9 I9 => ⟨_, H8, I9, q8⟩
  | cont =>
    obtain ⟨σ', H8, I8, q8⟩ := hsp
    exact name_goes (I8.outx I.ok) hN hi hk fun s9 I9 => ⟨_, H8, I9, q8⟩
  | ret u =>
    obtain ⟨v, σ', H8, I8, r8, q8⟩ := hsp
    exact name_goes (I8.outx I.ok) hN hi hk fun s9 I9 => ⟨v, _, H8, I9, r8, q8⟩
end
end L2

set_option Elab.async false
set_option linter.all false
set_option maxRecDepth 100000
set_option maxHeartbeats 4000000
/-! The head of a law one of whose helpers makes a lambda. -/
namespace L2
open PySem PySem.Spec PyProof.Rows
theorem rd_startR {t : Ends → (St → V → Hp → Prop) → St → Hp → Prop} {D : Ends} {R : St → V → Hp → Prop} {N : List Str} {vs : List V} {σ : St} {H : Hp} (e : start N vs = σ) (h : t D R σ H) : t D R (start N vs) H := e ▸ h
theorem walk_ofT2 {l : PySem.W.OpenLaw} {n k : Nat} {q : Program} {loose : List Str} {XP : (Str → Option Value) → Heap → Prop} {YP : World → Heap → Prop} {d d2 : DefRec} {K : Params → PySem.W.Frag} {CX : World → CXT} {sp : World → Addr → Sp} {x : Str}
    (hn : l.most = some n) (hn2 : n ≤ sizeLine) (hdf : d.params.defaults = []) (hr : Room k callerA) (hrec : d2 ∈ recsOf q) (hnt : ∀ w : World, PySem.W.noTabs (K w.params) = true)
    (hY : ∀ (w : World) (h : Heap), YP w h → (K w.params).In h)
    (F : ∀ (w : World) (mg : Str → Option Value) (fa : Addr) (h : Heap), (K w.params).In h → h.Ns mainGlobals mg → mg d.name = some (.ref fa) →
      ∃ (fd : FuncData) (f2 : Addr) (fd2 : FuncData), mg d2.name = some (.ref f2) ∧ (∃ oc od osl, (K w.params).lookup f2 = some ⟨oc, od, .func fd2, osl⟩) ∧ (∀ (s : Shared) (u : Value), BindsTo s fd ⟨[u], []⟩ [(x, u)]) ∧
        ∀ (base : Heap) (cL PL : Addr), fd2.code = .ref cL → PySem.W.CodeHd base cL PL → base.BuiltinsAt mg PL → FnOk l.prog w (K w.params) mg base (CX w) k fa fd [x] (sp w PL))
    (hsp : ∀ (w : World) (PL : Addr) (H : Hp) (a : Addr) (ns : List Int), ns.length ≤ n → SqL (K w.params) H a (ns.map V.int) → H PL = some (.tbl #[]) → sp w PL [.ref a] H (fun v _ => v = .bl true) fun _ _ _ => False)
    (hCX : ∀ (w : World) (H : Hp) (s : Shared) (e : Value) (s' : Shared), CX w [] H s (fun _ _ _ => False) e s' → False) :
    PySem.W.WalkO q loose XP YP l.row.toRowW d [] (fun f vs => PySem.call f vs) := by
  refine Att.attach_call hn hdf fun w s₀ s₁ mg mb fa o pm cd doc a vs ns G Y ho hd hcd hmg hobj hints hlen hg => ?_
  have KX := hY w _ Y
  obtain ⟨fd, f2, fd2, hm2, ⟨oc, od, osl, lk⟩, hb, hF⟩ := F w mg fa _ KX G.T.g hmg
  obtain ⟨a', o', fd', c, PL, h1, h2, h3, h4, h5, h6⟩ := G.T.tab d2 hrec
  rw [hm2] at h1
  cases h1
  have e1 := KX _ _ lk
  rw [h2] at e1
  cases e1
  have h3' : fd2 = fd' := by injection h3
  subst h3'
  have C := PySem.W.CodeHd.of h5 h6
  have hKP : (K w.params).lookup PL = none := by
    cases q : (K w.params).lookup PL with
    | none => rfl
    | some o2 =>
      have e2 := KX _ _ q
      rw [h6.2] at e2
      cases e2
      have z := List.all_eq_true.mp (hnt w) (PL, _) (PySem.W.mem_of_lookupK q)
      exact absurd (show false = true from z) Bool.false_ne_true
  exact law_callT KX G.T.g G.T.b G.T.builtins G.T.nolimit hg C h6.2 hKP G.T.bmain hobj hints (Nat.le_trans hlen hn2) hr (fun base hc hB => hF base c PL h4 hc hB) hb (fun H hS hP => hsp w PL H a ns hlen hS hP) fun H e s' => hCX w H s₁ e s'
end L2

set_option Elab.async false
set_option linter.all false
set_option maxRecDepth 100000
set_option maxHeartbeats 4000000
namespace L2
open PySem PySem.Spec PyProof.Rows
section
variable {X : Cx}
/-- xs != [] -/
def rNeE (K : PySem.W.Frag) : R2 := fun x y H Q => ∃ a b xs, x = .ref a ∧ y = .ref b ∧ SqL K H a xs ∧ SqL K H b [] ∧ Q (.bl (!xs.isEmpty)) H
theorem op_neE (hu : X.A.units < cLine) : OpR X (compareOp .NotEq) (rNeE X.K) := by
  intro pins s σ H x y v u Q I rx ry h
  obtain ⟨a, b, xs, rfl, rfl, ha, hb, q⟩ := h
  cases rx; cases ry
  obtain ⟨its, r, pl, hz⟩ := I.list ha
  obtain ⟨its2, r2, pl2, _⟩ := I.list hb
  cases r2
  cases xs with
  | nil =>
    cases r
    refine SeqAt.RcNeAt.lists (e := fun _ => true) pl.isList pl2.isList rfl hu (fun j h1 => absurd h1 (Nat.not_lt_zero _)) X.prog X.w X.xe _ ⟨.bl false, H, I, rfl, q⟩
  | cons x xs =>
    cases r with
    | cons r1 r2 =>
      exact SeqAt.RcNeAt.lists_lengths pl.isList pl2.isList (by simp) hu X.prog X.w X.xe _ ⟨.bl true, H, I, rfl, q⟩
theorem rd_neE {K : PySem.W.Frag} {H : Hp} {Q : VK} {a b : Addr} {xs : List V} (ha : SqL K H a xs) (hb : SqL K H b []) (h : Q (.bl (!xs.isEmpty)) H) : rNeE K (.ref a) (.ref b) H Q := ⟨a, b, xs, rfl, rfl, ha, hb, h⟩
end
end L2

set_option Elab.async false
set_option linter.all false
set_option maxRecDepth 100000
set_option maxHeartbeats 4000000
namespace L2
def allN {α : Type} : Nat → (List α → Prop) → Prop
  | 0, p => p []
  | n + 1, p => ∀ a, allN n (fun l => p (a :: l))
theorem of_allN {α : Type} : ∀ (n : Nat) (p : List α → Prop), allN n p → ∀ us : List α, us.length = n → p us
  | 0, _, h, [], _ => h
  | n + 1, _, h, a :: us, e => of_allN n _ (h a) us (by simpa using e)
  | 0, _, _, _ :: _, e => by simp at e
  | _ + 1, _, _, [], e => by simp at e
end L2
namespace Prf
open PySem L2

def top (i : Nat) : Stmt := PySem.Challenge.pw_firstout_k07_whole_doors_round_doors.main.body.getD i (.Pass ⟨0, 0, 0, 0⟩)
abbrev s_is_whole : Stmt := top 5
theorem sc_is_whole : FnScope ["thing"] ["thing"] (defScope s_is_whole) := ⟨rfl, rfl, rfl, by decide +kernel, rfl, by decide +kernel, by decide +kernel⟩

abbrev s_is_name : Stmt := top 8
theorem sc_is_name : FnScope ["thing"] ["thing"] (defScope s_is_name) := ⟨rfl, rfl, rfl, by decide +kernel, rfl, by decide +kernel, by decide +kernel⟩

abbrev s_need_name : Stmt := top 9
theorem sc_need_name : FnScope ["part", "thing"] ["part", "thing"] (defScope s_need_name) := ⟨rfl, rfl, rfl, by decide +kernel, rfl, by decide +kernel, by decide +kernel⟩

abbrev s_need_whole : Stmt := top 10
theorem sc_need_whole : FnScope ["part", "thing", "least"] ["part", "thing", "least"] (defScope s_need_whole) := ⟨rfl, rfl, rfl, by decide +kernel, rfl, by decide +kernel, by decide +kernel⟩

abbrev s_row_of_words : Stmt := top 11
theorem sc_row_of_words : FnScope ["kind", "door", "numbers", "end"] ["kind", "door", "numbers"] (defScope s_row_of_words) := ⟨rfl, rfl, rfl, by decide +kernel, rfl, by decide +kernel, by decide +kernel⟩

abbrev s_Door___init__ : Stmt := inClass (top 12) 0
theorem sc_Door___init__ : FnScope ["self", "name", "start", "end", "wide"] ["self", "name", "start", "end", "wide"] (defScope s_Door___init__) := ⟨rfl, rfl, rfl, by decide +kernel, rfl, by decide +kernel, by decide +kernel⟩

abbrev s_Door_lets : Stmt := inClass (top 12) 1
theorem sc_Door_lets : FnScope ["self", "turn"] ["self", "turn"] (defScope s_Door_lets) := ⟨rfl, rfl, rfl, by decide +kernel, rfl, by decide +kernel, by decide +kernel⟩

abbrev s_Door_is_exit : Stmt := inClass (top 12) 2
theorem sc_Door_is_exit : FnScope ["self"] ["self"] (defScope s_Door_is_exit) := ⟨rfl, rfl, rfl, by decide +kernel, rfl, by decide +kernel, by decide +kernel⟩

abbrev s_Door_words : Stmt := inClass (top 12) 3
theorem sc_Door_words : FnScope ["self"] ["self"] (defScope s_Door_words) := ⟨rfl, rfl, rfl, by decide +kernel, rfl, by decide +kernel, by decide +kernel⟩

abbrev s_Since___init__ : Stmt := inClass (top 13) 0
theorem sc_Since___init__ : FnScope ["self", "name", "start", "end", "wide", "since"] ["self", "name", "start", "end", "wide", "since"] (defScope s_Since___init__) := ⟨rfl, rfl, rfl, by decide +kernel, rfl, by decide +kernel, by decide +kernel⟩

abbrev s_Since_lets : Stmt := inClass (top 13) 1
theorem sc_Since_lets : FnScope ["self", "turn"] ["self", "turn"] (defScope s_Since_lets) := ⟨rfl, rfl, rfl, by decide +kernel, rfl, by decide +kernel, by decide +kernel⟩

abbrev s_Since_words : Stmt := inClass (top 13) 2
theorem sc_Since_words : FnScope ["self"] ["self"] (defScope s_Since_words) := ⟨rfl, rfl, rfl, by decide +kernel, rfl, by decide +kernel, by decide +kernel⟩

abbrev s_Until___init__ : Stmt := inClass (top 14) 0
theorem sc_Until___init__ : FnScope ["self", "name", "start", "end", "wide", "until"] ["self", "name", "start", "end", "wide", "until"] (defScope s_Until___init__) := ⟨rfl, rfl, rfl, by decide +kernel, rfl, by decide +kernel, by decide +kernel⟩

abbrev s_Until_lets : Stmt := inClass (top 14) 1
theorem sc_Until_lets : FnScope ["self", "turn"] ["self", "turn"] (defScope s_Until_lets) := ⟨rfl, rfl, rfl, by decide +kernel, rfl, by decide +kernel, by decide +kernel⟩

abbrev s_Until_words : Stmt := inClass (top 14) 2
theorem sc_Until_words : FnScope ["self"] ["self"] (defScope s_Until_words) := ⟨rfl, rfl, rfl, by decide +kernel, rfl, by decide +kernel, by decide +kernel⟩

abbrev s_Beat___init__ : Stmt := inClass (top 15) 0
theorem sc_Beat___init__ : FnScope ["self", "name", "start", "end", "wide", "every", "since"] ["self", "name", "start", "end", "wide", "every", "since"] (defScope s_Beat___init__) := ⟨rfl, rfl, rfl, by decide +kernel, rfl, by decide +kernel, by decide +kernel⟩

abbrev s_Beat_lets : Stmt := inClass (top 15) 1
theorem sc_Beat_lets : FnScope ["self", "turn", "waited"] ["self", "turn"] (defScope s_Beat_lets) := ⟨rfl, rfl, rfl, by decide +kernel, rfl, by decide +kernel, by decide +kernel⟩

abbrev s_Beat_words : Stmt := inClass (top 15) 2
theorem sc_Beat_words : FnScope ["self"] ["self"] (defScope s_Beat_words) := ⟨rfl, rfl, rfl, by decide +kernel, rfl, by decide +kernel, by decide +kernel⟩

abbrev s_Marked___init__ : Stmt := inClass (top 16) 0
theorem sc_Marked___init__ : FnScope ["self", "name", "start", "end", "wide", "bits"] ["self", "name", "start", "end", "wide", "bits"] (defScope s_Marked___init__) := ⟨rfl, rfl, rfl, by decide +kernel, rfl, by decide +kernel, by decide +kernel⟩

abbrev s_Marked_lets : Stmt := inClass (top 16) 1
theorem sc_Marked_lets : FnScope ["self", "turn"] ["self", "turn"] (defScope s_Marked_lets) := ⟨rfl, rfl, rfl, by decide +kernel, rfl, by decide +kernel, by decide +kernel⟩

abbrev s_Marked_words : Stmt := inClass (top 16) 2
theorem sc_Marked_words : FnScope ["self"] ["self"] (defScope s_Marked_words) := ⟨rfl, rfl, rfl, by decide +kernel, rfl, by decide +kernel, by decide +kernel⟩

abbrev s_Told___init__ : Stmt := inClass (top 17) 0
theorem sc_Told___init__ : FnScope ["self", "name", "start", "end", "letting"] ["self", "name", "start", "end", "letting"] (defScope s_Told___init__) := ⟨rfl, rfl, rfl, by decide +kernel, rfl, by decide +kernel, by decide +kernel⟩

abbrev s_Told_lets : Stmt := inClass (top 17) 1
theorem sc_Told_lets : FnScope ["self", "turn", "letting"] ["self", "turn"] (defScope s_Told_lets) := ⟨rfl, rfl, rfl, by decide +kernel, rfl, by decide +kernel, by decide +kernel⟩

abbrev s_Told_words : Stmt := inClass (top 17) 2
theorem sc_Told_words : FnScope ["self"] ["self"] (defScope s_Told_words) := ⟨rfl, rfl, rfl, by decide +kernel, rfl, by decide +kernel, by decide +kernel⟩

abbrev s_Shut___init__ : Stmt := inClass (top 18) 0
theorem sc_Shut___init__ : FnScope ["self", "door", "turn"] ["self", "door", "turn"] (defScope s_Shut___init__) := ⟨rfl, rfl, rfl, by decide +kernel, rfl, by decide +kernel, by decide +kernel⟩

abbrev s_Shut_lets : Stmt := inClass (top 18) 1
theorem sc_Shut_lets : FnScope ["self", "turn"] ["self", "turn"] (defScope s_Shut_lets) := ⟨rfl, rfl, rfl, by decide +kernel, rfl, by decide +kernel, by decide +kernel⟩

abbrev s_Shut_words : Stmt := inClass (top 18) 2
theorem sc_Shut_words : FnScope ["self"] ["self"] (defScope s_Shut_words) := ⟨rfl, rfl, rfl, by decide +kernel, rfl, by decide +kernel, by decide +kernel⟩

abbrev s_Wider___init__ : Stmt := inClass (top 19) 0
theorem sc_Wider___init__ : FnScope ["self", "door", "turn", "more"] ["self", "door", "turn", "more"] (defScope s_Wider___init__) := ⟨rfl, rfl, rfl, by decide +kernel, rfl, by decide +kernel, by decide +kernel⟩

abbrev s_Wider_lets : Stmt := inClass (top 19) 1
theorem sc_Wider_lets : FnScope ["self", "turn", "number"] ["self", "turn"] (defScope s_Wider_lets) := ⟨rfl, rfl, rfl, by decide +kernel, rfl, by decide +kernel, by decide +kernel⟩

abbrev s_Wider_words : Stmt := inClass (top 19) 2
theorem sc_Wider_words : FnScope ["self"] ["self"] (defScope s_Wider_words) := ⟨rfl, rfl, rfl, by decide +kernel, rfl, by decide +kernel, by decide +kernel⟩

abbrev s__law_cell_at : Stmt := top 21
theorem sc__law_cell_at : FnScope ["_law_script", "_law_k"] ["_law_script", "_law_k"] (defScope s__law_cell_at) := ⟨rfl, rfl, rfl, by decide +kernel, rfl, by decide +kernel, by decide +kernel⟩

abbrev s__law_drawn : Stmt := top 22
theorem sc__law_drawn : FnScope ["_law_cell", "_law_k", "_law_number"] ["_law_cell", "_law_k"] (defScope s__law_drawn) := ⟨rfl, rfl, rfl, by decide +kernel, rfl, by decide +kernel, by decide +kernel⟩

abbrev s__law_name : Stmt := top 23
theorem sc__law_name : FnScope ["_law_cell", "_law_k", "_law_some", "_law_rest", "_law_place"] ["_law_cell", "_law_k"] (defScope s__law_name) := ⟨rfl, rfl, rfl, by decide +kernel, rfl, by decide +kernel, by decide +kernel⟩

abbrev s__law_turn : Stmt := top 24
theorem sc__law_turn : FnScope ["_law_cell"] ["_law_cell"] (defScope s__law_turn) := ⟨rfl, rfl, rfl, by decide +kernel, rfl, by decide +kernel, by decide +kernel⟩

abbrev s__law_letting : Stmt := top 25
theorem sc__law_letting : FnScope ["_law_cell", "_law_turn_here"] ["_law_cell", "_law_turn_here"] (defScope s__law_letting) := ⟨rfl, rfl, rfl, by decide +kernel, rfl, by decide +kernel, by decide +kernel⟩

abbrev s__law_inner : Stmt := top 26
theorem sc__law_inner : FnScope ["_law_script", "_law_names", "_law_wide", "_law_kind", "_law_number", "_law_every", "_law_cell"] ["_law_script", "_law_names", "_law_wide"] (defScope s__law_inner) := ⟨rfl, rfl, rfl, by decide +kernel, rfl, by decide +kernel, by decide +kernel⟩

abbrev s__law_inner_due : Stmt := top 27
theorem sc__law_inner_due : FnScope ["_law_script", "_law_wide", "_law_turn_here", "_law_kind", "_law_number", "_law_every", "_law_lets"] ["_law_script", "_law_wide", "_law_turn_here"] (defScope s__law_inner_due) := ⟨rfl, rfl, rfl, by decide +kernel, rfl, by decide +kernel, by decide +kernel⟩

abbrev s__law_rounds : Stmt := top 28
theorem sc__law_rounds : FnScope ["_law_script", "_law_found", "_law_cell", "_law_more"] ["_law_script"] (defScope s__law_rounds) := ⟨rfl, rfl, rfl, by decide +kernel, rfl, by decide +kernel, by decide +kernel⟩

abbrev s__law_due : Stmt := top 29
theorem sc__law_due : FnScope ["_law_script", "_law_wide", "_law_rounds_here", "_law_turn_here", "_law_found", "_law_kind", "_law_at", "_law_more"] ["_law_script", "_law_wide", "_law_rounds_here", "_law_turn_here"] (defScope s__law_due) := ⟨rfl, rfl, rfl, by decide +kernel, rfl, by decide +kernel, by decide +kernel⟩

abbrev s__law_words : Stmt := top 30
theorem sc__law_words : FnScope ["_law_door", "_law_due_here", "_law_found", "e"] ["_law_door", "_law_due_here"] (defScope s__law_words) := ⟨rfl, rfl, rfl, by decide +kernel, rfl, by decide +kernel, by decide +kernel⟩

abbrev s__law_right : Stmt := top 31
theorem sc__law_right : FnScope ["_law_script", "_law_door", "_law_names", "_law_wide", "_law_rounds_here", "_law_due_here", "_law_turn_here", "_law_found", "_law_kind"] ["_law_script", "_law_door", "_law_names", "_law_wide", "_law_rounds_here", "_law_due_here"] (defScope s__law_right) := ⟨rfl, rfl, rfl, by decide +kernel, rfl, by decide +kernel, by decide +kernel⟩

abbrev s_law : Stmt := top 32
theorem sc_law : FnScope ["_law_script", "_law_names", "_law_wide", "_law_door", "_law_due_here", "_law_doors", "_law_dues", "_law_rounds_here", "_law_kind", "_law_at", "_law_more", "_law_word", "_law_k"] ["_law_script"] (defScope s_law) := ⟨rfl, rfl, rfl, by decide +kernel, rfl, by decide +kernel, by decide +kernel⟩

theorem ll_0 : ("abcdefghijklmnopqrstuvwxyz" : Str).length = 26 := by rw [lit_len]; rfl
theorem ll_1 : ("-" : Str).length = 1 := by rw [lit_len]; rfl
theorem ll_2 : (" " : Str).length = 1 := by rw [lit_len]; rfl
theorem ll_3 : ("name" : Str).length = 4 := by rw [lit_len]; rfl
theorem ll_4 : ("start" : Str).length = 5 := by rw [lit_len]; rfl
theorem ll_5 : ("wide" : Str).length = 4 := by rw [lit_len]; rfl
theorem ll_6 : ("door" : Str).length = 4 := by rw [lit_len]; rfl
theorem ll_7 : ("since" : Str).length = 5 := by rw [lit_len]; rfl
theorem ll_8 : ("until" : Str).length = 5 := by rw [lit_len]; rfl
theorem ll_9 : ("every" : Str).length = 5 := by rw [lit_len]; rfl
theorem ll_10 : ("beat" : Str).length = 4 := by rw [lit_len]; rfl
theorem ll_11 : ("bits" : Str).length = 4 := by rw [lit_len]; rfl
theorem ll_12 : ("marked" : Str).length = 6 := by rw [lit_len]; rfl
theorem ll_13 : ("a Told has no words" : Str).length = 19 := by rw [lit_len]; rfl
theorem ll_14 : ("turn" : Str).length = 4 := by rw [lit_len]; rfl
theorem ll_15 : ("more" : Str).length = 4 := by rw [lit_len]; rfl
theorem ll_16 : (" is no name" : Str).length = 11 := by rw [lit_len]; rfl
theorem ll_17 : (" is no whole number from " : Str).length = 25 := by rw [lit_len]; rfl
theorem ll_18 : (" on" : Str).length = 3 := by rw [lit_len]; rfl
theorem ll_19 : ("end" : Str).length = 3 := by rw [lit_len]; rfl
theorem ll_20 : ("shut" : Str).length = 4 := by rw [lit_len]; rfl
theorem ll_21 : ("wider" : Str).length = 5 := by rw [lit_len]; rfl
theorem ll_22 : ("a" : Str).length = 1 := by rw [lit_len]; rfl
theorem ll_23 : ("z" : Str).length = 1 := by rw [lit_len]; rfl
theorem ll_24 : ("shut " : Str).length = 5 := by rw [lit_len]; rfl
theorem ll_25 : ("wider " : Str).length = 6 := by rw [lit_len]; rfl
structure DCls (K : PySem.W.Frag) (C : Addr) : Prop where
  ic : ICls K C
  n_name : NoAttr K C "name"
  n_start : NoAttr K C "start"
  n_end : NoAttr K C "end"
  n_wide : NoAttr K C "wide"
  n_since : NoAttr K C "since"
  n_until : NoAttr K C "until"
  n_every : NoAttr K C "every"
  n_bits : NoAttr K C "bits"
  n_letting : NoAttr K C "letting"
  n_inner : NoAttr K C "inner"
  n_turn : NoAttr K C "turn"
  n_more : NoAttr K C "more"
set_option genInjectivity false in
set_option genSizeOfSpec false in
structure M (K : PySem.W.Frag) (mg : Str → Option Value) where
  a_is_whole : Addr
  d_is_whole : FuncData
  F_is_whole : FunV K "is_whole" "is_whole" s_is_whole a_is_whole d_is_whole
  b_is_whole : Binds K d_is_whole ["thing"] []
  a_is_name : Addr
  d_is_name : FuncData
  F_is_name : FunV K "is_name" "is_name" s_is_name a_is_name d_is_name
  b_is_name : Binds K d_is_name ["thing"] []
  a_need_name : Addr
  d_need_name : FuncData
  F_need_name : FunV K "need_name" "need_name" s_need_name a_need_name d_need_name
  b_need_name : Binds K d_need_name ["part", "thing"] []
  a_need_whole : Addr
  d_need_whole : FuncData
  F_need_whole : FunV K "need_whole" "need_whole" s_need_whole a_need_whole d_need_whole
  b_need_whole : Binds K d_need_whole ["part", "thing", "least"] []
  a_row_of_words : Addr
  d_row_of_words : FuncData
  F_row_of_words : FunV K "row_of_words" "row_of_words" s_row_of_words a_row_of_words d_row_of_words
  b_row_of_words : Binds K d_row_of_words ["kind", "door", "numbers"] []
  a__law_cell_at : Addr
  d__law_cell_at : FuncData
  F__law_cell_at : FunV K "_law_cell_at" "_law_cell_at" s__law_cell_at a__law_cell_at d__law_cell_at
  b__law_cell_at : Binds K d__law_cell_at ["_law_script", "_law_k"] []
  a__law_drawn : Addr
  d__law_drawn : FuncData
  F__law_drawn : FunV K "_law_drawn" "_law_drawn" s__law_drawn a__law_drawn d__law_drawn
  b__law_drawn : Binds K d__law_drawn ["_law_cell", "_law_k"] []
  a__law_name : Addr
  d__law_name : FuncData
  F__law_name : FunV K "_law_name" "_law_name" s__law_name a__law_name d__law_name
  b__law_name : Binds K d__law_name ["_law_cell", "_law_k"] []
  a__law_turn : Addr
  d__law_turn : FuncData
  F__law_turn : FunV K "_law_turn" "_law_turn" s__law_turn a__law_turn d__law_turn
  b__law_turn : Binds K d__law_turn ["_law_cell"] []
  a__law_letting : Addr
  d__law_letting : FuncData
  F__law_letting : FunV K "_law_letting" "_law_letting" s__law_letting a__law_letting d__law_letting
  b__law_letting : Binds K d__law_letting ["_law_cell", "_law_turn_here"] []
  a__law_inner : Addr
  d__law_inner : FuncData
  F__law_inner : FunV K "_law_inner" "_law_inner" s__law_inner a__law_inner d__law_inner
  b__law_inner : Binds K d__law_inner ["_law_script", "_law_names", "_law_wide"] []
  a__law_inner_due : Addr
  d__law_inner_due : FuncData
  F__law_inner_due : FunV K "_law_inner_due" "_law_inner_due" s__law_inner_due a__law_inner_due d__law_inner_due
  b__law_inner_due : Binds K d__law_inner_due ["_law_script", "_law_wide", "_law_turn_here"] []
  a__law_rounds : Addr
  d__law_rounds : FuncData
  F__law_rounds : FunV K "_law_rounds" "_law_rounds" s__law_rounds a__law_rounds d__law_rounds
  b__law_rounds : Binds K d__law_rounds ["_law_script"] []
  a__law_due : Addr
  d__law_due : FuncData
  F__law_due : FunV K "_law_due" "_law_due" s__law_due a__law_due d__law_due
  b__law_due : Binds K d__law_due ["_law_script", "_law_wide", "_law_rounds_here", "_law_turn_here"] []
  a__law_words : Addr
  d__law_words : FuncData
  F__law_words : FunV K "_law_words" "_law_words" s__law_words a__law_words d__law_words
  b__law_words : Binds K d__law_words ["_law_door", "_law_due_here"] []
  a__law_right : Addr
  d__law_right : FuncData
  F__law_right : FunV K "_law_right" "_law_right" s__law_right a__law_right d__law_right
  b__law_right : Binds K d__law_right ["_law_script", "_law_door", "_law_names", "_law_wide", "_law_rounds_here", "_law_due_here"] []
  a_law : Addr
  d_law : FuncData
  F_law : FunV K "law" "law" s_law a_law d_law
  b_law : Binds K d_law ["_law_script"] []
  a_Door___init__ : Addr
  d_Door___init__ : FuncData
  F_Door___init__ : FunV K "__init__" "Door.__init__" s_Door___init__ a_Door___init__ d_Door___init__
  b_Door___init__ : Binds K d_Door___init__ ["self", "name", "start", "end", "wide"] []
  a_Door_lets : Addr
  d_Door_lets : FuncData
  F_Door_lets : FunV K "lets" "Door.lets" s_Door_lets a_Door_lets d_Door_lets
  b_Door_lets : Binds K d_Door_lets ["self", "turn"] []
  a_Door_is_exit : Addr
  d_Door_is_exit : FuncData
  F_Door_is_exit : FunV K "is_exit" "Door.is_exit" s_Door_is_exit a_Door_is_exit d_Door_is_exit
  b_Door_is_exit : Binds K d_Door_is_exit ["self"] []
  a_Door_words : Addr
  d_Door_words : FuncData
  F_Door_words : FunV K "words" "Door.words" s_Door_words a_Door_words d_Door_words
  b_Door_words : Binds K d_Door_words ["self"] []
  a_Since___init__ : Addr
  d_Since___init__ : FuncData
  F_Since___init__ : FunV K "__init__" "Since.__init__" s_Since___init__ a_Since___init__ d_Since___init__
  b_Since___init__ : Binds K d_Since___init__ ["self", "name", "start", "end", "wide", "since"] []
  a_Since_lets : Addr
  d_Since_lets : FuncData
  F_Since_lets : FunV K "lets" "Since.lets" s_Since_lets a_Since_lets d_Since_lets
  b_Since_lets : Binds K d_Since_lets ["self", "turn"] []
  a_Since_words : Addr
  d_Since_words : FuncData
  F_Since_words : FunV K "words" "Since.words" s_Since_words a_Since_words d_Since_words
  b_Since_words : Binds K d_Since_words ["self"] []
  a_Until___init__ : Addr
  d_Until___init__ : FuncData
  F_Until___init__ : FunV K "__init__" "Until.__init__" s_Until___init__ a_Until___init__ d_Until___init__
  b_Until___init__ : Binds K d_Until___init__ ["self", "name", "start", "end", "wide", "until"] []
  a_Until_lets : Addr
  d_Until_lets : FuncData
  F_Until_lets : FunV K "lets" "Until.lets" s_Until_lets a_Until_lets d_Until_lets
  b_Until_lets : Binds K d_Until_lets ["self", "turn"] []
  a_Until_words : Addr
  d_Until_words : FuncData
  F_Until_words : FunV K "words" "Until.words" s_Until_words a_Until_words d_Until_words
  b_Until_words : Binds K d_Until_words ["self"] []
  a_Beat___init__ : Addr
  d_Beat___init__ : FuncData
  F_Beat___init__ : FunV K "__init__" "Beat.__init__" s_Beat___init__ a_Beat___init__ d_Beat___init__
  b_Beat___init__ : Binds K d_Beat___init__ ["self", "name", "start", "end", "wide", "every", "since"] []
  a_Beat_lets : Addr
  d_Beat_lets : FuncData
  F_Beat_lets : FunV K "lets" "Beat.lets" s_Beat_lets a_Beat_lets d_Beat_lets
  b_Beat_lets : Binds K d_Beat_lets ["self", "turn"] []
  a_Beat_words : Addr
  d_Beat_words : FuncData
  F_Beat_words : FunV K "words" "Beat.words" s_Beat_words a_Beat_words d_Beat_words
  b_Beat_words : Binds K d_Beat_words ["self"] []
  a_Marked___init__ : Addr
  d_Marked___init__ : FuncData
  F_Marked___init__ : FunV K "__init__" "Marked.__init__" s_Marked___init__ a_Marked___init__ d_Marked___init__
  b_Marked___init__ : Binds K d_Marked___init__ ["self", "name", "start", "end", "wide", "bits"] []
  a_Marked_lets : Addr
  d_Marked_lets : FuncData
  F_Marked_lets : FunV K "lets" "Marked.lets" s_Marked_lets a_Marked_lets d_Marked_lets
  b_Marked_lets : Binds K d_Marked_lets ["self", "turn"] []
  a_Marked_words : Addr
  d_Marked_words : FuncData
  F_Marked_words : FunV K "words" "Marked.words" s_Marked_words a_Marked_words d_Marked_words
  b_Marked_words : Binds K d_Marked_words ["self"] []
  a_Told___init__ : Addr
  d_Told___init__ : FuncData
  F_Told___init__ : FunV K "__init__" "Told.__init__" s_Told___init__ a_Told___init__ d_Told___init__
  b_Told___init__ : Binds K d_Told___init__ ["self", "name", "start", "end", "letting"] []
  a_Told_lets : Addr
  d_Told_lets : FuncData
  F_Told_lets : FunV K "lets" "Told.lets" s_Told_lets a_Told_lets d_Told_lets
  b_Told_lets : Binds K d_Told_lets ["self", "turn"] []
  a_Told_words : Addr
  d_Told_words : FuncData
  F_Told_words : FunV K "words" "Told.words" s_Told_words a_Told_words d_Told_words
  b_Told_words : Binds K d_Told_words ["self"] []
  a_Shut___init__ : Addr
  d_Shut___init__ : FuncData
  F_Shut___init__ : FunV K "__init__" "Shut.__init__" s_Shut___init__ a_Shut___init__ d_Shut___init__
  b_Shut___init__ : Binds K d_Shut___init__ ["self", "door", "turn"] []
  a_Shut_lets : Addr
  d_Shut_lets : FuncData
  F_Shut_lets : FunV K "lets" "Shut.lets" s_Shut_lets a_Shut_lets d_Shut_lets
  b_Shut_lets : Binds K d_Shut_lets ["self", "turn"] []
  a_Shut_words : Addr
  d_Shut_words : FuncData
  F_Shut_words : FunV K "words" "Shut.words" s_Shut_words a_Shut_words d_Shut_words
  b_Shut_words : Binds K d_Shut_words ["self"] []
  a_Wider___init__ : Addr
  d_Wider___init__ : FuncData
  F_Wider___init__ : FunV K "__init__" "Wider.__init__" s_Wider___init__ a_Wider___init__ d_Wider___init__
  b_Wider___init__ : Binds K d_Wider___init__ ["self", "door", "turn", "more"] []
  a_Wider_lets : Addr
  d_Wider_lets : FuncData
  F_Wider_lets : FunV K "lets" "Wider.lets" s_Wider_lets a_Wider_lets d_Wider_lets
  b_Wider_lets : Binds K d_Wider_lets ["self", "turn"] []
  a_Wider_words : Addr
  d_Wider_words : FuncData
  F_Wider_words : FunV K "words" "Wider.words" s_Wider_words a_Wider_words d_Wider_words
  b_Wider_words : Binds K d_Wider_words ["self"] []
  m_is_whole : mg "is_whole" = some (.ref a_is_whole)
  m_is_name : mg "is_name" = some (.ref a_is_name)
  m_need_name : mg "need_name" = some (.ref a_need_name)
  m_need_whole : mg "need_whole" = some (.ref a_need_whole)
  m_row_of_words : mg "row_of_words" = some (.ref a_row_of_words)
  m__law_cell_at : mg "_law_cell_at" = some (.ref a__law_cell_at)
  m__law_drawn : mg "_law_drawn" = some (.ref a__law_drawn)
  m__law_name : mg "_law_name" = some (.ref a__law_name)
  m__law_turn : mg "_law_turn" = some (.ref a__law_turn)
  m__law_letting : mg "_law_letting" = some (.ref a__law_letting)
  m__law_inner : mg "_law_inner" = some (.ref a__law_inner)
  m__law_inner_due : mg "_law_inner_due" = some (.ref a__law_inner_due)
  m__law_rounds : mg "_law_rounds" = some (.ref a__law_rounds)
  m__law_due : mg "_law_due" = some (.ref a__law_due)
  m__law_words : mg "_law_words" = some (.ref a__law_words)
  m__law_right : mg "_law_right" = some (.ref a__law_right)
  m_law : mg "law" = some (.ref a_law)
  bd_Door___init___1 : ∃ ds, Vals [.int 1] ds ∧ Binds K d_Door___init__ ["self", "name", "start", "end", "wide"] ds
  bd_Door___init___2 : ∃ ds, Vals [.non, .int 1] ds ∧ Binds K d_Door___init__ ["self", "name", "start", "end", "wide"] ds
  bd_Beat___init___1 : ∃ ds, Vals [.int 0] ds ∧ Binds K d_Beat___init__ ["self", "name", "start", "end", "wide", "every", "since"] ds
  C_Door : Addr
  m_Door : mg "Door" = some (.ref C_Door)
  C_Since : Addr
  m_Since : mg "Since" = some (.ref C_Since)
  C_Until : Addr
  m_Until : mg "Until" = some (.ref C_Until)
  C_Beat : Addr
  m_Beat : mg "Beat" = some (.ref C_Beat)
  C_Marked : Addr
  m_Marked : mg "Marked" = some (.ref C_Marked)
  C_Told : Addr
  m_Told : mg "Told" = some (.ref C_Told)
  C_Shut : Addr
  m_Shut : mg "Shut" = some (.ref C_Shut)
  C_Wider : Addr
  m_Wider : mg "Wider" = some (.ref C_Wider)
  C_OutError : Addr
  m_OutError : mg "OutError" = some (.ref C_OutError)
  C_NoDoor : Addr
  m_NoDoor : mg "NoDoor" = some (.ref C_NoDoor)
  C_NoText : Addr
  m_NoText : mg "NoText" = some (.ref C_NoText)
  dc_Door : DCls K C_Door
  mk_Door : Mk K C_Door a_Door___init__
  mt_Door_lets : Meth K C_Door "lets" a_Door_lets
  mt_Door_is_exit : Meth K C_Door "is_exit" a_Door_is_exit
  mt_Door_words : Meth K C_Door "words" a_Door_words
  dc_Since : DCls K C_Since
  mk_Since : Mk K C_Since a_Since___init__
  mt_Since_lets : Meth K C_Since "lets" a_Since_lets
  mt_Since_words : Meth K C_Since "words" a_Since_words
  mt_Since_is_exit : Meth K C_Since "is_exit" a_Door_is_exit
  dc_Until : DCls K C_Until
  mk_Until : Mk K C_Until a_Until___init__
  mt_Until_lets : Meth K C_Until "lets" a_Until_lets
  mt_Until_words : Meth K C_Until "words" a_Until_words
  mt_Until_is_exit : Meth K C_Until "is_exit" a_Door_is_exit
  dc_Beat : DCls K C_Beat
  mk_Beat : Mk K C_Beat a_Beat___init__
  mt_Beat_lets : Meth K C_Beat "lets" a_Beat_lets
  mt_Beat_words : Meth K C_Beat "words" a_Beat_words
  mt_Beat_is_exit : Meth K C_Beat "is_exit" a_Door_is_exit
  dc_Marked : DCls K C_Marked
  mk_Marked : Mk K C_Marked a_Marked___init__
  mt_Marked_lets : Meth K C_Marked "lets" a_Marked_lets
  mt_Marked_words : Meth K C_Marked "words" a_Marked_words
  mt_Marked_is_exit : Meth K C_Marked "is_exit" a_Door_is_exit
  dc_Told : DCls K C_Told
  mk_Told : Mk K C_Told a_Told___init__
  mt_Told_lets : Meth K C_Told "lets" a_Told_lets
  mt_Told_words : Meth K C_Told "words" a_Told_words
  mt_Told_is_exit : Meth K C_Told "is_exit" a_Door_is_exit
  dc_Shut : DCls K C_Shut
  mk_Shut : Mk K C_Shut a_Shut___init__
  mt_Shut_lets : Meth K C_Shut "lets" a_Shut_lets
  mt_Shut_words : Meth K C_Shut "words" a_Shut_words
  mt_Shut_is_exit : Meth K C_Shut "is_exit" a_Door_is_exit
  dc_Wider : DCls K C_Wider
  mk_Wider : Mk K C_Wider a_Wider___init__
  mt_Wider_lets : Meth K C_Wider "lets" a_Wider_lets
  mt_Wider_words : Meth K C_Wider "words" a_Wider_words
  mt_Wider_is_exit : Meth K C_Wider "is_exit" a_Door_is_exit
  dm_Door___init__ : PySem.W.specialIn K (.ref C_Door) "__getattribute__" = some (some (.builtin "type.__getattribute__")) ∧ PySem.W.readsIn K C_Door (.type "type") = true ∧ PySem.W.findCls K (.ref C_Door) (.type "type") "__init__" = some (.val (.ref a_Door___init__))
  ii_Door_Door : PySem.W.kitOne K (.ref C_Door) (.ref C_Door) = some true
  ii_Door_Shut : PySem.W.kitOne K (.ref C_Door) (.ref C_Shut) = some false
  ii_Door_Wider : PySem.W.kitOne K (.ref C_Door) (.ref C_Wider) = some false
  ii_Door_Told : PySem.W.kitOne K (.ref C_Door) (.ref C_Told) = some false
  ii_Since_Door : PySem.W.kitOne K (.ref C_Since) (.ref C_Door) = some true
  ii_Since_Shut : PySem.W.kitOne K (.ref C_Since) (.ref C_Shut) = some false
  ii_Since_Wider : PySem.W.kitOne K (.ref C_Since) (.ref C_Wider) = some false
  ii_Since_Told : PySem.W.kitOne K (.ref C_Since) (.ref C_Told) = some false
  ii_Until_Door : PySem.W.kitOne K (.ref C_Until) (.ref C_Door) = some true
  ii_Until_Shut : PySem.W.kitOne K (.ref C_Until) (.ref C_Shut) = some false
  ii_Until_Wider : PySem.W.kitOne K (.ref C_Until) (.ref C_Wider) = some false
  ii_Until_Told : PySem.W.kitOne K (.ref C_Until) (.ref C_Told) = some false
  ii_Beat_Door : PySem.W.kitOne K (.ref C_Beat) (.ref C_Door) = some true
  ii_Beat_Shut : PySem.W.kitOne K (.ref C_Beat) (.ref C_Shut) = some false
  ii_Beat_Wider : PySem.W.kitOne K (.ref C_Beat) (.ref C_Wider) = some false
  ii_Beat_Told : PySem.W.kitOne K (.ref C_Beat) (.ref C_Told) = some false
  ii_Marked_Door : PySem.W.kitOne K (.ref C_Marked) (.ref C_Door) = some true
  ii_Marked_Shut : PySem.W.kitOne K (.ref C_Marked) (.ref C_Shut) = some false
  ii_Marked_Wider : PySem.W.kitOne K (.ref C_Marked) (.ref C_Wider) = some false
  ii_Marked_Told : PySem.W.kitOne K (.ref C_Marked) (.ref C_Told) = some false
  ii_Told_Door : PySem.W.kitOne K (.ref C_Told) (.ref C_Door) = some true
  ii_Told_Shut : PySem.W.kitOne K (.ref C_Told) (.ref C_Shut) = some false
  ii_Told_Wider : PySem.W.kitOne K (.ref C_Told) (.ref C_Wider) = some false
  ii_Told_Told : PySem.W.kitOne K (.ref C_Told) (.ref C_Told) = some true
  ii_Shut_Door : PySem.W.kitOne K (.ref C_Shut) (.ref C_Door) = some true
  ii_Shut_Shut : PySem.W.kitOne K (.ref C_Shut) (.ref C_Shut) = some true
  ii_Shut_Wider : PySem.W.kitOne K (.ref C_Shut) (.ref C_Wider) = some false
  ii_Shut_Told : PySem.W.kitOne K (.ref C_Shut) (.ref C_Told) = some false
  ii_Wider_Door : PySem.W.kitOne K (.ref C_Wider) (.ref C_Door) = some true
  ii_Wider_Shut : PySem.W.kitOne K (.ref C_Wider) (.ref C_Shut) = some false
  ii_Wider_Wider : PySem.W.kitOne K (.ref C_Wider) (.ref C_Wider) = some true
  ii_Wider_Told : PySem.W.kitOne K (.ref C_Wider) (.ref C_Told) = some false
  x_NoText : ExcI K C_NoText
  ek_NoText : ExcK K C_NoText
  em_NoText_NoText : PySem.W.exmOne K (.ref C_NoText) (.ref C_NoText) = some true
  ix_NoText_NoDoor : PySem.W.kitOne K (.ref C_NoText) (.ref C_NoDoor) = some false
  g_ValueError : mg "ValueError" = none
  g_range : mg "range" = none
  g_isinstance : mg "isinstance" = none
  g_int : mg "int" = none
  g_str : mg "str" = none
  g_all : mg "all" = none
  g_len : mg "len" = none
  g_list : mg "list" = none
  g_bool : mg "bool" = none
  g_min : mg "min" = none
  c_LONGEST_NAME : ∃ t : Tok, mg "LONGEST_NAME" = some (.int 8 t)
local macro_rules | `(tactic| walk_at "hp") => `(tactic| first | assumption | (refine' Same.at ?s ?h; (case s => assumption); (case h => walk_at "hp")) | (refine' SqL.of ?h; (case h => walk_at "hp")) | (refine' SqT.of ?h; (case h => walk_at "hp")) | (refine' Same.seq ?s ?h; (case s => assumption); (case h => walk_at "hp")) | (refine' Same.sqT ?s ?h; (case s => assumption); (case h => walk_at "hp")))
local macro_rules | `(tactic| walk_at "sm") => `(tactic| first | assumption | exact Same.refl _ | (refine' Same.snoc ?s ?h; (case s => assumption); (case h => walk_at "sm")))
local macro_rules | `(tactic| walk_at "sb") => `(tactic| first | assumption | exact SameBut.refl | (refine' SameBut.snoc ?s ?h; (case s => assumption); (case h => walk_at "sb")) | (refine' SameBut.snocS ?s ?h; (case s => assumption); (case h => walk_at "sb")))
local macro_rules | `(tactic| walk_at "lk") => `(tactic| first | assumption | exact lk_nil | (with_reducible exact lk_same) | (refine' lk_ne ?d ?h; (case d => decide +kernel); (case h => walk_at "lk")))
local macro_rules | `(tactic| walk_at "sz") => `(tactic| first | omega | (simp only [str_app_len, one_len, ll_0, ll_1, ll_2, ll_3, ll_4, ll_5, ll_6, ll_7, ll_8, ll_9, ll_10, ll_11, ll_12, ll_13, ll_14, ll_15, ll_16, ll_17, ll_18, ll_19, ll_20, ll_21, ll_22, ll_23, ll_24, ll_25, sizeLine_eq, List.length_cons, List.length_nil, List.length_append, List.length_map]; done) | (simp only [str_app_len, one_len, ll_0, ll_1, ll_2, ll_3, ll_4, ll_5, ll_6, ll_7, ll_8, ll_9, ll_10, ll_11, ll_12, ll_13, ll_14, ll_15, ll_16, ll_17, ll_18, ll_19, ll_20, ll_21, ll_22, ll_23, ll_24, ll_25, sizeLine_eq, List.length_cons, List.length_nil, List.length_append, List.length_map]; omega) | (simp only [str_app_len, one_len, ll_0, ll_1, ll_2, ll_3, ll_4, ll_5, ll_6, ll_7, ll_8, ll_9, ll_10, ll_11, ll_12, ll_13, ll_14, ll_15, ll_16, ll_17, ll_18, ll_19, ll_20, ll_21, ll_22, ll_23, ll_24, ll_25, sizeLine_eq, List.length_cons, List.length_nil, List.length_append, List.length_map] at *; omega))
local macro_rules | `(tactic| walk_at "sd") => `(tactic| first | omega | decide | assumption)
local macro_rules | `(tactic| walk_at "dc") => `(tactic| first | ((with_reducible refine ICls.cl (DCls.ic ?_)); assumption) | ((with_reducible refine DCls.ic ?_); assumption) | ((with_reducible refine DCls.n_name ?_); assumption) | ((with_reducible refine DCls.n_start ?_); assumption) | ((with_reducible refine DCls.n_end ?_); assumption) | ((with_reducible refine DCls.n_wide ?_); assumption) | ((with_reducible refine DCls.n_since ?_); assumption) | ((with_reducible refine DCls.n_until ?_); assumption) | ((with_reducible refine DCls.n_every ?_); assumption) | ((with_reducible refine DCls.n_bits ?_); assumption) | ((with_reducible refine DCls.n_letting ?_); assumption) | ((with_reducible refine DCls.n_inner ?_); assumption) | ((with_reducible refine DCls.n_turn ?_); assumption) | ((with_reducible refine DCls.n_more ?_); assumption))
local macro_rules | `(tactic| walk_at "rd1") => `(tactic| first | (with_reducible first | refine rd_seq ?_ | refine rd_asg ?_ | refine rd_C ?_ | refine rd_op ?_ | refine rd_v0 ?_ | refine rd_v1 ?_ | refine rd_v2 ?_ | refine rd_v3 ?_ | refine rd_v4 ?_ | refine rd_v5 ?_ | refine rd_v6 ?_ | refine rd_v7 ?_ | refine rd_v8 ?_ | refine rd_v9 ?_ | refine rd_v10 ?_ | refine rd_v11 ?_ | refine rd_v12 ?_ | refine rd_cons ?_ | refine rd_nil ?_ | refine rd_I0 ?_ | refine rd_if ?_ | refine rd_test ?_ | refine rd_tB ?_ | refine rd_exb ?_ | refine rd_call ?_ | refine rd_cb ?_ | refine rd_fld ?_ | refine rd_md ?_ | refine rd_ifT ?_ | refine rd_ifF ?_ | refine rd_ifnT ?_ | refine rd_ifnF ?_ | refine rd_s0 ?_ | refine rd_s1 ?_ | refine rd_s2 ?_ | refine rd_s3 ?_ | refine rd_s4 ?_ | refine rd_s5 ?_ | refine rd_s6 ?_ | refine rd_s7 ?_ | refine rd_s8 ?_ | refine rd_s9 ?_ | refine rd_s10 ?_ | refine rd_s11 ?_ | refine rd_s12 ?_ | refine rd_ret ?_ | refine rd_next ?_ | refine rd_drop ?_ | refine rd_retN ?_ | refine rd_not ?_ | refine rd_and ?_ | refine rd_or ?_ | refine rd_andV ?_ | refine rd_orV ?_ | refine rd_notV ?_ | refine rd_ifE ?_ | refine rd_chain ?_ | refine rd_un ?_ | refine rd_U ?_ | refine rd_eqI ?_ | refine rd_eqB ?_ | refine rd_eqS ?_ | refine rd_eqSN ?_ | refine rd_eqNS ?_ | refine rd_eqNN ?_ | refine rd_neI ?_ | refine rd_neB ?_ | refine rd_neS ?_ | refine rd_neNN ?_ | refine rd_isNN ?_ | refine rd_isNS ?_ | refine rd_isNI ?_ | refine rd_isNR ?_ | refine rd_ntNN ?_ | refine rd_ntNS ?_ | refine rd_ntNI ?_ | refine rd_ntNR ?_ | refine rd_isNV ?_ | refine rd_ntNV ?_ | refine rd_lst ?_ | refine rd_tup ?_ | refine rd_sfld ?_ | refine rd_make ?_ | refine rd_comp ?_ | refine rd_sl ?_ | refine rd_bm ?_ | refine rd_bm0 ?_ | refine rd_bmS ?_ | refine rd_bm0I ?_ | refine rd_isiII ?_ | refine rd_isiIB ?_ | refine rd_isiBB ?_ | refine rd_isiBI ?_ | refine rd_isiSS ?_ | refine rd_isiNS ?_ | refine rd_max2 ?_ | refine rd_min2 ?_ | refine rd_intB ?_ | refine rd_intI ?_ | refine rd_noPart ?_ | refine rd_part ?_ | refine rd_exi ?_ | refine rd_gsub ?_ | refine rd_gnil ?_ | refine rd_gcons ?_ | refine rd_for ?_ | refine rd_iList ?_ | refine rd_iTup ?_ | refine rd_iRng1 ?_ | refine rd_iRng2 ?_ | refine rd_iStr ?_ | refine rd_iStrV ?_ | refine rd_break ?_ | refine rd_cont ?_ | refine rd_aug ?_) | ((with_reducible refine' rd_mod ?s ?_); (case s => decide)) | ((with_reducible refine' rd_modF ?s ?_); (case s => walk_at "sd"); intro h0' h1') | ((with_reducible refine' rd_repL ?e ?a ?b ?s ?_); (case e => walk_at "hp"); (case a => decide); (case b => decide); (case s => first | (simp; done) | (simp [sizeLine_eq]; done) | walk_at "sz"); intro p' H' n' S' e') | ((with_reducible refine' rd_div ?s ?r ?_); (case s => walk_at "sd"); (case r => walk_at "sd")) | ((with_reducible refine' rd_mulL ?s ?r ?_); (case s => walk_at "sd"); (case r => walk_at "sd")) | ((with_reducible refine' rd_mulR ?s ?r ?_); (case s => walk_at "sd"); (case r => walk_at "sd")) | ((with_reducible refine' rd_newL ?s ?_); (case s => walk_at "sz"); intro p' H' n' S' e') | ((with_reducible refine' rd_newT ?s ?_); (case s => walk_at "sz"); intro p' H' n' S' e') | ((with_reducible refine rd_newF ?_); intro p' H' n' S' e') | ((with_reducible refine' rd_fldV ?e ?c ?n ?l ?_); (case e => walk_at "hp"); (case c => walk_at "dc"); (case n => walk_at "dc"); (case l => walk_at "lk")) | ((with_reducible refine' rd_sfldV ?e ?c ?n ?l ?_); (case e => walk_at "hp"); (case c => walk_at "dc"); (case n => walk_at "dc"); (case l => kernel_rfl); intro H' B' e') | ((with_reducible refine' rd_mdV ?e ?l ?F ?_); (case e => walk_at "hp"); (case l => walk_at "lk"); (case F => assumption)) | ((with_reducible refine' rd_isiC ?e ?i ?k ?_); (case e => walk_at "hp"); (case i => walk_at "dc"); (case k => assumption)) | ((with_reducible refine' rd_ixL ?e ?l ?_); (case e => walk_at "hp"); (case l => rfl)) | ((with_reducible refine' rd_ix2i ?e ?s ?r ?_); (case e => walk_at "hp"); (case s => walk_at "sd"); (case r => walk_at "sd"); intro v' hv') | ((with_reducible refine' rd_ix3i ?e ?s ?r ?_); (case e => walk_at "hp"); (case s => walk_at "sd"); (case r => walk_at "sd"); intro v' hv') | ((with_reducible refine' rd_setLm ?e ?l ?_); (case e => walk_at "hp"); (case l => rfl); intro H' B' e') | ((with_reducible refine' rd_lenL ?e ?_); (case e => walk_at "hp")) | ((with_reducible refine' rd_lenS ?e ?_); (case e => walk_at "sz")) | ((with_reducible refine' rd_addS ?e ?_); (case e => walk_at "sz")) | ((with_reducible refine' rd_slS ?e ?_); (case e => walk_at "sz"); intro hl') | ((with_reducible refine' rd_slI ?e ?_); (case e => walk_at "hp"); intro p' H' n' S' e') | ((with_reducible refine' rd_slL ?e ?_); (case e => walk_at "hp"); intro p' H' n' S' e') | ((with_reducible refine' rd_catL ?e ?f ?s ?_); (case e => walk_at "hp"); (case f => walk_at "hp"); (case s => walk_at "sz"); intro p' H' n' S' e') | ((with_reducible refine' rd_listOf ?e ?_); (case e => walk_at "hp"); intro p' H' n' S' e') | ((with_reducible refine' rd_bmL ?e ?_); (case e => walk_at "hp")) | ((with_reducible refine' rd_iListV ?e ?_); (case e => walk_at "hp")) | ((with_reducible refine' rd_iRng1V ?s ?r ?_); (case s => walk_at "sd"); (case r => walk_at "sd")) | ((with_reducible refine' rd_iRng2V ?s ?r ?t ?u ?_); (case s => walk_at "sd"); (case r => walk_at "sd"); (case t => walk_at "sd"); (case u => walk_at "sd")) | ((with_reducible refine' rd_str ?s ?r ?_); (case s => walk_at "sd"); (case r => walk_at "sd"); intro hl') | ((with_reducible refine' rd_gtupL ?e ?l ?_); (case e => walk_at "hp"); (case l => rfl)) | ((with_reducible refine' rd_gtup ?e ?l ?_); (case e => walk_at "hp"); (case l => rfl)) | ((with_reducible refine' rd_ifP ?s ?_); (case s => walk_at "sd")) | ((with_reducible refine' rd_ifN ?s ?_); (case s => walk_at "sd")) | ((with_reducible refine' rd_ifnP ?s ?_); (case s => walk_at "sd")) | ((with_reducible refine' rd_ifnN ?s ?_); (case s => walk_at "sd")))
local macro_rules | `(tactic| walk_at "go") => `(tactic| repeat walk_at "rd1")
local macro_rules | `(tactic| walk_at "gs") => `(tactic| repeat ((fail_if_success (with_reducible refine rd_seqIf ?_)); walk_at "rd1"))
local macro_rules | `(tactic| walk_at "nn") => `(tactic| repeat first | exact nn_nil | refine nn_app ?_ ?_ | refine nn_cons (by omega) ?_ | exact nn_map (fun n => by omega))
section
variable {P : Program} {w : World} {K : PySem.W.Frag} {mg : Str → Option Value} {base : Heap}
/-! ### whole numbers, names -/
def wholeB : V → Bool
  | .int _ => true
  | _ => false
def sp_whole (K : PySem.W.Frag) : Sp := fun vs H Q _ => ∃ x n, vs = [x] ∧ BTy K H x n ∧ Q (.bl (wholeB x)) H
theorem r_wholeI {H : Hp} {Q : VK} {E : XK} {i : Int} (h : Q (.bl true) H) : sp_whole K [.int i] H Q E := ⟨_, _, rfl, .int i, h⟩
theorem ok_is_whole (m : M K mg) : FnOk P w K mg base CX0 1 m.a_is_whole m.d_is_whole ["thing"] (sp_whole K) := by
  refine m.F_is_whole.ok sc_is_whole (fun vs H Q E h => ?_) (fun cdv A outer s H vs Q E hr h => ?_)
  · obtain ⟨x, n, rfl, b, k⟩ := h
    rfl
  · obtain ⟨x, n, rfl, b, k⟩ := h
    have nd := sc_is_whole.nd
    have hu0 := Room.units0 hr
    refine ⟨_, (pss_one (ps_ret (pe_and (pe_callB call_isi rfl m.g_isinstance bt_isinstance (pa_cons (pv 0) (pa_cons (pe_ty rfl m.g_int bt_int) pa_nil))) (pe_one (pe_not (pe_callB call_isi rfl m.g_isinstance bt_isinstance (pa_cons (pv 0) (pa_cons (pe_ty rfl m.g_bool bt_bool) pa_nil)))))))), ?_⟩
    refine rd_start (σ := [some (x)]) rfl ?_
    refine ⟨_, rfl, _, _, _, _, _, rfl, b.ty, rfl, kit_b b "int" (.inl rfl), _, rfl, ?_⟩
    refine ite2 (fun h1 => ⟨_, rfl, _, _, _, _, _, rfl, b.ty, rfl, kit_b b "bool" (.inr (.inl rfl)), _, rfl, ?_⟩) (fun h1 => ?_)
    · cases b <;> first | exact k | exact absurd h1 (by decide)
    · cases b <;> first | exact k | exact absurd (by decide) h1
theorem fc_is_whole (m : M K mg) : Fc P w K mg base "is_whole" 1 ["thing"] (sp_whole K) := ⟨_, _, m.m_is_whole, m.F_is_whole.kp, m.b_is_whole, ok_is_whole m⟩
def nmB : V → Bool
  | .str z => nameB z
  | _ => false
def sp_name (K : PySem.W.Frag) : Sp := fun vs H Q _ => ∃ x n, vs = [x] ∧ BTy K H x n ∧ (∀ z, x = .str z → z.length ≤ 1000) ∧ ∀ H', Same H H' → Q (.bl (nmB x)) H'
theorem r_nameT {H : Hp} {Q : VK} {E : XK} {z : Str} (hz : nameB z = true) (h : ∀ H', Same H H' → Q (.bl true) H') : sp_name K [.str z] H Q E :=
  ⟨_, _, rfl, .str z, fun y e => by cases e; exact Nat.le_trans (nameB_len hz) (by decide), fun H' s => by rw [show nmB (.str z) = true from hz]; exact h H' s⟩
theorem le1 (a c : Nat) : (!decide ([c] < [a])) = decide (a ≤ c) := by
  have : ([c] < [a]) ↔ c < a := by
    constructor
    · intro h
      cases h with
      | rel h => exact h
      | cons h => cases h
    · exact fun h => .rel h
  by_cases h : c < a
  · rw [decide_eq_true (this.mpr h), decide_eq_false (by omega)]; rfl
  · rw [decide_eq_false (fun z => h (this.mp z)), decide_eq_true (by omega)]; rfl
theorem cps_a : ("a" : Str).cps.toList = [97] := by decide +kernel
theorem cps_z : ("z" : Str).cps.toList = [122] := by decide +kernel
theorem range_all {α : Type} (p : α → Bool) (d : α) : ∀ l : List α, ((List.range l.length).map fun i => p (l.getD i d)).all id = l.all p
  | [] => rfl
  | a :: l => by
    rw [List.length_cons, List.range_succ_eq_map, List.map_cons, List.all_cons, List.map_map, List.all_cons, ← range_all p d l]
    rfl
theorem same_new {H : Hp} {p : Addr} {o : HO} (h : H p = none) : Same H (upd H p o) := fun b u e => by rw [upd_ne (ne_of_none e h)]; exact e
theorem ok_is_name (m : M K mg) : FnOk P w K mg base CX0 1 m.a_is_name m.d_is_name ["thing"] (sp_name K) := by
  refine m.F_is_name.ok sc_is_name (fun vs H Q E h => ?_) (fun cdv A outer s H vs Q E hr h => ?_)
  · obtain ⟨x, n, rfl, b, hz, k⟩ := h
    rfl
  · obtain ⟨x, n, rfl, b, hz, k⟩ := h
    have nd := sc_is_name.nd
    have hu0 := Room.units0 hr
    obtain ⟨tok_LONGEST_NAME, c_LONGEST_NAME⟩ := m.c_LONGEST_NAME
    refine ⟨_, (pss_cons (ps_if (pt_not (pt_val (pe_callB call_isi rfl m.g_isinstance bt_isinstance (pa_cons (pv 0) (pa_cons (pe_ty rfl m.g_str bt_str) pa_nil))))) (pss_one (ps_ret pe_bl)) pss_nil)
      (pss_one (ps_ret (pe_and (pe_chain op_le op_le pe_int (pe_callB call_lenS rfl m.g_len bt_len (pa_cons (pv 0) pa_nil)) (pe_gint rfl c_LONGEST_NAME)) (pe_one (pe_callB (call_all rfl) rfl m.g_all bt_all (pa_cons (pe_comp (N := ["sign"]) (nl := 1) (ci := []) rfl (blk (s.heap.objs.size + 1) rfl rfl rfl (by kernel_rfl)) (pi_str (pv 0)) (fun _ _ _ _ => (pg_name (i := 0) (show (["sign"] : List Str).Nodup by decide +kernel) rfl (by first | exact Or.inl rfl | exact Or.inr rfl))) (fun _ _ _ _ => pf_nil) (fun _ _ _ _ => (pe_chain op_leS op_leS pe_str (pv 0) pe_str))) pa_nil))))))), ?_⟩
    refine rd_start (σ := [some (x)]) rfl ?_
    refine ⟨_, rfl, _, _, _, _, _, rfl, b.ty, rfl, kit_b b "str" (.inr (.inr rfl)), _, rfl, ?_⟩
    refine ite2 (fun h1 => ?_) (fun h1 => ?_)
    · show Q (.bl false) H
      cases b <;> first | exact k H (Same.refl H) | exact absurd h1 (by decide)
    · have hs : ∃ z, x = .str z := by
        cases b <;> first | exact ⟨_, rfl⟩ | exact absurd (by decide) h1
      obtain ⟨z, rfl⟩ := hs
      have hl := hz z rfl
      have hl' : z.length ≤ sizeLine := Nat.le_of_lt (small1000 hl)
      refine ⟨_, rfl, z, rfl, hl', _, _, rfl, rfl, _, rfl, ?_⟩
      refine ite2 (fun h2 => ⟨_, _, rfl, rfl, _, rfl, ?_⟩) (fun h2 => ⟨_, rfl, ?_⟩)
      · refine ite2 (fun h3 => ?_) (fun h3 => ?_)
        · refine ⟨_, rfl, z, rfl, ?_⟩
          refine comp_of z.cps.size (fun i => .bl (sgB (z.cps.toList.getD i 0))) hl' (fun H' => H' = H) rfl (fun _ _ => rfl) (fun i _ hi _ => hi) ?_ ?_ ?_ ?_ ?_
          · rintro i _ x H' hi rfl ⟨rfl, c, hc, rfl⟩
            refine ⟨⟨rfl, fun j v hv => ?_⟩, rfl, ?_⟩
            · match j, hv with
              | 0, hv => cases hv
              | j + 1, hv => cases hv
            · have hc' : z.cps.toList.getD i 0 = c := by
                rw [List.getD_eq_getElem?_getD, Array.getElem?_toList, hc]; rfl
              refine ⟨_, rfl, _, _, rfl, rfl, _, rfl, ?_⟩
              rw [cps_a, hc']
              refine ite2 (fun h4 => ⟨_, _, rfl, rfl, ?_, rfl⟩) (fun h4 => ⟨?_, rfl⟩)
              · have h4' : 97 ≤ c := by rw [show (⟨#[c]⟩ : Str).cps.toList = [c] from rfl, le1] at h4; exact of_decide_eq_true h4
                rw [cps_z, show (⟨#[c]⟩ : Str).cps.toList = [c] from rfl, le1]
                unfold sgB
                rw [decide_eq_true h4', Bool.true_and]
              · have h4' : ¬ 97 ≤ c := by rw [show (⟨#[c]⟩ : Str).cps.toList = [c] from rfl, le1] at h4; exact fun z => h4 (decide_eq_true z)
                unfold sgB
                rw [decide_eq_false h4', Bool.false_and]
          · exact fun _ _ _ _ f q => f _ _ q
          · rintro σ H Q Q' f ⟨v, e, i, j, e1, e2, k, e3, q⟩
            refine ⟨v, e, i, j, e1, e2, k, e3, ?_⟩
            revert q
            split
            · rintro ⟨i, j, e1, e2, q⟩
              exact ⟨i, j, e1, e2, f _ _ q⟩
            · exact fun q => f _ _ q
          · exact fun _ _ _ _ _ f q => f _ _ q
          · rintro _ rfl p hp
            refine ⟨p, (List.range z.cps.size).map (fun i => sgB (z.cps.toList.getD i 0)), rfl, SqL.of ?_, ?_⟩
            · rw [upd_same, List.map_map]; rfl
            · have e := range_all sgB 0 z.cps.toList
              rw [Array.length_toList] at e
              rw [e]
              have e2 : nmB (.str z) = z.cps.toList.all sgB := by
                show nameB z = _
                unfold nameB
                rw [show decide (1 ≤ (z.length : Int)) = true from h2, show decide ((z.length : Int) ≤ 8) = true from h3]; rfl
              rw [← e2]
              exact k _ (same_new hp)
        · have e2 : nmB (.str z) = false := by
            show nameB z = _
            unfold nameB
            rw [show decide ((z.length : Int) ≤ 8) = false from by simpa using h3]; simp
          have := k H (Same.refl H)
          rw [e2] at this
          exact this
      · have e2 : nmB (.str z) = false := by
          show nameB z = _
          unfold nameB
          rw [show decide (1 ≤ (z.length : Int)) = false from by simpa using h2]; simp
        have := k H (Same.refl H)
        rw [e2] at this
        exact this
theorem fc_is_name (m : M K mg) : Fc P w K mg base "is_name" 1 ["thing"] (sp_name K) := ⟨_, _, m.m_is_name, m.F_is_name.kp, m.b_is_name, ok_is_name m⟩
local macro_rules | `(tactic| walk_at "rd1") => `(tactic| first | (with_reducible refine r_wholeI ?_) | ((with_reducible refine' r_nameT ?s ?_); (case s => assumption); intro H' S'))
/-! ### doors -/
def sp_need_name (K : PySem.W.Frag) : Sp := fun vs H Q _ => ∃ (part z : Str), vs = [.str part, .str z] ∧ nameB z = true ∧ ∀ H', Same H H' → Q .non H'
theorem r_need_name {H : Hp} {Q : VK} {E : XK} {part z : Str} (hz : nameB z = true) (h : ∀ H', Same H H' → Q .non H') : sp_need_name K [.str part, .str z] H Q E := ⟨_, _, rfl, hz, h⟩
theorem ok_need_name (m : M K mg) : FnOk P w K mg base CX0 2 m.a_need_name m.d_need_name ["part", "thing"] (sp_need_name K) := by
  refine m.F_need_name.ok sc_need_name (fun vs H Q E h => ?_) (fun cdv A outer s H vs Q E hr h => ?_)
  · obtain ⟨part, z, rfl, hz, k⟩ := h
    rfl
  · obtain ⟨part, z, rfl, hz, k⟩ := h
    have nd := sc_need_name.nd
    have hu0 := Room.units0 hr
    have F_is_name := fc_is_name (P := P) (w := w) (base := base) m
    refine ⟨_, (pss_one (ps_if (pt_not (pt_val (pe_f F_is_name hr (pa_cons (pv 1) pa_nil)))) (pss_one ps_never) pss_nil)), ?_⟩
    refine rd_start (σ := [some (.str part), some (.str z)]) rfl ?_
    walk_at "go"
    exact k _ (by walk_at "sm")
theorem fc_need_name (m : M K mg) : Fc P w K mg base "need_name" 2 ["part", "thing"] (sp_need_name K) := ⟨_, _, m.m_need_name, m.F_need_name.kp, m.b_need_name, ok_need_name m⟩
def sp_need_whole (K : PySem.W.Frag) : Sp := fun vs H Q _ => ∃ (part : Str) (i l : Int), vs = [.str part, .int i, .int l] ∧ l ≤ i ∧ Q .non H
theorem r_need_whole {H : Hp} {Q : VK} {E : XK} {part : Str} {i l : Int} (hz : l ≤ i) (h : Q .non H) : sp_need_whole K [.str part, .int i, .int l] H Q E := ⟨_, _, _, rfl, hz, h⟩
theorem ok_need_whole (m : M K mg) : FnOk P w K mg base CX0 2 m.a_need_whole m.d_need_whole ["part", "thing", "least"] (sp_need_whole K) := by
  refine m.F_need_whole.ok sc_need_whole (fun vs H Q E h => ?_) (fun cdv A outer s H vs Q E hr h => ?_)
  · obtain ⟨part, i, l, rfl, hz, k⟩ := h
    rfl
  · obtain ⟨part, i, l, rfl, hz, k⟩ := h
    have nd := sc_need_whole.nd
    have hu0 := Room.units0 hr
    have F_is_whole := fc_is_whole (P := P) (w := w) (base := base) m
    refine ⟨_, (pss_one (ps_if (PW.pt (pw_or (pt_not (pt_val (pe_f F_is_whole hr (pa_cons (pv 1) pa_nil)))) (pw_or1 (pt_cmpR op_lt (pv 1) (pv 2) (nomark _))))) (pss_one ps_never) pss_nil)), ?_⟩
    refine rd_start (σ := [some (.str part), some (.int i), some (.int l)]) rfl ?_
    walk_at "go"
    exact k
theorem fc_need_whole (m : M K mg) : Fc P w K mg base "need_whole" 2 ["part", "thing", "least"] (sp_need_whole K) := ⟨_, _, m.m_need_whole, m.F_need_whole.kp, m.b_need_whole, ok_need_whole m⟩
local macro_rules | `(tactic| walk_at "rd1") => `(tactic| first | ((with_reducible refine' r_need_name ?s ?_); (case s => assumption); intro H' S') | ((with_reducible refine' r_need_whole ?s ?_); (case s => walk_at "sd")))
abbrev doorFs (n s e w : V) : List (Str × V) := putF "wide" w (putF "end" e (putF "start" s (putF "name" n [])))
/-- where a door leads: out, or to a name -/
def EndOk (e : V) : Prop := e = .non ∨ ∃ z, e = .str z ∧ nameB z = true
def sp_Door_init (K : PySem.W.Frag) : Sp := fun vs H Q _ => ∃ (p C dx : Addr) (n s : Str) (e : V) (wd : Int), vs = [.ref p, .str n, .str s, e, .int wd] ∧ DCls K C ∧ H p = some (.ins C dx []) ∧ nameB n = true ∧ nameB s = true ∧ EndOk e ∧ 0 ≤ wd ∧
  ∀ H', SameBut p H H' → H' p = some (.ins C dx (doorFs (.str n) (.str s) e (.int wd))) → Q .non H'
theorem r_Door_init {H : Hp} {Q : VK} {E : XK} {p C dx : Addr} {n s : Str} {e : V} {wd : Int} (dc : DCls K C) (hp : H p = some (.ins C dx [])) (hn : nameB n = true) (hs : nameB s = true) (he : EndOk e) (hw : 0 ≤ wd)
    (k : ∀ H', SameBut p H H' → H' p = some (.ins C dx (doorFs (.str n) (.str s) e (.int wd))) → Q .non H') : sp_Door_init K [.ref p, .str n, .str s, e, .int wd] H Q E := ⟨_, _, _, _, _, _, _, rfl, dc, hp, hn, hs, he, hw, k⟩
theorem ok_Door___init__ (m : M K mg) : FnOk P w K mg base CX0 3 m.a_Door___init__ m.d_Door___init__ ["self", "name", "start", "end", "wide"] (sp_Door_init K) := by
  refine m.F_Door___init__.ok sc_Door___init__ (fun vs H Q E h => ?_) (fun cdv A outer s H vs Q E hr h => ?_)
  · obtain ⟨p, C, dx, n, st, e, wd, rfl, dc, hp, hn, hs, he, hw, k⟩ := h
    rfl
  · obtain ⟨p, C, dx, n, st, e, wd, rfl, dc, hp, hn, hs, he, hw, k⟩ := h
    have nd := sc_Door___init__.nd
    have hu0 := Room.units0 hr
    have F_need_name := fc_need_name (P := P) (w := w) (base := base) m
    have F_need_whole := fc_need_whole (P := P) (w := w) (base := base) m
    refine ⟨_, (pss_cons (ps_expr (pe_f F_need_name hr (pa_cons pe_str (pa_cons (pv 1) pa_nil))))
      (pss_cons (ps_expr (pe_f F_need_name hr (pa_cons pe_str (pa_cons (pv 2) pa_nil))))
      (pss_cons (ps_if (pt_cmpR op_notn (pv 3) pe_non (nomark _)) (pss_one (ps_expr (pe_f F_need_name hr (pa_cons pe_str (pa_cons (pv 3) pa_nil))))) pss_nil)
      (pss_cons (ps_expr (pe_f F_need_whole hr (pa_cons pe_str (pa_cons (pv 4) (pa_cons pe_int pa_nil)))))
      (pss_cons (ps_fld (pv 0) (pv 1) rfl)
      (pss_cons (ps_fld (pv 0) (pv 2) rfl)
      (pss_cons (ps_fld (pv 0) (pv 3) rfl)
      (pss_one (ps_fld (pv 0) (pv 4) rfl))))))))), ?_⟩
    refine rd_start (σ := [some (.ref p), some (.str n), some (.str st), some (e), some (.int wd)]) rfl ?_
    rcases he with rfl | ⟨z, rfl, hz⟩
    · walk_at "go"
      exact k _ (by walk_at "sb") (by assumption)
    · walk_at "go"
      exact k _ (by walk_at "sb") (by assumption)
theorem kc_Door_0 (m : M K mg) : Kc P w K mg base "Door" m.C_Door 3 [] (sp_Door_init K) := ⟨_, _, _, _, m.m_Door, m.mk_Door, .nil, m.b_Door___init__, ok_Door___init__ m⟩
theorem dcall_Door___init__ (m : M K mg) : Dc P w K mg base "Door" "__init__" 3 (sp_Door_init K) := ⟨_, _, _, _, m.m_Door, m.dm_Door___init__.1, m.dm_Door___init__.2.1, m.dm_Door___init__.2.2, m.F_Door___init__.kp, m.b_Door___init__, ok_Door___init__ m⟩
theorem dcallD_Door___init___1 (m : M K mg) : DcD P w K mg base "Door" "__init__" 3 [.int 1] (sp_Door_init K) := by
  obtain ⟨ds, h1, h2⟩ := m.bd_Door___init___1
  exact ⟨_, _, _, _, _, m.m_Door, m.dm_Door___init__.1, m.dm_Door___init__.2.1, m.dm_Door___init__.2.2, m.F_Door___init__.kp, h1, h2, ok_Door___init__ m⟩
theorem r_mkDoor {H : Hp} {Q : VK} {E : XK} {C : Addr} {vs dvs : List V} {n s : Str} {e : V} {wd : Int} (ev : vs ++ dvs = [.str n, .str s, e, .int wd]) (dc : DCls K C) (hn : nameB n = true) (hs : nameB s = true) (he : EndOk e) (hw : 0 ≤ wd)
    (k : ∀ p dx H', H p = none → Same H H' → H' p = some (.ins C dx (doorFs (.str n) (.str s) e (.int wd))) → Q (.ref p) H') : MakeP C (sp_Door_init K) dvs E Q vs H :=
  rd_makeV (fun p dx H0 Q' h k' s0 => by rw [ev]; exact r_Door_init dc h hn hs he hw k') k
local macro_rules | `(tactic| walk_at "rd1") => `(tactic| ((with_reducible refine' r_mkDoor ?v ?d ?hn ?hs ?he ?hw ?_); (case v => rfl); (case d => assumption); (case hn => assumption); (case hs => assumption); (case he => first | assumption | exact .inl rfl | exact .inr ⟨_, rfl, by assumption⟩); (case hw => walk_at "sd"); intro p' dx' H' n' S' e'))
def sp_lets_wide (K : PySem.W.Frag) : Sp := fun vs H Q _ => ∃ (p C dx : Addr) (fs : List (Str × V)) (t wd : Int), vs = [.ref p, .int t] ∧ DCls K C ∧ H p = some (.ins C dx fs) ∧ fs.lookup ("wide" : Str) = some (.int wd) ∧ Q (.int wd) H
theorem r_lets_wide {H : Hp} {Q : VK} {E : XK} {p C dx : Addr} {fs : List (Str × V)} {t wd : Int} (hp : H p = some (.ins C dx fs)) (dc : DCls K C) (l : fs.lookup ("wide" : Str) = some (.int wd)) (k : Q (.int wd) H) : sp_lets_wide K [.ref p, .int t] H Q E := ⟨_, _, _, _, _, _, rfl, dc, hp, l, k⟩
theorem ok_Door_lets (m : M K mg) : FnOk P w K mg base CX0 1 m.a_Door_lets m.d_Door_lets ["self", "turn"] (sp_lets_wide K) := by
  refine m.F_Door_lets.ok sc_Door_lets (fun vs H Q E h => ?_) (fun cdv A outer s H vs Q E hr h => ?_)
  · obtain ⟨p, C, dx, fs, t, wd, rfl, dc, hp, l, k⟩ := h
    rfl
  · obtain ⟨p, C, dx, fs, t, wd, rfl, dc, hp, l, k⟩ := h
    have nd := sc_Door_lets.nd
    have hu0 := Room.units0 hr
    refine ⟨_, (pss_one (ps_ret (pe_fld (pv 0) rfl))), ?_⟩
    refine rd_start (σ := [some (.ref p), some (.int t)]) rfl ?_
    walk_at "go"
    exact k
theorem mc_Door_lets (m : M K mg) : Mc P w K mg base m.C_Door "lets" 1 (sp_lets_wide K) := ⟨_, _, _, m.dc_Door.ic.cl, m.mt_Door_lets, m.b_Door_lets, ok_Door_lets m⟩
def sp_exit (K : PySem.W.Frag) : Sp := fun vs H Q _ => ∃ (p C dx : Addr) (fs : List (Str × V)) (e : V), vs = [.ref p] ∧ DCls K C ∧ H p = some (.ins C dx fs) ∧ fs.lookup ("end" : Str) = some e ∧ Q (.bl (decide (e = .non))) H
theorem r_exitN {H : Hp} {Q : VK} {E : XK} {p C dx : Addr} {fs : List (Str × V)} (hp : H p = some (.ins C dx fs)) (dc : DCls K C) (l : fs.lookup ("end" : Str) = some .non) (k : Q (.bl true) H) : sp_exit K [.ref p] H Q E := ⟨_, _, _, _, _, rfl, dc, hp, l, k⟩
theorem r_exitS {H : Hp} {Q : VK} {E : XK} {p C dx : Addr} {fs : List (Str × V)} {z : Str} (hp : H p = some (.ins C dx fs)) (dc : DCls K C) (l : fs.lookup ("end" : Str) = some (.str z)) (k : Q (.bl false) H) : sp_exit K [.ref p] H Q E :=
  ⟨_, _, _, _, _, rfl, dc, hp, l, by rw [decide_eq_false (fun z => by cases z)]; exact k⟩
theorem ok_Door_is_exit (m : M K mg) : FnOk P w K mg base CX0 1 m.a_Door_is_exit m.d_Door_is_exit ["self"] (sp_exit K) := by
  refine m.F_Door_is_exit.ok sc_Door_is_exit (fun vs H Q E h => ?_) (fun cdv A outer s H vs Q E hr h => ?_)
  · obtain ⟨p, C, dx, fs, e, rfl, dc, hp, l, k⟩ := h
    rfl
  · obtain ⟨p, C, dx, fs, e, rfl, dc, hp, l, k⟩ := h
    have nd := sc_Door_is_exit.nd
    have hu0 := Room.units0 hr
    refine ⟨_, (pss_one (ps_ret (pe_cmpR op_isn (pe_fld (pv 0) rfl) pe_non (nomark _)))), ?_⟩
    refine rd_start (σ := [some (.ref p)]) rfl ?_
    walk_at "go"
    exact k
theorem mc_Door_is_exit (m : M K mg) : Mc P w K mg base m.C_Door "is_exit" 1 (sp_exit K) := ⟨_, _, _, m.dc_Door.ic.cl, m.mt_Door_is_exit, m.b_Door_is_exit, ok_Door_is_exit m⟩
theorem mc_Since_is_exit (m : M K mg) : Mc P w K mg base m.C_Since "is_exit" 1 (sp_exit K) := ⟨_, _, _, m.dc_Since.ic.cl, m.mt_Since_is_exit, m.b_Door_is_exit, ok_Door_is_exit m⟩
theorem mc_Until_is_exit (m : M K mg) : Mc P w K mg base m.C_Until "is_exit" 1 (sp_exit K) := ⟨_, _, _, m.dc_Until.ic.cl, m.mt_Until_is_exit, m.b_Door_is_exit, ok_Door_is_exit m⟩
theorem mc_Beat_is_exit (m : M K mg) : Mc P w K mg base m.C_Beat "is_exit" 1 (sp_exit K) := ⟨_, _, _, m.dc_Beat.ic.cl, m.mt_Beat_is_exit, m.b_Door_is_exit, ok_Door_is_exit m⟩
theorem mc_Marked_is_exit (m : M K mg) : Mc P w K mg base m.C_Marked "is_exit" 1 (sp_exit K) := ⟨_, _, _, m.dc_Marked.ic.cl, m.mt_Marked_is_exit, m.b_Door_is_exit, ok_Door_is_exit m⟩
theorem mc_Told_is_exit (m : M K mg) : Mc P w K mg base m.C_Told "is_exit" 1 (sp_exit K) := ⟨_, _, _, m.dc_Told.ic.cl, m.mt_Told_is_exit, m.b_Door_is_exit, ok_Door_is_exit m⟩
theorem mc_Shut_is_exit (m : M K mg) : Mc P w K mg base m.C_Shut "is_exit" 1 (sp_exit K) := ⟨_, _, _, m.dc_Shut.ic.cl, m.mt_Shut_is_exit, m.b_Door_is_exit, ok_Door_is_exit m⟩
theorem mc_Wider_is_exit (m : M K mg) : Mc P w K mg base m.C_Wider "is_exit" 1 (sp_exit K) := ⟨_, _, _, m.dc_Wider.ic.cl, m.mt_Wider_is_exit, m.b_Door_is_exit, ok_Door_is_exit m⟩
local macro_rules | `(tactic| walk_at "rd1") => `(tactic| first | ((with_reducible refine' r_lets_wide ?e ?d ?l ?_); (case e => walk_at "hp"); (case d => assumption); (case l => walk_at "lk")) | ((with_reducible refine' r_exitN ?e ?d ?l ?_); (case e => walk_at "hp"); (case d => assumption); (case l => walk_at "lk")) | ((with_reducible refine' r_exitS ?e ?d ?l ?_); (case e => walk_at "hp"); (case d => assumption); (case l => walk_at "lk")))
def endS : V → Str
  | .str z => z
  | _ => "-"
def wordsS (kind n s : Str) (e : V) (ns : List Int) : Str := Txt.join " " ([kind, n, s, endS e] ++ ns.map numS)
def NumOk (i : Int) : Prop := -1000000000000000000000000000000 < i ∧ i < 1000000000000000000000000000000
def sp_row (P : Program) (w : World) (K : PySem.W.Frag) (mg : Str → Option Value) (base : Heap) : Sp := fun vs H Q _ => ∃ (kind : Str) (p q C dx : Addr) (fs : List (Str × V)) (n s : Str) (e : V) (ns : List Int), vs = [.str kind, .ref p, .ref q] ∧ DCls K C ∧ Mc P w K mg base C "is_exit" 1 (sp_exit K) ∧
  H p = some (.ins C dx fs) ∧ fs.lookup ("is_exit" : Str) = none ∧ fs.lookup ("name" : Str) = some (.str n) ∧ fs.lookup ("start" : Str) = some (.str s) ∧ fs.lookup ("end" : Str) = some e ∧ kind.length ≤ 8 ∧ nameB n = true ∧ nameB s = true ∧ EndOk e ∧ SqL K H q (ns.map V.int) ∧ ns.length ≤ 3 ∧ (∀ i ∈ ns, NumOk i) ∧
  ∀ H', Same H H' → Q (.str (wordsS kind n s e ns)) H'
theorem r_row {H : Hp} {Q : VK} {E : XK} {kind : Str} {p q C dx : Addr} {fs : List (Str × V)} {n s : Str} {e : V} {ns : List Int} (hp : H p = some (.ins C dx fs)) (hq : SqL K H q (ns.map V.int)) (dc : DCls K C) (mc : Mc P w K mg base C "is_exit" 1 (sp_exit K)) (l0 : fs.lookup ("is_exit" : Str) = none)
    (l1 : fs.lookup ("name" : Str) = some (.str n)) (l2 : fs.lookup ("start" : Str) = some (.str s)) (l3 : fs.lookup ("end" : Str) = some e) (hk : kind.length ≤ 8) (hn : nameB n = true) (hs : nameB s = true) (he : EndOk e) (hl : ns.length ≤ 3) (hb : ∀ i ∈ ns, NumOk i)
    (k : ∀ H', Same H H' → Q (.str (wordsS kind n s e ns)) H') : sp_row P w K mg base [.str kind, .ref p, .ref q] H Q E := ⟨_, _, _, _, _, _, _, _, _, _, rfl, dc, mc, hp, l0, l1, l2, l3, hk, hn, hs, he, hq, hl, hb, k⟩
theorem row_len {kind n s z : Str} {ns : List Int} (h1 : kind.length ≤ 8) (h2 : n.length ≤ 8) (h3 : s.length ≤ 8) (h4 : z.length ≤ 8) (h5 : ns.length ≤ 3) (hb : ∀ i ∈ ns, NumOk i) :
    (([kind, n, s, z] ++ ns.map numS).map (·.length)).sum + ([kind, n, s, z] ++ ns.map numS).length * (" " : Str).length ≤ 16777216 := by
  have e := sum_len_le 40 ([kind, n, s, z] ++ ns.map numS) fun y hy => by
    rcases List.mem_append.mp hy with h | h
    · simp only [List.mem_cons, List.not_mem_nil, or_false] at h
      rcases h with rfl | rfl | rfl | rfl <;> omega
    · obtain ⟨i, hi, rfl⟩ := List.mem_map.mp h
      exact numS_len (hb i hi).1 (hb i hi).2
  have e2 : ([kind, n, s, z] ++ ns.map numS).length ≤ 7 := by simp; omega
  have e3 : (" " : Str).length = 1 := by rw [lit_len]; rfl
  rw [e3]
  omega
theorem ok_row_of_words (m : M K mg) : FnOk P w K mg base CX0 2 m.a_row_of_words m.d_row_of_words ["kind", "door", "numbers"] (sp_row P w K mg base) := by
  refine m.F_row_of_words.ok sc_row_of_words (fun vs H Q E h => ?_) (fun cdv A outer s H vs Q E hr h => ?_)
  · obtain ⟨kind, p, q, C, dx, fs, n, st, e, ns, rfl, dc, mc, hp, l0, l1, l2, l3, hk, hn, hs, he, hq, hl, hb, k⟩ := h
    rfl
  · obtain ⟨kind, p, q, C, dx, fs, n, st, e, ns, rfl, dc, mc, hp, l0, l1, l2, l3, hk, hn, hs, he, hq, hl, hb, k⟩ := h
    have nd := sc_row_of_words.nd
    have hu0 := Room.units0 hr
    refine ⟨_, (pss_cons (ps_set (i := 3) nd rfl (by first | exact Or.inl rfl | exact Or.inr rfl) (pe_ifExp (pt_val (pe_md0 1 hr (pv 1))) pe_str (pe_fld (pv 1) rfl)))
      (pss_one (ps_ret (pe_bm PySem.F.plainAttrs_str PySem.F.slot_str_join PySem.F.type_str_join mt_join pe_str (pa_cons (pe_op op_cat (pe_lst (pa_cons (pv 0) (pa_cons (pe_fld (pv 1) rfl) (pa_cons (pe_fld (pv 1) rfl) (pa_cons (pv 3) pa_nil))))) (pe_comp (N := ["number"]) (nl := 1) (ci := []) rfl (blk (s.heap.objs.size + 1) rfl rfl rfl (by kernel_rfl)) (pi_list (pv 2)) (fun _ _ _ _ => (pg_name (i := 0) (show (["number"] : List Str).Nodup by decide +kernel) rfl (by first | exact Or.inl rfl | exact Or.inr rfl))) (fun _ _ _ _ => pf_nil) (fun _ _ _ _ => (pe_callTy call_strI rfl m.g_str bt_str (pa_cons (pv 0) pa_nil))))) pa_nil))))), ?_⟩
    refine rd_start (σ := [some (.str kind), some (.ref p), some (.ref q), none]) rfl ?_
    have hn8 := nameB_len hn
    have hs8 := nameB_len hs
    have fin : ∀ z : Str, z.length ≤ 8 → endS e = z → ∀ (H1 : Hp) (p1 : Addr), Same H H1 → H1 p1 = some (.lst ([.str kind, .str n, .str st, .str z] ++ ns.map fun i => V.str (numS i))) → rJoin K (.str " ") [.ref p1] H1 Q := by
      intro z hz ez H1 p1 s1 h1
      refine rd_join (ys := [kind, n, st, z] ++ ns.map numS) (SqL.of ?_) (row_len hk hn8 hs8 hz hl hb) ?_
      · rw [List.map_append, List.map_map]; exact h1
      · have := k H1 s1
        unfold wordsS at this
        rw [ez] at this
        exact this
    have item : ∀ (i : Int) (H1 : Hp), i ∈ ns → ∀ R : VK, (∀ H2, Same H1 H2 → R (.str (numS i)) H2) → tCB rStrI (tCons (tVar 0) tNil) (some (.int i) :: []) H1 R := by
      intro i H1 hi R hR
      obtain ⟨b0, b1⟩ := hb i hi
      walk_at "go"
      exact hR _ (Same.refl _)
    have hsz : ns.length ≤ sizeLine := by rw [sizeLine_eq]; omega
    rcases he with rfl | ⟨z, rfl, hz⟩
    · walk_at "go"
      refine comp_ints (ns := ns) (rest := []) (fun i => V.str (numS i)) hsz (by rfl) (fun H1 s1 => by walk_at "hp") ?_ (fun H1 s1 => ?_)
      · exact fun i H1 hi s1 R hR => item i H1 hi R hR
      walk_at "go"
      exact fin "-" (by rw [lit_len]; decide) rfl _ _ (by walk_at "sm") (by assumption)
    · have hz8 := nameB_len hz
      walk_at "go"
      refine comp_ints (ns := ns) (rest := []) (fun i => V.str (numS i)) hsz (by rfl) (fun H1 s1 => by walk_at "hp") ?_ (fun H1 s1 => ?_)
      · exact fun i H1 hi s1 R hR => item i H1 hi R hR
      walk_at "go"
      exact fin z hz8 rfl _ _ (by walk_at "sm") (by assumption)
theorem fc_row_of_words (m : M K mg) : Fc P w K mg base "row_of_words" 2 ["kind", "door", "numbers"] (sp_row P w K mg base) := ⟨_, _, m.m_row_of_words, m.F_row_of_words.kp, m.b_row_of_words, ok_row_of_words m⟩
theorem all1 {a : Int} (h : NumOk a) : ∀ i ∈ [a], NumOk i := fun i hi => by
  rw [List.mem_singleton] at hi
  subst hi; exact h
theorem all2 {a b : Int} (h : NumOk a) (h' : NumOk b) : ∀ i ∈ [a, b], NumOk i := fun i hi => by
  simp only [List.mem_cons, List.not_mem_nil, or_false] at hi
  rcases hi with rfl | rfl
  · exact h
  · exact h'
theorem all3 {a b c : Int} (h : NumOk a) (h' : NumOk b) (h'' : NumOk c) : ∀ i ∈ [a, b, c], NumOk i := fun i hi => by
  simp only [List.mem_cons, List.not_mem_nil, or_false] at hi
  rcases hi with rfl | rfl | rfl
  · exact h
  · exact h'
  · exact h''
def sp_words_Door (P : Program) (w : World) (K : PySem.W.Frag) (mg : Str → Option Value) (base : Heap) : Sp := fun vs H Q _ => ∃ (p C dx : Addr) (fs : List (Str × V)) (n s : Str) (e : V) (i0 : Int), vs = [.ref p] ∧ DCls K C ∧ Mc P w K mg base C "is_exit" 1 (sp_exit K) ∧
  H p = some (.ins C dx fs) ∧ fs.lookup ("is_exit" : Str) = none ∧ fs.lookup ("name" : Str) = some (.str n) ∧ fs.lookup ("start" : Str) = some (.str s) ∧ fs.lookup ("end" : Str) = some e ∧ fs.lookup ("wide" : Str) = some (.int i0) ∧ nameB n = true ∧ nameB s = true ∧ EndOk e ∧ NumOk i0 ∧
  ∀ H', Same H H' → Q (.str (wordsS "door" n s e [i0])) H'
theorem r_words_Door {H : Hp} {Q : VK} {E : XK} {p C dx : Addr} {fs : List (Str × V)} {n s : Str} {e : V} {i0 : Int} (hp : H p = some (.ins C dx fs)) (dc : DCls K C) (mc : Mc P w K mg base C "is_exit" 1 (sp_exit K)) (l0 : fs.lookup ("is_exit" : Str) = none)
    (l1 : fs.lookup ("name" : Str) = some (.str n)) (l2 : fs.lookup ("start" : Str) = some (.str s)) (l3 : fs.lookup ("end" : Str) = some e) (m0 : fs.lookup ("wide" : Str) = some (.int i0)) (hn : nameB n = true) (hs : nameB s = true) (he : EndOk e) (b0 : NumOk i0)
    (k : ∀ H', Same H H' → Q (.str (wordsS "door" n s e [i0])) H') : sp_words_Door P w K mg base [.ref p] H Q E := ⟨_, _, _, _, _, _, _, _, rfl, dc, mc, hp, l0, l1, l2, l3, m0, hn, hs, he, b0, k⟩
theorem ok_Door_words (m : M K mg) : FnOk P w K mg base CX0 3 m.a_Door_words m.d_Door_words ["self"] (sp_words_Door P w K mg base) := by
  refine m.F_Door_words.ok sc_Door_words (fun vs H Q E h => ?_) (fun cdv A outer s H vs Q E hr h => ?_)
  · obtain ⟨p, C, dx, fs, n, st, e, i0, rfl, dc, mc, hp, l0, l1, l2, l3, m0, hn, hs, he, b0, k⟩ := h
    rfl
  · obtain ⟨p, C, dx, fs, n, st, e, i0, rfl, dc, mc, hp, l0, l1, l2, l3, m0, hn, hs, he, b0, k⟩ := h
    have nd := sc_Door_words.nd
    have hu0 := Room.units0 hr
    have F_row_of_words := fc_row_of_words (P := P) (w := w) (base := base) m
    refine ⟨_, (pss_one (ps_ret (pe_f F_row_of_words hr (pa_cons pe_str (pa_cons (pv 0) (pa_cons (pe_lst (pa_cons (pe_fld (pv 0) rfl) pa_nil)) pa_nil)))))), ?_⟩
    refine rd_start (σ := [some (.ref p)]) rfl ?_
    walk_at "go"
    exact r_row (ns := [i0]) (by walk_at "hp") (SqL.of (by assumption)) dc mc l0 l1 l2 l3 (by rw [lit_len]; decide) hn hs he (by simp) (all1 b0) (fun H2 s2 => k H2 (by walk_at "sm"))
theorem mc_Door_words (m : M K mg) : Mc P w K mg base m.C_Door "words" 3 (sp_words_Door P w K mg base) := ⟨_, _, _, m.dc_Door.ic.cl, m.mt_Door_words, m.b_Door_words, ok_Door_words m⟩
local macro_rules | `(tactic| walk_at "rd1") => `(tactic| ((with_reducible refine' r_words_Door ?e ?d ?m ?l0 ?l1 ?l2 ?l3 ?m0 ?hn ?hs ?he ?b0 ?_); (case e => walk_at "hp"); (case d => assumption); (case m => assumption); (case l0 => walk_at "lk"); (case l1 => walk_at "lk"); (case l2 => walk_at "lk"); (case l3 => walk_at "lk"); (case m0 => walk_at "lk"); (case hn => assumption); (case hs => assumption); (case he => assumption); (case b0 => exact ⟨by omega, by omega⟩); intro H' S'))
local macro_rules | `(tactic| walk_at "rd1") => `(tactic| ((with_reducible refine' r_Door_init ?d ?e ?hn ?hs ?he ?hw ?_); (case d => assumption); (case e => walk_at "hp"); (case hn => assumption); (case hs => assumption); (case he => assumption); (case hw => walk_at "sd"); intro H' B' e'))
abbrev SinceFs (n s e w i0 : V) : List (Str × V) := putF "since" i0 (doorFs n s e w)
def sp_Since_init (K : PySem.W.Frag) : Sp := fun vs H Q _ => ∃ (p C dx : Addr) (n s : Str) (e : V) (wd i0 : Int), vs = [.ref p, .str n, .str s, e, .int wd, .int i0] ∧ DCls K C ∧ H p = some (.ins C dx []) ∧ nameB n = true ∧ nameB s = true ∧ EndOk e ∧ 0 ≤ wd ∧ 0 ≤ i0 ∧
  ∀ H', SameBut p H H' → H' p = some (.ins C dx (SinceFs (.str n) (.str s) e (.int wd) (.int i0))) → Q .non H'
theorem r_Since_init {H : Hp} {Q : VK} {E : XK} {p C dx : Addr} {n s : Str} {e : V} {wd i0 : Int} (dc : DCls K C) (hp : H p = some (.ins C dx [])) (hn : nameB n = true) (hs : nameB s = true) (he : EndOk e) (hw : 0 ≤ wd) (b0 : 0 ≤ i0)
    (k : ∀ H', SameBut p H H' → H' p = some (.ins C dx (SinceFs (.str n) (.str s) e (.int wd) (.int i0))) → Q .non H') : sp_Since_init K [.ref p, .str n, .str s, e, .int wd, .int i0] H Q E := ⟨_, _, _, _, _, _, _, _, rfl, dc, hp, hn, hs, he, hw, b0, k⟩
theorem ok_Since___init__ (m : M K mg) : FnOk P w K mg base CX0 4 m.a_Since___init__ m.d_Since___init__ ["self", "name", "start", "end", "wide", "since"] (sp_Since_init K) := by
  refine m.F_Since___init__.ok sc_Since___init__ (fun vs H Q E h => ?_) (fun cdv A outer s H vs Q E hr h => ?_)
  · obtain ⟨p, C, dx, n, st, e, wd, i0, rfl, dc, hp, hn, hs, he, hw, b0, k⟩ := h
    rfl
  · obtain ⟨p, C, dx, n, st, e, wd, i0, rfl, dc, hp, hn, hs, he, hw, b0, k⟩ := h
    have nd := sc_Since___init__.nd
    have hu0 := Room.units0 hr
    have D_Door___init__ := dcall_Door___init__ (P := P) (w := w) (base := base) m
    have F_need_whole := fc_need_whole (P := P) (w := w) (base := base) m
    refine ⟨_, (pss_cons (ps_expr (pe_dm D_Door___init__ hr (pa_cons (pv 0) (pa_cons (pv 1) (pa_cons (pv 2) (pa_cons (pv 3) (pa_cons (pv 4) pa_nil)))))))
      (pss_cons (ps_expr (pe_f F_need_whole hr (pa_cons pe_str (pa_cons (pv 5) (pa_cons pe_int pa_nil)))))
      (pss_one (ps_fld (pv 0) (pv 5) rfl)))), ?_⟩
    refine rd_start (σ := [some (.ref p), some (.str n), some (.str st), some (e), some (.int wd), some (.int i0)]) rfl ?_
    walk_at "go"
    exact k _ (by walk_at "sb") (by assumption)
theorem kc_Since_0 (m : M K mg) : Kc P w K mg base "Since" m.C_Since 4 [] (sp_Since_init K) := ⟨_, _, _, _, m.m_Since, m.mk_Since, .nil, m.b_Since___init__, ok_Since___init__ m⟩
theorem r_mkSince {H : Hp} {Q : VK} {E : XK} {C : Addr} {vs dvs : List V} {n s : Str} {e : V} {wd i0 : Int} (ev : vs ++ dvs = [.str n, .str s, e, .int wd, .int i0]) (dc : DCls K C) (hn : nameB n = true) (hs : nameB s = true) (he : EndOk e) (hw : 0 ≤ wd) (b0 : 0 ≤ i0)
    (k : ∀ p dx H', H p = none → Same H H' → H' p = some (.ins C dx (SinceFs (.str n) (.str s) e (.int wd) (.int i0))) → Q (.ref p) H') : MakeP C (sp_Since_init K) dvs E Q vs H :=
  rd_makeV (fun p dx H0 Q' h k' s0 => by rw [ev]; exact r_Since_init dc h hn hs he hw b0 k') k
local macro_rules | `(tactic| walk_at "rd1") => `(tactic| ((with_reducible refine' r_mkSince ?v ?d ?hn ?hs ?he ?hw ?b0 ?_); (case v => rfl); (case d => assumption); (case hn => assumption); (case hs => assumption); (case he => first | assumption | exact .inl rfl | exact .inr ⟨_, rfl, by assumption⟩); (case hw => walk_at "sd"); (case b0 => walk_at "sd"); intro p' dx' H' n' S' e'))
def SinceV (wd i0 t : Int) : Int := if i0 ≤ t then wd else 0
def sp_Since_lets (K : PySem.W.Frag) : Sp := fun vs H Q _ => ∃ (p C dx : Addr) (fs : List (Str × V)) (t wd i0 : Int), vs = [.ref p, .int t] ∧ DCls K C ∧ H p = some (.ins C dx fs) ∧ fs.lookup ("wide" : Str) = some (.int wd) ∧ fs.lookup ("since" : Str) = some (.int i0) ∧ 0 ≤ t ∧ 0 ≤ i0 ∧ Q (.int (SinceV wd i0 t)) H
theorem r_Since_lets {H : Hp} {Q : VK} {E : XK} {p C dx : Addr} {fs : List (Str × V)} {t wd i0 : Int} (hp : H p = some (.ins C dx fs)) (dc : DCls K C) (l : fs.lookup ("wide" : Str) = some (.int wd)) (m0 : fs.lookup ("since" : Str) = some (.int i0)) (ht : 0 ≤ t) (b0 : 0 ≤ i0) (k : Q (.int (SinceV wd i0 t)) H) : sp_Since_lets K [.ref p, .int t] H Q E := ⟨_, _, _, _, _, _, _, rfl, dc, hp, l, m0, ht, b0, k⟩
theorem ok_Since_lets (m : M K mg) : FnOk P w K mg base CX0 1 m.a_Since_lets m.d_Since_lets ["self", "turn"] (sp_Since_lets K) := by
  refine m.F_Since_lets.ok sc_Since_lets (fun vs H Q E h => ?_) (fun cdv A outer s H vs Q E hr h => ?_)
  · obtain ⟨p, C, dx, fs, t, wd, i0, rfl, dc, hp, l, m0, ht, b0, k⟩ := h
    rfl
  · obtain ⟨p, C, dx, fs, t, wd, i0, rfl, dc, hp, l, m0, ht, b0, k⟩ := h
    have nd := sc_Since_lets.nd
    have hu0 := Room.units0 hr
    refine ⟨_, (pss_one (ps_ret (pe_ifExp (pt_cmpR op_ge (pv 1) (pe_fld (pv 0) rfl) (nomark _)) (pe_fld (pv 0) rfl) pe_int))), ?_⟩
    refine rd_start (σ := [some (.ref p), some (.int t)]) rfl ?_
    unfold SinceV at k
    walk_at "go"
    refine rd_if2 (fun hw => ?_) (fun hw => ?_)
    · walk_at "go"
      rw [if_pos hw] at k
      exact k
    · walk_at "go"
      rw [if_neg hw] at k
      exact k
theorem mc_Since_lets (m : M K mg) : Mc P w K mg base m.C_Since "lets" 1 (sp_Since_lets K) := ⟨_, _, _, m.dc_Since.ic.cl, m.mt_Since_lets, m.b_Since_lets, ok_Since_lets m⟩
local macro_rules | `(tactic| walk_at "rd1") => `(tactic| ((with_reducible refine' r_Since_lets ?e ?d ?l ?m0 ?ht ?b0 ?_); (case e => walk_at "hp"); (case d => assumption); (case l => walk_at "lk"); (case m0 => walk_at "lk"); (case ht => walk_at "sd");  (case b0 => walk_at "sd")))
def sp_words_Since (P : Program) (w : World) (K : PySem.W.Frag) (mg : Str → Option Value) (base : Heap) : Sp := fun vs H Q _ => ∃ (p C dx : Addr) (fs : List (Str × V)) (n s : Str) (e : V) (i0 i1 : Int), vs = [.ref p] ∧ DCls K C ∧ Mc P w K mg base C "is_exit" 1 (sp_exit K) ∧
  H p = some (.ins C dx fs) ∧ fs.lookup ("is_exit" : Str) = none ∧ fs.lookup ("name" : Str) = some (.str n) ∧ fs.lookup ("start" : Str) = some (.str s) ∧ fs.lookup ("end" : Str) = some e ∧ fs.lookup ("wide" : Str) = some (.int i0) ∧ fs.lookup ("since" : Str) = some (.int i1) ∧ nameB n = true ∧ nameB s = true ∧ EndOk e ∧ NumOk i0 ∧ NumOk i1 ∧
  ∀ H', Same H H' → Q (.str (wordsS "since" n s e [i0, i1])) H'
theorem r_words_Since {H : Hp} {Q : VK} {E : XK} {p C dx : Addr} {fs : List (Str × V)} {n s : Str} {e : V} {i0 i1 : Int} (hp : H p = some (.ins C dx fs)) (dc : DCls K C) (mc : Mc P w K mg base C "is_exit" 1 (sp_exit K)) (l0 : fs.lookup ("is_exit" : Str) = none)
    (l1 : fs.lookup ("name" : Str) = some (.str n)) (l2 : fs.lookup ("start" : Str) = some (.str s)) (l3 : fs.lookup ("end" : Str) = some e) (m0 : fs.lookup ("wide" : Str) = some (.int i0)) (m1 : fs.lookup ("since" : Str) = some (.int i1)) (hn : nameB n = true) (hs : nameB s = true) (he : EndOk e) (b0 : NumOk i0) (b1 : NumOk i1)
    (k : ∀ H', Same H H' → Q (.str (wordsS "since" n s e [i0, i1])) H') : sp_words_Since P w K mg base [.ref p] H Q E := ⟨_, _, _, _, _, _, _, _, _, rfl, dc, mc, hp, l0, l1, l2, l3, m0, m1, hn, hs, he, b0, b1, k⟩
theorem ok_Since_words (m : M K mg) : FnOk P w K mg base CX0 3 m.a_Since_words m.d_Since_words ["self"] (sp_words_Since P w K mg base) := by
  refine m.F_Since_words.ok sc_Since_words (fun vs H Q E h => ?_) (fun cdv A outer s H vs Q E hr h => ?_)
  · obtain ⟨p, C, dx, fs, n, st, e, i0, i1, rfl, dc, mc, hp, l0, l1, l2, l3, m0, m1, hn, hs, he, b0, b1, k⟩ := h
    rfl
  · obtain ⟨p, C, dx, fs, n, st, e, i0, i1, rfl, dc, mc, hp, l0, l1, l2, l3, m0, m1, hn, hs, he, b0, b1, k⟩ := h
    have nd := sc_Since_words.nd
    have hu0 := Room.units0 hr
    have F_row_of_words := fc_row_of_words (P := P) (w := w) (base := base) m
    refine ⟨_, (pss_one (ps_ret (pe_f F_row_of_words hr (pa_cons pe_str (pa_cons (pv 0) (pa_cons (pe_lst (pa_cons (pe_fld (pv 0) rfl) (pa_cons (pe_fld (pv 0) rfl) pa_nil))) pa_nil)))))), ?_⟩
    refine rd_start (σ := [some (.ref p)]) rfl ?_
    walk_at "go"
    exact r_row (ns := [i0, i1]) (by walk_at "hp") (SqL.of (by assumption)) dc mc l0 l1 l2 l3 (by rw [lit_len]; decide) hn hs he (by simp) (all2 b0 b1) (fun H2 s2 => k H2 (by walk_at "sm"))
theorem mc_Since_words (m : M K mg) : Mc P w K mg base m.C_Since "words" 3 (sp_words_Since P w K mg base) := ⟨_, _, _, m.dc_Since.ic.cl, m.mt_Since_words, m.b_Since_words, ok_Since_words m⟩
local macro_rules | `(tactic| walk_at "rd1") => `(tactic| ((with_reducible refine' r_words_Since ?e ?d ?m ?l0 ?l1 ?l2 ?l3 ?m0 ?m1 ?hn ?hs ?he ?b0 ?b1 ?_); (case e => walk_at "hp"); (case d => assumption); (case m => assumption); (case l0 => walk_at "lk"); (case l1 => walk_at "lk"); (case l2 => walk_at "lk"); (case l3 => walk_at "lk"); (case m0 => walk_at "lk"); (case m1 => walk_at "lk"); (case hn => assumption); (case hs => assumption); (case he => assumption); (case b0 => exact ⟨by omega, by omega⟩); (case b1 => exact ⟨by omega, by omega⟩); intro H' S'))
abbrev UntilFs (n s e w i0 : V) : List (Str × V) := putF "until" i0 (doorFs n s e w)
def sp_Until_init (K : PySem.W.Frag) : Sp := fun vs H Q _ => ∃ (p C dx : Addr) (n s : Str) (e : V) (wd i0 : Int), vs = [.ref p, .str n, .str s, e, .int wd, .int i0] ∧ DCls K C ∧ H p = some (.ins C dx []) ∧ nameB n = true ∧ nameB s = true ∧ EndOk e ∧ 0 ≤ wd ∧ 0 ≤ i0 ∧
  ∀ H', SameBut p H H' → H' p = some (.ins C dx (UntilFs (.str n) (.str s) e (.int wd) (.int i0))) → Q .non H'
theorem r_Until_init {H : Hp} {Q : VK} {E : XK} {p C dx : Addr} {n s : Str} {e : V} {wd i0 : Int} (dc : DCls K C) (hp : H p = some (.ins C dx [])) (hn : nameB n = true) (hs : nameB s = true) (he : EndOk e) (hw : 0 ≤ wd) (b0 : 0 ≤ i0)
    (k : ∀ H', SameBut p H H' → H' p = some (.ins C dx (UntilFs (.str n) (.str s) e (.int wd) (.int i0))) → Q .non H') : sp_Until_init K [.ref p, .str n, .str s, e, .int wd, .int i0] H Q E := ⟨_, _, _, _, _, _, _, _, rfl, dc, hp, hn, hs, he, hw, b0, k⟩
theorem ok_Until___init__ (m : M K mg) : FnOk P w K mg base CX0 4 m.a_Until___init__ m.d_Until___init__ ["self", "name", "start", "end", "wide", "until"] (sp_Until_init K) := by
  refine m.F_Until___init__.ok sc_Until___init__ (fun vs H Q E h => ?_) (fun cdv A outer s H vs Q E hr h => ?_)
  · obtain ⟨p, C, dx, n, st, e, wd, i0, rfl, dc, hp, hn, hs, he, hw, b0, k⟩ := h
    rfl
  · obtain ⟨p, C, dx, n, st, e, wd, i0, rfl, dc, hp, hn, hs, he, hw, b0, k⟩ := h
    have nd := sc_Until___init__.nd
    have hu0 := Room.units0 hr
    have D_Door___init__ := dcall_Door___init__ (P := P) (w := w) (base := base) m
    have F_need_whole := fc_need_whole (P := P) (w := w) (base := base) m
    refine ⟨_, (pss_cons (ps_expr (pe_dm D_Door___init__ hr (pa_cons (pv 0) (pa_cons (pv 1) (pa_cons (pv 2) (pa_cons (pv 3) (pa_cons (pv 4) pa_nil)))))))
      (pss_cons (ps_expr (pe_f F_need_whole hr (pa_cons pe_str (pa_cons (pv 5) (pa_cons pe_int pa_nil)))))
      (pss_one (ps_fld (pv 0) (pv 5) rfl)))), ?_⟩
    refine rd_start (σ := [some (.ref p), some (.str n), some (.str st), some (e), some (.int wd), some (.int i0)]) rfl ?_
    walk_at "go"
    exact k _ (by walk_at "sb") (by assumption)
theorem kc_Until_0 (m : M K mg) : Kc P w K mg base "Until" m.C_Until 4 [] (sp_Until_init K) := ⟨_, _, _, _, m.m_Until, m.mk_Until, .nil, m.b_Until___init__, ok_Until___init__ m⟩
theorem r_mkUntil {H : Hp} {Q : VK} {E : XK} {C : Addr} {vs dvs : List V} {n s : Str} {e : V} {wd i0 : Int} (ev : vs ++ dvs = [.str n, .str s, e, .int wd, .int i0]) (dc : DCls K C) (hn : nameB n = true) (hs : nameB s = true) (he : EndOk e) (hw : 0 ≤ wd) (b0 : 0 ≤ i0)
    (k : ∀ p dx H', H p = none → Same H H' → H' p = some (.ins C dx (UntilFs (.str n) (.str s) e (.int wd) (.int i0))) → Q (.ref p) H') : MakeP C (sp_Until_init K) dvs E Q vs H :=
  rd_makeV (fun p dx H0 Q' h k' s0 => by rw [ev]; exact r_Until_init dc h hn hs he hw b0 k') k
local macro_rules | `(tactic| walk_at "rd1") => `(tactic| ((with_reducible refine' r_mkUntil ?v ?d ?hn ?hs ?he ?hw ?b0 ?_); (case v => rfl); (case d => assumption); (case hn => assumption); (case hs => assumption); (case he => first | assumption | exact .inl rfl | exact .inr ⟨_, rfl, by assumption⟩); (case hw => walk_at "sd"); (case b0 => walk_at "sd"); intro p' dx' H' n' S' e'))
def UntilV (wd i0 t : Int) : Int := if t < i0 then wd else 0
def sp_Until_lets (K : PySem.W.Frag) : Sp := fun vs H Q _ => ∃ (p C dx : Addr) (fs : List (Str × V)) (t wd i0 : Int), vs = [.ref p, .int t] ∧ DCls K C ∧ H p = some (.ins C dx fs) ∧ fs.lookup ("wide" : Str) = some (.int wd) ∧ fs.lookup ("until" : Str) = some (.int i0) ∧ 0 ≤ t ∧ 0 ≤ i0 ∧ Q (.int (UntilV wd i0 t)) H
theorem r_Until_lets {H : Hp} {Q : VK} {E : XK} {p C dx : Addr} {fs : List (Str × V)} {t wd i0 : Int} (hp : H p = some (.ins C dx fs)) (dc : DCls K C) (l : fs.lookup ("wide" : Str) = some (.int wd)) (m0 : fs.lookup ("until" : Str) = some (.int i0)) (ht : 0 ≤ t) (b0 : 0 ≤ i0) (k : Q (.int (UntilV wd i0 t)) H) : sp_Until_lets K [.ref p, .int t] H Q E := ⟨_, _, _, _, _, _, _, rfl, dc, hp, l, m0, ht, b0, k⟩
theorem ok_Until_lets (m : M K mg) : FnOk P w K mg base CX0 1 m.a_Until_lets m.d_Until_lets ["self", "turn"] (sp_Until_lets K) := by
  refine m.F_Until_lets.ok sc_Until_lets (fun vs H Q E h => ?_) (fun cdv A outer s H vs Q E hr h => ?_)
  · obtain ⟨p, C, dx, fs, t, wd, i0, rfl, dc, hp, l, m0, ht, b0, k⟩ := h
    rfl
  · obtain ⟨p, C, dx, fs, t, wd, i0, rfl, dc, hp, l, m0, ht, b0, k⟩ := h
    have nd := sc_Until_lets.nd
    have hu0 := Room.units0 hr
    refine ⟨_, (pss_one (ps_ret (pe_ifExp (pt_cmpR op_lt (pv 1) (pe_fld (pv 0) rfl) (nomark _)) (pe_fld (pv 0) rfl) pe_int))), ?_⟩
    refine rd_start (σ := [some (.ref p), some (.int t)]) rfl ?_
    unfold UntilV at k
    walk_at "go"
    refine rd_if2 (fun hw => ?_) (fun hw => ?_)
    · walk_at "go"
      rw [if_pos hw] at k
      exact k
    · walk_at "go"
      rw [if_neg hw] at k
      exact k
theorem mc_Until_lets (m : M K mg) : Mc P w K mg base m.C_Until "lets" 1 (sp_Until_lets K) := ⟨_, _, _, m.dc_Until.ic.cl, m.mt_Until_lets, m.b_Until_lets, ok_Until_lets m⟩
local macro_rules | `(tactic| walk_at "rd1") => `(tactic| ((with_reducible refine' r_Until_lets ?e ?d ?l ?m0 ?ht ?b0 ?_); (case e => walk_at "hp"); (case d => assumption); (case l => walk_at "lk"); (case m0 => walk_at "lk"); (case ht => walk_at "sd");  (case b0 => walk_at "sd")))
def sp_words_Until (P : Program) (w : World) (K : PySem.W.Frag) (mg : Str → Option Value) (base : Heap) : Sp := fun vs H Q _ => ∃ (p C dx : Addr) (fs : List (Str × V)) (n s : Str) (e : V) (i0 i1 : Int), vs = [.ref p] ∧ DCls K C ∧ Mc P w K mg base C "is_exit" 1 (sp_exit K) ∧
  H p = some (.ins C dx fs) ∧ fs.lookup ("is_exit" : Str) = none ∧ fs.lookup ("name" : Str) = some (.str n) ∧ fs.lookup ("start" : Str) = some (.str s) ∧ fs.lookup ("end" : Str) = some e ∧ fs.lookup ("wide" : Str) = some (.int i0) ∧ fs.lookup ("until" : Str) = some (.int i1) ∧ nameB n = true ∧ nameB s = true ∧ EndOk e ∧ NumOk i0 ∧ NumOk i1 ∧
  ∀ H', Same H H' → Q (.str (wordsS "until" n s e [i0, i1])) H'
theorem r_words_Until {H : Hp} {Q : VK} {E : XK} {p C dx : Addr} {fs : List (Str × V)} {n s : Str} {e : V} {i0 i1 : Int} (hp : H p = some (.ins C dx fs)) (dc : DCls K C) (mc : Mc P w K mg base C "is_exit" 1 (sp_exit K)) (l0 : fs.lookup ("is_exit" : Str) = none)
    (l1 : fs.lookup ("name" : Str) = some (.str n)) (l2 : fs.lookup ("start" : Str) = some (.str s)) (l3 : fs.lookup ("end" : Str) = some e) (m0 : fs.lookup ("wide" : Str) = some (.int i0)) (m1 : fs.lookup ("until" : Str) = some (.int i1)) (hn : nameB n = true) (hs : nameB s = true) (he : EndOk e) (b0 : NumOk i0) (b1 : NumOk i1)
    (k : ∀ H', Same H H' → Q (.str (wordsS "until" n s e [i0, i1])) H') : sp_words_Until P w K mg base [.ref p] H Q E := ⟨_, _, _, _, _, _, _, _, _, rfl, dc, mc, hp, l0, l1, l2, l3, m0, m1, hn, hs, he, b0, b1, k⟩
theorem ok_Until_words (m : M K mg) : FnOk P w K mg base CX0 3 m.a_Until_words m.d_Until_words ["self"] (sp_words_Until P w K mg base) := by
  refine m.F_Until_words.ok sc_Until_words (fun vs H Q E h => ?_) (fun cdv A outer s H vs Q E hr h => ?_)
  · obtain ⟨p, C, dx, fs, n, st, e, i0, i1, rfl, dc, mc, hp, l0, l1, l2, l3, m0, m1, hn, hs, he, b0, b1, k⟩ := h
    rfl
  · obtain ⟨p, C, dx, fs, n, st, e, i0, i1, rfl, dc, mc, hp, l0, l1, l2, l3, m0, m1, hn, hs, he, b0, b1, k⟩ := h
    have nd := sc_Until_words.nd
    have hu0 := Room.units0 hr
    have F_row_of_words := fc_row_of_words (P := P) (w := w) (base := base) m
    refine ⟨_, (pss_one (ps_ret (pe_f F_row_of_words hr (pa_cons pe_str (pa_cons (pv 0) (pa_cons (pe_lst (pa_cons (pe_fld (pv 0) rfl) (pa_cons (pe_fld (pv 0) rfl) pa_nil))) pa_nil)))))), ?_⟩
    refine rd_start (σ := [some (.ref p)]) rfl ?_
    walk_at "go"
    exact r_row (ns := [i0, i1]) (by walk_at "hp") (SqL.of (by assumption)) dc mc l0 l1 l2 l3 (by rw [lit_len]; decide) hn hs he (by simp) (all2 b0 b1) (fun H2 s2 => k H2 (by walk_at "sm"))
theorem mc_Until_words (m : M K mg) : Mc P w K mg base m.C_Until "words" 3 (sp_words_Until P w K mg base) := ⟨_, _, _, m.dc_Until.ic.cl, m.mt_Until_words, m.b_Until_words, ok_Until_words m⟩
local macro_rules | `(tactic| walk_at "rd1") => `(tactic| ((with_reducible refine' r_words_Until ?e ?d ?m ?l0 ?l1 ?l2 ?l3 ?m0 ?m1 ?hn ?hs ?he ?b0 ?b1 ?_); (case e => walk_at "hp"); (case d => assumption); (case m => assumption); (case l0 => walk_at "lk"); (case l1 => walk_at "lk"); (case l2 => walk_at "lk"); (case l3 => walk_at "lk"); (case m0 => walk_at "lk"); (case m1 => walk_at "lk"); (case hn => assumption); (case hs => assumption); (case he => assumption); (case b0 => exact ⟨by omega, by omega⟩); (case b1 => exact ⟨by omega, by omega⟩); intro H' S'))
abbrev BeatFs (n s e w i0 i1 : V) : List (Str × V) := putF "since" i1 (putF "every" i0 (doorFs n s e w))
def sp_Beat_init (K : PySem.W.Frag) : Sp := fun vs H Q _ => ∃ (p C dx : Addr) (n s : Str) (e : V) (wd i0 i1 : Int), vs = [.ref p, .str n, .str s, e, .int wd, .int i0, .int i1] ∧ DCls K C ∧ H p = some (.ins C dx []) ∧ nameB n = true ∧ nameB s = true ∧ EndOk e ∧ 0 ≤ wd ∧ 1 ≤ i0 ∧ 0 ≤ i1 ∧
  ∀ H', SameBut p H H' → H' p = some (.ins C dx (BeatFs (.str n) (.str s) e (.int wd) (.int i0) (.int i1))) → Q .non H'
theorem r_Beat_init {H : Hp} {Q : VK} {E : XK} {p C dx : Addr} {n s : Str} {e : V} {wd i0 i1 : Int} (dc : DCls K C) (hp : H p = some (.ins C dx [])) (hn : nameB n = true) (hs : nameB s = true) (he : EndOk e) (hw : 0 ≤ wd) (b0 : 1 ≤ i0) (b1 : 0 ≤ i1)
    (k : ∀ H', SameBut p H H' → H' p = some (.ins C dx (BeatFs (.str n) (.str s) e (.int wd) (.int i0) (.int i1))) → Q .non H') : sp_Beat_init K [.ref p, .str n, .str s, e, .int wd, .int i0, .int i1] H Q E := ⟨_, _, _, _, _, _, _, _, _, rfl, dc, hp, hn, hs, he, hw, b0, b1, k⟩
theorem ok_Beat___init__ (m : M K mg) : FnOk P w K mg base CX0 4 m.a_Beat___init__ m.d_Beat___init__ ["self", "name", "start", "end", "wide", "every", "since"] (sp_Beat_init K) := by
  refine m.F_Beat___init__.ok sc_Beat___init__ (fun vs H Q E h => ?_) (fun cdv A outer s H vs Q E hr h => ?_)
  · obtain ⟨p, C, dx, n, st, e, wd, i0, i1, rfl, dc, hp, hn, hs, he, hw, b0, b1, k⟩ := h
    rfl
  · obtain ⟨p, C, dx, n, st, e, wd, i0, i1, rfl, dc, hp, hn, hs, he, hw, b0, b1, k⟩ := h
    have nd := sc_Beat___init__.nd
    have hu0 := Room.units0 hr
    have D_Door___init__ := dcall_Door___init__ (P := P) (w := w) (base := base) m
    have F_need_whole := fc_need_whole (P := P) (w := w) (base := base) m
    refine ⟨_, (pss_cons (ps_expr (pe_dm D_Door___init__ hr (pa_cons (pv 0) (pa_cons (pv 1) (pa_cons (pv 2) (pa_cons (pv 3) (pa_cons (pv 4) pa_nil)))))))
      (pss_cons (ps_expr (pe_f F_need_whole hr (pa_cons pe_str (pa_cons (pv 5) (pa_cons pe_int pa_nil)))))
      (pss_cons (ps_expr (pe_f F_need_whole hr (pa_cons pe_str (pa_cons (pv 6) (pa_cons pe_int pa_nil)))))
      (pss_cons (ps_fld (pv 0) (pv 5) rfl)
      (pss_one (ps_fld (pv 0) (pv 6) rfl)))))), ?_⟩
    refine rd_start (σ := [some (.ref p), some (.str n), some (.str st), some (e), some (.int wd), some (.int i0), some (.int i1)]) rfl ?_
    walk_at "go"
    exact k _ (by walk_at "sb") (by assumption)
theorem kc_Beat_0 (m : M K mg) : Kc P w K mg base "Beat" m.C_Beat 4 [] (sp_Beat_init K) := ⟨_, _, _, _, m.m_Beat, m.mk_Beat, .nil, m.b_Beat___init__, ok_Beat___init__ m⟩
theorem r_mkBeat {H : Hp} {Q : VK} {E : XK} {C : Addr} {vs dvs : List V} {n s : Str} {e : V} {wd i0 i1 : Int} (ev : vs ++ dvs = [.str n, .str s, e, .int wd, .int i0, .int i1]) (dc : DCls K C) (hn : nameB n = true) (hs : nameB s = true) (he : EndOk e) (hw : 0 ≤ wd) (b0 : 1 ≤ i0) (b1 : 0 ≤ i1)
    (k : ∀ p dx H', H p = none → Same H H' → H' p = some (.ins C dx (BeatFs (.str n) (.str s) e (.int wd) (.int i0) (.int i1))) → Q (.ref p) H') : MakeP C (sp_Beat_init K) dvs E Q vs H :=
  rd_makeV (fun p dx H0 Q' h k' s0 => by rw [ev]; exact r_Beat_init dc h hn hs he hw b0 b1 k') k
local macro_rules | `(tactic| walk_at "rd1") => `(tactic| ((with_reducible refine' r_mkBeat ?v ?d ?hn ?hs ?he ?hw ?b0 ?b1 ?_); (case v => rfl); (case d => assumption); (case hn => assumption); (case hs => assumption); (case he => first | assumption | exact .inl rfl | exact .inr ⟨_, rfl, by assumption⟩); (case hw => walk_at "sd"); (case b0 => walk_at "sd"); (case b1 => walk_at "sd"); intro p' dx' H' n' S' e'))
def BeatV (wd i0 i1 t : Int) : Int := if 0 ≤ t - i1 ∧ (t - i1) % i0 = 0 then wd else 0
def sp_Beat_lets (K : PySem.W.Frag) : Sp := fun vs H Q _ => ∃ (p C dx : Addr) (fs : List (Str × V)) (t wd i0 i1 : Int), vs = [.ref p, .int t] ∧ DCls K C ∧ H p = some (.ins C dx fs) ∧ fs.lookup ("wide" : Str) = some (.int wd) ∧ fs.lookup ("every" : Str) = some (.int i0) ∧ fs.lookup ("since" : Str) = some (.int i1) ∧ 0 ≤ t ∧ 1 ≤ i0 ∧ 0 ≤ i1 ∧ Q (.int (BeatV wd i0 i1 t)) H
theorem r_Beat_lets {H : Hp} {Q : VK} {E : XK} {p C dx : Addr} {fs : List (Str × V)} {t wd i0 i1 : Int} (hp : H p = some (.ins C dx fs)) (dc : DCls K C) (l : fs.lookup ("wide" : Str) = some (.int wd)) (m0 : fs.lookup ("every" : Str) = some (.int i0)) (m1 : fs.lookup ("since" : Str) = some (.int i1)) (ht : 0 ≤ t) (b0 : 1 ≤ i0) (b1 : 0 ≤ i1) (k : Q (.int (BeatV wd i0 i1 t)) H) : sp_Beat_lets K [.ref p, .int t] H Q E := ⟨_, _, _, _, _, _, _, _, rfl, dc, hp, l, m0, m1, ht, b0, b1, k⟩
theorem ok_Beat_lets (m : M K mg) : FnOk P w K mg base CX0 1 m.a_Beat_lets m.d_Beat_lets ["self", "turn"] (sp_Beat_lets K) := by
  refine m.F_Beat_lets.ok sc_Beat_lets (fun vs H Q E h => ?_) (fun cdv A outer s H vs Q E hr h => ?_)
  · obtain ⟨p, C, dx, fs, t, wd, i0, i1, rfl, dc, hp, l, m0, m1, ht, b0, b1, k⟩ := h
    rfl
  · obtain ⟨p, C, dx, fs, t, wd, i0, i1, rfl, dc, hp, l, m0, m1, ht, b0, b1, k⟩ := h
    have nd := sc_Beat_lets.nd
    have hu0 := Room.units0 hr
    refine ⟨_, (pss_cons (ps_set (i := 2) nd rfl (by first | exact Or.inl rfl | exact Or.inr rfl) (pe_op op_sub (pv 1) (pe_fld (pv 0) rfl)))
      (pss_one (ps_ret (pe_ifExp (PW.pt (pw_and (pt_cmpR op_ge (pv 2) pe_int (nomark _)) (pw_and1 (pt_cmpR op_eq (pe_op op_mod (pv 2) (pe_fld (pv 0) rfl)) pe_int (nomark _))))) (pe_fld (pv 0) rfl) pe_int)))), ?_⟩
    refine rd_start (σ := [some (.ref p), some (.int t), none]) rfl ?_
    unfold BeatV at k
    walk_at "go"
    refine rd_if2 (fun hw => ?_) (fun hw => ?_)
    · walk_at "go"
      refine rd_if2 (fun hv => ?_) (fun hv => ?_)
      · walk_at "go"
        rw [if_pos ⟨hw, hv⟩] at k
        exact k
      · walk_at "go"
        rw [if_neg (fun z => hv z.2)] at k
        exact k
    · walk_at "go"
      rw [if_neg (fun z => hw z.1)] at k
      exact k
theorem mc_Beat_lets (m : M K mg) : Mc P w K mg base m.C_Beat "lets" 1 (sp_Beat_lets K) := ⟨_, _, _, m.dc_Beat.ic.cl, m.mt_Beat_lets, m.b_Beat_lets, ok_Beat_lets m⟩
local macro_rules | `(tactic| walk_at "rd1") => `(tactic| ((with_reducible refine' r_Beat_lets ?e ?d ?l ?m0 ?m1 ?ht ?b0 ?b1 ?_); (case e => walk_at "hp"); (case d => assumption); (case l => walk_at "lk"); (case m0 => walk_at "lk"); (case m1 => walk_at "lk"); (case ht => walk_at "sd"); (case b0 => walk_at "sd"); (case b1 => walk_at "sd")))
def sp_words_Beat (P : Program) (w : World) (K : PySem.W.Frag) (mg : Str → Option Value) (base : Heap) : Sp := fun vs H Q _ => ∃ (p C dx : Addr) (fs : List (Str × V)) (n s : Str) (e : V) (i0 i1 i2 : Int), vs = [.ref p] ∧ DCls K C ∧ Mc P w K mg base C "is_exit" 1 (sp_exit K) ∧
  H p = some (.ins C dx fs) ∧ fs.lookup ("is_exit" : Str) = none ∧ fs.lookup ("name" : Str) = some (.str n) ∧ fs.lookup ("start" : Str) = some (.str s) ∧ fs.lookup ("end" : Str) = some e ∧ fs.lookup ("wide" : Str) = some (.int i0) ∧ fs.lookup ("every" : Str) = some (.int i1) ∧ fs.lookup ("since" : Str) = some (.int i2) ∧ nameB n = true ∧ nameB s = true ∧ EndOk e ∧ NumOk i0 ∧ NumOk i1 ∧ NumOk i2 ∧
  ∀ H', Same H H' → Q (.str (wordsS "beat" n s e [i0, i1, i2])) H'
theorem r_words_Beat {H : Hp} {Q : VK} {E : XK} {p C dx : Addr} {fs : List (Str × V)} {n s : Str} {e : V} {i0 i1 i2 : Int} (hp : H p = some (.ins C dx fs)) (dc : DCls K C) (mc : Mc P w K mg base C "is_exit" 1 (sp_exit K)) (l0 : fs.lookup ("is_exit" : Str) = none)
    (l1 : fs.lookup ("name" : Str) = some (.str n)) (l2 : fs.lookup ("start" : Str) = some (.str s)) (l3 : fs.lookup ("end" : Str) = some e) (m0 : fs.lookup ("wide" : Str) = some (.int i0)) (m1 : fs.lookup ("every" : Str) = some (.int i1)) (m2 : fs.lookup ("since" : Str) = some (.int i2)) (hn : nameB n = true) (hs : nameB s = true) (he : EndOk e) (b0 : NumOk i0) (b1 : NumOk i1) (b2 : NumOk i2)
    (k : ∀ H', Same H H' → Q (.str (wordsS "beat" n s e [i0, i1, i2])) H') : sp_words_Beat P w K mg base [.ref p] H Q E := ⟨_, _, _, _, _, _, _, _, _, _, rfl, dc, mc, hp, l0, l1, l2, l3, m0, m1, m2, hn, hs, he, b0, b1, b2, k⟩
theorem ok_Beat_words (m : M K mg) : FnOk P w K mg base CX0 3 m.a_Beat_words m.d_Beat_words ["self"] (sp_words_Beat P w K mg base) := by
  refine m.F_Beat_words.ok sc_Beat_words (fun vs H Q E h => ?_) (fun cdv A outer s H vs Q E hr h => ?_)
  · obtain ⟨p, C, dx, fs, n, st, e, i0, i1, i2, rfl, dc, mc, hp, l0, l1, l2, l3, m0, m1, m2, hn, hs, he, b0, b1, b2, k⟩ := h
    rfl
  · obtain ⟨p, C, dx, fs, n, st, e, i0, i1, i2, rfl, dc, mc, hp, l0, l1, l2, l3, m0, m1, m2, hn, hs, he, b0, b1, b2, k⟩ := h
    have nd := sc_Beat_words.nd
    have hu0 := Room.units0 hr
    have F_row_of_words := fc_row_of_words (P := P) (w := w) (base := base) m
    refine ⟨_, (pss_one (ps_ret (pe_f F_row_of_words hr (pa_cons pe_str (pa_cons (pv 0) (pa_cons (pe_lst (pa_cons (pe_fld (pv 0) rfl) (pa_cons (pe_fld (pv 0) rfl) (pa_cons (pe_fld (pv 0) rfl) pa_nil)))) pa_nil)))))), ?_⟩
    refine rd_start (σ := [some (.ref p)]) rfl ?_
    walk_at "go"
    exact r_row (ns := [i0, i1, i2]) (by walk_at "hp") (SqL.of (by assumption)) dc mc l0 l1 l2 l3 (by rw [lit_len]; decide) hn hs he (by simp) (all3 b0 b1 b2) (fun H2 s2 => k H2 (by walk_at "sm"))
theorem mc_Beat_words (m : M K mg) : Mc P w K mg base m.C_Beat "words" 3 (sp_words_Beat P w K mg base) := ⟨_, _, _, m.dc_Beat.ic.cl, m.mt_Beat_words, m.b_Beat_words, ok_Beat_words m⟩
local macro_rules | `(tactic| walk_at "rd1") => `(tactic| ((with_reducible refine' r_words_Beat ?e ?d ?m ?l0 ?l1 ?l2 ?l3 ?m0 ?m1 ?m2 ?hn ?hs ?he ?b0 ?b1 ?b2 ?_); (case e => walk_at "hp"); (case d => assumption); (case m => assumption); (case l0 => walk_at "lk"); (case l1 => walk_at "lk"); (case l2 => walk_at "lk"); (case l3 => walk_at "lk"); (case m0 => walk_at "lk"); (case m1 => walk_at "lk"); (case m2 => walk_at "lk"); (case hn => assumption); (case hs => assumption); (case he => assumption); (case b0 => exact ⟨by omega, by omega⟩); (case b1 => exact ⟨by omega, by omega⟩); (case b2 => exact ⟨by omega, by omega⟩); intro H' S'))
local macro_rules | `(tactic| walk_at "rd1") => `(tactic| first | (with_reducible refine rd_bitlen ?_) | ((with_reducible refine' rd_nonneg ?s ?_); (case s => walk_at "sd")) | ((with_reducible refine' rd_pow ?s ?r ?u ?_); (case s => walk_at "sd"); (case r => walk_at "sd"); (case u => decide)))
abbrev MarkedFs (n s e w i0 : V) : List (Str × V) := putF "bits" i0 (doorFs n s e w)
def sp_Marked_init (K : PySem.W.Frag) : Sp := fun vs H Q _ => ∃ (p C dx : Addr) (n s : Str) (e : V) (wd i0 : Int), vs = [.ref p, .str n, .str s, e, .int wd, .int i0] ∧ DCls K C ∧ H p = some (.ins C dx []) ∧ nameB n = true ∧ nameB s = true ∧ EndOk e ∧ 0 ≤ wd ∧ 0 ≤ i0 ∧
  ∀ H', SameBut p H H' → H' p = some (.ins C dx (MarkedFs (.str n) (.str s) e (.int wd) (.int i0))) → Q .non H'
theorem r_Marked_init {H : Hp} {Q : VK} {E : XK} {p C dx : Addr} {n s : Str} {e : V} {wd i0 : Int} (dc : DCls K C) (hp : H p = some (.ins C dx [])) (hn : nameB n = true) (hs : nameB s = true) (he : EndOk e) (hw : 0 ≤ wd) (b0 : 0 ≤ i0)
    (k : ∀ H', SameBut p H H' → H' p = some (.ins C dx (MarkedFs (.str n) (.str s) e (.int wd) (.int i0))) → Q .non H') : sp_Marked_init K [.ref p, .str n, .str s, e, .int wd, .int i0] H Q E := ⟨_, _, _, _, _, _, _, _, rfl, dc, hp, hn, hs, he, hw, b0, k⟩
theorem ok_Marked___init__ (m : M K mg) : FnOk P w K mg base CX0 4 m.a_Marked___init__ m.d_Marked___init__ ["self", "name", "start", "end", "wide", "bits"] (sp_Marked_init K) := by
  refine m.F_Marked___init__.ok sc_Marked___init__ (fun vs H Q E h => ?_) (fun cdv A outer s H vs Q E hr h => ?_)
  · obtain ⟨p, C, dx, n, st, e, wd, i0, rfl, dc, hp, hn, hs, he, hw, b0, k⟩ := h
    rfl
  · obtain ⟨p, C, dx, n, st, e, wd, i0, rfl, dc, hp, hn, hs, he, hw, b0, k⟩ := h
    have nd := sc_Marked___init__.nd
    have hu0 := Room.units0 hr
    have D_Door___init__ := dcall_Door___init__ (P := P) (w := w) (base := base) m
    have F_need_whole := fc_need_whole (P := P) (w := w) (base := base) m
    refine ⟨_, (pss_cons (ps_expr (pe_dm D_Door___init__ hr (pa_cons (pv 0) (pa_cons (pv 1) (pa_cons (pv 2) (pa_cons (pv 3) (pa_cons (pv 4) pa_nil)))))))
      (pss_cons (ps_expr (pe_f F_need_whole hr (pa_cons pe_str (pa_cons (pv 5) (pa_cons pe_int pa_nil)))))
      (pss_one (ps_fld (pv 0) (pv 5) rfl)))), ?_⟩
    refine rd_start (σ := [some (.ref p), some (.str n), some (.str st), some (e), some (.int wd), some (.int i0)]) rfl ?_
    walk_at "go"
    exact k _ (by walk_at "sb") (by assumption)
theorem kc_Marked_0 (m : M K mg) : Kc P w K mg base "Marked" m.C_Marked 4 [] (sp_Marked_init K) := ⟨_, _, _, _, m.m_Marked, m.mk_Marked, .nil, m.b_Marked___init__, ok_Marked___init__ m⟩
theorem r_mkMarked {H : Hp} {Q : VK} {E : XK} {C : Addr} {vs dvs : List V} {n s : Str} {e : V} {wd i0 : Int} (ev : vs ++ dvs = [.str n, .str s, e, .int wd, .int i0]) (dc : DCls K C) (hn : nameB n = true) (hs : nameB s = true) (he : EndOk e) (hw : 0 ≤ wd) (b0 : 0 ≤ i0)
    (k : ∀ p dx H', H p = none → Same H H' → H' p = some (.ins C dx (MarkedFs (.str n) (.str s) e (.int wd) (.int i0))) → Q (.ref p) H') : MakeP C (sp_Marked_init K) dvs E Q vs H :=
  rd_makeV (fun p dx H0 Q' h k' s0 => by rw [ev]; exact r_Marked_init dc h hn hs he hw b0 k') k
local macro_rules | `(tactic| walk_at "rd1") => `(tactic| ((with_reducible refine' r_mkMarked ?v ?d ?hn ?hs ?he ?hw ?b0 ?_); (case v => rfl); (case d => assumption); (case hn => assumption); (case hs => assumption); (case he => first | assumption | exact .inl rfl | exact .inr ⟨_, rfl, by assumption⟩); (case hw => walk_at "sd"); (case b0 => walk_at "sd"); intro p' dx' H' n' S' e'))
def MarkedV (wd i0 t : Int) : Int := if i0 / 2 ^ t.toNat % 2 = 1 then wd else 0
def sp_Marked_lets (K : PySem.W.Frag) : Sp := fun vs H Q _ => ∃ (p C dx : Addr) (fs : List (Str × V)) (t wd i0 : Int), vs = [.ref p, .int t] ∧ DCls K C ∧ H p = some (.ins C dx fs) ∧ fs.lookup ("wide" : Str) = some (.int wd) ∧ fs.lookup ("bits" : Str) = some (.int i0) ∧ 0 ≤ t ∧ 0 ≤ i0 ∧ Q (.int (MarkedV wd i0 t)) H
theorem r_Marked_lets {H : Hp} {Q : VK} {E : XK} {p C dx : Addr} {fs : List (Str × V)} {t wd i0 : Int} (hp : H p = some (.ins C dx fs)) (dc : DCls K C) (l : fs.lookup ("wide" : Str) = some (.int wd)) (m0 : fs.lookup ("bits" : Str) = some (.int i0)) (ht : 0 ≤ t) (b0 : 0 ≤ i0) (k : Q (.int (MarkedV wd i0 t)) H) : sp_Marked_lets K [.ref p, .int t] H Q E := ⟨_, _, _, _, _, _, _, rfl, dc, hp, l, m0, ht, b0, k⟩
theorem ok_Marked_lets (m : M K mg) : FnOk P w K mg base CX0 1 m.a_Marked_lets m.d_Marked_lets ["self", "turn"] (sp_Marked_lets K) := by
  refine m.F_Marked_lets.ok sc_Marked_lets (fun vs H Q E h => ?_) (fun cdv A outer s H vs Q E hr h => ?_)
  · obtain ⟨p, C, dx, fs, t, wd, i0, rfl, dc, hp, l, m0, ht, b0, k⟩ := h
    rfl
  · obtain ⟨p, C, dx, fs, t, wd, i0, rfl, dc, hp, l, m0, ht, b0, k⟩ := h
    have nd := sc_Marked_lets.nd
    have hu0 := Room.units0 hr
    refine ⟨_, (pss_cons (ps_if (pt_cmpR op_ge (pv 1) (pe_bm0 PySem.F.plainAttrs_int PySem.F.slot_int_bit_length PySem.F.type_int_bit_length mt_bitlen (pe_fld (pv 0) rfl)) (nomark _)) (pss_one (ps_ret pe_int)) pss_nil)
      (pss_one (ps_ret (pe_ifExp (pt_cmpR op_eq (pe_op op_mod (pe_op op_shr (pe_fld (pv 0) rfl) (pv 1)) pe_int) pe_int (nomark _)) (pe_fld (pv 0) rfl) pe_int)))), ?_⟩
    refine rd_start (σ := [some (.ref p), some (.int t)]) rfl ?_
    unfold MarkedV at k
    walk_at "go"
    refine rd_if2 (fun hw => ?_) (fun hw => ?_)
    · walk_at "go"
      rw [if_neg (by rw [bits_none b0 hw]; decide)] at k
      exact k
    · walk_at "go"
      refine rd_if2 (fun hv => ?_) (fun hv => ?_)
      · walk_at "go"
        rw [if_pos hv] at k
        exact k
      · walk_at "go"
        rw [if_neg hv] at k
        exact k
theorem mc_Marked_lets (m : M K mg) : Mc P w K mg base m.C_Marked "lets" 1 (sp_Marked_lets K) := ⟨_, _, _, m.dc_Marked.ic.cl, m.mt_Marked_lets, m.b_Marked_lets, ok_Marked_lets m⟩
local macro_rules | `(tactic| walk_at "rd1") => `(tactic| ((with_reducible refine' r_Marked_lets ?e ?d ?l ?m0 ?ht ?b0 ?_); (case e => walk_at "hp"); (case d => assumption); (case l => walk_at "lk"); (case m0 => walk_at "lk"); (case ht => walk_at "sd");  (case b0 => walk_at "sd")))
def sp_words_Marked (P : Program) (w : World) (K : PySem.W.Frag) (mg : Str → Option Value) (base : Heap) : Sp := fun vs H Q _ => ∃ (p C dx : Addr) (fs : List (Str × V)) (n s : Str) (e : V) (i0 i1 : Int), vs = [.ref p] ∧ DCls K C ∧ Mc P w K mg base C "is_exit" 1 (sp_exit K) ∧
  H p = some (.ins C dx fs) ∧ fs.lookup ("is_exit" : Str) = none ∧ fs.lookup ("name" : Str) = some (.str n) ∧ fs.lookup ("start" : Str) = some (.str s) ∧ fs.lookup ("end" : Str) = some e ∧ fs.lookup ("wide" : Str) = some (.int i0) ∧ fs.lookup ("bits" : Str) = some (.int i1) ∧ nameB n = true ∧ nameB s = true ∧ EndOk e ∧ NumOk i0 ∧ NumOk i1 ∧
  ∀ H', Same H H' → Q (.str (wordsS "marked" n s e [i0, i1])) H'
theorem r_words_Marked {H : Hp} {Q : VK} {E : XK} {p C dx : Addr} {fs : List (Str × V)} {n s : Str} {e : V} {i0 i1 : Int} (hp : H p = some (.ins C dx fs)) (dc : DCls K C) (mc : Mc P w K mg base C "is_exit" 1 (sp_exit K)) (l0 : fs.lookup ("is_exit" : Str) = none)
    (l1 : fs.lookup ("name" : Str) = some (.str n)) (l2 : fs.lookup ("start" : Str) = some (.str s)) (l3 : fs.lookup ("end" : Str) = some e) (m0 : fs.lookup ("wide" : Str) = some (.int i0)) (m1 : fs.lookup ("bits" : Str) = some (.int i1)) (hn : nameB n = true) (hs : nameB s = true) (he : EndOk e) (b0 : NumOk i0) (b1 : NumOk i1)
    (k : ∀ H', Same H H' → Q (.str (wordsS "marked" n s e [i0, i1])) H') : sp_words_Marked P w K mg base [.ref p] H Q E := ⟨_, _, _, _, _, _, _, _, _, rfl, dc, mc, hp, l0, l1, l2, l3, m0, m1, hn, hs, he, b0, b1, k⟩
theorem ok_Marked_words (m : M K mg) : FnOk P w K mg base CX0 3 m.a_Marked_words m.d_Marked_words ["self"] (sp_words_Marked P w K mg base) := by
  refine m.F_Marked_words.ok sc_Marked_words (fun vs H Q E h => ?_) (fun cdv A outer s H vs Q E hr h => ?_)
  · obtain ⟨p, C, dx, fs, n, st, e, i0, i1, rfl, dc, mc, hp, l0, l1, l2, l3, m0, m1, hn, hs, he, b0, b1, k⟩ := h
    rfl
  · obtain ⟨p, C, dx, fs, n, st, e, i0, i1, rfl, dc, mc, hp, l0, l1, l2, l3, m0, m1, hn, hs, he, b0, b1, k⟩ := h
    have nd := sc_Marked_words.nd
    have hu0 := Room.units0 hr
    have F_row_of_words := fc_row_of_words (P := P) (w := w) (base := base) m
    refine ⟨_, (pss_one (ps_ret (pe_f F_row_of_words hr (pa_cons pe_str (pa_cons (pv 0) (pa_cons (pe_lst (pa_cons (pe_fld (pv 0) rfl) (pa_cons (pe_fld (pv 0) rfl) pa_nil))) pa_nil)))))), ?_⟩
    refine rd_start (σ := [some (.ref p)]) rfl ?_
    walk_at "go"
    exact r_row (ns := [i0, i1]) (by walk_at "hp") (SqL.of (by assumption)) dc mc l0 l1 l2 l3 (by rw [lit_len]; decide) hn hs he (by simp) (all2 b0 b1) (fun H2 s2 => k H2 (by walk_at "sm"))
theorem mc_Marked_words (m : M K mg) : Mc P w K mg base m.C_Marked "words" 3 (sp_words_Marked P w K mg base) := ⟨_, _, _, m.dc_Marked.ic.cl, m.mt_Marked_words, m.b_Marked_words, ok_Marked_words m⟩
local macro_rules | `(tactic| walk_at "rd1") => `(tactic| ((with_reducible refine' r_words_Marked ?e ?d ?m ?l0 ?l1 ?l2 ?l3 ?m0 ?m1 ?hn ?hs ?he ?b0 ?b1 ?_); (case e => walk_at "hp"); (case d => assumption); (case m => assumption); (case l0 => walk_at "lk"); (case l1 => walk_at "lk"); (case l2 => walk_at "lk"); (case l3 => walk_at "lk"); (case m0 => walk_at "lk"); (case m1 => walk_at "lk"); (case hn => assumption); (case hs => assumption); (case he => assumption); (case b0 => exact ⟨by omega, by omega⟩); (case b1 => exact ⟨by omega, by omega⟩); intro H' S'))
/-! ### Told -/
abbrev ToldFs (n s e l : V) : List (Str × V) := putF "letting" l (doorFs n s e (.int 1))
def sp_Told_init (K : PySem.W.Frag) : Sp := fun vs H Q _ => ∃ (p C dx : Addr) (n s : Str) (e l : V), vs = [.ref p, .str n, .str s, e, l] ∧ DCls K C ∧ H p = some (.ins C dx []) ∧ nameB n = true ∧ nameB s = true ∧ EndOk e ∧
  ∀ H', SameBut p H H' → H' p = some (.ins C dx (ToldFs (.str n) (.str s) e l)) → Q .non H'
theorem r_Told_init {H : Hp} {Q : VK} {E : XK} {p C dx : Addr} {n s : Str} {e l : V} (dc : DCls K C) (hp : H p = some (.ins C dx [])) (hn : nameB n = true) (hs : nameB s = true) (he : EndOk e)
    (k : ∀ H', SameBut p H H' → H' p = some (.ins C dx (ToldFs (.str n) (.str s) e l)) → Q .non H') : sp_Told_init K [.ref p, .str n, .str s, e, l] H Q E := ⟨_, _, _, _, _, _, _, rfl, dc, hp, hn, hs, he, k⟩
theorem ok_Told___init__ (m : M K mg) : FnOk P w K mg base CX0 4 m.a_Told___init__ m.d_Told___init__ ["self", "name", "start", "end", "letting"] (sp_Told_init K) := by
  refine m.F_Told___init__.ok sc_Told___init__ (fun vs H Q E h => ?_) (fun cdv A outer s H vs Q E hr h => ?_)
  · obtain ⟨p, C, dx, n, st, e, l, rfl, dc, hp, hn, hs, he, k⟩ := h
    rfl
  · obtain ⟨p, C, dx, n, st, e, l, rfl, dc, hp, hn, hs, he, k⟩ := h
    have nd := sc_Told___init__.nd
    have hu0 := Room.units0 hr
    have DD_Door___init___1 := dcallD_Door___init___1 (P := P) (w := w) (base := base) m
    refine ⟨_, (pss_cons (ps_expr (pe_dmD DD_Door___init___1 hr (pa_cons (pv 0) (pa_cons (pv 1) (pa_cons (pv 2) (pa_cons (pv 3) pa_nil))))))
      (pss_one (ps_fld (pv 0) (pv 4) rfl))), ?_⟩
    refine rd_start (σ := [some (.ref p), some (.str n), some (.str st), some (e), some (l)]) rfl ?_
    walk_at "go"
    refine rd_callD ?_
    walk_at "go"
    show sp_Door_init K [.ref p, .str n, .str st, e, .int 1] _ _ _
    walk_at "go"
    exact k _ (by walk_at "sb") (by assumption)
theorem kc_Told_0 (m : M K mg) : Kc P w K mg base "Told" m.C_Told 4 [] (sp_Told_init K) := ⟨_, _, _, _, m.m_Told, m.mk_Told, .nil, m.b_Told___init__, ok_Told___init__ m⟩
theorem r_mkTold {H : Hp} {Q : VK} {E : XK} {C : Addr} {vs dvs : List V} {n s : Str} {e l : V} (ev : vs ++ dvs = [.str n, .str s, e, l]) (dc : DCls K C) (hn : nameB n = true) (hs : nameB s = true) (he : EndOk e)
    (k : ∀ p dx H', H p = none → Same H H' → H' p = some (.ins C dx (ToldFs (.str n) (.str s) e l)) → Q (.ref p) H') : MakeP C (sp_Told_init K) dvs E Q vs H :=
  rd_makeV (fun p dx H0 Q' h k' s0 => by rw [ev]; exact r_Told_init dc h hn hs he k') k
def sp_Told_lets (P : Program) (w : World) (K : PySem.W.Frag) (mg : Str → Option Value) (base : Heap) : Sp := fun vs H Q _ => ∃ (p C dx : Addr) (fs : List (Str × V)) (t : Int) (F : Addr) (o : Obj) (fd : FuncData) (ps : List Str) (sp : Sp), vs = [.ref p, .int t] ∧ DCls K C ∧ H p = some (.ins C dx fs) ∧
  fs.lookup ("letting" : Str) = some (.ref F) ∧ H F = some (kn o) ∧ o.data = .func fd ∧ Binds K fd ps [] ∧ FnOk P w K mg base CX0 3 F fd ps sp ∧ sp [.int t] H Q E0
theorem r_Told_lets {H : Hp} {Q : VK} {E : XK} {p C dx : Addr} {fs : List (Str × V)} {t : Int} {F : Addr} {o : Obj} {fd : FuncData} {ps : List Str} {sp : Sp} (hp : H p = some (.ins C dx fs)) (dc : DCls K C) (l : fs.lookup ("letting" : Str) = some (.ref F)) (hF : H F = some (kn o)) (hd : o.data = .func fd)
    (hb : Binds K fd ps []) (hf : FnOk P w K mg base CX0 3 F fd ps sp) (k : sp [.int t] H Q E0) : sp_Told_lets P w K mg base [.ref p, .int t] H Q E := ⟨_, _, _, _, _, _, _, _, _, _, rfl, dc, hp, l, hF, hd, hb, hf, k⟩
theorem ok_Told_lets (m : M K mg) : FnOk P w K mg base CX0 4 m.a_Told_lets m.d_Told_lets ["self", "turn"] (sp_Told_lets P w K mg base) := by
  refine m.F_Told_lets.ok sc_Told_lets (fun vs H Q E h => ?_) (fun cdv A outer s H vs Q E hr h => ?_)
  · obtain ⟨p, C, dx, fs, t, F, o, fd, ps, sp, rfl, dc, hp, l, hF, hd, hb, hf, k⟩ := h
    rfl
  · obtain ⟨p, C, dx, fs, t, F, o, fd, ps, sp, rfl, dc, hp, l, hF, hd, hb, hf, k⟩ := h
    have nd := sc_Told_lets.nd
    have hu0 := Room.units0 hr
    refine ⟨_, (pss_cons (ps_set (i := 2) nd rfl (by first | exact Or.inl rfl | exact Or.inr rfl) (pe_fld (pv 0) rfl))
      (pss_one (ps_ret (pe_callV 3 2 hr (pa_cons (pv 1) pa_nil))))), ?_⟩
    refine rd_start (σ := [some (.ref p), some (.int t), none]) rfl ?_
    walk_at "go"
    refine ⟨F, o, fd, rfl, hF, hd, ?_⟩
    walk_at "go"
    exact ⟨ps, sp, hF, hb, hf, k⟩
theorem mc_Told_lets (m : M K mg) : Mc P w K mg base m.C_Told "lets" 4 (sp_Told_lets P w K mg base) := ⟨_, _, _, m.dc_Told.ic.cl, m.mt_Told_lets, m.b_Told_lets, ok_Told_lets m⟩
def sp_Told_words (m : M K mg) : Sp := fun vs H Q E => ∃ p : Addr, vs = [.ref p] ∧ E (.ref m.C_NoText) none H
theorem ok_Told_words (m : M K mg) : FnOk P w K mg base (CXE P w) 3 m.a_Told_words m.d_Told_words ["self"] (sp_Told_words m) := by
  refine m.F_Told_words.okE sc_Told_words (fun vs H Q E h => ?_) (fun cdv A outer s H vs Q E hr h => ?_)
  · obtain ⟨p, rfl, k⟩ := h
    rfl
  · obtain ⟨p, rfl, k⟩ := h
    have nd := sc_Told_words.nd
    have hu0 := Room.units0 hr
    refine ⟨_, (pss_one (ps_raise m.m_NoText m.x_NoText raiseE (pa_cons pe_str pa_nil))), ?_⟩
    refine rd_start (σ := [some (.ref p)]) rfl ?_
    refine rd_raise ?_
    walk_at "go"
    exact ⟨(by show 1 ≤ sizeLine; decide), k⟩
theorem mc_Told_words (m : M K mg) : McE P w K mg base m.C_Told "words" 3 (sp_Told_words m) := ⟨_, _, _, m.dc_Told.ic.cl, m.mt_Told_words, m.b_Told_words, ok_Told_words m⟩

local macro_rules | `(tactic| walk_at "rd1") => `(tactic| ((with_reducible refine' r_Door_init ?d ?e ?hn ?hs ?he ?hw ?_); (case e => walk_at "hp"); (case d => assumption); (case hn => assumption); (case hs => assumption); (case he => assumption); (case hw => walk_at "sd"); intro H' B' e'))
abbrev ShutFs (q n s e a : V) : List (Str × V) := putF "turn" a (putF "inner" q (doorFs n s e (.int 1)))
def sp_Shut_init (K : PySem.W.Frag) : Sp := fun vs H Q _ => ∃ (p q C dx D dxq : Addr) (fsq : List (Str × V)) (n s : Str) (e : V) (a : Int), vs = [.ref p, .ref q, .int a] ∧ DCls K C ∧ DCls K D ∧ H p = some (.ins C dx []) ∧ H q = some (.ins D dxq fsq) ∧
  fsq.lookup ("name" : Str) = some (.str n) ∧ fsq.lookup ("start" : Str) = some (.str s) ∧ fsq.lookup ("end" : Str) = some e ∧ nameB n = true ∧ nameB s = true ∧ EndOk e ∧ 0 ≤ a ∧ ∀ H', SameBut p H H' → H' p = some (.ins C dx (ShutFs (.ref q) (.str n) (.str s) e (.int a))) → Q .non H'
theorem r_Shut_init {H : Hp} {Q : VK} {E : XK} {p q C dx D dxq : Addr} {fsq : List (Str × V)} {n s : Str} {e : V} {a : Int} (dc : DCls K C) (dd : DCls K D) (hp : H p = some (.ins C dx [])) (hq : H q = some (.ins D dxq fsq)) (l1 : fsq.lookup ("name" : Str) = some (.str n)) (l2 : fsq.lookup ("start" : Str) = some (.str s)) (l3 : fsq.lookup ("end" : Str) = some e) (hn : nameB n = true) (hs : nameB s = true) (he : EndOk e) (ha : 0 ≤ a)
    (k : ∀ H', SameBut p H H' → H' p = some (.ins C dx (ShutFs (.ref q) (.str n) (.str s) e (.int a))) → Q .non H') : sp_Shut_init K [.ref p, .ref q, .int a] H Q E := ⟨_, _, _, _, _, _, _, _, _, _, _, rfl, dc, dd, hp, hq, l1, l2, l3, hn, hs, he, ha, k⟩
theorem ok_Shut___init__ (m : M K mg) : FnOk P w K mg base CX0 4 m.a_Shut___init__ m.d_Shut___init__ ["self", "door", "turn"] (sp_Shut_init K) := by
  refine m.F_Shut___init__.ok sc_Shut___init__ (fun vs H Q E h => ?_) (fun cdv A outer s H vs Q E hr h => ?_)
  · obtain ⟨p, q, C, dx, D, dxq, fsq, n, st, e, a, rfl, dc, dd, hp, hq, l1, l2, l3, hn, hs, he, ha, k⟩ := h
    rfl
  · obtain ⟨p, q, C, dx, D, dxq, fsq, n, st, e, a, rfl, dc, dd, hp, hq, l1, l2, l3, hn, hs, he, ha, k⟩ := h
    have nd := sc_Shut___init__.nd
    have hu0 := Room.units0 hr
    have F_need_whole := fc_need_whole (P := P) (w := w) (base := base) m
    have DD_Door___init___1 := dcallD_Door___init___1 (P := P) (w := w) (base := base) m
    refine ⟨_, (pss_cons (ps_expr (pe_dmD DD_Door___init___1 hr (pa_cons (pv 0) (pa_cons (pe_fld (pv 1) rfl) (pa_cons (pe_fld (pv 1) rfl) (pa_cons (pe_fld (pv 1) rfl) pa_nil))))))
      (pss_cons (ps_expr (pe_f F_need_whole hr (pa_cons pe_str (pa_cons (pv 2) (pa_cons pe_int pa_nil)))))
      (pss_cons (ps_fld (pv 0) (pv 1) rfl)
      (pss_one (ps_fld (pv 0) (pv 2) rfl))))), ?_⟩
    refine rd_start (σ := [some (.ref p), some (.ref q), some (.int a)]) rfl ?_
    walk_at "go"
    refine rd_callD ?_
    walk_at "go"
    show sp_Door_init K [.ref p, .str n, .str st, e, .int 1] _ _ _
    walk_at "go"
    exact k _ (by walk_at "sb") (by assumption)
theorem kc_Shut_0 (m : M K mg) : Kc P w K mg base "Shut" m.C_Shut 4 [] (sp_Shut_init K) := ⟨_, _, _, _, m.m_Shut, m.mk_Shut, .nil, m.b_Shut___init__, ok_Shut___init__ m⟩
theorem r_mkShut {H : Hp} {Q : VK} {E : XK} {C q D dxq : Addr} {fsq : List (Str × V)} {vs dvs : List V} {n s : Str} {e : V} {a : Int} (ev : vs ++ dvs = [.ref q, .int a]) (dc : DCls K C) (dd : DCls K D) (hq : H q = some (.ins D dxq fsq)) (l1 : fsq.lookup ("name" : Str) = some (.str n)) (l2 : fsq.lookup ("start" : Str) = some (.str s)) (l3 : fsq.lookup ("end" : Str) = some e) (hn : nameB n = true) (hs : nameB s = true) (he : EndOk e) (ha : 0 ≤ a)
    (k : ∀ p dx H', H p = none → Same H H' → H' p = some (.ins C dx (ShutFs (.ref q) (.str n) (.str s) e (.int a))) → Q (.ref p) H') : MakeP C (sp_Shut_init K) dvs E Q vs H :=
  rd_makeV (fun p dx H0 Q' h k' s0 => by rw [ev]; exact r_Shut_init dc dd h (s0 _ _ hq) l1 l2 l3 hn hs he ha k') k
def sp_Shut_lets (P : Program) (w : World) (K : PySem.W.Frag) (mg : Str → Option Value) (base : Heap) (n : Nat) : Sp := fun vs H Q _ => ∃ (p C dx : Addr) (fs : List (Str × V)) (q D dxq : Addr) (fsq : List (Str × V)) (t a i : Int) (sp : Sp), vs = [.ref p, .int t] ∧ DCls K C ∧ H p = some (.ins C dx fs) ∧ fs.lookup ("inner" : Str) = some (.ref q) ∧ fs.lookup ("turn" : Str) = some (.int a) ∧
  H q = some (.ins D dxq fsq) ∧ fsq.lookup ("lets" : Str) = none ∧ Mc P w K mg base D "lets" n sp ∧ (∀ Q' : VK, Q' (.int i) H → sp [.ref q, .int t] H Q' E0) ∧ Q (.int (if t < a then i else 0)) H
theorem r_Shut_lets {n : Nat} {H : Hp} {Q : VK} {E : XK} {p C dx : Addr} {fs : List (Str × V)} {q D dxq : Addr} {fsq : List (Str × V)} {t a i : Int} {sp : Sp} (dc : DCls K C) (hp : H p = some (.ins C dx fs)) (l1 : fs.lookup ("inner" : Str) = some (.ref q)) (l2 : fs.lookup ("turn" : Str) = some (.int a)) (hq : H q = some (.ins D dxq fsq)) (l3 : fsq.lookup ("lets" : Str) = none)
    (mc : Mc P w K mg base D "lets" n sp) (hs : ∀ Q' : VK, Q' (.int i) H → sp [.ref q, .int t] H Q' E0) (k : Q (.int (if t < a then i else 0)) H) : sp_Shut_lets P w K mg base n [.ref p, .int t] H Q E := ⟨_, _, _, _, _, _, _, _, _, _, _, _, rfl, dc, hp, l1, l2, hq, l3, mc, hs, k⟩
theorem ok_Shut_lets (m : M K mg) (n : Nat) : FnOk P w K mg base CX0 (n + 1) m.a_Shut_lets m.d_Shut_lets ["self", "turn"] (sp_Shut_lets P w K mg base n) := by
  refine m.F_Shut_lets.ok sc_Shut_lets (fun vs H Q E h => ?_) (fun cdv A outer s H vs Q E hr h => ?_)
  · obtain ⟨p, C, dx, fs, q, D, dxq, fsq, t, a, i, sp, rfl, dc, hp, l1, l2, hq, l3, mc, hs, k⟩ := h
    rfl
  · obtain ⟨p, C, dx, fs, q, D, dxq, fsq, t, a, i, sp, rfl, dc, hp, l1, l2, hq, l3, mc, hs, k⟩ := h
    have nd := sc_Shut_lets.nd
    have hu0 := Room.units0 hr
    refine ⟨_, (pss_one (ps_ret (pe_ifExp (pt_cmpR op_lt (pv 1) (pe_fld (pv 0) rfl) (nomark _)) (pe_md n hr (pe_fld (pv 0) rfl) (pa_cons (pv 1) pa_nil) (Nat.le_refl _)) pe_int))), ?_⟩
    refine rd_start (σ := [some (.ref p), some (.int t)]) rfl ?_
    walk_at "go"
    refine rd_if2 (fun h1 => ?_) (fun h1 => ?_)
    · walk_at "go"
      refine hs _ ?_
      rw [if_pos h1] at k
      exact k
    · walk_at "go"
      rw [if_neg h1] at k
      exact k
theorem mc_Shut_lets (m : M K mg) (n : Nat) : Mc P w K mg base m.C_Shut "lets" (n + 1) (sp_Shut_lets P w K mg base n) := ⟨_, _, _, m.dc_Shut.ic.cl, m.mt_Shut_lets, m.b_Shut_lets, ok_Shut_lets m n⟩
def sp_Shut_words (P : Program) (w : World) (base : Heap) (m : M K mg) (n : Nat) : Sp := fun vs H Q E => ∃ (p C dx : Addr) (fs : List (Str × V)) (q D dxq : Addr) (fsq : List (Str × V)) (a : Int) (W : Option Str) (sp : Sp), vs = [.ref p] ∧ DCls K C ∧ H p = some (.ins C dx fs) ∧ fs.lookup ("inner" : Str) = some (.ref q) ∧ fs.lookup ("turn" : Str) = some (.int a) ∧
  H q = some (.ins D dxq fsq) ∧ fsq.lookup ("words" : Str) = none ∧ McE P w K mg base D "words" n sp ∧ NumOk a ∧ (∀ z, W = some z → z.length ≤ 5000) ∧
  (∀ (Q' : VK) (E' : XK), (∀ z H2, W = some z → Same H H2 → Q' (.str z) H2) → (∀ H2, W = none → Same H H2 → E' (.ref m.C_NoText) none H2) → sp [.ref q] H Q' E') ∧
  (∀ z H', W = some z → Same H H' → Q (.str (Txt.join " " ["shut", numS a, z])) H') ∧ (∀ H', W = none → Same H H' → E (.ref m.C_NoText) none H')
theorem ok_Shut_words (m : M K mg) (n : Nat) : FnOk P w K mg base (CXE P w) (n + 1) m.a_Shut_words m.d_Shut_words ["self"] (sp_Shut_words P w base m n) := by
  refine m.F_Shut_words.okE sc_Shut_words (fun vs H Q E h => ?_) (fun cdv A outer s H vs Q E hr h => ?_)
  · obtain ⟨p, C, dx, fs, q, D, dxq, fsq, a, W, sp, rfl, dc, hp, l1, l2, hq, l3, mc, b, hW, hs, k, k2⟩ := h
    rfl
  · obtain ⟨p, C, dx, fs, q, D, dxq, fsq, a, W, sp, rfl, dc, hp, l1, l2, hq, l3, mc, b, hW, hs, k, k2⟩ := h
    have nd := sc_Shut_words.nd
    have hu0 := Room.units0 hr
    refine ⟨_, (pss_one (ps_ret (pe_bm PySem.F.plainAttrs_str PySem.F.slot_str_join PySem.F.type_str_join mt_join pe_str (pa_cons (pe_lst (pa_cons pe_str (pa_cons (pe_callTy call_strI rfl m.g_str bt_str (pa_cons (pe_fld (pv 0) rfl) pa_nil)) (pa_cons (pe_md0E n hr passE (pe_fld (pv 0) rfl) (Nat.le_refl _)) pa_nil)))) pa_nil)))), ?_⟩
    refine rd_start (σ := [some (.ref p)]) rfl ?_
    obtain ⟨b00, b01⟩ := b
    walk_at "go"
    refine rd_mdE ?_
    walk_at "go"
    refine rd_mdEV (by walk_at "hp") l3 mc ?_
    walk_at "go"
    refine hs _ _ (fun z H2 hz s2 => ?_) (fun H2 hz s2 => k2 H2 hz s2)
    have hz' := hW z hz
    walk_at "go"
    refine rd_join (ys := ["shut", numS a, z]) (SqL.of (by assumption)) ?_ ?_
    · simp only [List.map_cons, List.map_nil, List.sum_cons, List.sum_nil, List.length_cons, List.length_nil]
      walk_at "sz"
    · exact k z _ hz (by walk_at "sm")
theorem mc_Shut_words (m : M K mg) (n : Nat) : McE P w K mg base m.C_Shut "words" (n + 1) (sp_Shut_words P w base m n) := ⟨_, _, _, m.dc_Shut.ic.cl, m.mt_Shut_words, m.b_Shut_words, ok_Shut_words m n⟩
abbrev WiderFs (q n s e a i0 : V) : List (Str × V) := putF "more" i0 (putF "turn" a (putF "inner" q (doorFs n s e (.int 1))))
def sp_Wider_init (K : PySem.W.Frag) : Sp := fun vs H Q _ => ∃ (p q C dx D dxq : Addr) (fsq : List (Str × V)) (n s : Str) (e : V) (a i0 : Int), vs = [.ref p, .ref q, .int a, .int i0] ∧ DCls K C ∧ DCls K D ∧ H p = some (.ins C dx []) ∧ H q = some (.ins D dxq fsq) ∧
  fsq.lookup ("name" : Str) = some (.str n) ∧ fsq.lookup ("start" : Str) = some (.str s) ∧ fsq.lookup ("end" : Str) = some e ∧ nameB n = true ∧ nameB s = true ∧ EndOk e ∧ 0 ≤ a ∧ 0 ≤ i0 ∧ ∀ H', SameBut p H H' → H' p = some (.ins C dx (WiderFs (.ref q) (.str n) (.str s) e (.int a) (.int i0))) → Q .non H'
theorem r_Wider_init {H : Hp} {Q : VK} {E : XK} {p q C dx D dxq : Addr} {fsq : List (Str × V)} {n s : Str} {e : V} {a i0 : Int} (dc : DCls K C) (dd : DCls K D) (hp : H p = some (.ins C dx [])) (hq : H q = some (.ins D dxq fsq)) (l1 : fsq.lookup ("name" : Str) = some (.str n)) (l2 : fsq.lookup ("start" : Str) = some (.str s)) (l3 : fsq.lookup ("end" : Str) = some e) (hn : nameB n = true) (hs : nameB s = true) (he : EndOk e) (ha : 0 ≤ a) (b0 : 0 ≤ i0)
    (k : ∀ H', SameBut p H H' → H' p = some (.ins C dx (WiderFs (.ref q) (.str n) (.str s) e (.int a) (.int i0))) → Q .non H') : sp_Wider_init K [.ref p, .ref q, .int a, .int i0] H Q E := ⟨_, _, _, _, _, _, _, _, _, _, _, _, rfl, dc, dd, hp, hq, l1, l2, l3, hn, hs, he, ha, b0, k⟩
theorem ok_Wider___init__ (m : M K mg) : FnOk P w K mg base CX0 4 m.a_Wider___init__ m.d_Wider___init__ ["self", "door", "turn", "more"] (sp_Wider_init K) := by
  refine m.F_Wider___init__.ok sc_Wider___init__ (fun vs H Q E h => ?_) (fun cdv A outer s H vs Q E hr h => ?_)
  · obtain ⟨p, q, C, dx, D, dxq, fsq, n, st, e, a, i0, rfl, dc, dd, hp, hq, l1, l2, l3, hn, hs, he, ha, b0, k⟩ := h
    rfl
  · obtain ⟨p, q, C, dx, D, dxq, fsq, n, st, e, a, i0, rfl, dc, dd, hp, hq, l1, l2, l3, hn, hs, he, ha, b0, k⟩ := h
    have nd := sc_Wider___init__.nd
    have hu0 := Room.units0 hr
    have F_need_whole := fc_need_whole (P := P) (w := w) (base := base) m
    have DD_Door___init___1 := dcallD_Door___init___1 (P := P) (w := w) (base := base) m
    refine ⟨_, (pss_cons (ps_expr (pe_dmD DD_Door___init___1 hr (pa_cons (pv 0) (pa_cons (pe_fld (pv 1) rfl) (pa_cons (pe_fld (pv 1) rfl) (pa_cons (pe_fld (pv 1) rfl) pa_nil))))))
      (pss_cons (ps_expr (pe_f F_need_whole hr (pa_cons pe_str (pa_cons (pv 2) (pa_cons pe_int pa_nil)))))
      (pss_cons (ps_expr (pe_f F_need_whole hr (pa_cons pe_str (pa_cons (pv 3) (pa_cons pe_int pa_nil)))))
      (pss_cons (ps_fld (pv 0) (pv 1) rfl)
      (pss_cons (ps_fld (pv 0) (pv 2) rfl)
      (pss_one (ps_fld (pv 0) (pv 3) rfl))))))), ?_⟩
    refine rd_start (σ := [some (.ref p), some (.ref q), some (.int a), some (.int i0)]) rfl ?_
    walk_at "go"
    refine rd_callD ?_
    walk_at "go"
    show sp_Door_init K [.ref p, .str n, .str st, e, .int 1] _ _ _
    walk_at "go"
    exact k _ (by walk_at "sb") (by assumption)
theorem kc_Wider_0 (m : M K mg) : Kc P w K mg base "Wider" m.C_Wider 4 [] (sp_Wider_init K) := ⟨_, _, _, _, m.m_Wider, m.mk_Wider, .nil, m.b_Wider___init__, ok_Wider___init__ m⟩
theorem r_mkWider {H : Hp} {Q : VK} {E : XK} {C q D dxq : Addr} {fsq : List (Str × V)} {vs dvs : List V} {n s : Str} {e : V} {a i0 : Int} (ev : vs ++ dvs = [.ref q, .int a, .int i0]) (dc : DCls K C) (dd : DCls K D) (hq : H q = some (.ins D dxq fsq)) (l1 : fsq.lookup ("name" : Str) = some (.str n)) (l2 : fsq.lookup ("start" : Str) = some (.str s)) (l3 : fsq.lookup ("end" : Str) = some e) (hn : nameB n = true) (hs : nameB s = true) (he : EndOk e) (ha : 0 ≤ a) (b0 : 0 ≤ i0)
    (k : ∀ p dx H', H p = none → Same H H' → H' p = some (.ins C dx (WiderFs (.ref q) (.str n) (.str s) e (.int a) (.int i0))) → Q (.ref p) H') : MakeP C (sp_Wider_init K) dvs E Q vs H :=
  rd_makeV (fun p dx H0 Q' h k' s0 => by rw [ev]; exact r_Wider_init dc dd h (s0 _ _ hq) l1 l2 l3 hn hs he ha b0 k') k
def sp_Wider_lets (P : Program) (w : World) (K : PySem.W.Frag) (mg : Str → Option Value) (base : Heap) (n : Nat) : Sp := fun vs H Q _ => ∃ (p C dx : Addr) (fs : List (Str × V)) (q D dxq : Addr) (fsq : List (Str × V)) (t a i i0 : Int) (sp : Sp), vs = [.ref p, .int t] ∧ DCls K C ∧ H p = some (.ins C dx fs) ∧ fs.lookup ("inner" : Str) = some (.ref q) ∧ fs.lookup ("turn" : Str) = some (.int a) ∧ fs.lookup ("more" : Str) = some (.int i0) ∧
  H q = some (.ins D dxq fsq) ∧ fsq.lookup ("lets" : Str) = none ∧ Mc P w K mg base D "lets" n sp ∧ (∀ Q' : VK, Q' (.int i) H → sp [.ref q, .int t] H Q' E0) ∧ Q (.int (if a ≤ t ∧ 0 < i then i + i0 else i)) H
theorem r_Wider_lets {n : Nat} {H : Hp} {Q : VK} {E : XK} {p C dx : Addr} {fs : List (Str × V)} {q D dxq : Addr} {fsq : List (Str × V)} {t a i i0 : Int} {sp : Sp} (dc : DCls K C) (hp : H p = some (.ins C dx fs)) (l1 : fs.lookup ("inner" : Str) = some (.ref q)) (l2 : fs.lookup ("turn" : Str) = some (.int a)) (m0 : fs.lookup ("more" : Str) = some (.int i0)) (hq : H q = some (.ins D dxq fsq)) (l3 : fsq.lookup ("lets" : Str) = none)
    (mc : Mc P w K mg base D "lets" n sp) (hs : ∀ Q' : VK, Q' (.int i) H → sp [.ref q, .int t] H Q' E0) (k : Q (.int (if a ≤ t ∧ 0 < i then i + i0 else i)) H) : sp_Wider_lets P w K mg base n [.ref p, .int t] H Q E := ⟨_, _, _, _, _, _, _, _, _, _, _, _, _, rfl, dc, hp, l1, l2, m0, hq, l3, mc, hs, k⟩
theorem ok_Wider_lets (m : M K mg) (n : Nat) : FnOk P w K mg base CX0 (n + 1) m.a_Wider_lets m.d_Wider_lets ["self", "turn"] (sp_Wider_lets P w K mg base n) := by
  refine m.F_Wider_lets.ok sc_Wider_lets (fun vs H Q E h => ?_) (fun cdv A outer s H vs Q E hr h => ?_)
  · obtain ⟨p, C, dx, fs, q, D, dxq, fsq, t, a, i, i0, sp, rfl, dc, hp, l1, l2, m0, hq, l3, mc, hs, k⟩ := h
    rfl
  · obtain ⟨p, C, dx, fs, q, D, dxq, fsq, t, a, i, i0, sp, rfl, dc, hp, l1, l2, m0, hq, l3, mc, hs, k⟩ := h
    have nd := sc_Wider_lets.nd
    have hu0 := Room.units0 hr
    refine ⟨_, (pss_cons (ps_set (i := 2) nd rfl (by first | exact Or.inl rfl | exact Or.inr rfl) (pe_md n hr (pe_fld (pv 0) rfl) (pa_cons (pv 1) pa_nil) (Nat.le_refl _)))
      (pss_one (ps_ret (pe_ifExp (PW.pt (pw_and (pt_cmpR op_ge (pv 1) (pe_fld (pv 0) rfl) (nomark _)) (pw_and1 (pt_cmpR op_gt (pv 2) pe_int (nomark _))))) (pe_op op_add (pv 2) (pe_fld (pv 0) rfl)) (pv 2))))), ?_⟩
    refine rd_start (σ := [some (.ref p), some (.int t), none]) rfl ?_
    walk_at "go"
    refine hs _ ?_
    walk_at "go"
    refine rd_if2 (fun h1 => ?_) (fun h1 => ?_)
    · walk_at "go"
      refine rd_if2 (fun h2 => ?_) (fun h2 => ?_)
      · walk_at "go"
        rw [if_pos ⟨h1, h2⟩] at k
        exact k
      · walk_at "go"
        rw [if_neg (fun z => h2 z.2)] at k
        exact k
    · walk_at "go"
      rw [if_neg (fun z => h1 z.1)] at k
      exact k
theorem mc_Wider_lets (m : M K mg) (n : Nat) : Mc P w K mg base m.C_Wider "lets" (n + 1) (sp_Wider_lets P w K mg base n) := ⟨_, _, _, m.dc_Wider.ic.cl, m.mt_Wider_lets, m.b_Wider_lets, ok_Wider_lets m n⟩
def sp_Wider_words (P : Program) (w : World) (base : Heap) (m : M K mg) (n : Nat) : Sp := fun vs H Q E => ∃ (p C dx : Addr) (fs : List (Str × V)) (q D dxq : Addr) (fsq : List (Str × V)) (a i0 : Int) (W : Option Str) (sp : Sp), vs = [.ref p] ∧ DCls K C ∧ H p = some (.ins C dx fs) ∧ fs.lookup ("inner" : Str) = some (.ref q) ∧ fs.lookup ("turn" : Str) = some (.int a) ∧ fs.lookup ("more" : Str) = some (.int i0) ∧
  H q = some (.ins D dxq fsq) ∧ fsq.lookup ("words" : Str) = none ∧ McE P w K mg base D "words" n sp ∧ NumOk a ∧ NumOk i0 ∧ (∀ z, W = some z → z.length ≤ 5000) ∧
  (∀ (Q' : VK) (E' : XK), (∀ z H2, W = some z → Same H H2 → Q' (.str z) H2) → (∀ H2, W = none → Same H H2 → E' (.ref m.C_NoText) none H2) → sp [.ref q] H Q' E') ∧
  (∀ z H', W = some z → Same H H' → Q (.str (Txt.join " " ["wider", numS a, numS i0, z])) H') ∧ (∀ H', W = none → Same H H' → E (.ref m.C_NoText) none H')
theorem ok_Wider_words (m : M K mg) (n : Nat) : FnOk P w K mg base (CXE P w) (n + 1) m.a_Wider_words m.d_Wider_words ["self"] (sp_Wider_words P w base m n) := by
  refine m.F_Wider_words.okE sc_Wider_words (fun vs H Q E h => ?_) (fun cdv A outer s H vs Q E hr h => ?_)
  · obtain ⟨p, C, dx, fs, q, D, dxq, fsq, a, i0, W, sp, rfl, dc, hp, l1, l2, m0, hq, l3, mc, b, b0, hW, hs, k, k2⟩ := h
    rfl
  · obtain ⟨p, C, dx, fs, q, D, dxq, fsq, a, i0, W, sp, rfl, dc, hp, l1, l2, m0, hq, l3, mc, b, b0, hW, hs, k, k2⟩ := h
    have nd := sc_Wider_words.nd
    have hu0 := Room.units0 hr
    refine ⟨_, (pss_one (ps_ret (pe_bm PySem.F.plainAttrs_str PySem.F.slot_str_join PySem.F.type_str_join mt_join pe_str (pa_cons (pe_lst (pa_cons pe_str (pa_cons (pe_callTy call_strI rfl m.g_str bt_str (pa_cons (pe_fld (pv 0) rfl) pa_nil)) (pa_cons (pe_callTy call_strI rfl m.g_str bt_str (pa_cons (pe_fld (pv 0) rfl) pa_nil)) (pa_cons (pe_md0E n hr passE (pe_fld (pv 0) rfl) (Nat.le_refl _)) pa_nil))))) pa_nil)))), ?_⟩
    refine rd_start (σ := [some (.ref p)]) rfl ?_
    obtain ⟨b00, b01⟩ := b
    obtain ⟨b00, b01⟩ := b0
    walk_at "go"
    refine rd_mdE ?_
    walk_at "go"
    refine rd_mdEV (by walk_at "hp") l3 mc ?_
    walk_at "go"
    refine hs _ _ (fun z H2 hz s2 => ?_) (fun H2 hz s2 => k2 H2 hz s2)
    have hz' := hW z hz
    walk_at "go"
    refine rd_join (ys := ["wider", numS a, numS i0, z]) (SqL.of (by assumption)) ?_ ?_
    · simp only [List.map_cons, List.map_nil, List.sum_cons, List.sum_nil, List.length_cons, List.length_nil]
      walk_at "sz"
    · exact k z _ hz (by walk_at "sm")
theorem mc_Wider_words (m : M K mg) (n : Nat) : McE P w K mg base m.C_Wider "words" (n + 1) (sp_Wider_words P w base m n) := ⟨_, _, _, m.dc_Wider.ic.cl, m.mt_Wider_words, m.b_Wider_words, ok_Wider_words m n⟩

/-! ### the law's own helpers -/
def cellN (ns : List Int) (k : Int) : Int := ns.getD k.toNat 0
def sp_cell (K : PySem.W.Frag) : Sp := fun vs H Q _ => ∃ (a : Addr) (ns : List Int) (k : Int), vs = [.ref a, .int k] ∧ SqL K H a (ns.map V.int) ∧ 0 ≤ k ∧ Q (.int (cellN ns k)) H
theorem r_cell {H : Hp} {Q : VK} {E : XK} {a : Addr} {ns : List Int} {i : Int} (hS : SqL K H a (ns.map V.int)) (hi : 0 ≤ i) (h : Q (.int (cellN ns i)) H) : sp_cell K [.ref a, .int i] H Q E := ⟨_, _, _, rfl, hS, hi, h⟩
theorem ok__law_cell_at (m : M K mg) : FnOk P w K mg base CX0 1 m.a__law_cell_at m.d__law_cell_at ["_law_script", "_law_k"] (sp_cell K) := by
  refine m.F__law_cell_at.ok sc__law_cell_at (fun vs H Q E h => ?_) (fun cdv A outer s H vs Q E hr h => ?_)
  · obtain ⟨a, ns, i, rfl, hS, hi, k⟩ := h
    rfl
  · obtain ⟨a, ns, i, rfl, hS, hi, k⟩ := h
    have nd := sc__law_cell_at.nd
    have hu0 := Room.units0 hr
    refine ⟨_, (pss_cons (ps_if (pt_cmpR op_lt (pv 1) (pe_callB call_lenL rfl m.g_len bt_len (pa_cons (pv 0) pa_nil)) (nomark _)) (pss_one (ps_ret (pe_ix ix_list (pv 0) (pv 1) (fun _ _ => rfl)))) pss_nil)
      (pss_one (ps_ret pe_int))), ?_⟩
    refine rd_start (σ := [some (.ref a), some (.int i)]) rfl ?_
    walk_at "go"
    rw [List.length_map]
    refine rd_if2 (fun h1 => ?_) (fun h1 => ?_)
    · have hlt : i.toNat < ns.length := by omega
      have e := atI_nat (xs := ns.map V.int) (j := i.toNat) (v := .int (cellN ns i)) (by
        rw [List.getElem?_map, List.getElem?_eq_getElem hlt]
        unfold cellN
        rw [List.getD_eq_getElem?_getD, List.getElem?_eq_getElem hlt]; rfl)
      rw [show ((i.toNat : Nat) : Int) = i by omega] at e
      exact ⟨_, rfl, _, rfl, a, _, i, _, rfl, rfl, hS, e, k⟩
    · have e : cellN ns i = 0 := by
        unfold cellN
        rw [List.getD_eq_getElem?_getD, List.getElem?_eq_none (by omega)]; rfl
      rw [e] at k
      exact k
theorem fc__law_cell_at (m : M K mg) : Fc P w K mg base "_law_cell_at" 1 ["_law_script", "_law_k"] (sp_cell K) := ⟨_, _, m.m__law_cell_at, m.F__law_cell_at.kp, m.b__law_cell_at, ok__law_cell_at m⟩
def drawn1 (c k : Int) : Int := (c + 7919 * k + 1) * 48271 % 2147483647
def drawn2 (c k : Int) : Int := drawn1 c k * (drawn1 c k / 1009 + 69621) % 2147483647
def drawnF (c k : Int) : Int := if c % 2 = 1 then c / 2 ^ (20 * k + 1).toNat % 1048576 else (drawn2 c k + 31 * k + 1) * (drawn2 c k / 757 + 16807) % 2147483629
theorem drawnF_0 (c k : Int) : 0 ≤ drawnF c k := by
  unfold drawnF
  split
  · exact Int.emod_nonneg _ (by decide)
  · exact Int.emod_nonneg _ (by decide)
theorem drawnF_1 (c k : Int) : drawnF c k < 2147483648 := by
  unfold drawnF
  split
  · have := Int.emod_lt_of_pos (c / 2 ^ (20 * k + 1).toNat) (b := 1048576) (by decide)
    omega
  · have := Int.emod_lt_of_pos ((drawn2 c k + 31 * k + 1) * (drawn2 c k / 757 + 16807)) (b := 2147483629) (by decide)
    omega
def sp_drawn : Sp := fun vs H Q _ => ∃ (c k : Int), vs = [.int c, .int k] ∧ 0 ≤ k ∧ Q (.int (drawnF c k)) H
theorem r_drawn {H : Hp} {Q : VK} {E : XK} {c k : Int} (hk : 0 ≤ k) (h : 0 ≤ drawnF c k → drawnF c k < 2147483648 → Q (.int (drawnF c k)) H) : sp_drawn [.int c, .int k] H Q E := ⟨_, _, rfl, hk, h (drawnF_0 c k) (drawnF_1 c k)⟩
theorem ok__law_drawn (m : M K mg) : FnOk P w K mg base CX0 1 m.a__law_drawn m.d__law_drawn ["_law_cell", "_law_k"] (sp_drawn) := by
  refine m.F__law_drawn.ok sc__law_drawn (fun vs H Q E h => ?_) (fun cdv A outer s H vs Q E hr h => ?_)
  · obtain ⟨c, j, rfl, hj, k⟩ := h
    rfl
  · obtain ⟨c, j, rfl, hj, k⟩ := h
    have nd := sc__law_drawn.nd
    have hu0 := Room.units0 hr
    refine ⟨_, (pss_cons (ps_if (pt_cmpR op_eq (pe_op op_mod (pv 0) pe_int) pe_int (nomark _)) (pss_one (ps_ret (pe_op op_mod (pe_op op_shr (pv 0) (pe_op op_add (pe_op op_mul pe_int (pv 1)) pe_int)) pe_int))) pss_nil)
      (pss_cons (ps_set (i := 2) nd rfl (by first | exact Or.inl rfl | exact Or.inr rfl) (pe_op op_mod (pe_op op_mul (pe_op op_add (pe_op op_add (pv 0) (pe_op op_mul pe_int (pv 1))) pe_int) pe_int) pe_int))
      (pss_cons (ps_set (i := 2) nd rfl (by first | exact Or.inl rfl | exact Or.inr rfl) (pe_op op_mod (pe_op op_mul (pv 2) (pe_op op_add (pe_op op_fdiv (pv 2) pe_int) pe_int)) pe_int))
      (pss_one (ps_ret (pe_op op_mod (pe_op op_mul (pe_op op_add (pe_op op_add (pv 2) (pe_op op_mul pe_int (pv 1))) pe_int) (pe_op op_add (pe_op op_fdiv (pv 2) pe_int) pe_int)) pe_int)))))), ?_⟩
    refine rd_start (σ := [some (.int c), some (.int j), none]) rfl ?_
    unfold drawnF drawn2 drawn1 at k
    walk_at "go"
    refine rd_if2 (fun h1 => ?_) (fun h1 => ?_)
    · rw [if_pos h1] at k
      walk_at "go"
      exact k
    · rw [if_neg h1] at k
      walk_at "go"
      exact k
theorem fc__law_drawn (m : M K mg) : Fc P w K mg base "_law_drawn" 1 ["_law_cell", "_law_k"] (sp_drawn) := ⟨_, _, m.m__law_drawn, m.F__law_drawn.kp, m.b__law_drawn, ok__law_drawn m⟩
local macro_rules | `(tactic| walk_at "rd1") => `(tactic| first | ((with_reducible refine' r_cell ?e ?s ?_); (case e => walk_at "hp"); (case s => walk_at "sd")) | ((with_reducible refine' r_drawn ?s ?_); (case s => walk_at "sd"); intro h0' h1'))
def sp_lname : Sp := fun vs H Q _ => ∃ (c k : Int), vs = [.int c, .int k] ∧ ∀ z : Str, nameB z = true → Q (.str z) H
theorem r_lname {H : Hp} {Q : VK} {E : XK} {c k : Int} (h : ∀ z : Str, nameB z = true → Q (.str z) H) : sp_lname [.int c, .int k] H Q E := ⟨_, _, rfl, h⟩
theorem low_abc : lowB "abcdefghijklmnopqrstuvwxyz" = true := by decide +kernel
theorem len_abc : ("abcdefghijklmnopqrstuvwxyz" : Str).length = 26 := by rw [lit_len]; decide
theorem name_ok {x rest : Str} {b p : Int} {ch : Nat} (hx : lowB x = true) (hb0 : 0 ≤ b) (hb : b < 8) (er : rest = Txt.slice x none (some b)) (hp0 : 0 ≤ p) (hp : p < rest.length + 1) (hc : lowB ⟨#[ch]⟩ = true) : nameB (Txt.slice rest none (some p) ++ ⟨#[ch]⟩ ++ Txt.slice rest (some p) none) = true := by
  have l1 : rest.length ≤ 7 := by
    rcases PyProof.Rows.slice_ns_cases x b hb0 with h | h
    · rw [er]; omega
    · rw [er]; omega
  have hr : lowB rest = true := by rw [er]; exact lowB_slice hx
  have l2 := (PyProof.Rows.fact_slice_ns rest p).1 hp0 (by omega)
  have l3 := (PyProof.Rows.fact_slice_sn rest p).1 hp0 (by omega)
  have l4 : (⟨#[ch]⟩ : Str).length = 1 := rfl
  refine nameB_of ?_ ?_ (lowB_app (lowB_app (lowB_slice hr) hc) (lowB_slice hr))
  · rw [str_app_len, str_app_len]; omega
  · rw [str_app_len, str_app_len]; omega
theorem ok__law_name (m : M K mg) : FnOk P w K mg base CX0 2 m.a__law_name m.d__law_name ["_law_cell", "_law_k"] (sp_lname) := by
  refine m.F__law_name.ok sc__law_name (fun vs H Q E h => ?_) (fun cdv A outer s H vs Q E hr h => ?_)
  · obtain ⟨c, j, rfl, k⟩ := h
    rfl
  · obtain ⟨c, j, rfl, k⟩ := h
    have nd := sc__law_name.nd
    have hu0 := Room.units0 hr
    have F__law_drawn := fc__law_drawn (P := P) (w := w) (base := base) m
    refine ⟨_, (pss_cons (ps_set (i := 2) nd rfl (by first | exact Or.inl rfl | exact Or.inr rfl) pe_str)
      (pss_cons (ps_set (i := 3) nd rfl (by first | exact Or.inl rfl | exact Or.inr rfl) (pe_slice sl_str (pe_slice sl_str (pv 2) (po_some (pe_op op_mod (pe_f F__law_drawn hr (pa_cons (pv 0) (pa_cons pe_int pa_nil))) pe_int)) po_none) po_none (po_some (pe_op op_mod (pe_f F__law_drawn hr (pa_cons (pv 0) (pa_cons pe_int pa_nil))) pe_int))))
      (pss_cons (ps_set (i := 4) nd rfl (by first | exact Or.inl rfl | exact Or.inr rfl) (pe_op op_mod (pe_f F__law_drawn hr (pa_cons (pv 0) (pa_cons pe_int pa_nil))) (pe_op op_add (pe_callB call_lenS rfl m.g_len bt_len (pa_cons (pv 3) pa_nil)) pe_int)))
      (pss_one (ps_ret (pe_op op_addS (pe_op op_addS (pe_slice sl_str (pv 3) po_none (po_some (pv 4))) (pe_ix ix_str (pv 2) (pe_op op_mod (pe_op op_add (pe_f F__law_drawn hr (pa_cons (pv 0) (pa_cons pe_int pa_nil))) (pe_op op_mul pe_int (pv 1))) pe_int) (fun _ _ => rfl))) (pe_slice sl_str (pv 3) (po_some (pv 4)) po_none))))))), ?_⟩
    refine rd_start (σ := [some (.int c), some (.int j), none, none, none]) rfl ?_
    have hl := len_abc
    walk_at "go"
    refine rd_ixSm (by walk_at "sz") (by omega) (by rw [len_abc]; omega) fun ch hch => ?_
    walk_at "go"
    refine k _ ?_
    refine' name_ok ?x ?b0 ?b1 ?er ?p0 ?p1 ?hc
    case er => rfl
    case x => exact lowB_slice low_abc
    case b0 => omega
    case b1 => omega
    case p0 => exact Int.emod_nonneg _ (by omega)
    case p1 => exact Int.emod_lt_of_pos _ (by omega)
    case hc => exact lowB_one low_abc hch
theorem fc__law_name (m : M K mg) : Fc P w K mg base "_law_name" 2 ["_law_cell", "_law_k"] (sp_lname) := ⟨_, _, m.m__law_name, m.F__law_name.kp, m.b__law_name, ok__law_name m⟩

local macro_rules | `(tactic| walk_at "rd1") => `(tactic| ((with_reducible refine r_lname ?_); intro z' hz'))
def turnF (c : Int) : Int := c / 3 % (if c % 3 = 0 then 10 else if c % 3 = 1 then 31 else 100000000000)
theorem turnF_0 (c : Int) : 0 ≤ turnF c := by unfold turnF; split <;> (try split) <;> omega
theorem turnF_1 (c : Int) : turnF c < 100000000000 := by unfold turnF; split <;> (try split) <;> omega
def sp_turn : Sp := fun vs H Q _ => ∃ c : Int, vs = [.int c] ∧ ∀ H', Same H H' → Q (.int (turnF c)) H'
theorem r_turn {H : Hp} {Q : VK} {E : XK} {c : Int} (h : 0 ≤ turnF c → turnF c < 100000000000 → ∀ H', Same H H' → Q (.int (turnF c)) H') : sp_turn [.int c] H Q E := ⟨_, rfl, h (turnF_0 c) (turnF_1 c)⟩
theorem ok__law_turn (m : M K mg) : FnOk P w K mg base CX0 1 m.a__law_turn m.d__law_turn ["_law_cell"] (sp_turn) := by
  refine m.F__law_turn.ok sc__law_turn (fun vs H Q E h => ?_) (fun cdv A outer s H vs Q E hr h => ?_)
  · obtain ⟨c, rfl, k⟩ := h
    rfl
  · obtain ⟨c, rfl, k⟩ := h
    have nd := sc__law_turn.nd
    have hu0 := Room.units0 hr
    refine ⟨_, (pss_one (ps_ret (pe_op op_mod (pe_op op_fdiv (pv 0) pe_int) (pe_ix ix_list (pe_lst (pa_cons pe_int (pa_cons pe_int (pa_cons (pe_powc 100000000000 (by decide) ⟨by decide, by decide, by decide⟩) pa_nil)))) (pe_op op_mod (pv 0) pe_int) (fun _ _ => rfl))))), ?_⟩
    refine rd_start (σ := [some (.int c)]) rfl ?_
    walk_at "go"
    rename_i p1 H1 n1 S1 e1 v hv a0 a1
    have e : c / 3 % v = turnF c := by
      unfold turnF
      rcases hv with ⟨h, rfl⟩ | ⟨h, rfl⟩ | ⟨h, rfl⟩
      · rw [if_pos h]
      · rw [if_neg (by omega), if_pos h]
      · rw [if_neg (by omega), if_neg (by omega)]
    rw [e]
    exact k _ (by walk_at "sm")
theorem fc__law_turn (m : M K mg) : Fc P w K mg base "_law_turn" 1 ["_law_cell"] (sp_turn) := ⟨_, _, m.m__law_turn, m.F__law_turn.kp, m.b__law_turn, ok__law_turn m⟩
local macro_rules | `(tactic| walk_at "rd1") => `(tactic| ((with_reducible refine r_turn ?_); intro h0' h1' H' S'))
def lettingF (c t : Int) : Int := drawnF c (t % 997) % 4 * (c % 1000000000 + t % 5)
def sp_letting : Sp := fun vs H Q _ => ∃ (c t : Int), vs = [.int c, .int t] ∧ Q (.int (lettingF c t)) H
theorem r_letting {H : Hp} {Q : VK} {E : XK} {c t : Int} (k : Q (.int (lettingF c t)) H) : sp_letting [.int c, .int t] H Q E := ⟨_, _, rfl, k⟩
theorem ok__law_letting (m : M K mg) : FnOk P w K mg base CX0 2 m.a__law_letting m.d__law_letting ["_law_cell", "_law_turn_here"] (sp_letting) := by
  refine m.F__law_letting.ok sc__law_letting (fun vs H Q E h => ?_) (fun cdv A outer s H vs Q E hr h => ?_)
  · obtain ⟨c, t, rfl, k⟩ := h
    rfl
  · obtain ⟨c, t, rfl, k⟩ := h
    have nd := sc__law_letting.nd
    have hu0 := Room.units0 hr
    have F__law_drawn := fc__law_drawn (P := P) (w := w) (base := base) m
    refine ⟨_, (pss_one (ps_ret (pe_op op_mul (pe_op op_mod (pe_f F__law_drawn hr (pa_cons (pv 0) (pa_cons (pe_op op_mod (pv 1) pe_int) pa_nil))) pe_int) (pe_op op_add (pe_op op_mod (pv 0) (pe_powc 1000000000 (by decide) ⟨by decide, by decide, by decide⟩)) (pe_op op_mod (pv 1) pe_int))))), ?_⟩
    refine rd_start (σ := [some (.int c), some (.int t)]) rfl ?_
    unfold lettingF at k
    walk_at "go"
    exact k
theorem fc__law_letting (m : M K mg) : Fc P w K mg base "_law_letting" 2 ["_law_cell", "_law_turn_here"] (sp_letting) := ⟨_, _, m.m__law_letting, m.F__law_letting.kp, m.b__law_letting, ok__law_letting m⟩
local macro_rules | `(tactic| walk_at "rd1") => `(tactic| (with_reducible refine r_letting ?_))

/-! ### doors by what they tell -/
theorem Mc.mono {C : Addr} {nm : Str} {j k : Nat} {sp : Sp} (F : Mc P w K mg base C nm j sp) (h : j ≤ k) : Mc P w K mg base C nm k sp := by
  obtain ⟨f, fd, ps, h1, h2, h3, h4⟩ := F.ex
  exact ⟨f, fd, ps, h1, h2, h3, h4.mono h⟩
theorem McE.mono {C : Addr} {nm : Str} {j k : Nat} {sp : Sp} (F : McE P w K mg base C nm j sp) (h : j ≤ k) : McE P w K mg base C nm k sp := by
  obtain ⟨f, fd, ps, h1, h2, h3, h4⟩ := F.ex
  exact ⟨f, fd, ps, h1, h2, h3, h4.mono h⟩
theorem Mc.toE {C : Addr} {nm : Str} {k : Nat} {sp : Sp} (F : Mc P w K mg base C nm k sp) : McE P w K mg base C nm k (fun vs H Q _ => sp vs H Q E0) := by
  obtain ⟨f, fd, ps, h1, h2, h3, h4⟩ := F.ex
  exact ⟨f, fd, ps, h1, h2, h3, h4.toX⟩
/-- a door at p: its names; how many it lets; its words, if it has any; its kind: 0 plain, 1 Shut, 2 Wider, 3 Told -/
structure DoorAt (P : Program) (w : World) (base : Heap) (m : M K mg) (n : Nat) (H : Hp) (p : Addr) (nm st : Str) (e : V) (L : Int → Int) (W : Option Str) (kd : Nat) : Prop where
  ex : ∃ (C dx : Addr) (fs : List (Str × V)) (spl spw : Sp), H p = some (.ins C dx fs) ∧ DCls K C ∧ fs.lookup ("name" : Str) = some (.str nm) ∧ fs.lookup ("start" : Str) = some (.str st) ∧ fs.lookup ("end" : Str) = some e ∧
    fs.lookup ("lets" : Str) = none ∧ fs.lookup ("words" : Str) = none ∧ fs.lookup ("is_exit" : Str) = none ∧ Mc P w K mg base C "lets" n spl ∧ McE P w K mg base C "words" n spw ∧ Mc P w K mg base C "is_exit" 1 (sp_exit K) ∧
    PySem.W.kitOne K (.ref C) (.ref m.C_Door) = some true ∧ PySem.W.kitOne K (.ref C) (.ref m.C_Shut) = some (decide (kd = 1)) ∧ PySem.W.kitOne K (.ref C) (.ref m.C_Wider) = some (decide (kd = 2)) ∧ PySem.W.kitOne K (.ref C) (.ref m.C_Told) = some (decide (kd = 3)) ∧
    (∀ (H' : Hp) (t : Int) (Q : VK), Same H H' → 0 ≤ t → t < 1000000000000 → Q (.int (L t)) H' → spl [.ref p, .int t] H' Q E0) ∧
    (∀ (H' : Hp) (Q : VK) (E : XK), Same H H' → (∀ z H2, W = some z → Same H' H2 → Q (.str z) H2) → (∀ H2, W = none → Same H' H2 → E (.ref m.C_NoText) none H2) → spw [.ref p] H' Q E) ∧
    (∀ z, W = some z → z.length ≤ 200 * n)
theorem DoorAt.same {m : M K mg} {n : Nat} {H H' : Hp} {p : Addr} {nm st : Str} {e : V} {L : Int → Int} {W : Option Str} {kd : Nat} (x : DoorAt P w base m n H p nm st e L W kd) (s : Same H H') : DoorAt P w base m n H' p nm st e L W kd := by
  obtain ⟨C, dx, fs, spl, spw, h1, h2, h3, h4, h5, h6, h7, h8, h9, h10, h11, h12, h13, h14, h15, h16, h17, h18⟩ := x.ex
  exact ⟨C, dx, fs, spl, spw, s _ _ h1, h2, h3, h4, h5, h6, h7, h8, h9, h10, h11, h12, h13, h14, h15, (fun H2 t Q s2 => h16 H2 t Q (s.trans s2)), (fun H2 Q E s2 => h17 H2 Q E (s.trans s2)), h18⟩
theorem DoorAt.mono {m : M K mg} {n k : Nat} {H : Hp} {p : Addr} {nm st : Str} {e : V} {L : Int → Int} {W : Option Str} {kd : Nat} (x : DoorAt P w base m n H p nm st e L W kd) (h : n ≤ k) : DoorAt P w base m k H p nm st e L W kd := by
  obtain ⟨C, dx, fs, spl, spw, h1, h2, h3, h4, h5, h6, h7, h8, h9, h10, h11, h12, h13, h14, h15, h16, h17, h18⟩ := x.ex
  exact ⟨C, dx, fs, spl, spw, h1, h2, h3, h4, h5, h6, h7, h8, Mc.mono h9 h, McE.mono h10 h, h11, h12, h13, h14, h15, h16, h17, fun z e => Nat.le_trans (h18 z e) (by omega)⟩
theorem join_len (z : Str) : ∀ (x : Str) (ys : List Str), (Txt.join z (x :: ys)).length ≤ ((x :: ys).map (·.length)).sum + (x :: ys).length * z.length
  | x, [] => by rw [join_one]; simp
  | x, y :: r => by
    have h := join_len z y r
    rw [join_cons, str_app_len, str_app_len]
    simp only [List.map_cons, List.sum_cons, List.length_cons, Nat.add_mul, Nat.one_mul] at *
    omega
theorem wordsS_len {kind n s : Str} {e : V} {ns : List Int} (h1 : kind.length ≤ 8) (h2 : nameB n = true) (h3 : nameB s = true) (he : EndOk e) (h5 : ns.length ≤ 3) (hb : ∀ i ∈ ns, NumOk i) : (wordsS kind n s e ns).length ≤ 200 * 4 := by
  have h2' := nameB_len h2
  have h3' := nameB_len h3
  have h4 : (endS e).length ≤ 8 := by
    rcases he with rfl | ⟨z, rfl, hz⟩
    · show ("-" : Str).length ≤ 8
      rw [lit_len]; decide
    · exact nameB_len hz
  have e1 := join_len " " kind ([n, s, endS e] ++ ns.map numS)
  have e0 := sum_len_le 40 ([kind, n, s, endS e] ++ ns.map numS) fun y hy => by
    rcases List.mem_append.mp hy with h | h
    · simp only [List.mem_cons, List.not_mem_nil, or_false] at h
      rcases h with rfl | rfl | rfl | rfl <;> omega
    · obtain ⟨i, hi, rfl⟩ := List.mem_map.mp h
      exact numS_len (hb i hi).1 (hb i hi).2
  have e2 : ([kind, n, s, endS e] ++ ns.map numS).length ≤ 7 := by simp; omega
  have e3 : (" " : Str).length = 1 := by rw [lit_len]; rfl
  rw [e3] at e1
  have e4 : kind :: ([n, s, endS e] ++ ns.map numS) = [kind, n, s, endS e] ++ ns.map numS := rfl
  rw [e4] at e1
  unfold wordsS
  omega
theorem door_Door (m : M K mg) {H : Hp} {p dx : Addr} {nm st : Str} {e : V} {wd : Int} (hp : H p = some (.ins m.C_Door dx (doorFs (.str nm) (.str st) e (.int wd)))) (hn : nameB nm = true) (hs : nameB st = true) (he : EndOk e) (hw : 0 ≤ wd) (hw1 : wd < 1000000000000) :
    DoorAt P w base m 4 H p nm st e (fun _ => wd) (some (wordsS "door" nm st e [wd])) 0 :=
  ⟨m.C_Door, dx, _, sp_lets_wide K, fun vs H Q _ => sp_words_Door P w K mg base vs H Q E0, hp, m.dc_Door, by walk_at "lk", by walk_at "lk", by walk_at "lk", by walk_at "lk", by walk_at "lk", by walk_at "lk", Mc.mono (mc_Door_lets m) (by decide), Mc.toE (Mc.mono (mc_Door_words m) (by decide)), mc_Door_is_exit m,
    m.ii_Door_Door, m.ii_Door_Shut, m.ii_Door_Wider, m.ii_Door_Told, (fun H' t Q s h0 h1 k => r_lets_wide (s _ _ hp) m.dc_Door (by walk_at "lk") k),
    (fun H' Q E s k1 k2 => r_words_Door (s _ _ hp) m.dc_Door (mc_Door_is_exit m) (by walk_at "lk") (by walk_at "lk") (by walk_at "lk") (by walk_at "lk") (by walk_at "lk") hn hs he ⟨by omega, by omega⟩ (fun H2 s2 => k1 _ H2 rfl s2)),
    fun z ez => by cases ez; exact wordsS_len (by rw [lit_len]; decide) hn hs he (by simp) (all1 ⟨by omega, by omega⟩)⟩
theorem door_Since (m : M K mg) {H : Hp} {p dx : Addr} {nm st : Str} {e : V} {wd i0 : Int} (hp : H p = some (.ins m.C_Since dx (SinceFs (.str nm) (.str st) e (.int wd) (.int i0)))) (hn : nameB nm = true) (hs : nameB st = true) (he : EndOk e) (hw : 0 ≤ wd) (hw1 : wd < 1000000000000) (b0 : 0 ≤ i0) (c0 : i0 < 1000000000000) :
    DoorAt P w base m 4 H p nm st e (SinceV wd i0) (some (wordsS "since" nm st e [wd, i0])) 0 :=
  ⟨m.C_Since, dx, _, sp_Since_lets K, fun vs H Q _ => sp_words_Since P w K mg base vs H Q E0, hp, m.dc_Since, by walk_at "lk", by walk_at "lk", by walk_at "lk", by walk_at "lk", by walk_at "lk", by walk_at "lk", Mc.mono (mc_Since_lets m) (by decide), Mc.toE (Mc.mono (mc_Since_words m) (by decide)), mc_Since_is_exit m,
    m.ii_Since_Door, m.ii_Since_Shut, m.ii_Since_Wider, m.ii_Since_Told, (fun H' t Q s h0 h1 k => r_Since_lets (s _ _ hp) m.dc_Since (by walk_at "lk") (by walk_at "lk") h0 b0 k),
    (fun H' Q E s k1 k2 => r_words_Since (s _ _ hp) m.dc_Since (mc_Since_is_exit m) (by walk_at "lk") (by walk_at "lk") (by walk_at "lk") (by walk_at "lk") (by walk_at "lk") (by walk_at "lk") hn hs he ⟨by omega, by omega⟩ ⟨by omega, by omega⟩ (fun H2 s2 => k1 _ H2 rfl s2)),
    fun z ez => by cases ez; exact wordsS_len (by rw [lit_len]; decide) hn hs he (by simp) (all2 ⟨by omega, by omega⟩ ⟨by omega, by omega⟩)⟩
theorem door_Until (m : M K mg) {H : Hp} {p dx : Addr} {nm st : Str} {e : V} {wd i0 : Int} (hp : H p = some (.ins m.C_Until dx (UntilFs (.str nm) (.str st) e (.int wd) (.int i0)))) (hn : nameB nm = true) (hs : nameB st = true) (he : EndOk e) (hw : 0 ≤ wd) (hw1 : wd < 1000000000000) (b0 : 0 ≤ i0) (c0 : i0 < 1000000000000) :
    DoorAt P w base m 4 H p nm st e (UntilV wd i0) (some (wordsS "until" nm st e [wd, i0])) 0 :=
  ⟨m.C_Until, dx, _, sp_Until_lets K, fun vs H Q _ => sp_words_Until P w K mg base vs H Q E0, hp, m.dc_Until, by walk_at "lk", by walk_at "lk", by walk_at "lk", by walk_at "lk", by walk_at "lk", by walk_at "lk", Mc.mono (mc_Until_lets m) (by decide), Mc.toE (Mc.mono (mc_Until_words m) (by decide)), mc_Until_is_exit m,
    m.ii_Until_Door, m.ii_Until_Shut, m.ii_Until_Wider, m.ii_Until_Told, (fun H' t Q s h0 h1 k => r_Until_lets (s _ _ hp) m.dc_Until (by walk_at "lk") (by walk_at "lk") h0 b0 k),
    (fun H' Q E s k1 k2 => r_words_Until (s _ _ hp) m.dc_Until (mc_Until_is_exit m) (by walk_at "lk") (by walk_at "lk") (by walk_at "lk") (by walk_at "lk") (by walk_at "lk") (by walk_at "lk") hn hs he ⟨by omega, by omega⟩ ⟨by omega, by omega⟩ (fun H2 s2 => k1 _ H2 rfl s2)),
    fun z ez => by cases ez; exact wordsS_len (by rw [lit_len]; decide) hn hs he (by simp) (all2 ⟨by omega, by omega⟩ ⟨by omega, by omega⟩)⟩
theorem door_Beat (m : M K mg) {H : Hp} {p dx : Addr} {nm st : Str} {e : V} {wd i0 i1 : Int} (hp : H p = some (.ins m.C_Beat dx (BeatFs (.str nm) (.str st) e (.int wd) (.int i0) (.int i1)))) (hn : nameB nm = true) (hs : nameB st = true) (he : EndOk e) (hw : 0 ≤ wd) (hw1 : wd < 1000000000000) (b0 : 1 ≤ i0) (c0 : i0 < 1000000000000) (b1 : 0 ≤ i1) (c1 : i1 < 1000000000000) :
    DoorAt P w base m 4 H p nm st e (BeatV wd i0 i1) (some (wordsS "beat" nm st e [wd, i0, i1])) 0 :=
  ⟨m.C_Beat, dx, _, sp_Beat_lets K, fun vs H Q _ => sp_words_Beat P w K mg base vs H Q E0, hp, m.dc_Beat, by walk_at "lk", by walk_at "lk", by walk_at "lk", by walk_at "lk", by walk_at "lk", by walk_at "lk", Mc.mono (mc_Beat_lets m) (by decide), Mc.toE (Mc.mono (mc_Beat_words m) (by decide)), mc_Beat_is_exit m,
    m.ii_Beat_Door, m.ii_Beat_Shut, m.ii_Beat_Wider, m.ii_Beat_Told, (fun H' t Q s h0 h1 k => r_Beat_lets (s _ _ hp) m.dc_Beat (by walk_at "lk") (by walk_at "lk") (by walk_at "lk") h0 b0 b1 k),
    (fun H' Q E s k1 k2 => r_words_Beat (s _ _ hp) m.dc_Beat (mc_Beat_is_exit m) (by walk_at "lk") (by walk_at "lk") (by walk_at "lk") (by walk_at "lk") (by walk_at "lk") (by walk_at "lk") (by walk_at "lk") hn hs he ⟨by omega, by omega⟩ ⟨by omega, by omega⟩ ⟨by omega, by omega⟩ (fun H2 s2 => k1 _ H2 rfl s2)),
    fun z ez => by cases ez; exact wordsS_len (by rw [lit_len]; decide) hn hs he (by simp) (all3 ⟨by omega, by omega⟩ ⟨by omega, by omega⟩ ⟨by omega, by omega⟩)⟩
theorem door_Marked (m : M K mg) {H : Hp} {p dx : Addr} {nm st : Str} {e : V} {wd i0 : Int} (hp : H p = some (.ins m.C_Marked dx (MarkedFs (.str nm) (.str st) e (.int wd) (.int i0)))) (hn : nameB nm = true) (hs : nameB st = true) (he : EndOk e) (hw : 0 ≤ wd) (hw1 : wd < 1000000000000) (b0 : 0 ≤ i0) (c0 : i0 < 1000000000000) :
    DoorAt P w base m 4 H p nm st e (MarkedV wd i0) (some (wordsS "marked" nm st e [wd, i0])) 0 :=
  ⟨m.C_Marked, dx, _, sp_Marked_lets K, fun vs H Q _ => sp_words_Marked P w K mg base vs H Q E0, hp, m.dc_Marked, by walk_at "lk", by walk_at "lk", by walk_at "lk", by walk_at "lk", by walk_at "lk", by walk_at "lk", Mc.mono (mc_Marked_lets m) (by decide), Mc.toE (Mc.mono (mc_Marked_words m) (by decide)), mc_Marked_is_exit m,
    m.ii_Marked_Door, m.ii_Marked_Shut, m.ii_Marked_Wider, m.ii_Marked_Told, (fun H' t Q s h0 h1 k => r_Marked_lets (s _ _ hp) m.dc_Marked (by walk_at "lk") (by walk_at "lk") h0 b0 k),
    (fun H' Q E s k1 k2 => r_words_Marked (s _ _ hp) m.dc_Marked (mc_Marked_is_exit m) (by walk_at "lk") (by walk_at "lk") (by walk_at "lk") (by walk_at "lk") (by walk_at "lk") (by walk_at "lk") hn hs he ⟨by omega, by omega⟩ ⟨by omega, by omega⟩ (fun H2 s2 => k1 _ H2 rfl s2)),
    fun z ez => by cases ez; exact wordsS_len (by rw [lit_len]; decide) hn hs he (by simp) (all2 ⟨by omega, by omega⟩ ⟨by omega, by omega⟩)⟩
/-! a Told whose function keeps a number -/
def sp_lam (F c : Addr) (fd : FuncData) (qual : Str) (args : Arguments) (body : Expr) (sc : Scope) (cell : Int) : Sp := fun vs H Q _ => ∃ t : Int, vs = [.int t] ∧ LamAt H F fd qual args body sc "_law_cell" c ∧ KCell H c (.int cell) ∧ Q (.int (lettingF cell t)) H
theorem ok_lam {qual : Str} {args : Arguments} {body : Expr} {sc : Scope} {F c : Addr} {fd : FuncData} {cell : Int} {G : Hp} (hL : LamAt G F fd qual args body sc "_law_cell" c) (hk : sc.kind = .function) (hco : sc.isCoroutine = false) (hgen : sc.isGenerator = false) (hcell : ∀ z ∈ sc.names, z.2 ≠ .cell)
    (hx : sc.names.lookup ("_law_turn_here" : Str) = some .local) (hfree : ∀ z, sc.names.lookup z = some .free → z = "_law_cell") (hy : sc.names.lookup ("_law_cell" : Str) = some .free)
    (hb : ∀ (cdv : Value) (A : Around) (outer : List Env) (s : Shared) (H : Hp) (E : XK), Room 2 (A.deeper (PySem.W.envX qual sc s.heap.objs.size F cdv [("_law_cell", c)])) →
      PE (cxL CX0 P w K mg base ["_law_turn_here", "_law_cell"] qual sc F cdv [("_law_cell", c)] A outer s H E).nox body (tCall sp_letting [] E0 (tCons (tVar 1) (tCons (tVar 0) tNil)))) :
    FnOk P w K mg base CX0 3 F fd ["_law_turn_here"] (sp_lam F c fd qual args body sc cell) := by
  refine fn_lamT (qual := qual) (args := args) (body := body) (c := c) (v := .int cell) hk hco hgen hcell hx hfree hy (fun vs H Q E h => ?_) fun cdv A outer s H a Q E hr h => ?_
  · obtain ⟨t, e, L, kc, _⟩ := h
    exact ⟨.int t, e, L, kc⟩
  · obtain ⟨t, e, L, kc, k⟩ := h
    cases e
    refine ⟨_, hb cdv A outer s (off H c) E hr, fun o ho => ?_⟩
    walk_at "go"
    rw [off_back ho]
    exact k
theorem free_of {sc : Scope} {y : Str} (h : ∀ q ∈ sc.names, q.2 = .free → q.1 = y) : ∀ z, sc.names.lookup z = some .free → z = y := fun z e => h (z, .free) (PySem.mem_of_lookup e) rfl
theorem door_Told (m : M K mg) {H : Hp} {p dx F c : Addr} {nm st : Str} {e : V} {fd : FuncData} {qual : Str} {args : Arguments} {body : Expr} {sc : Scope} {cell : Int} (hp : H p = some (.ins m.C_Told dx (ToldFs (.str nm) (.str st) e (.ref F)))) (hn : nameB nm = true) (hs : nameB st = true) (he : EndOk e)
    (hL : LamAt H F fd qual args body sc "_law_cell" c) (kc : KCell H c (.int cell)) (hbd : Binds K fd ["_law_turn_here"] []) (FL : FnOk P w K mg base CX0 3 F fd ["_law_turn_here"] (sp_lam F c fd qual args body sc cell)) :
    DoorAt P w base m 4 H p nm st e (lettingF cell) none 3 := by
  obtain ⟨oF, eF, dF⟩ : ∃ o, H F = some (kn o) ∧ o.data = .func fd := by
    obtain ⟨c', pm, ctv, oc, fv, tt, rfl, e5, _⟩ := id hL
    exact ⟨_, e5, rfl⟩
  exact ⟨m.C_Told, dx, _, sp_Told_lets P w K mg base, sp_Told_words m, hp, m.dc_Told, by walk_at "lk", by walk_at "lk", by walk_at "lk", by walk_at "lk", by walk_at "lk", by walk_at "lk", mc_Told_lets m, McE.mono (mc_Told_words m) (by decide), mc_Told_is_exit m,
    m.ii_Told_Door, m.ii_Told_Shut, m.ii_Told_Wider, m.ii_Told_Told, (fun H' t Q s h0 h1 k => r_Told_lets (s _ _ hp) m.dc_Told (by walk_at "lk") (s _ _ eF) dF hbd FL ⟨t, rfl, hL.same s, kc.same s, k⟩),
    (fun H' Q E s k1 k2 => ⟨p, rfl, k2 H' rfl (Same.refl _)⟩), fun z ez => by cases ez⟩
theorem door_Shut (m : M K mg) {n : Nat} {H : Hp} {p q dx : Addr} {nm st : Str} {e : V} {L : Int → Int} {W : Option Str} {kd : Nat} {a : Int} (d : DoorAt P w base m n H q nm st e L W kd) (hnn : n ≤ 20) (hp : H p = some (.ins m.C_Shut dx (ShutFs (.ref q) (.str nm) (.str st) e (.int a)))) (ha : 0 ≤ a) (ha1 : a < 1000000000000) :
    DoorAt P w base m (n + 1) H p nm st e (fun t => if t < a then L t else 0) (W.map fun z => Txt.join " " ["shut", numS a, z]) 1 := by
  obtain ⟨C, dxq, fs, spl, spw, h1, h2, h3, h4, h5, h6, h7, h8, h9, h10, h11, h12, h13, h14, h15, h16, h17, h18⟩ := d.ex
  have la := numS_len (i := a) (by omega) (by omega)
  refine ⟨m.C_Shut, dx, _, sp_Shut_lets P w K mg base n, sp_Shut_words P w base m n, hp, m.dc_Shut, by walk_at "lk", by walk_at "lk", by walk_at "lk", by walk_at "lk", by walk_at "lk", by walk_at "lk", mc_Shut_lets m n, mc_Shut_words m n, mc_Shut_is_exit m,
    m.ii_Shut_Door, m.ii_Shut_Shut, m.ii_Shut_Wider, m.ii_Shut_Told, (fun H' t Q s h0 h1' k => r_Shut_lets m.dc_Shut (s _ _ hp) (by walk_at "lk") (by walk_at "lk") (s _ _ h1) h6 h9 (fun Q' k' => h16 H' t Q' s h0 h1' k') k),
    (fun H' Q E s k1 k2 => ⟨p, m.C_Shut, dx, _, q, C, dxq, fs, a, W, spw, rfl, m.dc_Shut, s _ _ hp, by walk_at "lk", by walk_at "lk", s _ _ h1, h7, h10, ⟨by omega, by omega⟩, (fun z ez => Nat.le_trans (h18 z ez) (by omega)), (fun Q' E' => h17 H' Q' E' s), (fun z H2 ez s2 => k1 _ H2 (by rw [ez]; rfl) s2), (fun H2 ez s2 => k2 H2 (by rw [ez]; rfl) s2)⟩),
    fun z ez => ?_⟩
  cases W with
  | none => cases ez
  | some z0 =>
    cases ez
    have hz := h18 z0 rfl
    have e1 := join_len " " "shut" [numS a, z0]
    have e3 : (" " : Str).length = 1 := by rw [lit_len]; rfl
    have e4 : ("shut" : Str).length = 4 := by rw [lit_len]; rfl
    simp only [List.map_cons, List.map_nil, List.sum_cons, List.sum_nil, List.length_cons, List.length_nil] at e1
    refine Nat.le_trans e1 ?_
    omega
theorem door_Wider (m : M K mg) {n : Nat} {H : Hp} {p q dx : Addr} {nm st : Str} {e : V} {L : Int → Int} {W : Option Str} {kd : Nat} {a i0 : Int} (d : DoorAt P w base m n H q nm st e L W kd) (hnn : n ≤ 20) (hp : H p = some (.ins m.C_Wider dx (WiderFs (.ref q) (.str nm) (.str st) e (.int a) (.int i0)))) (ha : 0 ≤ a) (ha1 : a < 1000000000000) (b0 : 0 ≤ i0) (c0 : i0 < 1000000000000) :
    DoorAt P w base m (n + 1) H p nm st e (fun t => if a ≤ t ∧ 0 < L t then L t + i0 else L t) (W.map fun z => Txt.join " " ["wider", numS a, numS i0, z]) 2 := by
  obtain ⟨C, dxq, fs, spl, spw, h1, h2, h3, h4, h5, h6, h7, h8, h9, h10, h11, h12, h13, h14, h15, h16, h17, h18⟩ := d.ex
  have la := numS_len (i := a) (by omega) (by omega)
  have l0 := numS_len (i := i0) (by omega) (by omega)
  refine ⟨m.C_Wider, dx, _, sp_Wider_lets P w K mg base n, sp_Wider_words P w base m n, hp, m.dc_Wider, by walk_at "lk", by walk_at "lk", by walk_at "lk", by walk_at "lk", by walk_at "lk", by walk_at "lk", mc_Wider_lets m n, mc_Wider_words m n, mc_Wider_is_exit m,
    m.ii_Wider_Door, m.ii_Wider_Shut, m.ii_Wider_Wider, m.ii_Wider_Told, (fun H' t Q s h0 h1' k => r_Wider_lets m.dc_Wider (s _ _ hp) (by walk_at "lk") (by walk_at "lk") (by walk_at "lk") (s _ _ h1) h6 h9 (fun Q' k' => h16 H' t Q' s h0 h1' k') k),
    (fun H' Q E s k1 k2 => ⟨p, m.C_Wider, dx, _, q, C, dxq, fs, a, _, W, spw, rfl, m.dc_Wider, s _ _ hp, by walk_at "lk", by walk_at "lk", by walk_at "lk", s _ _ h1, h7, h10, ⟨by omega, by omega⟩, ⟨by omega, by omega⟩, (fun z ez => Nat.le_trans (h18 z ez) (by omega)), (fun Q' E' => h17 H' Q' E' s), (fun z H2 ez s2 => k1 _ H2 (by rw [ez]; rfl) s2), (fun H2 ez s2 => k2 H2 (by rw [ez]; rfl) s2)⟩),
    fun z ez => ?_⟩
  cases W with
  | none => cases ez
  | some z0 =>
    cases ez
    have hz := h18 z0 rfl
    have e1 := join_len " " "wider" [numS a, numS i0, z0]
    have e3 : (" " : Str).length = 1 := by rw [lit_len]; rfl
    have e4 : ("wider" : Str).length = 5 := by rw [lit_len]; rfl
    simp only [List.map_cons, List.map_nil, List.sum_cons, List.sum_nil, List.length_cons, List.length_nil] at e1
    refine Nat.le_trans e1 ?_
    omega

/-! ### the innermost door -/
def kdN (ns : List Int) : Int := cellN ns 1 % 6
def nuN (ns : List Int) : Int := turnF (cellN ns 2)
def evN (ns : List Int) : Int := 1 + cellN ns 3 % 5
def clN (ns : List Int) : Int := cellN ns 4 % 1000000000000
def innerL (ns : List Int) (wd t : Int) : Int := if kdN ns = 0 then wd else if kdN ns = 1 then SinceV wd (nuN ns) t else if kdN ns = 2 then UntilV wd (nuN ns) t else if kdN ns = 3 then BeatV wd (evN ns) (nuN ns) t else if kdN ns = 4 then MarkedV wd (nuN ns) t else lettingF (clN ns) t
def innerW (ns : List Int) (wd : Int) (nm st : Str) (e : V) : Option Str := if kdN ns = 0 then some (wordsS "door" nm st e [wd]) else if kdN ns = 1 then some (wordsS "since" nm st e [wd, nuN ns]) else if kdN ns = 2 then some (wordsS "until" nm st e [wd, nuN ns])
  else if kdN ns = 3 then some (wordsS "beat" nm st e [wd, evN ns, nuN ns]) else if kdN ns = 4 then some (wordsS "marked" nm st e [wd, nuN ns]) else none
def innerK (ns : List Int) : Nat := if kdN ns = 5 then 3 else 0
def SameT (H H' : Hp) : Prop := ∀ b u, H b = some u → (∀ ps, u ≠ .tbl ps) → H' b = some u
theorem Same.t {H H' : Hp} (s : Same H H') : SameT H H' := fun b u e _ => s b u e
theorem SameT.after {H H1 H2 : Hp} (s : SameT H1 H2) (a : Same H H1) : SameT H H2 := fun b u e n => s b u (a b u e) n
theorem SameT.snoc {H H1 H2 : Hp} (s : SameT H H1) (a : Same H1 H2) : SameT H H2 := fun b u e n => a b u (s b u e n)
theorem sqL_T {H H' : Hp} {a : Addr} {xs : List V} (T : SameT H H') (h : SqL K H a xs) : SqL K H' a xs := by
  rcases h with (h | ⟨o, h⟩) | h
  · exact .inl (.inl (T _ _ h fun ps z => by cases z))
  · exact .inl (.inr ⟨o, T _ _ h fun ps z => by cases z⟩)
  · exact .inr h
def sp_inner (P : Program) (w : World) (base : Heap) (m : M K mg) (PL : Addr) : Sp := fun vs H Q _ => ∃ (a r : Addr) (ns : List Int) (wd : Int) (nm st : Str) (e : V), vs = [.ref a, .ref r, .int wd] ∧ SqL K H a (ns.map V.int) ∧ H r = some (.lst [.str nm, .str st, e]) ∧ nameB nm = true ∧ nameB st = true ∧ EndOk e ∧ 0 ≤ wd ∧ wd < 1000000000000 ∧ H PL = some (.tbl #[]) ∧
  ∀ p H', SameT H H' → DoorAt P w base m 4 H' p nm st e (innerL ns wd) (innerW ns wd nm st e) (innerK ns) → Q (.ref p) H'
local macro_rules | `(tactic| walk_at "rd1") => `(tactic| first | (with_reducible refine rd_seqC ?_) | (with_reducible refine rd_retC ?_))
theorem ok__law_inner (m : M K mg) {cL PL : Addr} (hcL : m.d__law_inner.code = .ref cL) (hCL : PySem.W.CodeHd base cL PL) (hBL : base.BuiltinsAt mg PL) : FnOk P w K mg base CX0 8 m.a__law_inner m.d__law_inner ["_law_script", "_law_names", "_law_wide"] (sp_inner P w base m PL) := by
  refine m.F__law_inner.okR sc__law_inner (i := 6) (y := "_law_cell") rfl (by kernel_rfl) (fun vs H Q E h => ?_) (fun cdv A outer s H vs Q E c hcd hc hr h => ?_)
  · obtain ⟨a, r, ns, wd, nm, st, e, rfl, hS, hr', hn, hs, he, hw, hw1, hPL, k⟩ := h
    rfl
  · obtain ⟨a, r, ns, wd, nm, st, e, rfl, hS, hr', hn, hs, he, hw, hw1, hPL, k⟩ := h
    have nd := sc__law_inner.nd
    have hu0 := Room.units0 hr
    obtain rfl := hcd.symm.trans hcL
    obtain rfl : s.heap.objs.size + 1 = c := Option.some.inj ((show _ = some (s.heap.objs.size + 1) from by kernel_rfl).symm.trans hc)
    have F__law_cell_at := fc__law_cell_at (P := P) (w := w) (base := base) m
    have F__law_turn := fc__law_turn (P := P) (w := w) (base := base) m
    have K_Beat_0 := kc_Beat_0 (P := P) (w := w) (base := base) m
    have K_Door_0 := kc_Door_0 (P := P) (w := w) (base := base) m
    have K_Marked_0 := kc_Marked_0 (P := P) (w := w) (base := base) m
    have K_Since_0 := kc_Since_0 (P := P) (w := w) (base := base) m
    have K_Told_0 := kc_Told_0 (P := P) (w := w) (base := base) m
    have K_Until_0 := kc_Until_0 (P := P) (w := w) (base := base) m
    have w_dc_Door := m.dc_Door
    have w_dc_Since := m.dc_Since
    have w_dc_Until := m.dc_Until
    have w_dc_Beat := m.dc_Beat
    have w_dc_Marked := m.dc_Marked
    have w_dc_Told := m.dc_Told
    refine ⟨_, (prs_cons (ps_set (i := 3) nd rfl (by first | exact Or.inl rfl | exact Or.inr rfl) (pe_op op_mod (pe_f F__law_cell_at hr (pa_cons (pv 0) (pa_cons pe_int pa_nil))) pe_int))
      (prs_cons (ps_set (i := 4) nd rfl (by first | exact Or.inl rfl | exact Or.inr rfl) (pe_f F__law_turn hr (pa_cons (pe_f F__law_cell_at hr (pa_cons (pv 0) (pa_cons pe_int pa_nil))) pa_nil)))
      (prs_cons (ps_set (i := 5) nd rfl (by first | exact Or.inl rfl | exact Or.inr rfl) (pe_op op_add pe_int (pe_op op_mod (pe_f F__law_cell_at hr (pa_cons (pv 0) (pa_cons pe_int pa_nil))) pe_int)))
      (prs_cons (ps_if (pt_cmpR op_eq (pv 3) pe_int (nomark _)) (pss_one (ps_ret (pe_mk K_Door_0 hr (pa_cons (pe_ix ix_list (pv 1) pe_int (fun _ _ => rfl)) (pa_cons (pe_ix ix_list (pv 1) pe_int (fun _ _ => rfl)) (pa_cons (pe_ix ix_list (pv 1) pe_int (fun _ _ => rfl)) (pa_cons (pv 2) pa_nil))))))) pss_nil)
      (prs_cons (ps_if (pt_cmpR op_eq (pv 3) pe_int (nomark _)) (pss_one (ps_ret (pe_mk K_Since_0 hr (pa_cons (pe_ix ix_list (pv 1) pe_int (fun _ _ => rfl)) (pa_cons (pe_ix ix_list (pv 1) pe_int (fun _ _ => rfl)) (pa_cons (pe_ix ix_list (pv 1) pe_int (fun _ _ => rfl)) (pa_cons (pv 2) (pa_cons (pv 4) pa_nil)))))))) pss_nil)
      (prs_cons (ps_if (pt_cmpR op_eq (pv 3) pe_int (nomark _)) (pss_one (ps_ret (pe_mk K_Until_0 hr (pa_cons (pe_ix ix_list (pv 1) pe_int (fun _ _ => rfl)) (pa_cons (pe_ix ix_list (pv 1) pe_int (fun _ _ => rfl)) (pa_cons (pe_ix ix_list (pv 1) pe_int (fun _ _ => rfl)) (pa_cons (pv 2) (pa_cons (pv 4) pa_nil)))))))) pss_nil)
      (prs_cons (ps_if (pt_cmpR op_eq (pv 3) pe_int (nomark _)) (pss_one (ps_ret (pe_mk K_Beat_0 hr (pa_cons (pe_ix ix_list (pv 1) pe_int (fun _ _ => rfl)) (pa_cons (pe_ix ix_list (pv 1) pe_int (fun _ _ => rfl)) (pa_cons (pe_ix ix_list (pv 1) pe_int (fun _ _ => rfl)) (pa_cons (pv 2) (pa_cons (pv 5) (pa_cons (pv 4) pa_nil))))))))) pss_nil)
      (prs_cons (ps_if (pt_cmpR op_eq (pv 3) pe_int (nomark _)) (pss_one (ps_ret (pe_mk K_Marked_0 hr (pa_cons (pe_ix ix_list (pv 1) pe_int (fun _ _ => rfl)) (pa_cons (pe_ix ix_list (pv 1) pe_int (fun _ _ => rfl)) (pa_cons (pe_ix ix_list (pv 1) pe_int (fun _ _ => rfl)) (pa_cons (pv 2) (pa_cons (pv 4) pa_nil)))))))) pss_nil)
      (prs_cons (ps_set (i := 6) nd rfl (by first | exact Or.inl rfl | exact Or.inr rfl) (pe_op op_mod (pe_f F__law_cell_at hr (pa_cons (pv 0) (pa_cons pe_int pa_nil))) (pe_powc 1000000000000 (by decide) ⟨by decide, by decide, by decide⟩)))
      (prs_ret (pe_mk K_Told_0 hr (pa_cons (pe_ix ix_list (pv 1) pe_int (fun _ _ => rfl)) (pa_cons (pe_ix ix_list (pv 1) pe_int (fun _ _ => rfl)) (pa_cons (pe_ix ix_list (pv 1) pe_int (fun _ _ => rfl)) (pa_cons (pe_lam (y := "_law_cell") (c := s.heap.objs.size + 1) rfl hCL hBL rfl) pa_nil))))))))))))))), ?_⟩
    refine rd_startR (σ := [some (.ref a), some (.ref r), some (.int wd), none, none, none, none]) rfl ?_
    walk_at "go"
    rename_i u0 u1 H1 S1
    have hnu : turnF (cellN ns 2) = nuN ns := rfl
    have hev0 : 1 ≤ 1 + cellN ns 3 % 5 := by omega
    have hev1 : 1 + cellN ns 3 % 5 < 1000000000000 := by omega
    refine rd_if2 (fun h0 => ?_) (fun h0 => ?_)
    · walk_at "go"
      rename_i p dx H2 n2 S2 e2
      refine k _ _ (Same.t (by walk_at "sm")) ?_
      have f1 : innerL ns wd = fun _ => wd := funext fun t => by unfold innerL kdN; rw [if_pos h0]
      have f2 : innerW ns wd nm st e = some (wordsS "door" nm st e [wd]) := by unfold innerW kdN; rw [if_pos h0]
      have f3 : innerK ns = 0 := by unfold innerK kdN; rw [if_neg (by omega)]
      rw [f1, f2, f3]
      exact door_Door m e2 hn hs he hw hw1
    walk_at "go"
    refine rd_if2 (fun h1 => ?_) (fun h1 => ?_)
    · walk_at "go"
      rename_i p dx H2 n2 S2 e2
      refine k _ _ (Same.t (by walk_at "sm")) ?_
      have f1 : innerL ns wd = SinceV wd (nuN ns) := funext fun t => by unfold innerL kdN; rw [if_neg h0, if_pos h1]
      have f2 : innerW ns wd nm st e = some (wordsS "since" nm st e [wd, nuN ns]) := by unfold innerW kdN; rw [if_neg h0, if_pos h1]
      have f3 : innerK ns = 0 := by unfold innerK kdN; rw [if_neg (by omega)]
      rw [f1, f2, f3]
      exact door_Since m e2 hn hs he hw hw1 u0 (by omega)
    walk_at "go"
    refine rd_if2 (fun h2 => ?_) (fun h2 => ?_)
    · walk_at "go"
      rename_i p dx H2 n2 S2 e2
      refine k _ _ (Same.t (by walk_at "sm")) ?_
      have f1 : innerL ns wd = UntilV wd (nuN ns) := funext fun t => by unfold innerL kdN; rw [if_neg h0, if_neg h1, if_pos h2]
      have f2 : innerW ns wd nm st e = some (wordsS "until" nm st e [wd, nuN ns]) := by unfold innerW kdN; rw [if_neg h0, if_neg h1, if_pos h2]
      have f3 : innerK ns = 0 := by unfold innerK kdN; rw [if_neg (by omega)]
      rw [f1, f2, f3]
      exact door_Until m e2 hn hs he hw hw1 u0 (by omega)
    walk_at "go"
    refine rd_if2 (fun h3 => ?_) (fun h3 => ?_)
    · walk_at "go"
      rename_i p dx H2 n2 S2 e2
      refine k _ _ (Same.t (by walk_at "sm")) ?_
      have f1 : innerL ns wd = BeatV wd (evN ns) (nuN ns) := funext fun t => by unfold innerL kdN; rw [if_neg h0, if_neg h1, if_neg h2, if_pos h3]
      have f2 : innerW ns wd nm st e = some (wordsS "beat" nm st e [wd, evN ns, nuN ns]) := by unfold innerW kdN; rw [if_neg h0, if_neg h1, if_neg h2, if_pos h3]
      have f3 : innerK ns = 0 := by unfold innerK kdN; rw [if_neg (by omega)]
      rw [f1, f2, f3]
      exact door_Beat m e2 hn hs he hw hw1 hev0 hev1 u0 (by omega)
    walk_at "go"
    refine rd_if2 (fun h4 => ?_) (fun h4 => ?_)
    · walk_at "go"
      rename_i p dx H2 n2 S2 e2
      refine k _ _ (Same.t (by walk_at "sm")) ?_
      have f1 : innerL ns wd = MarkedV wd (nuN ns) := funext fun t => by unfold innerL kdN; rw [if_neg h0, if_neg h1, if_neg h2, if_neg h3, if_pos h4]
      have f2 : innerW ns wd nm st e = some (wordsS "marked" nm st e [wd, nuN ns]) := by unfold innerW kdN; rw [if_neg h0, if_neg h1, if_neg h2, if_neg h3, if_pos h4]
      have f3 : innerK ns = 0 := by unfold innerK kdN; rw [if_neg (by omega)]
      rw [f1, f2, f3]
      exact door_Marked m e2 hn hs he hw hw1 u0 (by omega)
    walk_at "go"
    refine ⟨by walk_at "hp", fun F fd G4 hFn hL T => ?_⟩
    have FL := fun (cell : Int) => ok_lam (P := P) (w := w) (K := K) (mg := mg) (base := base) (cell := cell) hL rfl rfl rfl (by decide +kernel) (by kernel_rfl) (free_of (by decide +kernel)) (by kernel_rfl)
      (fun cdv A outer s H E hr => pe_f (fc__law_letting (P := P) (w := w) (base := base) m) hr (pa_cons (pv 1) (pa_cons (pv 0) pa_nil)))
    have hbd : Binds K fd ["_law_turn_here"] [] := by
      obtain ⟨c', pm, ctv, oc, fv, tt, rfl, _⟩ := id hL
      exact Binds.all <| of_allN 1 _ fun _ => rfl
    walk_at "go"
    refine r_mkTold rfl w_dc_Told hn hs he fun p5 dx5 G5 n5 S5 e5 => ?_
    refine ⟨_, rfl, fun H6 S6 nc kc => ?_⟩
    have T6 : SameT H H6 := ((SameT.after T (by walk_at "sm")).snoc S5).snoc S6
    refine k _ _ T6 ?_
    have h5 : kdN ns = 5 := by unfold kdN; omega
    have f1 : innerL ns wd = lettingF (clN ns) := funext fun t => by unfold innerL kdN; rw [if_neg h0, if_neg h1, if_neg h2, if_neg h3, if_neg h4]
    have f2 : innerW ns wd nm st e = none := by unfold innerW kdN; rw [if_neg h0, if_neg h1, if_neg h2, if_neg h3, if_neg h4]
    have f3 : innerK ns = 3 := by unfold innerK; rw [if_pos h5]
    rw [f1, f2, f3]
    exact door_Told m (S6 _ _ e5) hn hs he ((hL.same S5).same S6) kc hbd (FL (clN ns))
theorem fc__law_inner (m : M K mg) {cL PL : Addr} (hcL : m.d__law_inner.code = .ref cL) (hCL : PySem.W.CodeHd base cL PL) (hBL : base.BuiltinsAt mg PL) : Fc P w K mg base "_law_inner" 8 ["_law_script", "_law_names", "_law_wide"] (sp_inner P w base m PL) := ⟨_, _, m.m__law_inner, m.F__law_inner.kp, m.b__law_inner, ok__law_inner m hcL hCL hBL⟩

/-! ### what is due -/
theorem rd_append {H : Hp} {Q : VK} {l : Addr} {xs : List V} {y : V} (e : H l = some (.lst xs)) (hz : xs.length < sizeLine) (h : ∀ H', SameBut l H H' → H' l = some (.lst (xs ++ [y])) → Q .non H') : rAppend (.ref l) [y] H Q :=
  ⟨l, xs, y, rfl, rfl, e, hz, h _ SameBut.upd upd_same⟩
theorem pow_nat (n : Nat) : ((2 ^ n : Nat) : Int) = (2 : Int) ^ n := by simp
theorem pow50 {t : Int} (h0 : 0 ≤ t) (h : t < 50) : (0 : Int) < 1 * 2 ^ (min t 50).toNat ∧ (1 : Int) * 2 ^ (min t 50).toNat < 2 ^ 100 ∧ (1 : Int) * 2 ^ (min t 50).toNat = 2 ^ t.toNat := by
  have hm : min t 50 = t := by omega
  rw [hm]
  have h1 : (2 : Nat) ^ t.toNat ≤ 2 ^ 60 := Nat.pow_le_pow_right (by decide) (by omega)
  have h2 := pow_nat t.toNat
  have h3 : 0 < 2 ^ t.toNat := Nat.pow_pos (by decide)
  rw [Int.one_mul]
  omega
theorem bits50 {b t : Int} (ht : 50 ≤ t) (hb0 : 0 ≤ b) (hb : b < 100000000000) : b / 2 ^ t.toNat % 2 = 0 := by
  have h1 : (2 : Nat) ^ 50 ≤ 2 ^ t.toNat := Nat.pow_le_pow_right (by decide) (by omega)
  have h2 := pow_nat t.toNat
  have h3 : b < 2 ^ t.toNat := by omega
  rw [Int.ediv_eq_zero_of_lt hb0 h3]; rfl
def sp_idue (K : PySem.W.Frag) : Sp := fun vs H Q _ => ∃ (a : Addr) (ns : List Int) (wd t : Int), vs = [.ref a, .int wd, .int t] ∧ SqL K H a (ns.map V.int) ∧ 0 ≤ wd ∧ wd < 1000000000000 ∧ 0 ≤ t ∧ t < 1000000000000 ∧ ∀ H', Same H H' → Q (.int (innerL ns wd t)) H'
theorem r_idue {H : Hp} {Q : VK} {E : XK} {a : Addr} {ns : List Int} {wd t : Int} (hS : SqL K H a (ns.map V.int)) (h0 : 0 ≤ wd) (h1 : wd < 1000000000000) (t0 : 0 ≤ t) (t1 : t < 1000000000000) (k : ∀ H', Same H H' → Q (.int (innerL ns wd t)) H') : sp_idue K [.ref a, .int wd, .int t] H Q E := ⟨_, _, _, _, rfl, hS, h0, h1, t0, t1, k⟩
theorem b2 (p : Prop) [Decidable p] (wd : Int) : wd * (if decide p = true then 1 else 0) = if p then wd else 0 := mul_if wd
theorem ok__law_inner_due (m : M K mg) : FnOk P w K mg base CX0 4 m.a__law_inner_due m.d__law_inner_due ["_law_script", "_law_wide", "_law_turn_here"] (sp_idue K) := by
  refine m.F__law_inner_due.ok sc__law_inner_due (fun vs H Q E h => ?_) (fun cdv A outer s H vs Q E hr h => ?_)
  · obtain ⟨a, ns, wd, t, rfl, hS, hw, hw1, t0, t1, k⟩ := h
    rfl
  · obtain ⟨a, ns, wd, t, rfl, hS, hw, hw1, t0, t1, k⟩ := h
    have nd := sc__law_inner_due.nd
    have hu0 := Room.units0 hr
    have F__law_cell_at := fc__law_cell_at (P := P) (w := w) (base := base) m
    have F__law_letting := fc__law_letting (P := P) (w := w) (base := base) m
    have F__law_turn := fc__law_turn (P := P) (w := w) (base := base) m
    refine ⟨_, (pss_cons (ps_set (i := 3) nd rfl (by first | exact Or.inl rfl | exact Or.inr rfl) (pe_op op_mod (pe_f F__law_cell_at hr (pa_cons (pv 0) (pa_cons pe_int pa_nil))) pe_int))
      (pss_cons (ps_set (i := 4) nd rfl (by first | exact Or.inl rfl | exact Or.inr rfl) (pe_f F__law_turn hr (pa_cons (pe_f F__law_cell_at hr (pa_cons (pv 0) (pa_cons pe_int pa_nil))) pa_nil)))
      (pss_cons (ps_set (i := 5) nd rfl (by first | exact Or.inl rfl | exact Or.inr rfl) (pe_op op_add pe_int (pe_op op_mod (pe_f F__law_cell_at hr (pa_cons (pv 0) (pa_cons pe_int pa_nil))) pe_int)))
      (pss_cons (ps_if (pt_cmpR op_eq (pv 3) pe_int (nomark _)) (pss_one (ps_ret (pe_f F__law_letting hr (pa_cons (pe_op op_mod (pe_f F__law_cell_at hr (pa_cons (pv 0) (pa_cons pe_int pa_nil))) (pe_powc 1000000000000 (by decide) ⟨by decide, by decide, by decide⟩)) (pa_cons (pv 2) pa_nil))))) pss_nil)
      (pss_cons (ps_set (i := 6) nd rfl (by first | exact Or.inl rfl | exact Or.inr rfl) (pe_lst (pa_cons pe_bl (pa_cons (pe_cmpR op_ge (pv 2) (pv 4) (nomark _)) (pa_cons (pe_cmpR op_lt (pv 2) (pv 4) (nomark _)) (pa_cons (pe_and (pe_cmpR op_ge (pv 2) (pv 4) (nomark _)) (pe_one (pe_cmpR op_eq (pe_op op_mod (pe_op op_sub (pv 2) (pv 4)) (pv 5)) pe_int (nomark _)))) pa_nil))))))
      (pss_cons (ps_expr (pe_bm PySem.F.plainAttrs_list PySem.F.slot_list_append PySem.F.type_list_append mt_append (pv 6) (pa_cons (pe_and (pe_cmpR op_lt (pv 2) pe_int (nomark _)) (pe_one (pe_cmpR op_eq (pe_op op_mod (pe_op op_fdivB (pv 4) (pe_op op_shl pe_int (pe_callB (call_minI rfl) rfl m.g_min bt_min (pa_cons (pv 2) (pa_cons pe_int pa_nil))))) pe_int) pe_int (nomark _)))) pa_nil)))
      (pss_one (ps_ret (pe_op op_mul (pv 1) (pe_callTy call_intI rfl m.g_int bt_int (pa_cons (pe_ix ix_list (pv 6) (pv 3) (fun _ _ => rfl)) pa_nil))))))))))), ?_⟩
    refine rd_start (σ := [some (.ref a), some (.int wd), some (.int t), none, none, none, none]) rfl ?_
    walk_at "gs"
    rename_i u0 u1 H1 S1
    have hev0 : 1 ≤ 1 + cellN ns 3 % 5 := by omega
    walk_at "go"
    refine rd_if2 (fun h5 => ?_) (fun h5 => ?_)
    · walk_at "go"
      have f1 : innerL ns wd t = lettingF (clN ns) t := by unfold innerL kdN; rw [if_neg (by omega), if_neg (by omega), if_neg (by omega), if_neg (by omega), if_neg (by omega)]
      rw [f1] at k
      exact k _ (by walk_at "sm")
    · refine rd_next ?_
      refine rd_seqR (fun σ' H' => ∃ q, H1 q = none ∧ Same H1 H' ∧ H' q = some (.lst [.bl true, .bl (decide (nuN ns ≤ t)), .bl (decide (t < nuN ns)), .bl (decide (nuN ns ≤ t ∧ (t - nuN ns) % evN ns = 0))]) ∧ σ' = [some (.ref a), some (.int wd), some (.int t), some (.int (cellN ns 1 % 6)), some (.int (nuN ns)), some (.int (evN ns)), some (.ref q)]) ?_ ?_
      rotate_left
      · intro nx' hnx
        walk_at "go"
        refine rd_if2 (fun h1 => ?_) (fun h1 => ?_)
        · walk_at "go"
          rename_i q G n1 s1 e1
          refine hnx _ _ ⟨q, n1, s1, ?_, rfl⟩
          rw [e1]
          have hh : decide (nuN ns ≤ t ∧ (t - nuN ns) % evN ns = 0) = decide ((t - turnF (cellN ns 2)) % (1 + cellN ns 3 % 5) = 0) := decide_eq_decide.mpr ⟨fun z => z.2, fun z => ⟨h1, z⟩⟩
          rw [hh]; rfl
        · walk_at "go"
          rename_i q G n1 s1 e1
          refine hnx _ _ ⟨q, n1, s1, ?_, rfl⟩
          rw [e1]
          have hh : decide (nuN ns ≤ t ∧ (t - nuN ns) % evN ns = 0) = false := decide_eq_false fun z => h1 z.1
          rw [hh]; rfl
      rintro _ G ⟨q, n1, s1, e1, rfl⟩
      refine rd_seqR (fun σ' H' => Same H1 H' ∧ H' q = some (.lst [.bl true, .bl (decide (nuN ns ≤ t)), .bl (decide (t < nuN ns)), .bl (decide (nuN ns ≤ t ∧ (t - nuN ns) % evN ns = 0)), .bl (decide (nuN ns / 2 ^ t.toNat % 2 = 1))]) ∧ σ' = [some (.ref a), some (.int wd), some (.int t), some (.int (cellN ns 1 % 6)), some (.int (nuN ns)), some (.int (evN ns)), some (.ref q)]) ?_ ?_
      rotate_left
      · intro nx' hnx
        walk_at "go"
        refine rd_if2 (fun h1 => ?_) (fun h1 => ?_)
        · obtain ⟨p0, p1, p2⟩ := pow50 t0 h1
          walk_at "go"
          refine rd_divB p0 p1 ?_
          walk_at "go"
          refine rd_append e1 (by walk_at "sz") fun H2 b2' e2 => ?_
          walk_at "go"
          refine hnx _ _ ⟨SameBut.same n1 s1 b2', ?_, rfl⟩
          rw [e2, p2]; rfl
        · walk_at "go"
          refine rd_append e1 (by walk_at "sz") fun H2 b2' e2 => ?_
          walk_at "go"
          refine hnx _ _ ⟨SameBut.same n1 s1 b2', ?_, rfl⟩
          rw [e2]
          have hh : decide (nuN ns / 2 ^ t.toNat % 2 = 1) = false := decide_eq_false (by rw [bits50 (b := nuN ns) (by omega) u0 u1]; decide)
          rw [hh]; rfl
      rintro _ G2 ⟨s2, e2, rfl⟩
      have hk0 : 0 ≤ cellN ns 1 % 6 := by omega
      have hk1 : cellN ns 1 % 6 < 5 := by omega
      have s12 : Same H G2 := S1.trans s2
      have kk := k G2 s12
      unfold innerL kdN at kk
      generalize cellN ns 1 % 6 = kd at *
      have hkd : kd = 0 ∨ kd = 1 ∨ kd = 2 ∨ kd = 3 ∨ kd = 4 := by omega
      rcases hkd with rfl | rfl | rfl | rfl | rfl
      · walk_at "go"
        rw [if_pos rfl] at kk
        have : wd * (if true = true then (1 : Int) else 0) = wd := by simp
        rw [this]; exact kk
      · walk_at "go"
        rw [if_neg (by decide), if_pos rfl] at kk
        unfold SinceV at kk
        rw [b2]; exact kk
      · walk_at "go"
        rw [if_neg (by decide), if_neg (by decide), if_pos rfl] at kk
        unfold UntilV at kk
        rw [b2]; exact kk
      · walk_at "go"
        rw [if_neg (by decide), if_neg (by decide), if_neg (by decide), if_pos rfl] at kk
        unfold BeatV at kk
        have hh : (0 ≤ t - nuN ns ∧ (t - nuN ns) % evN ns = 0) ↔ (nuN ns ≤ t ∧ (t - nuN ns) % evN ns = 0) := ⟨fun z => ⟨by omega, z.2⟩, fun z => ⟨by omega, z.2⟩⟩
        rw [b2]
        by_cases z : nuN ns ≤ t ∧ (t - nuN ns) % evN ns = 0
        · rw [if_pos (hh.mpr z)] at kk
          rw [if_pos z]; exact kk
        · rw [if_neg (fun y => z (hh.mp y))] at kk
          rw [if_neg z]; exact kk
      · walk_at "go"
        rw [if_neg (by decide), if_neg (by decide), if_neg (by decide), if_neg (by decide), if_pos rfl] at kk
        unfold MarkedV at kk
        rw [b2]; exact kk
theorem fc__law_inner_due (m : M K mg) : Fc P w K mg base "_law_inner_due" 4 ["_law_script", "_law_wide", "_law_turn_here"] (sp_idue K) := ⟨_, _, m.m__law_inner_due, m.F__law_inner_due.kp, m.b__law_inner_due, ok__law_inner_due m⟩
local macro_rules | `(tactic| walk_at "rd1") => `(tactic| ((with_reducible refine' r_idue ?e ?a ?b ?c ?d ?_); (case e => walk_at "hp"); (case a => walk_at "sd"); (case b => walk_at "sd"); (case c => walk_at "sd"); (case d => walk_at "sd"); intro H' S'))
/-! ### rounds -/
abbrev Rd3 := Int × Int × Int
def roundOf (c : Int) : Rd3 := (drawnF c 7 % 2, turnF (drawnF c 8), if drawnF c 6 % 4 = 0 then c % 100000000000 else drawnF c 5 % 7)
def RowsR (H : Hp) : List V → List Rd3 → Prop := Paired fun v r => ∃ p, v = .ref p ∧ H p = some (.tup [.int r.1, .int r.2.1, .int r.2.2])
theorem RowsR.map {H H' : Hp} (f : ∀ p xs, H p = some (.tup xs) → H' p = some (.tup xs)) : ∀ {vs : List V} {rs : List Rd3}, RowsR H vs rs → RowsR H' vs rs
  | _, _, .nil => .nil
  | _, _, .cons ⟨p, e, h⟩ r => .cons ⟨p, e, f _ _ h⟩ (RowsR.map f r)
theorem RowsR.same {H H' : Hp} {vs : List V} {rs : List Rd3} (x : RowsR H vs rs) (s : Same H H') : RowsR H' vs rs := x.map fun p xs h => s _ _ h
theorem RowsR.snoc {H : Hp} {v : V} {r : Rd3} (h : ∃ p, v = .ref p ∧ H p = some (.tup [.int r.1, .int r.2.1, .int r.2.2])) : ∀ {vs : List V} {rs : List Rd3}, RowsR H vs rs → RowsR H (vs ++ [v]) (rs ++ [r])
  | _, _, .nil => .cons h .nil
  | _, _, .cons q t => .cons q (RowsR.snoc h t)
theorem RowsR.length {H : Hp} : ∀ {vs : List V} {rs : List Rd3}, RowsR H vs rs → vs.length = rs.length
  | _, _, .nil => rfl
  | _, _, .cons _ t => by simp [RowsR.length t]
theorem RowsR.get {H : Hp} : ∀ {vs : List V} {rs : List Rd3} {i : Nat} {v : V}, RowsR H vs rs → vs[i]? = some v → ∃ r p, rs[i]? = some r ∧ v = .ref p ∧ H p = some (.tup [.int r.1, .int r.2.1, .int r.2.2])
  | _, _, _, _, .nil, e => by simp at e
  | _, _, 0, _, .cons ⟨p, e1, h⟩ _, e => by simp at e; subst e; exact ⟨_, p, rfl, e1, h⟩
  | _, _, i + 1, v, .cons _ t, e => by
    obtain ⟨r, p, h1, h2⟩ := RowsR.get (i := i) (v := v) t (by simpa using e)
    exact ⟨r, p, by simpa using h1, h2⟩
theorem RowsR.take {H : Hp} : ∀ {vs : List V} {rs : List Rd3} (n : Nat), RowsR H vs rs → RowsR H (vs.take n) (rs.take n)
  | _, _, 0, _ => .nil
  | _, _, _ + 1, .nil => .nil
  | _, _, n + 1, .cons q t => .cons q (RowsR.take n t)
/-- a list of rounds at q -/
def RAt (H : Hp) (q : Addr) (rs : List Rd3) : Prop := ∃ vs, H q = some (.lst vs) ∧ RowsR H vs rs
theorem RAt.same {H H' : Hp} {q : Addr} {rs : List Rd3} (x : RAt H q rs) (s : Same H H') : RAt H' q rs := let ⟨vs, e, r⟩ := x; ⟨vs, s _ _ e, r.same s⟩
def RndOk (r : Rd3) : Prop := (r.1 = 0 ∨ r.1 = 1) ∧ 0 ≤ r.2.1 ∧ r.2.1 < 1000000000000 ∧ 0 ≤ r.2.2 ∧ r.2.2 < 1000000000000
theorem roundOk (c : Int) : RndOk (roundOf c) := by
  have h1 := turnF_0 (drawnF c 8)
  have h2 := turnF_1 (drawnF c 8)
  unfold roundOf
  refine ⟨by show drawnF c 7 % 2 = 0 ∨ drawnF c 7 % 2 = 1; omega, h1, by show turnF (drawnF c 8) < _; omega, ?_, ?_⟩
  · show 0 ≤ if drawnF c 6 % 4 = 0 then c % 100000000000 else drawnF c 5 % 7
    split <;> omega
  · show (if drawnF c 6 % 4 = 0 then c % 100000000000 else drawnF c 5 % 7) < 1000000000000
    split <;> omega
def roundsF (ns : List Int) : List Rd3 := (cutI ns (some 6) (some (6 + cellN ns 5 % 13))).map roundOf
def sp_rounds (K : PySem.W.Frag) : Sp := fun vs H Q _ => ∃ (a : Addr) (ns : List Int), vs = [.ref a] ∧ SqL K H a (ns.map V.int) ∧ ns.length ≤ 63 ∧ ∀ q H', H q = none → Same H H' → RAt H' q (roundsF ns) → Q (.ref q) H'
theorem r_rounds {H : Hp} {Q : VK} {E : XK} {a : Addr} {ns : List Int} (hS : SqL K H a (ns.map V.int)) (hl : ns.length ≤ 63) (k : ∀ q H', H q = none → Same H H' → RAt H' q (roundsF ns) → Q (.ref q) H') : sp_rounds K [.ref a] H Q E := ⟨_, _, rfl, hS, hl, k⟩
theorem ok__law_rounds (m : M K mg) : FnOk P w K mg base CX0 3 m.a__law_rounds m.d__law_rounds ["_law_script"] (sp_rounds K) := by
  refine m.F__law_rounds.ok sc__law_rounds (fun vs H Q E h => ?_) (fun cdv A outer s H vs Q E hr h => ?_)
  · obtain ⟨a, ns, rfl, hS, hl, k⟩ := h
    rfl
  · obtain ⟨a, ns, rfl, hS, hl, k⟩ := h
    have nd := sc__law_rounds.nd
    have hu0 := Room.units0 hr
    have F__law_cell_at := fc__law_cell_at (P := P) (w := w) (base := base) m
    have F__law_drawn := fc__law_drawn (P := P) (w := w) (base := base) m
    have F__law_turn := fc__law_turn (P := P) (w := w) (base := base) m
    refine ⟨_, (pss_cons (ps_set (i := 1) nd rfl (by first | exact Or.inl rfl | exact Or.inr rfl) (pe_lst pa_nil))
      (pss_cons (ps_for PassesOwn.never rfl (pi_list (pe_slice sl_list (pv 0) (po_some pe_int) (po_some (pe_op op_add pe_int (pe_op op_mod (pe_f F__law_cell_at hr (pa_cons (pv 0) (pa_cons pe_int pa_nil))) pe_int))))) (pg_name (i := 2) nd rfl (by first | exact Or.inl rfl | exact Or.inr rfl)) (pss_cons (ps_set (i := 3) nd rfl (by first | exact Or.inl rfl | exact Or.inr rfl) (pe_op op_mod (pe_f F__law_drawn hr (pa_cons (pv 2) (pa_cons pe_int pa_nil))) pe_int))
      (pss_cons (ps_if (pt_cmpR op_eq (pe_op op_mod (pe_f F__law_drawn hr (pa_cons (pv 2) (pa_cons pe_int pa_nil))) pe_int) pe_int (nomark _)) (pss_one (ps_set (i := 3) nd rfl (by first | exact Or.inl rfl | exact Or.inr rfl) (pe_op op_mod (pv 2) (pe_powc 100000000000 (by decide) ⟨by decide, by decide, by decide⟩)))) pss_nil)
      (pss_one (ps_expr (pe_bm PySem.F.plainAttrs_list PySem.F.slot_list_append PySem.F.type_list_append mt_append (pv 1) (pa_cons (pe_tup (pa_cons (pe_op op_mod (pe_f F__law_drawn hr (pa_cons (pv 2) (pa_cons pe_int pa_nil))) pe_int) (pa_cons (pe_f F__law_turn hr (pa_cons (pe_f F__law_drawn hr (pa_cons (pv 2) (pa_cons pe_int pa_nil))) pa_nil)) (pa_cons (pv 3) pa_nil)))) pa_nil)))))))
      (pss_one (ps_ret (pv 1))))), ?_⟩
    refine rd_start (σ := [some (.ref a), none, none, none]) rfl ?_
    have hc1 := cutI_len ns (some 6) (some (6 + cellN ns 5 % 13))
    walk_at "go"
    rename_i q G0 nq Sq eq l G1 nl Sl el
    have hlq : l ≠ q := fun z => by rw [z, eq] at nl; cases nl
    refine rd_forI (cutI ns (some 6) (some (6 + cellN ns 5 % 13))) (fun i σ' H' => SameBut q G1 H' ∧ RAt H' q (((cutI ns (some 6) (some (6 + cellN ns 5 % 13))).take i).map roundOf) ∧ ∃ x y, σ' = [some (.ref a), some (.ref q), x, y]) ⟨SameBut.refl, ⟨[], by walk_at "hp", .nil⟩, _, _, rfl⟩ (fun i σ' H' p => SqL.of (p.1 _ _ el hlq)) ?_ ?_
    · rintro i c _ H' hc ⟨sb, ⟨vs, ev, rv⟩, x, y, rfl⟩
      have hvl : vs.length ≤ 63 := by rw [rv.length, List.length_map, List.length_take]; omega
      walk_at "gs"
      refine rd_seqR (fun σ2 H2 => H2 = H' ∧ σ2 = [some (.ref a), some (.ref q), some (.int c), some (.int (roundOf c).2.2)]) ?_ ?_
      rotate_left
      · intro nx' hnx
        walk_at "go"
        refine rd_if2 (fun h1 => ?_) (fun h1 => ?_)
        · walk_at "go"
          exact hnx _ _ ⟨rfl, by unfold roundOf; rw [if_pos h1]⟩
        · walk_at "go"
          exact hnx _ _ ⟨rfl, by unfold roundOf; rw [if_neg h1]⟩
      rintro _ _ ⟨rfl, rfl⟩
      walk_at "go"
      rename_i d0 d1 d2 d3 d4 d5 H3 S3 p4 H4 n4 S4 e4
      refine rd_append (xs := vs) (by walk_at "hp") (by walk_at "sz") fun H5 b5 e5 => ?_
      walk_at "go"
      have e4' : H5 p4 = some (.tup [.int (roundOf c).1, .int (roundOf c).2.1, .int (roundOf c).2.2]) := b5 _ _ e4 (fun z => by
        have hq : H4 q = some (.lst vs) := by walk_at "hp"
        rw [z, hq] at e4; cases e4)
      refine ⟨fun b o e hb => b5 b o (S4 b o (S3 b o (sb b o e hb))) hb, ⟨vs ++ [.ref p4], e5, ?_⟩, _, _, rfl⟩
      rw [List.take_succ, hc]
      show RowsR H5 _ (((cutI ns (some 6) (some (6 + cellN ns 5 % 13))).take i ++ [c]).map roundOf)
      rw [List.map_append]
      refine RowsR.snoc ⟨p4, rfl, e4'⟩ (rv.map fun p xs hp => b5 _ _ (S4 _ _ (S3 _ _ hp)) fun z => ?_)
      rw [z, ev] at hp; cases hp
    · rintro _ H' ⟨sb, r, x, y, rfl⟩
      rw [List.take_length] at r
      walk_at "go"
      exact k q H' nq (SameBut.same nq (Sq.trans Sl) sb) r
theorem fc__law_rounds (m : M K mg) : Fc P w K mg base "_law_rounds" 3 ["_law_script"] (sp_rounds K) := ⟨_, _, m.m__law_rounds, m.F__law_rounds.kp, m.b__law_rounds, ok__law_rounds m⟩
local macro_rules | `(tactic| walk_at "rd1") => `(tactic| ((with_reducible refine' r_rounds ?e ?l ?_); (case e => walk_at "hp"); (case l => walk_at "sd"); intro q' H' n' S' r'))
/-! ### what is due of all rounds -/
def stepF (t x : Int) (r : Rd3) : Int := if r.1 = 0 ∧ r.2.1 ≤ t then 0 else if r.1 = 1 ∧ r.2.1 ≤ t ∧ 0 < x then x + r.2.2 else x
def dueF (rs : List Rd3) (t x : Int) : Int := rs.foldl (stepF t) x
def sp_due (K : PySem.W.Frag) : Sp := fun vs H Q _ => ∃ (a q : Addr) (ns : List Int) (wd t : Int) (rs : List Rd3), vs = [.ref a, .int wd, .ref q, .int t] ∧ SqL K H a (ns.map V.int) ∧ RAt H q rs ∧ 0 ≤ wd ∧ wd < 1000000000000 ∧ 0 ≤ t ∧ t < 1000000000000 ∧ ∀ H', Same H H' → Q (.int (dueF rs t (innerL ns wd t))) H'
theorem r_due {H : Hp} {Q : VK} {E : XK} {a q : Addr} {ns : List Int} {wd t : Int} {rs : List Rd3} (hS : SqL K H a (ns.map V.int)) (hR : RAt H q rs) (h0 : 0 ≤ wd) (h1 : wd < 1000000000000) (t0 : 0 ≤ t) (t1 : t < 1000000000000) (k : ∀ H', Same H H' → Q (.int (dueF rs t (innerL ns wd t))) H') : sp_due K [.ref a, .int wd, .ref q, .int t] H Q E := ⟨_, _, _, _, _, _, rfl, hS, hR, h0, h1, t0, t1, k⟩
theorem ok__law_due (m : M K mg) : FnOk P w K mg base CX0 5 m.a__law_due m.d__law_due ["_law_script", "_law_wide", "_law_rounds_here", "_law_turn_here"] (sp_due K) := by
  refine m.F__law_due.ok sc__law_due (fun vs H Q E h => ?_) (fun cdv A outer s H vs Q E hr h => ?_)
  · obtain ⟨a, q, ns, wd, t, rs, rfl, hS, ⟨vs, ev, rv⟩, hw, hw1, t0, t1, k⟩ := h
    rfl
  · obtain ⟨a, q, ns, wd, t, rs, rfl, hS, ⟨vs, ev, rv⟩, hw, hw1, t0, t1, k⟩ := h
    have nd := sc__law_due.nd
    have hu0 := Room.units0 hr
    have F__law_inner_due := fc__law_inner_due (P := P) (w := w) (base := base) m
    refine ⟨_, (pss_cons (ps_set (i := 4) nd rfl (by first | exact Or.inl rfl | exact Or.inr rfl) (pe_f F__law_inner_due hr (pa_cons (pv 0) (pa_cons (pv 1) (pa_cons (pv 3) pa_nil)))))
      (pss_cons (ps_for PassesOwn.never rfl (pi_list (pv 2)) (pg_tup rfl (pgs_cons (pg_name (i := 5) nd rfl (by first | exact Or.inl rfl | exact Or.inr rfl)) (pgs_cons (pg_name (i := 6) nd rfl (by first | exact Or.inl rfl | exact Or.inr rfl)) (pgs_cons (pg_name (i := 7) nd rfl (by first | exact Or.inl rfl | exact Or.inr rfl)) pgs_nil)))) (pss_one (ps_if (PW.pt (pw_and (pt_cmpR op_eq (pv 5) pe_int (nomark _)) (pw_and1 (pt_cmpR op_ge (pv 3) (pv 6) (nomark _))))) (pss_one (ps_set (i := 4) nd rfl (by first | exact Or.inl rfl | exact Or.inr rfl) pe_int)) (pss_one (ps_if (PW.pt (pw_and (pt_cmpR op_eq (pv 5) pe_int (nomark _)) (pw_and (pt_cmpR op_ge (pv 3) (pv 6) (nomark _)) (pw_and1 (pt_cmpR op_gt (pv 4) pe_int (nomark _)))))) (pss_one (ps_set (i := 4) nd rfl (by first | exact Or.inl rfl | exact Or.inr rfl) (pe_op op_add (pv 4) (pv 7)))) pss_nil)))))
      (pss_one (ps_ret (pv 4))))), ?_⟩
    refine rd_start (σ := [some (.ref a), some (.int wd), some (.ref q), some (.int t), none, none, none, none]) rfl ?_
    walk_at "go"
    rename_i H1 S1
    refine rd_forL vs (fun i σ' H' => Same H1 H' ∧ ∃ x y z, σ' = [some (.ref a), some (.int wd), some (.ref q), some (.int t), some (.int (dueF (rs.take i) t (innerL ns wd t))), x, y, z]) ⟨Same.refl _, _, _, _, rfl⟩ (fun i σ' H' _ p => p.1.seq (SqL.of (by walk_at "hp"))) ?_ ?_
    · rintro i x _ H' hx ⟨s2, x1, y1, z1, rfl⟩
      obtain ⟨⟨kd, at', mo⟩, p, hr1, rfl, hp⟩ := rv.get hx
      have hp' : H' p = some (.tup [.int kd, .int at', .int mo]) := s2 _ _ (S1 _ _ hp)
      have et : dueF (rs.take (i + 1)) t (innerL ns wd t) = stepF t (dueF (rs.take i) t (innerL ns wd t)) (kd, at', mo) := by
        unfold dueF
        rw [List.take_succ, hr1]
        show List.foldl _ _ (rs.take i ++ [(kd, at', mo)]) = _
        rw [List.foldl_append]; rfl
      rw [et]
      generalize dueF (rs.take i) t (innerL ns wd t) = cur
      have z0 : kd = 0 → at' ≤ t → stepF t cur (kd, at', mo) = 0 := fun h1 h2 => if_pos ⟨h1, h2⟩
      have z1 : ¬ (kd = 0 ∧ at' ≤ t) → kd = 1 → at' ≤ t → 0 < cur → stepF t cur (kd, at', mo) = cur + mo := fun h0 h1 h2 h3 => (if_neg h0).trans (if_pos ⟨h1, h2, h3⟩)
      have z2 : ¬ (kd = 0 ∧ at' ≤ t) → ¬ (kd = 1 ∧ at' ≤ t ∧ 0 < cur) → stepF t cur (kd, at', mo) = cur := fun h0 h1 => (if_neg h0).trans (if_neg h1)
      walk_at "go"
      refine rd_if2 (fun h1 => ?_) (fun h1 => ?_)
      · walk_at "go"
        refine rd_if2 (fun h2 => ?_) (fun h2 => ?_)
        · walk_at "go"
          rw [z0 h1 h2]
          exact ⟨s2, _, _, _, rfl⟩
        · walk_at "go"
          rw [z2 (fun z => h2 z.2) (fun z => h2 z.2.1)]
          exact ⟨s2, _, _, _, rfl⟩
      · walk_at "go"
        refine rd_if2 (fun h2 => ?_) (fun h2 => ?_)
        · walk_at "go"
          refine rd_if2 (fun h3 => ?_) (fun h3 => ?_)
          · walk_at "go"
            refine rd_if2 (fun h4 => ?_) (fun h4 => ?_)
            · walk_at "go"
              rw [z1 (fun z => h1 z.1) h2 h3 h4]
              exact ⟨s2, _, _, _, rfl⟩
            · walk_at "go"
              rw [z2 (fun z => h1 z.1) (fun z => h4 z.2.2)]
              exact ⟨s2, _, _, _, rfl⟩
          · walk_at "go"
            rw [z2 (fun z => h1 z.1) (fun z => h3 z.2.1)]
            exact ⟨s2, _, _, _, rfl⟩
        · walk_at "go"
          rw [z2 (fun z => h1 z.1) (fun z => h2 z.1)]
          exact ⟨s2, _, _, _, rfl⟩
    · rintro _ H' ⟨s2, x1, y1, z1, rfl⟩
      have e : rs.take vs.length = rs := by rw [rv.length, List.take_length]
      rw [e]
      walk_at "go"
      exact k _ (S1.trans s2)
theorem fc__law_due (m : M K mg) : Fc P w K mg base "_law_due" 5 ["_law_script", "_law_wide", "_law_rounds_here", "_law_turn_here"] (sp_due K) := ⟨_, _, m.m__law_due, m.F__law_due.kp, m.b__law_due, ok__law_due m⟩
local macro_rules | `(tactic| walk_at "rd1") => `(tactic| ((with_reducible refine' r_due ?e ?r ?a ?b ?c ?d ?_); (case e => walk_at "hp"); (case r => assumption); (case a => walk_at "sd"); (case b => walk_at "sd"); (case c => walk_at "sd"); (case d => walk_at "sd"); intro H' S'))

/-! ### the words asked -/
local macro_rules | `(tactic| walk_at "rd1") => `(tactic| first | ((with_reducible refine' rd_isx ?e ?k ?i ?_); (case e => walk_at "hp"); (case k => assumption); (case i => assumption)) | ((with_reducible refine' rd_isxT ?e ?k ?i ?_); (case e => walk_at "hp"); (case k => assumption); (case i => assumption)))
def dueV : Option Str → V
  | none => .non
  | some z => .str z
def sp_lwords (P : Program) (w : World) (base : Heap) (m : M K mg) : Sp := fun vs H Q _ => ∃ (p : Addr) (nm st : Str) (e : V) (L : Int → Int) (W : Option Str) (kd : Nat), vs = [.ref p, dueV W] ∧ DoorAt P w base m 20 H p nm st e L W kd ∧ ∀ H', Same H H' → Q (.bl true) H'
theorem r_lwords {m : M K mg} {H : Hp} {Q : VK} {E : XK} {p : Addr} {nm st : Str} {e : V} {L : Int → Int} {W : Option Str} {kd : Nat} (d : DoorAt P w base m 20 H p nm st e L W kd) (k : ∀ H', Same H H' → Q (.bl true) H') : sp_lwords P w base m [.ref p, dueV W] H Q E := ⟨_, _, _, _, _, _, _, rfl, d, k⟩
theorem ok__law_words (m : M K mg) : FnOk P w K mg base CX0 22 m.a__law_words m.d__law_words ["_law_door", "_law_due_here"] (sp_lwords P w base m) := by
  refine m.F__law_words.ok sc__law_words (fun vs H Q E h => ?_) (fun cdv A outer s H vs Q E hr h => ?_)
  · obtain ⟨p, nm, st, e, L, W, kd, rfl, d, k⟩ := h
    rfl
  · obtain ⟨p, nm, st, e, L, W, kd, rfl, d, k⟩ := h
    have nd := sc__law_words.nd
    have hu0 := Room.units0 hr
    refine ⟨_, (pss_cons (ps_set (i := 2) nd rfl (by first | exact Or.inl rfl | exact Or.inr rfl) pe_non)
      (pss_cons (ps_tryA (i := 3) (j := 2) nd rfl rfl rfl rfl rfl rfl m.m_NoText (pex_md0 20 hr (pv 0)) (fun ea => (pss_one (ps_if (pt_val (pe_callB (call_isxK K rfl) rfl m.g_isinstance bt_isinstance (pa_cons (pv 3) (pa_cons (pe_cls rfl m.m_NoDoor) pa_nil)))) (pss_one (ps_ret pe_bl)) pss_nil))))
      (pss_one (ps_ret (pe_cmpR op_eq (pv 2) (pv 1) (nomark _)))))), ?_⟩
    refine rd_start (σ := [some (.ref p), some (dueV W), none, none]) rfl ?_
    obtain ⟨C, dx, fs, spl, spw, h1, h2, h3, h4, h5, h6, h7, h8, h9, h10, h11, h12, h13, h14, h15, h16, h17, h18⟩ := d.ex
    walk_at "go"
    refine ⟨_, rfl, p, C, dx, fs, spw, rfl, h1, h7, h10, h17 H _ _ (Same.refl _) (fun z H2 hz s2 => ?_) (fun H2 hz s2 => ?_)⟩
    · subst hz
      dsimp only [List.set, dueV]
      walk_at "go"
      rw [decide_eq_true rfl]
      exact k _ s2
    · subst hz
      refine ⟨m.C_NoText, rfl, m.em_NoText_NoText, fun ea hn => ?_⟩
      have e0 : (upd H2 ea (.ext (ExcAt ea m.C_NoText))) ea = some (.ext (ExcAt ea m.C_NoText)) := upd_same
      have ek := m.ek_NoText
      have i1 := m.ix_NoText_NoDoor
      dsimp only [List.set, dueV]
      walk_at "go"
      dsimp only [List.set]
      walk_at "go"
      exact k _ (s2.trans (same_new hn))
theorem fc__law_words (m : M K mg) : Fc P w K mg base "_law_words" 22 ["_law_door", "_law_due_here"] (sp_lwords P w base m) := ⟨_, _, m.m__law_words, m.F__law_words.kp, m.b__law_words, ok__law_words m⟩
/-! ### one door asked -/
theorem turns_ok {n : Nat} (hn : n ≤ 1000) {ns : List Int} {x : V} (h : x ∈ numsV n ++ ns.map fun n => V.int (n % 1000000000000)) : ∃ t : Int, x = .int t ∧ 0 ≤ t ∧ t < 1000000000000 := by
  rcases List.mem_append.mp h with h | h
  · unfold numsV at h
    obtain ⟨i, hi, rfl⟩ := List.mem_map.mp h
    have := List.mem_range.mp hi
    exact ⟨i, rfl, by omega, by omega⟩
  · obtain ⟨n, hn, rfl⟩ := List.mem_map.mp h
    exact ⟨_, rfl, by omega, by omega⟩
local macro_rules | `(tactic| walk_at "rd1") => `(tactic| first | ((with_reducible refine' rd_sameL ?e ?f ?s ?_); (case e => walk_at "hp"); (case f => walk_at "hp"); (case s => rfl)) | ((with_reducible refine rd_range1 ?_); intro p' H' n' S' e') | ((with_reducible refine' rd_listR ?e ?s ?_); (case e => walk_at "hp"); (case s => decide); intro p' H' n' S' e'))
theorem last_at {H : Hp} {vs : List V} {rs : List Rd3} {r : Rd3} (rv : RowsR H vs rs) (h : rs.getLast? = some r) : ∃ p, atI vs (-1) = some (.ref p) ∧ H p = some (.tup [.int r.1, .int r.2.1, .int r.2.2]) ∧ vs.isEmpty = false := by
  have hl := rv.length
  rw [List.getLast?_eq_getElem?] at h
  have hlt : rs.length - 1 < rs.length := (List.getElem?_eq_some_iff.mp h).1
  have hv : vs[rs.length - 1]? = some vs[rs.length - 1] := List.getElem?_eq_getElem (by omega)
  obtain ⟨r', p, e1, e2, e3⟩ := rv.get hv
  rw [h] at e1
  cases e1
  refine ⟨p, ?_, e3, ?_⟩
  · have e4 : ixN vs.length (-1) = some (rs.length - 1) := by
      unfold ixN
      rw [if_neg (by decide), if_pos (by omega)]
      congr 1
      omega
    unfold atI
    rw [e4]
    show vs[rs.length - 1]? = _
    rw [hv, e2]
  · cases vs with
    | nil => simp at hl; omega
    | cons x xs => rfl
def KindOf (rs : List Rd3) (kd : Nat) : Prop := (rs = [] ∧ (kd = 0 ∨ kd = 3)) ∨ ∃ r, rs.getLast? = some r ∧ ((r.1 = 0 ∧ kd = 1) ∨ (r.1 = 1 ∧ kd = 2))
def sp_right (P : Program) (w : World) (base : Heap) (m : M K mg) : Sp := fun vs H Q _ => ∃ (a p r q : Addr) (ns : List Int) (wd : Int) (nm st : Str) (e : V) (rs : List Rd3) (W : Option Str) (kd : Nat), vs = [.ref a, .ref p, .ref r, .int wd, .ref q, dueV W] ∧ SqL K H a (ns.map V.int) ∧ ns.length ≤ 63 ∧ H r = some (.lst [.str nm, .str st, e]) ∧ EndOk e ∧ 0 ≤ wd ∧ wd < 1000000000000 ∧
  DoorAt P w base m 20 H p nm st e (fun t => dueF rs t (innerL ns wd t)) W kd ∧ RAt H q rs ∧ KindOf rs kd ∧ ∀ H', Same H H' → Q (.bl true) H'
theorem ok__law_right (m : M K mg) : FnOk P w K mg base CX0 24 m.a__law_right m.d__law_right ["_law_script", "_law_door", "_law_names", "_law_wide", "_law_rounds_here", "_law_due_here"] (sp_right P w base m) := by
  refine m.F__law_right.ok sc__law_right (fun vs H Q E h => ?_) (fun cdv A outer s H vs Q E hr h => ?_)
  · obtain ⟨a, p, r, q, ns, wd, nm, st, e, rs, W, kd, rfl, hS, hlen, hr', he, hw, hw1, d, hR, hK, k⟩ := h
    rfl
  · obtain ⟨a, p, r, q, ns, wd, nm, st, e, rs, W, kd, rfl, hS, hlen, hr', he, hw, hw1, d, hR, hK, k⟩ := h
    have nd := sc__law_right.nd
    have hu0 := Room.units0 hr
    have F__law_due := fc__law_due (P := P) (w := w) (base := base) m
    have F__law_words := fc__law_words (P := P) (w := w) (base := base) m
    refine ⟨_, (pss_cons (ps_if (PW.pt (pw_or (pt_cmpR (op_neL hu0) (pe_lst (pa_cons (pe_fld (pv 1) rfl) (pa_cons (pe_fld (pv 1) rfl) (pa_cons (pe_fld (pv 1) rfl) pa_nil)))) (pv 2) (nomark _)) (pw_or1 (pt_cmpR op_ne (pe_md0 1 hr (pv 1)) (pe_cmpR op_isn (pe_ix ix_list (pv 2) pe_int (fun _ _ => rfl)) pe_non (nomark _)) (nomark _))))) (pss_one (ps_ret pe_bl)) pss_nil)
      (pss_cons (ps_for PassesOwn.never rfl (pi_list (pe_op op_cat (pe_callTy (call_listR rfl) rfl m.g_list bt_list (pa_cons (pe_callTy call_rangeV rfl m.g_range bt_range (pa_cons pe_int pa_nil)) pa_nil)) (pe_comp (N := ["_law_cell"]) (nl := 1) (ci := []) rfl (blk (s.heap.objs.size + 1) rfl rfl rfl (by kernel_rfl)) (pi_list (pe_slice sl_list (pv 0) (po_some pe_int) (po_some pe_int))) (fun _ _ _ _ => (pg_name (i := 0) (show (["_law_cell"] : List Str).Nodup by decide +kernel) rfl (by first | exact Or.inl rfl | exact Or.inr rfl))) (fun _ _ _ _ => pf_nil) (fun _ _ _ _ => (pe_op op_mod (pv 0) (pe_powc 1000000000000 (by decide) ⟨by decide, by decide, by decide⟩)))))) (pg_name (i := 6) nd rfl (by first | exact Or.inl rfl | exact Or.inr rfl)) (pss_cons (ps_set (i := 7) nd rfl (by first | exact Or.inl rfl | exact Or.inr rfl) (pe_md 20 hr (pv 1) (pa_cons (pv 6) pa_nil)))
      (pss_one (ps_if (PW.pt (pw_or (pt_not (pt_val (pe_callB call_isi rfl m.g_isinstance bt_isinstance (pa_cons (pv 7) (pa_cons (pe_ty rfl m.g_int bt_int) pa_nil))))) (pw_or (pt_val (pe_callB call_isi rfl m.g_isinstance bt_isinstance (pa_cons (pv 7) (pa_cons (pe_ty rfl m.g_bool bt_bool) pa_nil)))) (pw_or1 (pt_cmpR op_ne (pv 7) (pe_f F__law_due hr (pa_cons (pv 0) (pa_cons (pv 3) (pa_cons (pv 4) (pa_cons (pv 6) pa_nil))))) (nomark _)))))) (pss_one (ps_ret pe_bl)) pss_nil))))
      (pss_cons (ps_set (i := 8) nd rfl (by first | exact Or.inl rfl | exact Or.inr rfl) pe_int)
      (pss_cons (ps_if (pt_cmpR (op_neE hu0) (pv 4) (pe_lst pa_nil) (nomark _)) (pss_one (ps_set (i := 8) nd rfl (by first | exact Or.inl rfl | exact Or.inr rfl) (pe_op op_add pe_int (pe_ix ix_tup (pe_ix ix_list (pv 4) (pe_un un_neg pe_int) (fun _ _ => rfl)) pe_int (fun _ _ => rfl))))) pss_nil)
      (pss_cons (ps_if (PW.pt (pw_or (pt_not (pt_val (pe_callB call_isi rfl m.g_isinstance bt_isinstance (pa_cons (pv 1) (pa_cons (pe_cls rfl m.m_Door) pa_nil))))) (pw_or (pt_cmpR op_ne (pe_callB call_isi rfl m.g_isinstance bt_isinstance (pa_cons (pv 1) (pa_cons (pe_cls rfl m.m_Shut) pa_nil))) (pe_cmpR op_eq (pv 8) pe_int (nomark _)) (nomark _)) (pw_or1 (pt_cmpR op_ne (pe_callB call_isi rfl m.g_isinstance bt_isinstance (pa_cons (pv 1) (pa_cons (pe_cls rfl m.m_Wider) pa_nil))) (pe_cmpR op_eq (pv 8) pe_int (nomark _)) (nomark _)))))) (pss_one (ps_ret pe_bl)) pss_nil)
      (pss_one (ps_ret (pe_f F__law_words hr (pa_cons (pv 1) (pa_cons (pv 5) pa_nil)))))))))), ?_⟩
    refine rd_start (σ := [some (.ref a), some (.ref p), some (.ref r), some (.int wd), some (.ref q), some (dueV W), none, none, none]) rfl ?_
    obtain ⟨C, dx, fs, spl, spw, h1, h2, h3, h4, h5, h6, h7, h8, h9, h10, h11, h12, h13, h14, h15, h16, h17, h18⟩ := d.ex
    have hc1 := cutI_len ns (some 20) (some 26)
    have hz : ∀ l : List Int, l.length ≤ ns.length → l.length ≤ sizeLine := fun l hl => by rw [sizeLine_eq]; omega
    refine rd_seqR (fun σ' H' => Same H H' ∧ σ' = [some (.ref a), some (.ref p), some (.ref r), some (.int wd), some (.ref q), some (dueV W), none, none, none]) ?_ ?_
    rotate_left
    · intro nx' hnx
      rcases he with rfl | ⟨z, rfl, hz'⟩
      · walk_at "go"
        exact hnx _ _ ⟨by walk_at "sm", rfl⟩
      · walk_at "go"
        exact hnx _ _ ⟨by walk_at "sm", rfl⟩
    rintro _ G0 ⟨S0, rfl⟩
    walk_at "go"
    refine comp_ints (ns := cutI ns (some 20) (some 26)) (rest := []) (fun n => .int (n % 1000000000000)) (hz _ hc1) (by rfl) (fun H2 s2 => by walk_at "hp") ?_ (fun G6 S6 => ?_)
    · intro n H2 hn s2 R hR
      walk_at "go"
      exact hR _ (Same.refl _)
    have hN : (numsV 31).length = 31 := by unfold numsV; rw [List.length_map, List.length_range]
    walk_at "go"
    rename_i p8 G8 m8 S8 e8
    have S08 : Same H G8 := by walk_at "sm"
    refine rd_forL (numsV 31 ++ (cutI ns (some 20) (some 26)).map fun n => V.int (n % 1000000000000)) (fun _ σ' H' => Same G8 H' ∧ ∃ x y, σ' = [some (.ref a), some (.ref p), some (.ref r), some (.int wd), some (.ref q), some (dueV W), x, y, none]) ⟨Same.refl _, _, _, rfl⟩ (fun i σ' H' _ p => p.1.seq (SqL.of e8)) ?_ ?_
    · rintro i x _ H2 hx ⟨S9, x9, y9, rfl⟩
      obtain ⟨t, rfl, t0, t1⟩ := turns_ok (by decide) (List.mem_of_getElem? hx)
      have hR2 := (hR.same S08).same S9
      walk_at "go"
      refine h16 _ t _ (S08.trans S9) t0 t1 ?_
      walk_at "go"
      exact ⟨by walk_at "sm", _, _, rfl⟩
    · rintro _ H2 ⟨S9, x9, y9, rfl⟩
      have S29 := S08.trans S9
      have hR2 := hR.same S29
      obtain ⟨vs, ev, rv⟩ := hR2
      refine rd_seq ?_
      walk_at "gs"
      refine rd_seqR (fun σ' H' => Same H2 H' ∧ σ' = [some (.ref a), some (.ref p), some (.ref r), some (.int wd), some (.ref q), some (dueV W), x9, y9, some (.int (if kd = 1 then 1 else if kd = 2 then 2 else 0))]) ?_ ?_
      rotate_left
      · intro nx' hnx
        walk_at "go"
        rename_i qn Hn nn Sn en
        refine rd_neE (xs := vs) (SqL.of (by walk_at "hp")) (SqL.of en) ?_
        rcases hK with ⟨rfl, hk⟩ | ⟨r3, hg, hk⟩
        · cases rv
          walk_at "go"
          refine hnx _ _ ⟨Sn, ?_⟩
          rcases hk with rfl | rfl <;> rfl
        · obtain ⟨p3, a3, t3, em⟩ := last_at rv hg
          rw [em]
          walk_at "go"
          refine ⟨q, vs, _, _, rfl, rfl, SqL.of (by walk_at "hp"), a3, ?_⟩
          refine ⟨p3, _, _, _, rfl, rfl, SqT.of (by walk_at "hp"), rfl, ?_⟩
          walk_at "go"
          refine hnx _ _ ⟨Sn, ?_⟩
          rcases hk with ⟨h0, rfl⟩ | ⟨h0, rfl⟩ <;> rw [h0] <;> rfl
      rintro _ G3 ⟨S3, rfl⟩
      have d3 := d.same (S29.trans S3)
      have hkd : kd = 0 ∨ kd = 1 ∨ kd = 2 ∨ kd = 3 := by
        rcases hK with ⟨_, h | h⟩ | ⟨_, _, ⟨_, h⟩ | ⟨_, h⟩⟩ <;> omega
      rcases hkd with rfl | rfl | rfl | rfl
      · walk_at "go"
        exact r_lwords d3 fun H' S' => k _ ((S29.trans S3).trans S')
      · walk_at "go"
        exact r_lwords d3 fun H' S' => k _ ((S29.trans S3).trans S')
      · walk_at "go"
        exact r_lwords d3 fun H' S' => k _ ((S29.trans S3).trans S')
      · walk_at "go"
        exact r_lwords d3 fun H' S' => k _ ((S29.trans S3).trans S')
theorem fc__law_right (m : M K mg) : Fc P w K mg base "_law_right" 24 ["_law_script", "_law_door", "_law_names", "_law_wide", "_law_rounds_here", "_law_due_here"] (sp_right P w base m) := ⟨_, _, m.m__law_right, m.F__law_right.kp, m.b__law_right, ok__law_right m⟩

/-! ### the law -/
theorem r_inner {m : M K mg} {PL : Addr} {H : Hp} {Q : VK} {E : XK} {a r : Addr} {ns : List Int} {wd : Int} {nm st : Str} {e : V} (hS : SqL K H a (ns.map V.int)) (hr : H r = some (.lst [.str nm, .str st, e])) (hn : nameB nm = true) (hs : nameB st = true) (he : EndOk e) (h0 : 0 ≤ wd) (h1 : wd < 1000000000000) (hP : H PL = some (.tbl #[]))
    (k : ∀ p H', SameT H H' → DoorAt P w base m 4 H' p nm st e (innerL ns wd) (innerW ns wd nm st e) (innerK ns) → Q (.ref p) H') : sp_inner P w base m PL [.ref a, .ref r, .int wd] H Q E := ⟨_, _, _, _, _, _, _, rfl, hS, hr, hn, hs, he, h0, h1, hP, k⟩
theorem inner_none {ns : List Int} {wd : Int} {nm st : Str} {e : V} (h : innerK ns = 3) : innerW ns wd nm st e = none := by
  unfold innerK at h
  unfold innerW
  by_cases h5 : kdN ns = 5
  · rw [if_neg (by omega), if_neg (by omega), if_neg (by omega), if_neg (by omega), if_neg (by omega)]
  · rw [if_neg h5] at h; cases h
theorem inner_some {ns : List Int} {wd : Int} {nm st : Str} {e : V} (h : ¬ innerK ns = 3) : innerW ns wd nm st e ≠ none := by
  unfold innerK at h
  have h5 : ¬ kdN ns = 5 := fun z => h (by rw [if_pos z])
  have h6 : kdN ns = 0 ∨ kdN ns = 1 ∨ kdN ns = 2 ∨ kdN ns = 3 ∨ kdN ns = 4 := by unfold kdN at *; omega
  unfold innerW
  rcases h6 with h | h | h | h | h <;> simp [h]
theorem innerK_or (ns : List Int) : innerK ns = 0 ∨ innerK ns = 3 := by unfold innerK; split <;> simp
theorem three {ys : List V} (hl : ys.length = 3) (hp : ∀ (i : Nat) y, ys[i]? = some y → ∃ z, nameB z = true ∧ y = .str z) : ∃ a b c, nameB a = true ∧ nameB b = true ∧ nameB c = true ∧ ys = [.str a, .str b, .str c] := by
  match ys, hl with
  | [x, y, z], _ =>
    obtain ⟨a, ha, rfl⟩ := hp 0 x rfl
    obtain ⟨b, hb, rfl⟩ := hp 1 y rfl
    obtain ⟨c, hc, rfl⟩ := hp 2 z rfl
    exact ⟨a, b, c, ha, hb, hc, rfl⟩
/-- a door, but for the lists at ld and le -/
def DI (P : Program) (w : World) (base : Heap) (m : M K mg) (n : Nat) (ld le : Addr) (H : Hp) (p : Addr) (nm st : Str) (e : V) (L : Int → Int) (W : Option Str) (kd : Nat) : Prop :=
  ∃ H0, (∀ b o, H0 b = some o → H b = some o ∧ b ≠ ld ∧ b ≠ le) ∧ DoorAt P w base m n H0 p nm st e L W kd
theorem DI.at {m : M K mg} {n : Nat} {ld le : Addr} {H : Hp} {p : Addr} {nm st : Str} {e : V} {L : Int → Int} {W : Option Str} {kd : Nat} (x : DI P w base m n ld le H p nm st e L W kd) : DoorAt P w base m n H p nm st e L W kd := let ⟨_, s, d⟩ := x; d.same fun b o e => (s b o e).1
theorem DI.go {m : M K mg} {n : Nat} {ld le : Addr} {H H' : Hp} {p : Addr} {nm st : Str} {e : V} {L : Int → Int} {W : Option Str} {kd : Nat} (x : DI P w base m n ld le H p nm st e L W kd) (h : ∀ b o, H b = some o → b ≠ ld → b ≠ le → H' b = some o) : DI P w base m n ld le H' p nm st e L W kd :=
  let ⟨H0, s, d⟩ := x; ⟨H0, fun b o e => ⟨h b o (s b o e).1 (s b o e).2.1 (s b o e).2.2, (s b o e).2⟩, d⟩
/-- the door and the due words of round j -/
def Item (P : Program) (w : World) (base : Heap) (m : M K mg) (ld le : Addr) (ns : List Int) (wd : Int) (nm st : Str) (e : V) (rs : List Rd3) (H : Hp) (j : Nat) (v u : V) : Prop :=
  ∃ p W kd, v = .ref p ∧ u = dueV W ∧ KindOf (rs.take j) kd ∧ DI P w base m (4 + j) ld le H p nm st e (fun t => dueF (rs.take j) t (innerL ns wd t)) W kd
theorem rounds_len (ns : List Int) : (roundsF ns).length ≤ 12 := by
  have h0 : 0 ≤ cellN ns 5 % 13 := by omega
  have h1 : cellN ns 5 % 13 < 13 := by omega
  have a1 : HT.sIx ns.length ns.length (some (6 + cellN ns 5 % 13)) ≤ (6 + cellN ns 5 % 13).toNat := by
    show (if (6 + cellN ns 5 % 13) < 0 then _ else min _ _) ≤ _
    rw [if_neg (by omega)]; exact Nat.min_le_left _ _
  have a2 : HT.sIx ns.length 0 (some 6) = min 6 ns.length := HT.sIx_nat ns.length 0 6
  unfold roundsF cutI
  rw [List.length_map, List.length_take, List.length_drop, a2]
  omega
theorem rounds_ok (ns : List Int) : ∀ r ∈ roundsF ns, RndOk r := fun r hr => by
  obtain ⟨c, _, rfl⟩ := List.mem_map.mp hr
  exact roundOk c
theorem cutV_take (xs : List V) (k : Nat) (hk : k ≤ xs.length) : cutV xs none (some (k : Int)) = xs.take k := by
  unfold cutV
  rw [HT.sIx_none, HT.sIx_nat, Nat.min_eq_left hk]
  rfl
theorem due_succ {rs : List Rd3} {j : Nat} {r : Rd3} (h : rs[j]? = some r) (t x : Int) : dueF (rs.take (j + 1)) t x = stepF t (dueF (rs.take j) t x) r := by
  unfold dueF
  rw [List.take_succ, h]
  show List.foldl _ _ (rs.take j ++ [r]) = _
  rw [List.foldl_append]; rfl
theorem due_shut {rs : List Rd3} {j : Nat} {a mo : Int} {x : Int → Int} (h : rs[j]? = some (0, a, mo)) : (fun t => dueF (rs.take (j + 1)) t (x t)) = fun t => if t < a then dueF (rs.take j) t (x t) else 0 := funext fun t => by
  show dueF (rs.take (j + 1)) t (x t) = _
  rw [due_succ h]
  unfold stepF
  by_cases z : t < a
  · rw [if_neg (fun y => by have y2 : a ≤ t := y.2; omega), if_neg (fun y => by have y1 : (0 : Int) = 1 := y.1; omega), if_pos z]
  · rw [if_pos ⟨rfl, by show a ≤ t; omega⟩, if_neg z]
theorem due_wider {rs : List Rd3} {j : Nat} {a mo : Int} {x : Int → Int} (h : rs[j]? = some (1, a, mo)) : (fun t => dueF (rs.take (j + 1)) t (x t)) = fun t => if a ≤ t ∧ 0 < dueF (rs.take j) t (x t) then dueF (rs.take j) t (x t) + mo else dueF (rs.take j) t (x t) := funext fun t => by
  show dueF (rs.take (j + 1)) t (x t) = _
  rw [due_succ h]
  unfold stepF
  rw [if_neg (fun y => by have y1 : (1 : Int) = 0 := y.1; omega)]
  by_cases z : a ≤ t ∧ 0 < dueF (rs.take j) t (x t)
  · rw [if_pos ⟨rfl, z⟩, if_pos z]
  · rw [if_neg (fun y => z y.2), if_neg z]
theorem take_last {rs : List Rd3} {j : Nat} {r : Rd3} (h : rs[j]? = some r) : (rs.take (j + 1)).getLast? = some r := by
  rw [List.take_succ, h]; simp
theorem dueV_inj : ∀ {x y : Option Str}, dueV x = dueV y → x = y
  | none, none, _ => rfl
  | some _, some _, h => by cases h; rfl
  | none, some _, h => by cases h
  | some _, none, h => by cases h
theorem shut_words (a : Int) (z : Str) : Txt.join " " ["shut", numS a, z] = (("shut " : Str) ++ numS a ++ " ") ++ z := by
  rw [join_cons, join_cons, join_one]
  have e1 : ("shut " : Str) = "shut" ++ " " := by decide +kernel
  rw [e1]
  simp only [str_assoc]
theorem wider_words (a b : Int) (z : Str) : Txt.join " " ["wider", numS a, numS b, z] = (("wider " : Str) ++ numS a ++ " " ++ numS b ++ " ") ++ z := by
  rw [join_cons, join_cons, join_cons, join_one]
  have e1 : ("wider " : Str) = "wider" ++ " " := by decide +kernel
  rw [e1]
  simp only [str_assoc]
theorem DI.shut (m : M K mg) {n : Nat} {ld le : Addr} {H H' : Hp} {p q dx : Addr} {nm st : Str} {e : V} {L : Int → Int} {W : Option Str} {kd : Nat} {a : Int} (x : DI P w base m n ld le H q nm st e L W kd) (hnn : n ≤ 20) (h0 : H p = none) (S : Same H H') (hp : H' p = some (.ins m.C_Shut dx (ShutFs (.ref q) (.str nm) (.str st) e (.int a)))) (hd : p ≠ ld) (he : p ≠ le) (ha : 0 ≤ a) (ha1 : a < 1000000000000) :
    DI P w base m (n + 1) ld le H' p nm st e (fun t => if t < a then L t else 0) (W.map fun z => Txt.join " " ["shut", numS a, z]) 1 := by
  obtain ⟨H0, s, d⟩ := x
  have n0 : H0 p = none := by
    cases z : H0 p with
    | none => rfl
    | some o => rw [(s p o z).1] at h0; cases h0
  refine ⟨upd H0 p (.ins m.C_Shut dx (ShutFs (.ref q) (.str nm) (.str st) e (.int a))), fun b o z => ?_, door_Shut m (d.same (same_new n0)) hnn upd_same ha ha1⟩
  by_cases hb : b = p
  · subst hb; rw [upd_same] at z; cases z; exact ⟨hp, hd, he⟩
  · rw [upd_ne hb] at z; exact ⟨S _ _ (s b o z).1, (s b o z).2⟩
theorem DI.wider (m : M K mg) {n : Nat} {ld le : Addr} {H H' : Hp} {p q dx : Addr} {nm st : Str} {e : V} {L : Int → Int} {W : Option Str} {kd : Nat} {a mo : Int} (x : DI P w base m n ld le H q nm st e L W kd) (hnn : n ≤ 20) (h0 : H p = none) (S : Same H H') (hp : H' p = some (.ins m.C_Wider dx (WiderFs (.ref q) (.str nm) (.str st) e (.int a) (.int mo)))) (hd : p ≠ ld) (he : p ≠ le) (ha : 0 ≤ a) (ha1 : a < 1000000000000) (hm : 0 ≤ mo) (hm1 : mo < 1000000000000) :
    DI P w base m (n + 1) ld le H' p nm st e (fun t => if a ≤ t ∧ 0 < L t then L t + mo else L t) (W.map fun z => Txt.join " " ["wider", numS a, numS mo, z]) 2 := by
  obtain ⟨H0, s, d⟩ := x
  have n0 : H0 p = none := by
    cases z : H0 p with
    | none => rfl
    | some o => rw [(s p o z).1] at h0; cases h0
  refine ⟨upd H0 p (.ins m.C_Wider dx (WiderFs (.ref q) (.str nm) (.str st) e (.int a) (.int mo))), fun b o z => ?_, door_Wider m (d.same (same_new n0)) hnn upd_same ha ha1 hm hm1⟩
  by_cases hb : b = p
  · subst hb; rw [upd_same] at z; cases z; exact ⟨hp, hd, he⟩
  · rw [upd_ne hb] at z; exact ⟨S _ _ (s b o z).1, (s b o z).2⟩
local macro_rules | `(tactic| walk_at "rd1") => `(tactic| first | (with_reducible refine rd_mdE ?_) | ((with_reducible refine' rd_mdEV ?e ?l ?F ?_); (case e => walk_at "hp"); (case l => assumption); (case F => assumption)))
def sp_law (K : PySem.W.Frag) (PL : Addr) : Sp := fun vs H Q _ => ∃ (a : Addr) (ns : List Int), vs = [.ref a] ∧ SqL K H a (ns.map V.int) ∧ ns.length ≤ 63 ∧ H PL = some (.tbl #[]) ∧ ∀ H', Q (.bl true) H'
theorem ok_law (m : M K mg) {cL PL : Addr} (hcL : m.d__law_inner.code = .ref cL) (hCL : PySem.W.CodeHd base cL PL) (hBL : base.BuiltinsAt mg PL) : FnOk P w K mg base CX0 30 m.a_law m.d_law ["_law_script"] (sp_law K PL) := by
  refine m.F_law.ok sc_law (fun vs H Q E h => ?_) (fun cdv A outer s H vs Q E hr h => ?_)
  · obtain ⟨a, ns, rfl, hS, hlen, hPL, k⟩ := h
    rfl
  · obtain ⟨a, ns, rfl, hS, hlen, hPL, k⟩ := h
    have nd := sc_law.nd
    have hu0 := Room.units0 hr
    have F__law_cell_at := fc__law_cell_at (P := P) (w := w) (base := base) m
    have F__law_inner := fc__law_inner (P := P) (w := w) (base := base) m hcL hCL hBL
    have F__law_name := fc__law_name (P := P) (w := w) (base := base) m
    have F__law_right := fc__law_right (P := P) (w := w) (base := base) m
    have F__law_rounds := fc__law_rounds (P := P) (w := w) (base := base) m
    have K_Shut_0 := kc_Shut_0 (P := P) (w := w) (base := base) m
    have K_Wider_0 := kc_Wider_0 (P := P) (w := w) (base := base) m
    have w_dc_Shut := m.dc_Shut
    have w_dc_Wider := m.dc_Wider
    refine ⟨_, (pss_cons (ps_setComp (i := 1) nd rfl (by first | exact Or.inl rfl | exact Or.inr rfl) (N := ["_law_k", "_law_script"]) (nl := 1) (ci := [0]) rfl (blk (s.heap.objs.size + 1) rfl rfl rfl (by kernel_rfl)) (pi_range1 rfl m.g_range (pa_cons pe_int pa_nil)) (fun _ _ _ _ => (pg_name (i := 0) (show (["_law_k", "_law_script"] : List Str).Nodup by decide +kernel) rfl (by first | exact Or.inl rfl | exact Or.inr rfl))) (fun _ _ _ _ => pf_nil) (fun _ _ _ _ => (pe_f F__law_name hr (pa_cons (pe_f F__law_cell_at hr (pa_cons (pv 1) (pa_cons pe_int pa_nil))) (pa_cons (pv 0) pa_nil)))))
      (pss_cons (ps_if (pt_cmpR op_eq (pe_op op_mod (pe_op op_fdiv (pe_f F__law_cell_at hr (pa_cons (pv 0) (pa_cons pe_int pa_nil))) pe_int) pe_int) pe_int (nomark _)) (pss_one (ps_asg pe_non (pg_sub (pv 1) pe_int set_list))) pss_nil)
      (pss_cons (ps_set (i := 2) nd rfl (by first | exact Or.inl rfl | exact Or.inr rfl) (pe_ix ix_list (pe_lst (pa_cons (pe_op op_mod (pe_op op_fdiv (pe_f F__law_cell_at hr (pa_cons (pv 0) (pa_cons pe_int pa_nil))) pe_int) pe_int) (pa_cons (pe_op op_mod (pe_op op_fdiv (pe_f F__law_cell_at hr (pa_cons (pv 0) (pa_cons pe_int pa_nil))) pe_int) (pe_powc 100000000000 (by decide) ⟨by decide, by decide, by decide⟩)) pa_nil))) (pe_op op_mod (pe_f F__law_cell_at hr (pa_cons (pv 0) (pa_cons pe_int pa_nil))) pe_int) (fun _ _ => rfl)))
      (pss_cons (ps_set (i := 3) nd rfl (by first | exact Or.inl rfl | exact Or.inr rfl) (pe_f F__law_inner hr (pa_cons (pv 0) (pa_cons (pv 1) (pa_cons (pv 2) pa_nil)))))
      (pss_cons (ps_set (i := 4) nd rfl (by first | exact Or.inl rfl | exact Or.inr rfl) pe_non)
      (pss_cons (ps_if (pt_not (pt_val (pe_callB call_isi rfl m.g_isinstance bt_isinstance (pa_cons (pv 3) (pa_cons (pe_cls rfl m.m_Told) pa_nil))))) (pss_one (ps_set (i := 4) nd rfl (by first | exact Or.inl rfl | exact Or.inr rfl) (pe_md0E 20 hr passX0 (pv 3)))) pss_nil)
      (pss_cons (ps_set (i := 5) nd rfl (by first | exact Or.inl rfl | exact Or.inr rfl) (pe_lst (pa_cons (pv 3) pa_nil)))
      (pss_cons (ps_set (i := 6) nd rfl (by first | exact Or.inl rfl | exact Or.inr rfl) (pe_lst (pa_cons (pv 4) pa_nil)))
      (pss_cons (ps_set (i := 7) nd rfl (by first | exact Or.inl rfl | exact Or.inr rfl) (pe_f F__law_rounds hr (pa_cons (pv 0) pa_nil)))
      (pss_cons (ps_for PassesOwn.never rfl (pi_list (pv 7)) (pg_tup rfl (pgs_cons (pg_name (i := 8) nd rfl (by first | exact Or.inl rfl | exact Or.inr rfl)) (pgs_cons (pg_name (i := 9) nd rfl (by first | exact Or.inl rfl | exact Or.inr rfl)) (pgs_cons (pg_name (i := 10) nd rfl (by first | exact Or.inl rfl | exact Or.inr rfl)) pgs_nil)))) (pss_cons (ps_if (pt_cmpR op_eq (pv 8) pe_int (nomark _)) (pss_cons (ps_set (i := 3) nd rfl (by first | exact Or.inl rfl | exact Or.inr rfl) (pe_mk K_Shut_0 hr (pa_cons (pv 3) (pa_cons (pv 9) pa_nil))))
      (pss_one (ps_set (i := 11) nd rfl (by first | exact Or.inl rfl | exact Or.inr rfl) (pe_op op_addS (pe_op op_addS pe_str (pe_callTy call_strI rfl m.g_str bt_str (pa_cons (pv 9) pa_nil))) pe_str)))) (pss_cons (ps_set (i := 3) nd rfl (by first | exact Or.inl rfl | exact Or.inr rfl) (pe_mk K_Wider_0 hr (pa_cons (pv 3) (pa_cons (pv 9) (pa_cons (pv 10) pa_nil)))))
      (pss_one (ps_set (i := 11) nd rfl (by first | exact Or.inl rfl | exact Or.inr rfl) (pe_op op_addS (pe_op op_addS (pe_op op_addS (pe_op op_addS pe_str (pe_callTy call_strI rfl m.g_str bt_str (pa_cons (pv 9) pa_nil))) pe_str) (pe_callTy call_strI rfl m.g_str bt_str (pa_cons (pv 10) pa_nil))) pe_str)))))
      (pss_cons (ps_if (pt_cmpR op_notn (pv 4) pe_non (nomark _)) (pss_one (ps_set (i := 4) nd rfl (by first | exact Or.inl rfl | exact Or.inr rfl) (pe_op op_addS (pv 11) (pv 4)))) pss_nil)
      (pss_cons (ps_expr (pe_bm PySem.F.plainAttrs_list PySem.F.slot_list_append PySem.F.type_list_append mt_append (pv 5) (pa_cons (pv 3) pa_nil)))
      (pss_one (ps_expr (pe_bm PySem.F.plainAttrs_list PySem.F.slot_list_append PySem.F.type_list_append mt_append (pv 6) (pa_cons (pv 4) pa_nil))))))))
      (pss_cons (ps_for PassesOwn.never rfl (pi_range1 rfl m.g_range (pa_cons (pe_callB call_lenL rfl m.g_len bt_len (pa_cons (pv 5) pa_nil)) pa_nil)) (pg_name (i := 12) nd rfl (by first | exact Or.inl rfl | exact Or.inr rfl)) (pss_one (ps_if (pt_not (pt_val (pe_f F__law_right hr (pa_cons (pv 0) (pa_cons (pe_ix ix_list (pv 5) (pv 12) (fun _ _ => rfl)) (pa_cons (pv 1) (pa_cons (pv 2) (pa_cons (pe_slice sl_list (pv 7) po_none (po_some (pv 12))) (pa_cons (pe_ix ix_list (pv 6) (pv 12) (fun _ _ => rfl)) pa_nil))))))))) (pss_one (ps_ret pe_bl)) pss_nil)))
      (pss_one (ps_ret pe_bl))))))))))))), ?_⟩
    refine rd_start (σ := [some (.ref a), none, none, none, none, none, none, none, none, none, none, none, none]) rfl ?_
    walk_at "go"
    refine comp_rangeP (rest := [some (.ref a)]) (fun i y => ∃ z, nameB z = true ∧ y = .str z) (by decide) (by rfl) ?_ ?_
    · intro i H1 hi s1 R hR
      walk_at "go"
      exact hR _ _ ⟨_, by assumption, rfl⟩ (Same.refl _)
    intro ys H1 s1 hl hp
    obtain ⟨n0, n1, n2, h0, h1, h2, rfl⟩ := three hl hp
    walk_at "gs"
    rename_i r Hq nq Sq eq
    have SHq : Same H Hq := by walk_at "sm"
    have nHr : H r = none := by
      cases z : H r with
      | none => rfl
      | some o => rw [s1 _ _ z] at nq; cases nq
    refine rd_seqR (fun σ' H' => Same H H' ∧ ∃ e, EndOk e ∧ H' r = some (.lst [.str n0, .str n1, e]) ∧ σ' = [some (.ref a), some (.ref r), none, none, none, none, none, none, none, none, none, none, none]) ?_ ?_
    rotate_left
    · intro nx' hnx
      walk_at "go"
      refine rd_if2 (fun hw => ?_) (fun hw => ?_)
      · walk_at "go"
        rename_i H3 B3 e3
        exact hnx _ _ ⟨SameBut.same nHr SHq B3, .non, .inl rfl, e3, rfl⟩
      · walk_at "go"
        exact hnx _ _ ⟨SHq, .str n2, .inr ⟨_, rfl, h2⟩, eq, rfl⟩
    rintro _ G0 ⟨S0, e, he, er, rfl⟩
    walk_at "go"
    rename_i p1 G1 m1 S1 e1 wd hwd
    have hwd0 : 0 ≤ wd := by omega
    have hwd1 : wd < 1000000000000 := by omega
    refine r_inner (by walk_at "hp") (by walk_at "hp") h0 h1 he hwd0 hwd1 (by walk_at "hp") fun pd G2 T2 d2 => ?_
    have hS2 : SqL K G2 a (ns.map V.int) := sqL_T T2 (by walk_at "hp")
    have er2 : G2 r = some (.lst [.str n0, .str n1, e]) := T2 _ _ (S1 _ _ er) (fun ps z => by cases z)
    walk_at "gs"
    have d20 := d2.mono (k := 20) (by decide)
    obtain ⟨C, dx, fs, spl, spw, g1, g2, g3, g4, g5, g6, g7, g8, g9, g10, g11, g12, g13, g14, g15, g16, g17, g18⟩ := d20.ex
    refine rd_seqR (fun σ' H' => Same G2 H' ∧ σ' = [some (.ref a), some (.ref r), some (.int wd), some (.ref pd), some (dueV (innerW ns wd n0 n1 e)), none, none, none, none, none, none, none, none]) ?_ ?_
    rotate_left
    · intro nx' hnx
      by_cases hk3 : innerK ns = 3
      · rw [hk3] at g15
        rw [show decide ((3 : Nat) = 3) = true from rfl] at g15
        walk_at "go"
        rw [inner_none hk3] at hnx
        exact hnx _ _ ⟨Same.refl _, rfl⟩
      · rw [decide_eq_false hk3] at g15
        walk_at "go"
        refine g17 _ _ _ (Same.refl _) (fun z H2 hz s2 => ?_) (fun H2 hz => absurd hz (inner_some hk3))
        rw [hz] at hnx
        walk_at "go"
        exact hnx _ _ ⟨s2, rfl⟩
    rintro _ G3 ⟨S3, rfl⟩
    have hS3 := S3.seq hS2
    have er3 := S3 _ _ er2
    walk_at "go"
    rename_i ld Gd nd' Sd ed le Ge ne Se ee q Gq nqq Sqq hR
    generalize hrs : roundsF ns = rs at hR
    have hrl : rs.length ≤ 12 := hrs ▸ rounds_len ns
    have hro : ∀ r ∈ rs, RndOk r := hrs ▸ rounds_ok ns
    obtain ⟨vs, ev, rv⟩ := hR
    have hld : ld ≠ le := fun z => by rw [← z, ed] at ne; cases ne
    have hgq : ∀ b o, G3 b = some o → Gq b = some o ∧ b ≠ ld ∧ b ≠ le := fun b o z => ⟨Sqq _ _ (Se _ _ (Sd _ _ z)), ne_of_none z nd', ne_of_none (Sd _ _ z) ne⟩
    have hqd : q ≠ ld := fun z => by rw [z, Se _ _ ed] at nqq; cases nqq
    have hqe : q ≠ le := fun z => by rw [z, ee] at nqq; cases nqq
    walk_at "go"
    refine rd_forL vs (fun i σ' H' => (∀ b o, Gq b = some o → b ≠ ld → b ≠ le → H' b = some o) ∧ ∃ us ws : List V, H' ld = some (.lst us) ∧ H' le = some (.lst ws) ∧ us.length = i + 1 ∧ ws.length = i + 1 ∧ (∀ (j : Nat) v u, us[j]? = some v → ws[j]? = some u → Item P w base m ld le ns wd n0 n1 e rs H' j v u) ∧
      ∃ p W x8 x9 x10 x11, us[i]? = some (.ref p) ∧ ws[i]? = some (dueV W) ∧ σ' = [some (.ref a), some (.ref r), some (.int wd), some (.ref p), some (dueV W), some (.ref ld), some (.ref le), some (.ref q), x8, x9, x10, x11, none]) ?_ ?_ ?_ ?_
    · refine ⟨fun b o z _ _ => z, _, _, Sqq _ _ (Se _ _ ed), Sqq _ _ ee, rfl, rfl, fun j v u hv hu => ?_, pd, _, _, _, _, _, rfl, rfl, rfl⟩
      match j, hv, hu with
      | 0, hv, hu =>
        cases hv; cases hu
        exact ⟨pd, _, _, rfl, rfl, .inl ⟨rfl, innerK_or ns⟩, G3, hgq, d2.same S3⟩
      | j + 1, hv, hu => cases hv
    · rintro i σ' H' _ ⟨fr, _⟩
      exact SqL.of (fr _ _ ev hqd hqe)
    · rintro i x _ H' hx ⟨fr, us, ws, e5, e6, l5, l6, it, p, W, x8, x9, x10, x11, hp, hW, rfl⟩
      have hi12 : i < rs.length := by rw [← rv.length]; exact (List.getElem?_eq_some_iff.mp hx).1
      obtain ⟨⟨kd3, at3, mo3⟩, pr, hr3, rfl, ht3⟩ := rv.get hx
      have ht3' : H' pr = some (.tup [.int kd3, .int at3, .int mo3]) := fr _ _ ht3 (fun z => by rw [z, Sqq _ _ (Se _ _ ed)] at ht3; cases ht3) (fun z => by rw [z, Sqq _ _ ee] at ht3; cases ht3)
      obtain ⟨q0, q1, q2, q3, q4⟩ := hro _ (List.mem_of_getElem? hr3)
      dsimp only at q0 q1 q2 q3 q4
      obtain ⟨p', W', kd, ep, eW, hkd, di⟩ := it i _ _ hp hW
      cases ep
      obtain rfl := dueV_inj eW
      have da := di.at
      obtain ⟨C9, dx9, fs9, spl9, spw9, f1, f2, f3, f4, f5, f6, f7, f8, f9, f10, f11, f12, f13, f14, f15, f16, f17, f18⟩ := da.ex
      walk_at "gs"
      have hi12' : i < 12 := by omega
      have nl1 := numS_len (i := at3) (by omega) (by omega)
      have nl2 := numS_len (i := mo3) (by omega) (by omega)
      have ls1 : ("shut " : Str).length = 5 := by rw [lit_len]; decide
      have ls2 : ("wider " : Str).length = 6 := by rw [lit_len]; decide
      have ls3 : (" " : Str).length = 1 := by rw [lit_len]; decide
      refine rd_seqR (fun σ' H2 => Same H' H2 ∧ ∃ (pn : Addr) (pre : Str) (kd' : Nat), H' pn = none ∧ pre.length ≤ 100 ∧ KindOf (rs.take (i + 1)) kd' ∧ DI P w base m (4 + (i + 1)) ld le H2 pn n0 n1 e (fun t => dueF (rs.take (i + 1)) t (innerL ns wd t)) (W.map fun z => pre ++ z) kd' ∧ σ' = [some (.ref a), some (.ref r), some (.int wd), some (.ref pn), some (dueV W), some (.ref ld), some (.ref le), some (.ref q), some (.int kd3), some (.int at3), some (.int mo3), some (.str pre), none]) ?_ ?_
      rotate_left
      · intro nx' hnx
        walk_at "go"
        refine rd_if2 (fun hw => ?_) (fun hw => ?_)
        · have hw' : kd3 = 0 := hw
          subst hw'
          walk_at "go"
          refine r_mkShut rfl w_dc_Shut f2 f1 f3 f4 f5 h0 h1 he q1 fun pn dxn H2 nn S2 en => ?_
          walk_at "go"
          have dn := di.shut m (by omega) nn S2 en (ne_of_none e5 nn).symm (ne_of_none e6 nn).symm q1 q2
          rw [show (fun z => Txt.join " " ["shut", numS at3, z]) = fun z => (("shut " : Str) ++ numS at3 ++ " ") ++ z from funext fun z => shut_words at3 z, ← due_shut hr3] at dn
          refine hnx _ _ ⟨by walk_at "sm", pn, _, 1, nn, ?_, .inr ⟨_, take_last hr3, .inl ⟨rfl, rfl⟩⟩, dn, rfl⟩
          rw [str_app_len, str_app_len, ls1, ls3]; omega
        · have hw' : kd3 = 1 := by rcases q0 with z | z; exact absurd z hw; exact z
          subst hw'
          walk_at "go"
          refine r_mkWider rfl w_dc_Wider f2 f1 f3 f4 f5 h0 h1 he q1 q3 fun pn dxn H2 nn S2 en => ?_
          walk_at "go"
          have dn := di.wider m (by omega) nn S2 en (ne_of_none e5 nn).symm (ne_of_none e6 nn).symm q1 q2 q3 q4
          rw [show (fun z => Txt.join " " ["wider", numS at3, numS mo3, z]) = fun z => (("wider " : Str) ++ numS at3 ++ " " ++ numS mo3 ++ " ") ++ z from funext fun z => wider_words at3 mo3 z, ← due_wider hr3] at dn
          refine hnx _ _ ⟨by walk_at "sm", pn, _, 2, nn, ?_, .inr ⟨_, take_last hr3, .inr ⟨rfl, rfl⟩⟩, dn, rfl⟩
          rw [str_app_len, str_app_len, str_app_len, str_app_len, ls2, ls3]; omega
      rintro _ H2 ⟨S2, pn, pre, kd', nn, lp, hk', di', rfl⟩
      have e52 := S2 _ _ e5
      have e62 := S2 _ _ e6
      refine rd_seqR (fun σ' H3 => H3 = H2 ∧ σ' = [some (.ref a), some (.ref r), some (.int wd), some (.ref pn), some (dueV (W.map fun z => pre ++ z)), some (.ref ld), some (.ref le), some (.ref q), some (.int kd3), some (.int at3), some (.int mo3), some (.str pre), none]) ?_ ?_
      rotate_left
      · intro nx' hnx
        cases W with
        | none =>
          dsimp only [dueV]
          walk_at "go"
          exact hnx _ _ ⟨rfl, rfl⟩
        | some z =>
          have lz := f18 z rfl
          dsimp only [dueV]
          walk_at "go"
          exact hnx _ _ ⟨rfl, rfl⟩
      rintro _ H3 ⟨rfl, rfl⟩
      walk_at "go"
      refine rd_append e52 (by rw [sizeLine_eq]; omega) fun H4 b4 e4 => ?_
      have e63 : H4 le = some (.lst ws) := b4 _ _ e62 hld.symm
      walk_at "go"
      refine rd_append e63 (by rw [sizeLine_eq]; omega) fun H5 b5 e5' => ?_
      have fr5 : ∀ b o, H3 b = some o → b ≠ ld → b ≠ le → H5 b = some o := fun b o z y1 y2 => b5 _ _ (b4 _ _ z y1) y2
      refine ⟨fun b o z y1 y2 => fr5 _ _ (S2 _ _ (fr _ _ z y1 y2)) y1 y2, us ++ [.ref pn], ws ++ [dueV (W.map fun z => pre ++ z)], ?_, e5', ?_, ?_, ?_, pn, _, _, _, _, _, ?_, ?_, rfl⟩
      · exact b5 _ _ e4 hld
      · rw [List.length_append, l5]; rfl
      · rw [List.length_append, l6]; rfl
      · intro j v u hv hu
        by_cases hj : j < i + 1
        · rw [List.getElem?_append_left (by omega)] at hv hu
          obtain ⟨p', W', k', a1, a2, a3, a4⟩ := it j v u hv hu
          exact ⟨p', W', k', a1, a2, a3, a4.go fun b o z y1 y2 => fr5 _ _ (S2 _ _ z) y1 y2⟩
        · have hj2 : j = i + 1 := by
            have hjj := (List.getElem?_eq_some_iff.mp hv).1
            rw [List.length_append, l5] at hjj
            have : ([V.ref pn] : List V).length = 1 := rfl
            omega
          subst hj2
          rw [List.getElem?_append_right (by omega), l5, Nat.sub_self] at hv
          rw [List.getElem?_append_right (by omega), l6, Nat.sub_self] at hu
          cases hv; cases hu
          exact ⟨pn, _, kd', rfl, rfl, hk', di'.go fun b o z y1 y2 => fr5 _ _ z y1 y2⟩
      · rw [List.getElem?_append_right (by omega), l5, Nat.sub_self]; rfl
      · rw [List.getElem?_append_right (by omega), l6, Nat.sub_self]; rfl
    · rintro _ H' ⟨fr, us, ws, e5, e6, l5, l6, it, p, W, x8, x9, x10, x11, hp, hW, rfl⟩
      have lv : vs.length = rs.length := rv.length
      have S3' : Same G3 H' := fun b o z => fr _ _ (hgq _ _ z).1 (hgq _ _ z).2.1 (hgq _ _ z).2.2
      have hSq : SqL K H' a (ns.map V.int) := S3'.seq hS3
      have erq : H' r = some (.lst [.str n0, .str n1, e]) := fr _ _ (hgq _ _ er3).1 (hgq _ _ er3).2.1 (hgq _ _ er3).2.2
      have rv' : RowsR H' vs rs := rv.map fun b o z => fr _ _ z (fun y => by rw [y, Sqq _ _ (Se _ _ ed)] at z; cases z) (fun y => by rw [y, Sqq _ _ ee] at z; cases z)
      have ev' : H' q = some (.lst vs) := fr _ _ ev hqd hqe
      refine rd_seq ?_
      walk_at "go"
      refine rd_forR (fun j σ' H2 => Same H' H2 ∧ ∃ x, σ' = [some (.ref a), some (.ref r), some (.int wd), some (.ref p), some (dueV W), some (.ref ld), some (.ref le), some (.ref q), x8, x9, x10, x11, x]) ⟨Same.refl _, _, rfl⟩ ?_ ?_
      · rintro j _ H2 hj ⟨S2, x, rfl⟩
        have hj' : j < us.length := by omega
        obtain ⟨v, hv⟩ : ∃ v, us[j]? = some v := ⟨_, List.getElem?_eq_getElem hj'⟩
        obtain ⟨u, hu⟩ : ∃ u, ws[j]? = some u := ⟨_, List.getElem?_eq_getElem (by omega)⟩
        obtain ⟨pj, Wj, kj, rfl, rfl, hkj, dij⟩ := it j v u hv hu
        rw [show (0 : Int) + (j : Int) = (j : Int) by omega]
        walk_at "go"
        refine rd_ixL (SqL.of (S2 _ _ e5)) (atI_nat hv) ?_
        walk_at "go"
        rename_i ps Hs ms Ss es
        refine rd_ixL (SqL.of (Ss _ _ (S2 _ _ e6))) (atI_nat hu) ?_
        walk_at "go"
        have SS := S2.trans Ss
        rw [cutV_take vs j (by omega)] at es
        refine ⟨a, pj, r, ps, ns, wd, n0, n1, e, rs.take j, Wj, kj, rfl, SS.seq hSq, hlen, SS _ _ erq, he, hwd0, hwd1, (dij.at.same SS).mono (by omega), ⟨_, es, (rv'.same SS).take j⟩, hkj, fun H6 S6 => ?_⟩
        walk_at "go"
        exact ⟨SS.trans S6, _, rfl⟩
      · rintro _ H2 ⟨S2, x, rfl⟩
        walk_at "go"
        exact k _



end
theorem all_mk {l : PySem.W.OpenLaw} {w : World} {K : PySem.W.Frag} {h : Heap} {mg : Str → Option Value} {fa : Addr} (X : K.In h) (G : h.Ns mainGlobals mg) (hfa : mg "law" = some (.ref fa))
    {f_is_whole : Addr}
    {f_is_name : Addr}
    {f_need_name : Addr}
    {f_need_whole : Addr}
    {f_row_of_words : Addr}
    {f__law_cell_at : Addr}
    {f__law_drawn : Addr}
    {f__law_name : Addr}
    {f__law_turn : Addr}
    {f__law_letting : Addr}
    {f__law_inner : Addr}
    {f__law_inner_due : Addr}
    {f__law_rounds : Addr}
    {f__law_due : Addr}
    {f__law_words : Addr}
    {f__law_right : Addr}
    {f_law : Addr}
    {C_Door : Addr}
    {C_Since : Addr}
    {C_Until : Addr}
    {C_Beat : Addr}
    {C_Marked : Addr}
    {C_Told : Addr}
    {C_Shut : Addr}
    {C_Wider : Addr}
    {C_OutError : Addr}
    {C_NoDoor : Addr}
    {C_NoText : Addr}
    {f_Door___init__ : Addr}
    {f_Door_lets : Addr}
    {f_Door_is_exit : Addr}
    {f_Door_words : Addr}
    {f_Since___init__ : Addr}
    {f_Since_lets : Addr}
    {f_Since_words : Addr}
    {f_Until___init__ : Addr}
    {f_Until_lets : Addr}
    {f_Until_words : Addr}
    {f_Beat___init__ : Addr}
    {f_Beat_lets : Addr}
    {f_Beat_words : Addr}
    {f_Marked___init__ : Addr}
    {f_Marked_lets : Addr}
    {f_Marked_words : Addr}
    {f_Told___init__ : Addr}
    {f_Told_lets : Addr}
    {f_Told_words : Addr}
    {f_Shut___init__ : Addr}
    {f_Shut_lets : Addr}
    {f_Shut_words : Addr}
    {f_Wider___init__ : Addr}
    {f_Wider_lets : Addr}
    {f_Wider_words : Addr}
    {od_is_whole an_is_whole : Option Addr} {sl_is_whole : Array (Option Value)} {oc_is_whole kV_is_whole dc_is_whole pm_is_whole cd_is_whole ct_is_whole : Value}
    {od_is_name an_is_name : Option Addr} {sl_is_name : Array (Option Value)} {oc_is_name kV_is_name dc_is_name pm_is_name cd_is_name ct_is_name : Value}
    {od_need_name an_need_name : Option Addr} {sl_need_name : Array (Option Value)} {oc_need_name kV_need_name dc_need_name pm_need_name cd_need_name ct_need_name : Value}
    {od_need_whole an_need_whole : Option Addr} {sl_need_whole : Array (Option Value)} {oc_need_whole kV_need_whole dc_need_whole pm_need_whole cd_need_whole ct_need_whole : Value}
    {od_row_of_words an_row_of_words : Option Addr} {sl_row_of_words : Array (Option Value)} {oc_row_of_words kV_row_of_words dc_row_of_words pm_row_of_words cd_row_of_words ct_row_of_words : Value}
    {od__law_cell_at an__law_cell_at : Option Addr} {sl__law_cell_at : Array (Option Value)} {oc__law_cell_at kV__law_cell_at dc__law_cell_at pm__law_cell_at cd__law_cell_at ct__law_cell_at : Value}
    {od__law_drawn an__law_drawn : Option Addr} {sl__law_drawn : Array (Option Value)} {oc__law_drawn kV__law_drawn dc__law_drawn pm__law_drawn cd__law_drawn ct__law_drawn : Value}
    {od__law_name an__law_name : Option Addr} {sl__law_name : Array (Option Value)} {oc__law_name kV__law_name dc__law_name pm__law_name cd__law_name ct__law_name : Value}
    {od__law_turn an__law_turn : Option Addr} {sl__law_turn : Array (Option Value)} {oc__law_turn kV__law_turn dc__law_turn pm__law_turn cd__law_turn ct__law_turn : Value}
    {od__law_letting an__law_letting : Option Addr} {sl__law_letting : Array (Option Value)} {oc__law_letting kV__law_letting dc__law_letting pm__law_letting cd__law_letting ct__law_letting : Value}
    {od__law_inner an__law_inner : Option Addr} {sl__law_inner : Array (Option Value)} {oc__law_inner kV__law_inner dc__law_inner pm__law_inner cd__law_inner ct__law_inner : Value}
    {od__law_inner_due an__law_inner_due : Option Addr} {sl__law_inner_due : Array (Option Value)} {oc__law_inner_due kV__law_inner_due dc__law_inner_due pm__law_inner_due cd__law_inner_due ct__law_inner_due : Value}
    {od__law_rounds an__law_rounds : Option Addr} {sl__law_rounds : Array (Option Value)} {oc__law_rounds kV__law_rounds dc__law_rounds pm__law_rounds cd__law_rounds ct__law_rounds : Value}
    {od__law_due an__law_due : Option Addr} {sl__law_due : Array (Option Value)} {oc__law_due kV__law_due dc__law_due pm__law_due cd__law_due ct__law_due : Value}
    {od__law_words an__law_words : Option Addr} {sl__law_words : Array (Option Value)} {oc__law_words kV__law_words dc__law_words pm__law_words cd__law_words ct__law_words : Value}
    {od__law_right an__law_right : Option Addr} {sl__law_right : Array (Option Value)} {oc__law_right kV__law_right dc__law_right pm__law_right cd__law_right ct__law_right : Value}
    {od_law an_law : Option Addr} {sl_law : Array (Option Value)} {oc_law kV_law dc_law pm_law cd_law ct_law : Value}
    {od_Door___init__ an_Door___init__ : Option Addr} {sl_Door___init__ : Array (Option Value)} {oc_Door___init__ kV_Door___init__ dc_Door___init__ pm_Door___init__ cd_Door___init__ ct_Door___init__ : Value}
    {T_Door___init__ : Addr}
    {tk_Door___init___1 : Tok}
    {oT_Door___init__ : Value} {dT_Door___init__ : Option Addr} {nT_Door___init__ : Nat} {sT_Door___init__ : Array (Option Value)}
    {od_Door_lets an_Door_lets : Option Addr} {sl_Door_lets : Array (Option Value)} {oc_Door_lets kV_Door_lets dc_Door_lets pm_Door_lets cd_Door_lets ct_Door_lets : Value}
    {od_Door_is_exit an_Door_is_exit : Option Addr} {sl_Door_is_exit : Array (Option Value)} {oc_Door_is_exit kV_Door_is_exit dc_Door_is_exit pm_Door_is_exit cd_Door_is_exit ct_Door_is_exit : Value}
    {od_Door_words an_Door_words : Option Addr} {sl_Door_words : Array (Option Value)} {oc_Door_words kV_Door_words dc_Door_words pm_Door_words cd_Door_words ct_Door_words : Value}
    {od_Since___init__ an_Since___init__ : Option Addr} {sl_Since___init__ : Array (Option Value)} {oc_Since___init__ kV_Since___init__ dc_Since___init__ pm_Since___init__ cd_Since___init__ ct_Since___init__ : Value}
    {od_Since_lets an_Since_lets : Option Addr} {sl_Since_lets : Array (Option Value)} {oc_Since_lets kV_Since_lets dc_Since_lets pm_Since_lets cd_Since_lets ct_Since_lets : Value}
    {od_Since_words an_Since_words : Option Addr} {sl_Since_words : Array (Option Value)} {oc_Since_words kV_Since_words dc_Since_words pm_Since_words cd_Since_words ct_Since_words : Value}
    {od_Until___init__ an_Until___init__ : Option Addr} {sl_Until___init__ : Array (Option Value)} {oc_Until___init__ kV_Until___init__ dc_Until___init__ pm_Until___init__ cd_Until___init__ ct_Until___init__ : Value}
    {od_Until_lets an_Until_lets : Option Addr} {sl_Until_lets : Array (Option Value)} {oc_Until_lets kV_Until_lets dc_Until_lets pm_Until_lets cd_Until_lets ct_Until_lets : Value}
    {od_Until_words an_Until_words : Option Addr} {sl_Until_words : Array (Option Value)} {oc_Until_words kV_Until_words dc_Until_words pm_Until_words cd_Until_words ct_Until_words : Value}
    {od_Beat___init__ an_Beat___init__ : Option Addr} {sl_Beat___init__ : Array (Option Value)} {oc_Beat___init__ kV_Beat___init__ dc_Beat___init__ pm_Beat___init__ cd_Beat___init__ ct_Beat___init__ : Value}
    {T_Beat___init__ : Addr}
    {tk_Beat___init___0 : Tok}
    {oT_Beat___init__ : Value} {dT_Beat___init__ : Option Addr} {nT_Beat___init__ : Nat} {sT_Beat___init__ : Array (Option Value)}
    {od_Beat_lets an_Beat_lets : Option Addr} {sl_Beat_lets : Array (Option Value)} {oc_Beat_lets kV_Beat_lets dc_Beat_lets pm_Beat_lets cd_Beat_lets ct_Beat_lets : Value}
    {od_Beat_words an_Beat_words : Option Addr} {sl_Beat_words : Array (Option Value)} {oc_Beat_words kV_Beat_words dc_Beat_words pm_Beat_words cd_Beat_words ct_Beat_words : Value}
    {od_Marked___init__ an_Marked___init__ : Option Addr} {sl_Marked___init__ : Array (Option Value)} {oc_Marked___init__ kV_Marked___init__ dc_Marked___init__ pm_Marked___init__ cd_Marked___init__ ct_Marked___init__ : Value}
    {od_Marked_lets an_Marked_lets : Option Addr} {sl_Marked_lets : Array (Option Value)} {oc_Marked_lets kV_Marked_lets dc_Marked_lets pm_Marked_lets cd_Marked_lets ct_Marked_lets : Value}
    {od_Marked_words an_Marked_words : Option Addr} {sl_Marked_words : Array (Option Value)} {oc_Marked_words kV_Marked_words dc_Marked_words pm_Marked_words cd_Marked_words ct_Marked_words : Value}
    {od_Told___init__ an_Told___init__ : Option Addr} {sl_Told___init__ : Array (Option Value)} {oc_Told___init__ kV_Told___init__ dc_Told___init__ pm_Told___init__ cd_Told___init__ ct_Told___init__ : Value}
    {od_Told_lets an_Told_lets : Option Addr} {sl_Told_lets : Array (Option Value)} {oc_Told_lets kV_Told_lets dc_Told_lets pm_Told_lets cd_Told_lets ct_Told_lets : Value}
    {od_Told_words an_Told_words : Option Addr} {sl_Told_words : Array (Option Value)} {oc_Told_words kV_Told_words dc_Told_words pm_Told_words cd_Told_words ct_Told_words : Value}
    {od_Shut___init__ an_Shut___init__ : Option Addr} {sl_Shut___init__ : Array (Option Value)} {oc_Shut___init__ kV_Shut___init__ dc_Shut___init__ pm_Shut___init__ cd_Shut___init__ ct_Shut___init__ : Value}
    {od_Shut_lets an_Shut_lets : Option Addr} {sl_Shut_lets : Array (Option Value)} {oc_Shut_lets kV_Shut_lets dc_Shut_lets pm_Shut_lets cd_Shut_lets ct_Shut_lets : Value}
    {od_Shut_words an_Shut_words : Option Addr} {sl_Shut_words : Array (Option Value)} {oc_Shut_words kV_Shut_words dc_Shut_words pm_Shut_words cd_Shut_words ct_Shut_words : Value}
    {od_Wider___init__ an_Wider___init__ : Option Addr} {sl_Wider___init__ : Array (Option Value)} {oc_Wider___init__ kV_Wider___init__ dc_Wider___init__ pm_Wider___init__ cd_Wider___init__ ct_Wider___init__ : Value}
    {od_Wider_lets an_Wider_lets : Option Addr} {sl_Wider_lets : Array (Option Value)} {oc_Wider_lets kV_Wider_lets dc_Wider_lets pm_Wider_lets cd_Wider_lets ct_Wider_lets : Value}
    {od_Wider_words an_Wider_words : Option Addr} {sl_Wider_words : Array (Option Value)} {oc_Wider_words kV_Wider_words dc_Wider_words pm_Wider_words cd_Wider_words ct_Wider_words : Value}
    {cc_Door : ClassData}
    {cc_Shut : ClassData}
    {cc_Wider : ClassData}
    {cc_Told : ClassData}
    {cx_NoText : ClassData}
    {cm_NoText : ClassData}
    {cy_NoText_NoDoor : ClassData}
    {t_LONGEST_NAME : Tok}
    (a_is_whole : PySem.W.nsIn K mainGlobals "is_whole" = some (some (.ref f_is_whole)))
    (a_is_name : PySem.W.nsIn K mainGlobals "is_name" = some (some (.ref f_is_name)))
    (a_need_name : PySem.W.nsIn K mainGlobals "need_name" = some (some (.ref f_need_name)))
    (a_need_whole : PySem.W.nsIn K mainGlobals "need_whole" = some (some (.ref f_need_whole)))
    (a_row_of_words : PySem.W.nsIn K mainGlobals "row_of_words" = some (some (.ref f_row_of_words)))
    (a__law_cell_at : PySem.W.nsIn K mainGlobals "_law_cell_at" = some (some (.ref f__law_cell_at)))
    (a__law_drawn : PySem.W.nsIn K mainGlobals "_law_drawn" = some (some (.ref f__law_drawn)))
    (a__law_name : PySem.W.nsIn K mainGlobals "_law_name" = some (some (.ref f__law_name)))
    (a__law_turn : PySem.W.nsIn K mainGlobals "_law_turn" = some (some (.ref f__law_turn)))
    (a__law_letting : PySem.W.nsIn K mainGlobals "_law_letting" = some (some (.ref f__law_letting)))
    (a__law_inner : PySem.W.nsIn K mainGlobals "_law_inner" = some (some (.ref f__law_inner)))
    (a__law_inner_due : PySem.W.nsIn K mainGlobals "_law_inner_due" = some (some (.ref f__law_inner_due)))
    (a__law_rounds : PySem.W.nsIn K mainGlobals "_law_rounds" = some (some (.ref f__law_rounds)))
    (a__law_due : PySem.W.nsIn K mainGlobals "_law_due" = some (some (.ref f__law_due)))
    (a__law_words : PySem.W.nsIn K mainGlobals "_law_words" = some (some (.ref f__law_words)))
    (a__law_right : PySem.W.nsIn K mainGlobals "_law_right" = some (some (.ref f__law_right)))
    (a_law : PySem.W.nsIn K mainGlobals "law" = some (some (.ref f_law)))
    (aC_Door : PySem.W.nsIn K mainGlobals "Door" = some (some (.ref C_Door)))
    (aC_Since : PySem.W.nsIn K mainGlobals "Since" = some (some (.ref C_Since)))
    (aC_Until : PySem.W.nsIn K mainGlobals "Until" = some (some (.ref C_Until)))
    (aC_Beat : PySem.W.nsIn K mainGlobals "Beat" = some (some (.ref C_Beat)))
    (aC_Marked : PySem.W.nsIn K mainGlobals "Marked" = some (some (.ref C_Marked)))
    (aC_Told : PySem.W.nsIn K mainGlobals "Told" = some (some (.ref C_Told)))
    (aC_Shut : PySem.W.nsIn K mainGlobals "Shut" = some (some (.ref C_Shut)))
    (aC_Wider : PySem.W.nsIn K mainGlobals "Wider" = some (some (.ref C_Wider)))
    (aC_OutError : PySem.W.nsIn K mainGlobals "OutError" = some (some (.ref C_OutError)))
    (aC_NoDoor : PySem.W.nsIn K mainGlobals "NoDoor" = some (some (.ref C_NoDoor)))
    (aC_NoText : PySem.W.nsIn K mainGlobals "NoText" = some (some (.ref C_NoText)))
    (a_Door___init__ : PySem.W.findIn K (.ref C_Door) "__init__" = some (some (.ref f_Door___init__)))
    (a_Door_lets : PySem.W.findIn K (.ref C_Door) "lets" = some (some (.ref f_Door_lets)))
    (a_Door_is_exit : PySem.W.findIn K (.ref C_Door) "is_exit" = some (some (.ref f_Door_is_exit)))
    (a_Door_words : PySem.W.findIn K (.ref C_Door) "words" = some (some (.ref f_Door_words)))
    (a_Since___init__ : PySem.W.findIn K (.ref C_Since) "__init__" = some (some (.ref f_Since___init__)))
    (a_Since_lets : PySem.W.findIn K (.ref C_Since) "lets" = some (some (.ref f_Since_lets)))
    (a_Since_words : PySem.W.findIn K (.ref C_Since) "words" = some (some (.ref f_Since_words)))
    (a_Until___init__ : PySem.W.findIn K (.ref C_Until) "__init__" = some (some (.ref f_Until___init__)))
    (a_Until_lets : PySem.W.findIn K (.ref C_Until) "lets" = some (some (.ref f_Until_lets)))
    (a_Until_words : PySem.W.findIn K (.ref C_Until) "words" = some (some (.ref f_Until_words)))
    (a_Beat___init__ : PySem.W.findIn K (.ref C_Beat) "__init__" = some (some (.ref f_Beat___init__)))
    (a_Beat_lets : PySem.W.findIn K (.ref C_Beat) "lets" = some (some (.ref f_Beat_lets)))
    (a_Beat_words : PySem.W.findIn K (.ref C_Beat) "words" = some (some (.ref f_Beat_words)))
    (a_Marked___init__ : PySem.W.findIn K (.ref C_Marked) "__init__" = some (some (.ref f_Marked___init__)))
    (a_Marked_lets : PySem.W.findIn K (.ref C_Marked) "lets" = some (some (.ref f_Marked_lets)))
    (a_Marked_words : PySem.W.findIn K (.ref C_Marked) "words" = some (some (.ref f_Marked_words)))
    (a_Told___init__ : PySem.W.findIn K (.ref C_Told) "__init__" = some (some (.ref f_Told___init__)))
    (a_Told_lets : PySem.W.findIn K (.ref C_Told) "lets" = some (some (.ref f_Told_lets)))
    (a_Told_words : PySem.W.findIn K (.ref C_Told) "words" = some (some (.ref f_Told_words)))
    (a_Shut___init__ : PySem.W.findIn K (.ref C_Shut) "__init__" = some (some (.ref f_Shut___init__)))
    (a_Shut_lets : PySem.W.findIn K (.ref C_Shut) "lets" = some (some (.ref f_Shut_lets)))
    (a_Shut_words : PySem.W.findIn K (.ref C_Shut) "words" = some (some (.ref f_Shut_words)))
    (a_Wider___init__ : PySem.W.findIn K (.ref C_Wider) "__init__" = some (some (.ref f_Wider___init__)))
    (a_Wider_lets : PySem.W.findIn K (.ref C_Wider) "lets" = some (some (.ref f_Wider_lets)))
    (a_Wider_words : PySem.W.findIn K (.ref C_Wider) "words" = some (some (.ref f_Wider_words)))
    (l_is_whole : K.lookup f_is_whole = some ⟨oc_is_whole, od_is_whole, .func (PySem.W.fnOf "is_whole" "is_whole" (defArgs s_is_whole) (defBody s_is_whole) (defScope s_is_whole) .none kV_is_whole dc_is_whole pm_is_whole an_is_whole cd_is_whole ct_is_whole), sl_is_whole⟩)
    (c_is_whole : PySem.W.codeIn K cd_is_whole "is_whole" = true)
    (k_is_whole : PySem.W.keepIn K (.ref f_is_whole) = true)
    (l_is_name : K.lookup f_is_name = some ⟨oc_is_name, od_is_name, .func (PySem.W.fnOf "is_name" "is_name" (defArgs s_is_name) (defBody s_is_name) (defScope s_is_name) .none kV_is_name dc_is_name pm_is_name an_is_name cd_is_name ct_is_name), sl_is_name⟩)
    (c_is_name : PySem.W.codeIn K cd_is_name "is_name" = true)
    (k_is_name : PySem.W.keepIn K (.ref f_is_name) = true)
    (l_need_name : K.lookup f_need_name = some ⟨oc_need_name, od_need_name, .func (PySem.W.fnOf "need_name" "need_name" (defArgs s_need_name) (defBody s_need_name) (defScope s_need_name) .none kV_need_name dc_need_name pm_need_name an_need_name cd_need_name ct_need_name), sl_need_name⟩)
    (c_need_name : PySem.W.codeIn K cd_need_name "need_name" = true)
    (k_need_name : PySem.W.keepIn K (.ref f_need_name) = true)
    (l_need_whole : K.lookup f_need_whole = some ⟨oc_need_whole, od_need_whole, .func (PySem.W.fnOf "need_whole" "need_whole" (defArgs s_need_whole) (defBody s_need_whole) (defScope s_need_whole) .none kV_need_whole dc_need_whole pm_need_whole an_need_whole cd_need_whole ct_need_whole), sl_need_whole⟩)
    (c_need_whole : PySem.W.codeIn K cd_need_whole "need_whole" = true)
    (k_need_whole : PySem.W.keepIn K (.ref f_need_whole) = true)
    (l_row_of_words : K.lookup f_row_of_words = some ⟨oc_row_of_words, od_row_of_words, .func (PySem.W.fnOf "row_of_words" "row_of_words" (defArgs s_row_of_words) (defBody s_row_of_words) (defScope s_row_of_words) .none kV_row_of_words dc_row_of_words pm_row_of_words an_row_of_words cd_row_of_words ct_row_of_words), sl_row_of_words⟩)
    (c_row_of_words : PySem.W.codeIn K cd_row_of_words "row_of_words" = true)
    (k_row_of_words : PySem.W.keepIn K (.ref f_row_of_words) = true)
    (l__law_cell_at : K.lookup f__law_cell_at = some ⟨oc__law_cell_at, od__law_cell_at, .func (PySem.W.fnOf "_law_cell_at" "_law_cell_at" (defArgs s__law_cell_at) (defBody s__law_cell_at) (defScope s__law_cell_at) .none kV__law_cell_at dc__law_cell_at pm__law_cell_at an__law_cell_at cd__law_cell_at ct__law_cell_at), sl__law_cell_at⟩)
    (c__law_cell_at : PySem.W.codeIn K cd__law_cell_at "_law_cell_at" = true)
    (k__law_cell_at : PySem.W.keepIn K (.ref f__law_cell_at) = true)
    (l__law_drawn : K.lookup f__law_drawn = some ⟨oc__law_drawn, od__law_drawn, .func (PySem.W.fnOf "_law_drawn" "_law_drawn" (defArgs s__law_drawn) (defBody s__law_drawn) (defScope s__law_drawn) .none kV__law_drawn dc__law_drawn pm__law_drawn an__law_drawn cd__law_drawn ct__law_drawn), sl__law_drawn⟩)
    (c__law_drawn : PySem.W.codeIn K cd__law_drawn "_law_drawn" = true)
    (k__law_drawn : PySem.W.keepIn K (.ref f__law_drawn) = true)
    (l__law_name : K.lookup f__law_name = some ⟨oc__law_name, od__law_name, .func (PySem.W.fnOf "_law_name" "_law_name" (defArgs s__law_name) (defBody s__law_name) (defScope s__law_name) .none kV__law_name dc__law_name pm__law_name an__law_name cd__law_name ct__law_name), sl__law_name⟩)
    (c__law_name : PySem.W.codeIn K cd__law_name "_law_name" = true)
    (k__law_name : PySem.W.keepIn K (.ref f__law_name) = true)
    (l__law_turn : K.lookup f__law_turn = some ⟨oc__law_turn, od__law_turn, .func (PySem.W.fnOf "_law_turn" "_law_turn" (defArgs s__law_turn) (defBody s__law_turn) (defScope s__law_turn) .none kV__law_turn dc__law_turn pm__law_turn an__law_turn cd__law_turn ct__law_turn), sl__law_turn⟩)
    (c__law_turn : PySem.W.codeIn K cd__law_turn "_law_turn" = true)
    (k__law_turn : PySem.W.keepIn K (.ref f__law_turn) = true)
    (l__law_letting : K.lookup f__law_letting = some ⟨oc__law_letting, od__law_letting, .func (PySem.W.fnOf "_law_letting" "_law_letting" (defArgs s__law_letting) (defBody s__law_letting) (defScope s__law_letting) .none kV__law_letting dc__law_letting pm__law_letting an__law_letting cd__law_letting ct__law_letting), sl__law_letting⟩)
    (c__law_letting : PySem.W.codeIn K cd__law_letting "_law_letting" = true)
    (k__law_letting : PySem.W.keepIn K (.ref f__law_letting) = true)
    (l__law_inner : K.lookup f__law_inner = some ⟨oc__law_inner, od__law_inner, .func (PySem.W.fnOf "_law_inner" "_law_inner" (defArgs s__law_inner) (defBody s__law_inner) (defScope s__law_inner) .none kV__law_inner dc__law_inner pm__law_inner an__law_inner cd__law_inner ct__law_inner), sl__law_inner⟩)
    (c__law_inner : PySem.W.codeIn K cd__law_inner "_law_inner" = true)
    (k__law_inner : PySem.W.keepIn K (.ref f__law_inner) = true)
    (l__law_inner_due : K.lookup f__law_inner_due = some ⟨oc__law_inner_due, od__law_inner_due, .func (PySem.W.fnOf "_law_inner_due" "_law_inner_due" (defArgs s__law_inner_due) (defBody s__law_inner_due) (defScope s__law_inner_due) .none kV__law_inner_due dc__law_inner_due pm__law_inner_due an__law_inner_due cd__law_inner_due ct__law_inner_due), sl__law_inner_due⟩)
    (c__law_inner_due : PySem.W.codeIn K cd__law_inner_due "_law_inner_due" = true)
    (k__law_inner_due : PySem.W.keepIn K (.ref f__law_inner_due) = true)
    (l__law_rounds : K.lookup f__law_rounds = some ⟨oc__law_rounds, od__law_rounds, .func (PySem.W.fnOf "_law_rounds" "_law_rounds" (defArgs s__law_rounds) (defBody s__law_rounds) (defScope s__law_rounds) .none kV__law_rounds dc__law_rounds pm__law_rounds an__law_rounds cd__law_rounds ct__law_rounds), sl__law_rounds⟩)
    (c__law_rounds : PySem.W.codeIn K cd__law_rounds "_law_rounds" = true)
    (k__law_rounds : PySem.W.keepIn K (.ref f__law_rounds) = true)
    (l__law_due : K.lookup f__law_due = some ⟨oc__law_due, od__law_due, .func (PySem.W.fnOf "_law_due" "_law_due" (defArgs s__law_due) (defBody s__law_due) (defScope s__law_due) .none kV__law_due dc__law_due pm__law_due an__law_due cd__law_due ct__law_due), sl__law_due⟩)
    (c__law_due : PySem.W.codeIn K cd__law_due "_law_due" = true)
    (k__law_due : PySem.W.keepIn K (.ref f__law_due) = true)
    (l__law_words : K.lookup f__law_words = some ⟨oc__law_words, od__law_words, .func (PySem.W.fnOf "_law_words" "_law_words" (defArgs s__law_words) (defBody s__law_words) (defScope s__law_words) .none kV__law_words dc__law_words pm__law_words an__law_words cd__law_words ct__law_words), sl__law_words⟩)
    (c__law_words : PySem.W.codeIn K cd__law_words "_law_words" = true)
    (k__law_words : PySem.W.keepIn K (.ref f__law_words) = true)
    (l__law_right : K.lookup f__law_right = some ⟨oc__law_right, od__law_right, .func (PySem.W.fnOf "_law_right" "_law_right" (defArgs s__law_right) (defBody s__law_right) (defScope s__law_right) .none kV__law_right dc__law_right pm__law_right an__law_right cd__law_right ct__law_right), sl__law_right⟩)
    (c__law_right : PySem.W.codeIn K cd__law_right "_law_right" = true)
    (k__law_right : PySem.W.keepIn K (.ref f__law_right) = true)
    (l_law : K.lookup f_law = some ⟨oc_law, od_law, .func (PySem.W.fnOf "law" "law" (defArgs s_law) (defBody s_law) (defScope s_law) .none kV_law dc_law pm_law an_law cd_law ct_law), sl_law⟩)
    (c_law : PySem.W.codeIn K cd_law "law" = true)
    (k_law : PySem.W.keepIn K (.ref f_law) = true)
    (l_Door___init__ : K.lookup f_Door___init__ = some ⟨oc_Door___init__, od_Door___init__, .func (PySem.W.fnOf "__init__" "Door.__init__" (defArgs s_Door___init__) (defBody s_Door___init__) (defScope s_Door___init__) (.ref T_Door___init__) kV_Door___init__ dc_Door___init__ pm_Door___init__ an_Door___init__ cd_Door___init__ ct_Door___init__), sl_Door___init__⟩)
    (c_Door___init__ : PySem.W.codeIn K cd_Door___init__ "Door.__init__" = true)
    (k_Door___init__ : PySem.W.keepIn K (.ref f_Door___init__) = true)
    (t_Door___init__ : K.lookup T_Door___init__ = some ⟨oT_Door___init__, dT_Door___init__, .seq #[.none, .int 1 tk_Door___init___1] nT_Door___init__, sT_Door___init__⟩)
    (l_Door_lets : K.lookup f_Door_lets = some ⟨oc_Door_lets, od_Door_lets, .func (PySem.W.fnOf "lets" "Door.lets" (defArgs s_Door_lets) (defBody s_Door_lets) (defScope s_Door_lets) .none kV_Door_lets dc_Door_lets pm_Door_lets an_Door_lets cd_Door_lets ct_Door_lets), sl_Door_lets⟩)
    (c_Door_lets : PySem.W.codeIn K cd_Door_lets "Door.lets" = true)
    (k_Door_lets : PySem.W.keepIn K (.ref f_Door_lets) = true)
    (l_Door_is_exit : K.lookup f_Door_is_exit = some ⟨oc_Door_is_exit, od_Door_is_exit, .func (PySem.W.fnOf "is_exit" "Door.is_exit" (defArgs s_Door_is_exit) (defBody s_Door_is_exit) (defScope s_Door_is_exit) .none kV_Door_is_exit dc_Door_is_exit pm_Door_is_exit an_Door_is_exit cd_Door_is_exit ct_Door_is_exit), sl_Door_is_exit⟩)
    (c_Door_is_exit : PySem.W.codeIn K cd_Door_is_exit "Door.is_exit" = true)
    (k_Door_is_exit : PySem.W.keepIn K (.ref f_Door_is_exit) = true)
    (l_Door_words : K.lookup f_Door_words = some ⟨oc_Door_words, od_Door_words, .func (PySem.W.fnOf "words" "Door.words" (defArgs s_Door_words) (defBody s_Door_words) (defScope s_Door_words) .none kV_Door_words dc_Door_words pm_Door_words an_Door_words cd_Door_words ct_Door_words), sl_Door_words⟩)
    (c_Door_words : PySem.W.codeIn K cd_Door_words "Door.words" = true)
    (k_Door_words : PySem.W.keepIn K (.ref f_Door_words) = true)
    (l_Since___init__ : K.lookup f_Since___init__ = some ⟨oc_Since___init__, od_Since___init__, .func (PySem.W.fnOf "__init__" "Since.__init__" (defArgs s_Since___init__) (defBody s_Since___init__) (defScope s_Since___init__) .none kV_Since___init__ dc_Since___init__ pm_Since___init__ an_Since___init__ cd_Since___init__ ct_Since___init__), sl_Since___init__⟩)
    (c_Since___init__ : PySem.W.codeIn K cd_Since___init__ "Since.__init__" = true)
    (k_Since___init__ : PySem.W.keepIn K (.ref f_Since___init__) = true)
    (l_Since_lets : K.lookup f_Since_lets = some ⟨oc_Since_lets, od_Since_lets, .func (PySem.W.fnOf "lets" "Since.lets" (defArgs s_Since_lets) (defBody s_Since_lets) (defScope s_Since_lets) .none kV_Since_lets dc_Since_lets pm_Since_lets an_Since_lets cd_Since_lets ct_Since_lets), sl_Since_lets⟩)
    (c_Since_lets : PySem.W.codeIn K cd_Since_lets "Since.lets" = true)
    (k_Since_lets : PySem.W.keepIn K (.ref f_Since_lets) = true)
    (l_Since_words : K.lookup f_Since_words = some ⟨oc_Since_words, od_Since_words, .func (PySem.W.fnOf "words" "Since.words" (defArgs s_Since_words) (defBody s_Since_words) (defScope s_Since_words) .none kV_Since_words dc_Since_words pm_Since_words an_Since_words cd_Since_words ct_Since_words), sl_Since_words⟩)
    (c_Since_words : PySem.W.codeIn K cd_Since_words "Since.words" = true)
    (k_Since_words : PySem.W.keepIn K (.ref f_Since_words) = true)
    (l_Until___init__ : K.lookup f_Until___init__ = some ⟨oc_Until___init__, od_Until___init__, .func (PySem.W.fnOf "__init__" "Until.__init__" (defArgs s_Until___init__) (defBody s_Until___init__) (defScope s_Until___init__) .none kV_Until___init__ dc_Until___init__ pm_Until___init__ an_Until___init__ cd_Until___init__ ct_Until___init__), sl_Until___init__⟩)
    (c_Until___init__ : PySem.W.codeIn K cd_Until___init__ "Until.__init__" = true)
    (k_Until___init__ : PySem.W.keepIn K (.ref f_Until___init__) = true)
    (l_Until_lets : K.lookup f_Until_lets = some ⟨oc_Until_lets, od_Until_lets, .func (PySem.W.fnOf "lets" "Until.lets" (defArgs s_Until_lets) (defBody s_Until_lets) (defScope s_Until_lets) .none kV_Until_lets dc_Until_lets pm_Until_lets an_Until_lets cd_Until_lets ct_Until_lets), sl_Until_lets⟩)
    (c_Until_lets : PySem.W.codeIn K cd_Until_lets "Until.lets" = true)
    (k_Until_lets : PySem.W.keepIn K (.ref f_Until_lets) = true)
    (l_Until_words : K.lookup f_Until_words = some ⟨oc_Until_words, od_Until_words, .func (PySem.W.fnOf "words" "Until.words" (defArgs s_Until_words) (defBody s_Until_words) (defScope s_Until_words) .none kV_Until_words dc_Until_words pm_Until_words an_Until_words cd_Until_words ct_Until_words), sl_Until_words⟩)
    (c_Until_words : PySem.W.codeIn K cd_Until_words "Until.words" = true)
    (k_Until_words : PySem.W.keepIn K (.ref f_Until_words) = true)
    (l_Beat___init__ : K.lookup f_Beat___init__ = some ⟨oc_Beat___init__, od_Beat___init__, .func (PySem.W.fnOf "__init__" "Beat.__init__" (defArgs s_Beat___init__) (defBody s_Beat___init__) (defScope s_Beat___init__) (.ref T_Beat___init__) kV_Beat___init__ dc_Beat___init__ pm_Beat___init__ an_Beat___init__ cd_Beat___init__ ct_Beat___init__), sl_Beat___init__⟩)
    (c_Beat___init__ : PySem.W.codeIn K cd_Beat___init__ "Beat.__init__" = true)
    (k_Beat___init__ : PySem.W.keepIn K (.ref f_Beat___init__) = true)
    (t_Beat___init__ : K.lookup T_Beat___init__ = some ⟨oT_Beat___init__, dT_Beat___init__, .seq #[.int 0 tk_Beat___init___0] nT_Beat___init__, sT_Beat___init__⟩)
    (l_Beat_lets : K.lookup f_Beat_lets = some ⟨oc_Beat_lets, od_Beat_lets, .func (PySem.W.fnOf "lets" "Beat.lets" (defArgs s_Beat_lets) (defBody s_Beat_lets) (defScope s_Beat_lets) .none kV_Beat_lets dc_Beat_lets pm_Beat_lets an_Beat_lets cd_Beat_lets ct_Beat_lets), sl_Beat_lets⟩)
    (c_Beat_lets : PySem.W.codeIn K cd_Beat_lets "Beat.lets" = true)
    (k_Beat_lets : PySem.W.keepIn K (.ref f_Beat_lets) = true)
    (l_Beat_words : K.lookup f_Beat_words = some ⟨oc_Beat_words, od_Beat_words, .func (PySem.W.fnOf "words" "Beat.words" (defArgs s_Beat_words) (defBody s_Beat_words) (defScope s_Beat_words) .none kV_Beat_words dc_Beat_words pm_Beat_words an_Beat_words cd_Beat_words ct_Beat_words), sl_Beat_words⟩)
    (c_Beat_words : PySem.W.codeIn K cd_Beat_words "Beat.words" = true)
    (k_Beat_words : PySem.W.keepIn K (.ref f_Beat_words) = true)
    (l_Marked___init__ : K.lookup f_Marked___init__ = some ⟨oc_Marked___init__, od_Marked___init__, .func (PySem.W.fnOf "__init__" "Marked.__init__" (defArgs s_Marked___init__) (defBody s_Marked___init__) (defScope s_Marked___init__) .none kV_Marked___init__ dc_Marked___init__ pm_Marked___init__ an_Marked___init__ cd_Marked___init__ ct_Marked___init__), sl_Marked___init__⟩)
    (c_Marked___init__ : PySem.W.codeIn K cd_Marked___init__ "Marked.__init__" = true)
    (k_Marked___init__ : PySem.W.keepIn K (.ref f_Marked___init__) = true)
    (l_Marked_lets : K.lookup f_Marked_lets = some ⟨oc_Marked_lets, od_Marked_lets, .func (PySem.W.fnOf "lets" "Marked.lets" (defArgs s_Marked_lets) (defBody s_Marked_lets) (defScope s_Marked_lets) .none kV_Marked_lets dc_Marked_lets pm_Marked_lets an_Marked_lets cd_Marked_lets ct_Marked_lets), sl_Marked_lets⟩)
    (c_Marked_lets : PySem.W.codeIn K cd_Marked_lets "Marked.lets" = true)
    (k_Marked_lets : PySem.W.keepIn K (.ref f_Marked_lets) = true)
    (l_Marked_words : K.lookup f_Marked_words = some ⟨oc_Marked_words, od_Marked_words, .func (PySem.W.fnOf "words" "Marked.words" (defArgs s_Marked_words) (defBody s_Marked_words) (defScope s_Marked_words) .none kV_Marked_words dc_Marked_words pm_Marked_words an_Marked_words cd_Marked_words ct_Marked_words), sl_Marked_words⟩)
    (c_Marked_words : PySem.W.codeIn K cd_Marked_words "Marked.words" = true)
    (k_Marked_words : PySem.W.keepIn K (.ref f_Marked_words) = true)
    (l_Told___init__ : K.lookup f_Told___init__ = some ⟨oc_Told___init__, od_Told___init__, .func (PySem.W.fnOf "__init__" "Told.__init__" (defArgs s_Told___init__) (defBody s_Told___init__) (defScope s_Told___init__) .none kV_Told___init__ dc_Told___init__ pm_Told___init__ an_Told___init__ cd_Told___init__ ct_Told___init__), sl_Told___init__⟩)
    (c_Told___init__ : PySem.W.codeIn K cd_Told___init__ "Told.__init__" = true)
    (k_Told___init__ : PySem.W.keepIn K (.ref f_Told___init__) = true)
    (l_Told_lets : K.lookup f_Told_lets = some ⟨oc_Told_lets, od_Told_lets, .func (PySem.W.fnOf "lets" "Told.lets" (defArgs s_Told_lets) (defBody s_Told_lets) (defScope s_Told_lets) .none kV_Told_lets dc_Told_lets pm_Told_lets an_Told_lets cd_Told_lets ct_Told_lets), sl_Told_lets⟩)
    (c_Told_lets : PySem.W.codeIn K cd_Told_lets "Told.lets" = true)
    (k_Told_lets : PySem.W.keepIn K (.ref f_Told_lets) = true)
    (l_Told_words : K.lookup f_Told_words = some ⟨oc_Told_words, od_Told_words, .func (PySem.W.fnOf "words" "Told.words" (defArgs s_Told_words) (defBody s_Told_words) (defScope s_Told_words) .none kV_Told_words dc_Told_words pm_Told_words an_Told_words cd_Told_words ct_Told_words), sl_Told_words⟩)
    (c_Told_words : PySem.W.codeIn K cd_Told_words "Told.words" = true)
    (k_Told_words : PySem.W.keepIn K (.ref f_Told_words) = true)
    (l_Shut___init__ : K.lookup f_Shut___init__ = some ⟨oc_Shut___init__, od_Shut___init__, .func (PySem.W.fnOf "__init__" "Shut.__init__" (defArgs s_Shut___init__) (defBody s_Shut___init__) (defScope s_Shut___init__) .none kV_Shut___init__ dc_Shut___init__ pm_Shut___init__ an_Shut___init__ cd_Shut___init__ ct_Shut___init__), sl_Shut___init__⟩)
    (c_Shut___init__ : PySem.W.codeIn K cd_Shut___init__ "Shut.__init__" = true)
    (k_Shut___init__ : PySem.W.keepIn K (.ref f_Shut___init__) = true)
    (l_Shut_lets : K.lookup f_Shut_lets = some ⟨oc_Shut_lets, od_Shut_lets, .func (PySem.W.fnOf "lets" "Shut.lets" (defArgs s_Shut_lets) (defBody s_Shut_lets) (defScope s_Shut_lets) .none kV_Shut_lets dc_Shut_lets pm_Shut_lets an_Shut_lets cd_Shut_lets ct_Shut_lets), sl_Shut_lets⟩)
    (c_Shut_lets : PySem.W.codeIn K cd_Shut_lets "Shut.lets" = true)
    (k_Shut_lets : PySem.W.keepIn K (.ref f_Shut_lets) = true)
    (l_Shut_words : K.lookup f_Shut_words = some ⟨oc_Shut_words, od_Shut_words, .func (PySem.W.fnOf "words" "Shut.words" (defArgs s_Shut_words) (defBody s_Shut_words) (defScope s_Shut_words) .none kV_Shut_words dc_Shut_words pm_Shut_words an_Shut_words cd_Shut_words ct_Shut_words), sl_Shut_words⟩)
    (c_Shut_words : PySem.W.codeIn K cd_Shut_words "Shut.words" = true)
    (k_Shut_words : PySem.W.keepIn K (.ref f_Shut_words) = true)
    (l_Wider___init__ : K.lookup f_Wider___init__ = some ⟨oc_Wider___init__, od_Wider___init__, .func (PySem.W.fnOf "__init__" "Wider.__init__" (defArgs s_Wider___init__) (defBody s_Wider___init__) (defScope s_Wider___init__) .none kV_Wider___init__ dc_Wider___init__ pm_Wider___init__ an_Wider___init__ cd_Wider___init__ ct_Wider___init__), sl_Wider___init__⟩)
    (c_Wider___init__ : PySem.W.codeIn K cd_Wider___init__ "Wider.__init__" = true)
    (k_Wider___init__ : PySem.W.keepIn K (.ref f_Wider___init__) = true)
    (l_Wider_lets : K.lookup f_Wider_lets = some ⟨oc_Wider_lets, od_Wider_lets, .func (PySem.W.fnOf "lets" "Wider.lets" (defArgs s_Wider_lets) (defBody s_Wider_lets) (defScope s_Wider_lets) .none kV_Wider_lets dc_Wider_lets pm_Wider_lets an_Wider_lets cd_Wider_lets ct_Wider_lets), sl_Wider_lets⟩)
    (c_Wider_lets : PySem.W.codeIn K cd_Wider_lets "Wider.lets" = true)
    (k_Wider_lets : PySem.W.keepIn K (.ref f_Wider_lets) = true)
    (l_Wider_words : K.lookup f_Wider_words = some ⟨oc_Wider_words, od_Wider_words, .func (PySem.W.fnOf "words" "Wider.words" (defArgs s_Wider_words) (defBody s_Wider_words) (defScope s_Wider_words) .none kV_Wider_words dc_Wider_words pm_Wider_words an_Wider_words cd_Wider_words ct_Wider_words), sl_Wider_words⟩)
    (c_Wider_words : PySem.W.codeIn K cd_Wider_words "Wider.words" = true)
    (k_Wider_words : PySem.W.keepIn K (.ref f_Wider_words) = true)
    (pg_Door : PySem.W.plainGet K C_Door Str.empty = true)
    (hd_Door : PySem.W.hasDictIn K C_Door = true)
    (po_Door : PySem.W.plainOver K C_Door = true)
    (sa_Door : PySem.W.findIn K (.ref C_Door) "__setattr__" = some (some (.builtin "object.__setattr__")))
    (mk_Door : PySem.W.makesIn K C_Door = true)
    (kc_Door : PySem.W.keepIn K (.ref C_Door) = true)
    (ha_Door : PySem.W.findIn K (.ref C_Door) "__class__" = some (some (.builtin "object.__class__")))
    (hm_Door : PySem.W.mroIn K C_Door (.type "object") = some true)
    (na_Door_name : PySem.W.findIn K (.ref C_Door) "name" = some none)
    (na_Door_start : PySem.W.findIn K (.ref C_Door) "start" = some none)
    (na_Door_end : PySem.W.findIn K (.ref C_Door) "end" = some none)
    (na_Door_wide : PySem.W.findIn K (.ref C_Door) "wide" = some none)
    (na_Door_since : PySem.W.findIn K (.ref C_Door) "since" = some none)
    (na_Door_until : PySem.W.findIn K (.ref C_Door) "until" = some none)
    (na_Door_every : PySem.W.findIn K (.ref C_Door) "every" = some none)
    (na_Door_bits : PySem.W.findIn K (.ref C_Door) "bits" = some none)
    (na_Door_letting : PySem.W.findIn K (.ref C_Door) "letting" = some none)
    (na_Door_inner : PySem.W.findIn K (.ref C_Door) "inner" = some none)
    (na_Door_turn : PySem.W.findIn K (.ref C_Door) "turn" = some none)
    (na_Door_more : PySem.W.findIn K (.ref C_Door) "more" = some none)
    (in_Door : PySem.W.findIn K (.ref C_Door) "__init__" = some (some (.ref f_Door___init__)))
    (fi_Door : PySem.W.isFn K (.ref f_Door___init__) = true)
    (mt_Door_lets : PySem.W.findIn K (.ref C_Door) "lets" = some (some (.ref f_Door_lets)))
    (mf_Door_lets : PySem.W.isFn K (.ref f_Door_lets) = true)
    (mt_Door_is_exit : PySem.W.findIn K (.ref C_Door) "is_exit" = some (some (.ref f_Door_is_exit)))
    (mf_Door_is_exit : PySem.W.isFn K (.ref f_Door_is_exit) = true)
    (mt_Door_words : PySem.W.findIn K (.ref C_Door) "words" = some (some (.ref f_Door_words)))
    (mf_Door_words : PySem.W.isFn K (.ref f_Door_words) = true)
    (pg_Since : PySem.W.plainGet K C_Since Str.empty = true)
    (hd_Since : PySem.W.hasDictIn K C_Since = true)
    (po_Since : PySem.W.plainOver K C_Since = true)
    (sa_Since : PySem.W.findIn K (.ref C_Since) "__setattr__" = some (some (.builtin "object.__setattr__")))
    (mk_Since : PySem.W.makesIn K C_Since = true)
    (kc_Since : PySem.W.keepIn K (.ref C_Since) = true)
    (ha_Since : PySem.W.findIn K (.ref C_Since) "__class__" = some (some (.builtin "object.__class__")))
    (hm_Since : PySem.W.mroIn K C_Since (.type "object") = some true)
    (na_Since_name : PySem.W.findIn K (.ref C_Since) "name" = some none)
    (na_Since_start : PySem.W.findIn K (.ref C_Since) "start" = some none)
    (na_Since_end : PySem.W.findIn K (.ref C_Since) "end" = some none)
    (na_Since_wide : PySem.W.findIn K (.ref C_Since) "wide" = some none)
    (na_Since_since : PySem.W.findIn K (.ref C_Since) "since" = some none)
    (na_Since_until : PySem.W.findIn K (.ref C_Since) "until" = some none)
    (na_Since_every : PySem.W.findIn K (.ref C_Since) "every" = some none)
    (na_Since_bits : PySem.W.findIn K (.ref C_Since) "bits" = some none)
    (na_Since_letting : PySem.W.findIn K (.ref C_Since) "letting" = some none)
    (na_Since_inner : PySem.W.findIn K (.ref C_Since) "inner" = some none)
    (na_Since_turn : PySem.W.findIn K (.ref C_Since) "turn" = some none)
    (na_Since_more : PySem.W.findIn K (.ref C_Since) "more" = some none)
    (in_Since : PySem.W.findIn K (.ref C_Since) "__init__" = some (some (.ref f_Since___init__)))
    (fi_Since : PySem.W.isFn K (.ref f_Since___init__) = true)
    (mt_Since_lets : PySem.W.findIn K (.ref C_Since) "lets" = some (some (.ref f_Since_lets)))
    (mf_Since_lets : PySem.W.isFn K (.ref f_Since_lets) = true)
    (mt_Since_words : PySem.W.findIn K (.ref C_Since) "words" = some (some (.ref f_Since_words)))
    (mf_Since_words : PySem.W.isFn K (.ref f_Since_words) = true)
    (mt_Since_is_exit : PySem.W.findIn K (.ref C_Since) "is_exit" = some (some (.ref f_Door_is_exit)))
    (mf_Since_is_exit : PySem.W.isFn K (.ref f_Door_is_exit) = true)
    (pg_Until : PySem.W.plainGet K C_Until Str.empty = true)
    (hd_Until : PySem.W.hasDictIn K C_Until = true)
    (po_Until : PySem.W.plainOver K C_Until = true)
    (sa_Until : PySem.W.findIn K (.ref C_Until) "__setattr__" = some (some (.builtin "object.__setattr__")))
    (mk_Until : PySem.W.makesIn K C_Until = true)
    (kc_Until : PySem.W.keepIn K (.ref C_Until) = true)
    (ha_Until : PySem.W.findIn K (.ref C_Until) "__class__" = some (some (.builtin "object.__class__")))
    (hm_Until : PySem.W.mroIn K C_Until (.type "object") = some true)
    (na_Until_name : PySem.W.findIn K (.ref C_Until) "name" = some none)
    (na_Until_start : PySem.W.findIn K (.ref C_Until) "start" = some none)
    (na_Until_end : PySem.W.findIn K (.ref C_Until) "end" = some none)
    (na_Until_wide : PySem.W.findIn K (.ref C_Until) "wide" = some none)
    (na_Until_since : PySem.W.findIn K (.ref C_Until) "since" = some none)
    (na_Until_until : PySem.W.findIn K (.ref C_Until) "until" = some none)
    (na_Until_every : PySem.W.findIn K (.ref C_Until) "every" = some none)
    (na_Until_bits : PySem.W.findIn K (.ref C_Until) "bits" = some none)
    (na_Until_letting : PySem.W.findIn K (.ref C_Until) "letting" = some none)
    (na_Until_inner : PySem.W.findIn K (.ref C_Until) "inner" = some none)
    (na_Until_turn : PySem.W.findIn K (.ref C_Until) "turn" = some none)
    (na_Until_more : PySem.W.findIn K (.ref C_Until) "more" = some none)
    (in_Until : PySem.W.findIn K (.ref C_Until) "__init__" = some (some (.ref f_Until___init__)))
    (fi_Until : PySem.W.isFn K (.ref f_Until___init__) = true)
    (mt_Until_lets : PySem.W.findIn K (.ref C_Until) "lets" = some (some (.ref f_Until_lets)))
    (mf_Until_lets : PySem.W.isFn K (.ref f_Until_lets) = true)
    (mt_Until_words : PySem.W.findIn K (.ref C_Until) "words" = some (some (.ref f_Until_words)))
    (mf_Until_words : PySem.W.isFn K (.ref f_Until_words) = true)
    (mt_Until_is_exit : PySem.W.findIn K (.ref C_Until) "is_exit" = some (some (.ref f_Door_is_exit)))
    (mf_Until_is_exit : PySem.W.isFn K (.ref f_Door_is_exit) = true)
    (pg_Beat : PySem.W.plainGet K C_Beat Str.empty = true)
    (hd_Beat : PySem.W.hasDictIn K C_Beat = true)
    (po_Beat : PySem.W.plainOver K C_Beat = true)
    (sa_Beat : PySem.W.findIn K (.ref C_Beat) "__setattr__" = some (some (.builtin "object.__setattr__")))
    (mk_Beat : PySem.W.makesIn K C_Beat = true)
    (kc_Beat : PySem.W.keepIn K (.ref C_Beat) = true)
    (ha_Beat : PySem.W.findIn K (.ref C_Beat) "__class__" = some (some (.builtin "object.__class__")))
    (hm_Beat : PySem.W.mroIn K C_Beat (.type "object") = some true)
    (na_Beat_name : PySem.W.findIn K (.ref C_Beat) "name" = some none)
    (na_Beat_start : PySem.W.findIn K (.ref C_Beat) "start" = some none)
    (na_Beat_end : PySem.W.findIn K (.ref C_Beat) "end" = some none)
    (na_Beat_wide : PySem.W.findIn K (.ref C_Beat) "wide" = some none)
    (na_Beat_since : PySem.W.findIn K (.ref C_Beat) "since" = some none)
    (na_Beat_until : PySem.W.findIn K (.ref C_Beat) "until" = some none)
    (na_Beat_every : PySem.W.findIn K (.ref C_Beat) "every" = some none)
    (na_Beat_bits : PySem.W.findIn K (.ref C_Beat) "bits" = some none)
    (na_Beat_letting : PySem.W.findIn K (.ref C_Beat) "letting" = some none)
    (na_Beat_inner : PySem.W.findIn K (.ref C_Beat) "inner" = some none)
    (na_Beat_turn : PySem.W.findIn K (.ref C_Beat) "turn" = some none)
    (na_Beat_more : PySem.W.findIn K (.ref C_Beat) "more" = some none)
    (in_Beat : PySem.W.findIn K (.ref C_Beat) "__init__" = some (some (.ref f_Beat___init__)))
    (fi_Beat : PySem.W.isFn K (.ref f_Beat___init__) = true)
    (mt_Beat_lets : PySem.W.findIn K (.ref C_Beat) "lets" = some (some (.ref f_Beat_lets)))
    (mf_Beat_lets : PySem.W.isFn K (.ref f_Beat_lets) = true)
    (mt_Beat_words : PySem.W.findIn K (.ref C_Beat) "words" = some (some (.ref f_Beat_words)))
    (mf_Beat_words : PySem.W.isFn K (.ref f_Beat_words) = true)
    (mt_Beat_is_exit : PySem.W.findIn K (.ref C_Beat) "is_exit" = some (some (.ref f_Door_is_exit)))
    (mf_Beat_is_exit : PySem.W.isFn K (.ref f_Door_is_exit) = true)
    (pg_Marked : PySem.W.plainGet K C_Marked Str.empty = true)
    (hd_Marked : PySem.W.hasDictIn K C_Marked = true)
    (po_Marked : PySem.W.plainOver K C_Marked = true)
    (sa_Marked : PySem.W.findIn K (.ref C_Marked) "__setattr__" = some (some (.builtin "object.__setattr__")))
    (mk_Marked : PySem.W.makesIn K C_Marked = true)
    (kc_Marked : PySem.W.keepIn K (.ref C_Marked) = true)
    (ha_Marked : PySem.W.findIn K (.ref C_Marked) "__class__" = some (some (.builtin "object.__class__")))
    (hm_Marked : PySem.W.mroIn K C_Marked (.type "object") = some true)
    (na_Marked_name : PySem.W.findIn K (.ref C_Marked) "name" = some none)
    (na_Marked_start : PySem.W.findIn K (.ref C_Marked) "start" = some none)
    (na_Marked_end : PySem.W.findIn K (.ref C_Marked) "end" = some none)
    (na_Marked_wide : PySem.W.findIn K (.ref C_Marked) "wide" = some none)
    (na_Marked_since : PySem.W.findIn K (.ref C_Marked) "since" = some none)
    (na_Marked_until : PySem.W.findIn K (.ref C_Marked) "until" = some none)
    (na_Marked_every : PySem.W.findIn K (.ref C_Marked) "every" = some none)
    (na_Marked_bits : PySem.W.findIn K (.ref C_Marked) "bits" = some none)
    (na_Marked_letting : PySem.W.findIn K (.ref C_Marked) "letting" = some none)
    (na_Marked_inner : PySem.W.findIn K (.ref C_Marked) "inner" = some none)
    (na_Marked_turn : PySem.W.findIn K (.ref C_Marked) "turn" = some none)
    (na_Marked_more : PySem.W.findIn K (.ref C_Marked) "more" = some none)
    (in_Marked : PySem.W.findIn K (.ref C_Marked) "__init__" = some (some (.ref f_Marked___init__)))
    (fi_Marked : PySem.W.isFn K (.ref f_Marked___init__) = true)
    (mt_Marked_lets : PySem.W.findIn K (.ref C_Marked) "lets" = some (some (.ref f_Marked_lets)))
    (mf_Marked_lets : PySem.W.isFn K (.ref f_Marked_lets) = true)
    (mt_Marked_words : PySem.W.findIn K (.ref C_Marked) "words" = some (some (.ref f_Marked_words)))
    (mf_Marked_words : PySem.W.isFn K (.ref f_Marked_words) = true)
    (mt_Marked_is_exit : PySem.W.findIn K (.ref C_Marked) "is_exit" = some (some (.ref f_Door_is_exit)))
    (mf_Marked_is_exit : PySem.W.isFn K (.ref f_Door_is_exit) = true)
    (pg_Told : PySem.W.plainGet K C_Told Str.empty = true)
    (hd_Told : PySem.W.hasDictIn K C_Told = true)
    (po_Told : PySem.W.plainOver K C_Told = true)
    (sa_Told : PySem.W.findIn K (.ref C_Told) "__setattr__" = some (some (.builtin "object.__setattr__")))
    (mk_Told : PySem.W.makesIn K C_Told = true)
    (kc_Told : PySem.W.keepIn K (.ref C_Told) = true)
    (ha_Told : PySem.W.findIn K (.ref C_Told) "__class__" = some (some (.builtin "object.__class__")))
    (hm_Told : PySem.W.mroIn K C_Told (.type "object") = some true)
    (na_Told_name : PySem.W.findIn K (.ref C_Told) "name" = some none)
    (na_Told_start : PySem.W.findIn K (.ref C_Told) "start" = some none)
    (na_Told_end : PySem.W.findIn K (.ref C_Told) "end" = some none)
    (na_Told_wide : PySem.W.findIn K (.ref C_Told) "wide" = some none)
    (na_Told_since : PySem.W.findIn K (.ref C_Told) "since" = some none)
    (na_Told_until : PySem.W.findIn K (.ref C_Told) "until" = some none)
    (na_Told_every : PySem.W.findIn K (.ref C_Told) "every" = some none)
    (na_Told_bits : PySem.W.findIn K (.ref C_Told) "bits" = some none)
    (na_Told_letting : PySem.W.findIn K (.ref C_Told) "letting" = some none)
    (na_Told_inner : PySem.W.findIn K (.ref C_Told) "inner" = some none)
    (na_Told_turn : PySem.W.findIn K (.ref C_Told) "turn" = some none)
    (na_Told_more : PySem.W.findIn K (.ref C_Told) "more" = some none)
    (in_Told : PySem.W.findIn K (.ref C_Told) "__init__" = some (some (.ref f_Told___init__)))
    (fi_Told : PySem.W.isFn K (.ref f_Told___init__) = true)
    (mt_Told_lets : PySem.W.findIn K (.ref C_Told) "lets" = some (some (.ref f_Told_lets)))
    (mf_Told_lets : PySem.W.isFn K (.ref f_Told_lets) = true)
    (mt_Told_words : PySem.W.findIn K (.ref C_Told) "words" = some (some (.ref f_Told_words)))
    (mf_Told_words : PySem.W.isFn K (.ref f_Told_words) = true)
    (mt_Told_is_exit : PySem.W.findIn K (.ref C_Told) "is_exit" = some (some (.ref f_Door_is_exit)))
    (mf_Told_is_exit : PySem.W.isFn K (.ref f_Door_is_exit) = true)
    (pg_Shut : PySem.W.plainGet K C_Shut Str.empty = true)
    (hd_Shut : PySem.W.hasDictIn K C_Shut = true)
    (po_Shut : PySem.W.plainOver K C_Shut = true)
    (sa_Shut : PySem.W.findIn K (.ref C_Shut) "__setattr__" = some (some (.builtin "object.__setattr__")))
    (mk_Shut : PySem.W.makesIn K C_Shut = true)
    (kc_Shut : PySem.W.keepIn K (.ref C_Shut) = true)
    (ha_Shut : PySem.W.findIn K (.ref C_Shut) "__class__" = some (some (.builtin "object.__class__")))
    (hm_Shut : PySem.W.mroIn K C_Shut (.type "object") = some true)
    (na_Shut_name : PySem.W.findIn K (.ref C_Shut) "name" = some none)
    (na_Shut_start : PySem.W.findIn K (.ref C_Shut) "start" = some none)
    (na_Shut_end : PySem.W.findIn K (.ref C_Shut) "end" = some none)
    (na_Shut_wide : PySem.W.findIn K (.ref C_Shut) "wide" = some none)
    (na_Shut_since : PySem.W.findIn K (.ref C_Shut) "since" = some none)
    (na_Shut_until : PySem.W.findIn K (.ref C_Shut) "until" = some none)
    (na_Shut_every : PySem.W.findIn K (.ref C_Shut) "every" = some none)
    (na_Shut_bits : PySem.W.findIn K (.ref C_Shut) "bits" = some none)
    (na_Shut_letting : PySem.W.findIn K (.ref C_Shut) "letting" = some none)
    (na_Shut_inner : PySem.W.findIn K (.ref C_Shut) "inner" = some none)
    (na_Shut_turn : PySem.W.findIn K (.ref C_Shut) "turn" = some none)
    (na_Shut_more : PySem.W.findIn K (.ref C_Shut) "more" = some none)
    (in_Shut : PySem.W.findIn K (.ref C_Shut) "__init__" = some (some (.ref f_Shut___init__)))
    (fi_Shut : PySem.W.isFn K (.ref f_Shut___init__) = true)
    (mt_Shut_lets : PySem.W.findIn K (.ref C_Shut) "lets" = some (some (.ref f_Shut_lets)))
    (mf_Shut_lets : PySem.W.isFn K (.ref f_Shut_lets) = true)
    (mt_Shut_words : PySem.W.findIn K (.ref C_Shut) "words" = some (some (.ref f_Shut_words)))
    (mf_Shut_words : PySem.W.isFn K (.ref f_Shut_words) = true)
    (mt_Shut_is_exit : PySem.W.findIn K (.ref C_Shut) "is_exit" = some (some (.ref f_Door_is_exit)))
    (mf_Shut_is_exit : PySem.W.isFn K (.ref f_Door_is_exit) = true)
    (pg_Wider : PySem.W.plainGet K C_Wider Str.empty = true)
    (hd_Wider : PySem.W.hasDictIn K C_Wider = true)
    (po_Wider : PySem.W.plainOver K C_Wider = true)
    (sa_Wider : PySem.W.findIn K (.ref C_Wider) "__setattr__" = some (some (.builtin "object.__setattr__")))
    (mk_Wider : PySem.W.makesIn K C_Wider = true)
    (kc_Wider : PySem.W.keepIn K (.ref C_Wider) = true)
    (ha_Wider : PySem.W.findIn K (.ref C_Wider) "__class__" = some (some (.builtin "object.__class__")))
    (hm_Wider : PySem.W.mroIn K C_Wider (.type "object") = some true)
    (na_Wider_name : PySem.W.findIn K (.ref C_Wider) "name" = some none)
    (na_Wider_start : PySem.W.findIn K (.ref C_Wider) "start" = some none)
    (na_Wider_end : PySem.W.findIn K (.ref C_Wider) "end" = some none)
    (na_Wider_wide : PySem.W.findIn K (.ref C_Wider) "wide" = some none)
    (na_Wider_since : PySem.W.findIn K (.ref C_Wider) "since" = some none)
    (na_Wider_until : PySem.W.findIn K (.ref C_Wider) "until" = some none)
    (na_Wider_every : PySem.W.findIn K (.ref C_Wider) "every" = some none)
    (na_Wider_bits : PySem.W.findIn K (.ref C_Wider) "bits" = some none)
    (na_Wider_letting : PySem.W.findIn K (.ref C_Wider) "letting" = some none)
    (na_Wider_inner : PySem.W.findIn K (.ref C_Wider) "inner" = some none)
    (na_Wider_turn : PySem.W.findIn K (.ref C_Wider) "turn" = some none)
    (na_Wider_more : PySem.W.findIn K (.ref C_Wider) "more" = some none)
    (in_Wider : PySem.W.findIn K (.ref C_Wider) "__init__" = some (some (.ref f_Wider___init__)))
    (fi_Wider : PySem.W.isFn K (.ref f_Wider___init__) = true)
    (mt_Wider_lets : PySem.W.findIn K (.ref C_Wider) "lets" = some (some (.ref f_Wider_lets)))
    (mf_Wider_lets : PySem.W.isFn K (.ref f_Wider_lets) = true)
    (mt_Wider_words : PySem.W.findIn K (.ref C_Wider) "words" = some (some (.ref f_Wider_words)))
    (mf_Wider_words : PySem.W.isFn K (.ref f_Wider_words) = true)
    (mt_Wider_is_exit : PySem.W.findIn K (.ref C_Wider) "is_exit" = some (some (.ref f_Door_is_exit)))
    (mf_Wider_is_exit : PySem.W.isFn K (.ref f_Door_is_exit) = true)
    (hn_obj : PySem.W.specialIn K (.builtin "object.__class__") "__get__" = some (some (.builtin "getset_descriptor.__get__")))
    (tk_obj : PySem.W.takesIn K (.builtin "object.__class__") = some true)
    (d1_Door___init__ : PySem.W.specialIn K (.ref C_Door) "__getattribute__" = some (some (.builtin "type.__getattribute__")))
    (d2_Door___init__ : PySem.W.readsIn K C_Door (.type "type") = true)
    (d3_Door___init__ : PySem.W.findCls K (.ref C_Door) (.type "type") "__init__" = some (.val (.ref f_Door___init__)))
    (ci_Door : PySem.W.clsIn K C_Door = some cc_Door)
    (ti_Door : PySem.W.typeIn K (.ref C_Door) = some (.type "type"))
    (ci_Shut : PySem.W.clsIn K C_Shut = some cc_Shut)
    (ti_Shut : PySem.W.typeIn K (.ref C_Shut) = some (.type "type"))
    (si_Door_Shut : PySem.W.subIn K (.ref C_Door) (.ref C_Shut) = some false)
    (ne_Door_Shut : (Value.ref C_Door == Value.ref C_Shut) = false)
    (ci_Wider : PySem.W.clsIn K C_Wider = some cc_Wider)
    (ti_Wider : PySem.W.typeIn K (.ref C_Wider) = some (.type "type"))
    (si_Door_Wider : PySem.W.subIn K (.ref C_Door) (.ref C_Wider) = some false)
    (ne_Door_Wider : (Value.ref C_Door == Value.ref C_Wider) = false)
    (ci_Told : PySem.W.clsIn K C_Told = some cc_Told)
    (ti_Told : PySem.W.typeIn K (.ref C_Told) = some (.type "type"))
    (si_Door_Told : PySem.W.subIn K (.ref C_Door) (.ref C_Told) = some false)
    (ne_Door_Told : (Value.ref C_Door == Value.ref C_Told) = false)
    (si_Since_Door : PySem.W.subIn K (.ref C_Since) (.ref C_Door) = some true)
    (ne_Since_Door : (Value.ref C_Since == Value.ref C_Door) = false)
    (si_Since_Shut : PySem.W.subIn K (.ref C_Since) (.ref C_Shut) = some false)
    (ne_Since_Shut : (Value.ref C_Since == Value.ref C_Shut) = false)
    (si_Since_Wider : PySem.W.subIn K (.ref C_Since) (.ref C_Wider) = some false)
    (ne_Since_Wider : (Value.ref C_Since == Value.ref C_Wider) = false)
    (si_Since_Told : PySem.W.subIn K (.ref C_Since) (.ref C_Told) = some false)
    (ne_Since_Told : (Value.ref C_Since == Value.ref C_Told) = false)
    (si_Until_Door : PySem.W.subIn K (.ref C_Until) (.ref C_Door) = some true)
    (ne_Until_Door : (Value.ref C_Until == Value.ref C_Door) = false)
    (si_Until_Shut : PySem.W.subIn K (.ref C_Until) (.ref C_Shut) = some false)
    (ne_Until_Shut : (Value.ref C_Until == Value.ref C_Shut) = false)
    (si_Until_Wider : PySem.W.subIn K (.ref C_Until) (.ref C_Wider) = some false)
    (ne_Until_Wider : (Value.ref C_Until == Value.ref C_Wider) = false)
    (si_Until_Told : PySem.W.subIn K (.ref C_Until) (.ref C_Told) = some false)
    (ne_Until_Told : (Value.ref C_Until == Value.ref C_Told) = false)
    (si_Beat_Door : PySem.W.subIn K (.ref C_Beat) (.ref C_Door) = some true)
    (ne_Beat_Door : (Value.ref C_Beat == Value.ref C_Door) = false)
    (si_Beat_Shut : PySem.W.subIn K (.ref C_Beat) (.ref C_Shut) = some false)
    (ne_Beat_Shut : (Value.ref C_Beat == Value.ref C_Shut) = false)
    (si_Beat_Wider : PySem.W.subIn K (.ref C_Beat) (.ref C_Wider) = some false)
    (ne_Beat_Wider : (Value.ref C_Beat == Value.ref C_Wider) = false)
    (si_Beat_Told : PySem.W.subIn K (.ref C_Beat) (.ref C_Told) = some false)
    (ne_Beat_Told : (Value.ref C_Beat == Value.ref C_Told) = false)
    (si_Marked_Door : PySem.W.subIn K (.ref C_Marked) (.ref C_Door) = some true)
    (ne_Marked_Door : (Value.ref C_Marked == Value.ref C_Door) = false)
    (si_Marked_Shut : PySem.W.subIn K (.ref C_Marked) (.ref C_Shut) = some false)
    (ne_Marked_Shut : (Value.ref C_Marked == Value.ref C_Shut) = false)
    (si_Marked_Wider : PySem.W.subIn K (.ref C_Marked) (.ref C_Wider) = some false)
    (ne_Marked_Wider : (Value.ref C_Marked == Value.ref C_Wider) = false)
    (si_Marked_Told : PySem.W.subIn K (.ref C_Marked) (.ref C_Told) = some false)
    (ne_Marked_Told : (Value.ref C_Marked == Value.ref C_Told) = false)
    (si_Told_Door : PySem.W.subIn K (.ref C_Told) (.ref C_Door) = some true)
    (ne_Told_Door : (Value.ref C_Told == Value.ref C_Door) = false)
    (si_Told_Shut : PySem.W.subIn K (.ref C_Told) (.ref C_Shut) = some false)
    (ne_Told_Shut : (Value.ref C_Told == Value.ref C_Shut) = false)
    (si_Told_Wider : PySem.W.subIn K (.ref C_Told) (.ref C_Wider) = some false)
    (ne_Told_Wider : (Value.ref C_Told == Value.ref C_Wider) = false)
    (si_Shut_Door : PySem.W.subIn K (.ref C_Shut) (.ref C_Door) = some true)
    (ne_Shut_Door : (Value.ref C_Shut == Value.ref C_Door) = false)
    (si_Shut_Wider : PySem.W.subIn K (.ref C_Shut) (.ref C_Wider) = some false)
    (ne_Shut_Wider : (Value.ref C_Shut == Value.ref C_Wider) = false)
    (si_Shut_Told : PySem.W.subIn K (.ref C_Shut) (.ref C_Told) = some false)
    (ne_Shut_Told : (Value.ref C_Shut == Value.ref C_Told) = false)
    (si_Wider_Door : PySem.W.subIn K (.ref C_Wider) (.ref C_Door) = some true)
    (ne_Wider_Door : (Value.ref C_Wider == Value.ref C_Door) = false)
    (si_Wider_Shut : PySem.W.subIn K (.ref C_Wider) (.ref C_Shut) = some false)
    (ne_Wider_Shut : (Value.ref C_Wider == Value.ref C_Shut) = false)
    (si_Wider_Told : PySem.W.subIn K (.ref C_Wider) (.ref C_Told) = some false)
    (ne_Wider_Told : (Value.ref C_Wider == Value.ref C_Told) = false)
    (xe_NoText : PySem.W.excIn K C_NoText bmV "ValueError.__new__" = true)
    (xg_NoText : PySem.W.findIn K (.ref C_NoText) "__getattribute__" = some (some (.builtin "BaseException.__getattribute__")))
    (xh_NoText : PySem.W.findIn K (.ref C_NoText) "__getattr__" = some none)
    (xc_NoText : PySem.W.findIn K (.ref C_NoText) "__class__" = some (some (.builtin "object.__class__")))
    (xo_NoText : PySem.W.subIn K (.ref C_NoText) (.type "object") = some true)
    (xb_NoText : PySem.W.subIn K (.ref C_NoText) (.type "BaseException") = some true)
    (xd_NoText : PySem.W.clsIn K C_NoText = some cx_NoText)
    (e1_NoText_NoText : PySem.W.clsIn K C_NoText = some cm_NoText)
    (e2_NoText_NoText : PySem.W.typeIn K (.ref C_NoText) = some (.type "type"))
    (e3_NoText_NoText : PySem.W.subIn K (.ref C_NoText) (.type "BaseException") = some true)
    (e4_NoText_NoText : PySem.W.subIn K (.ref C_NoText) (.ref C_NoText) = some true)
    (i1_NoText_NoDoor : PySem.W.clsIn K C_NoDoor = some cy_NoText_NoDoor)
    (i2_NoText_NoDoor : PySem.W.typeIn K (.ref C_NoDoor) = some (.type "type"))
    (i3_NoText_NoDoor : PySem.W.subIn K (.ref C_NoText) (.ref C_NoDoor) = some false)
    (i4_NoText_NoDoor : (Value.ref C_NoText == Value.ref C_NoDoor) = false)
    (z_ValueError : PySem.W.nsIn K mainGlobals "ValueError" = some none)
    (z_range : PySem.W.nsIn K mainGlobals "range" = some none)
    (z_isinstance : PySem.W.nsIn K mainGlobals "isinstance" = some none)
    (z_int : PySem.W.nsIn K mainGlobals "int" = some none)
    (z_str : PySem.W.nsIn K mainGlobals "str" = some none)
    (z_all : PySem.W.nsIn K mainGlobals "all" = some none)
    (z_len : PySem.W.nsIn K mainGlobals "len" = some none)
    (z_list : PySem.W.nsIn K mainGlobals "list" = some none)
    (z_bool : PySem.W.nsIn K mainGlobals "bool" = some none)
    (z_min : PySem.W.nsIn K mainGlobals "min" = some none)
    (q_LONGEST_NAME : PySem.W.nsIn K mainGlobals "LONGEST_NAME" = some (some (.int 8 t_LONGEST_NAME))) :
    ∃ (fd : FuncData) (f2 : Addr) (fd2 : FuncData), mg "_law_inner" = some (.ref f2) ∧ (∃ oc od osl, K.lookup f2 = some ⟨oc, od, .func fd2, osl⟩) ∧ (∀ (s : Shared) (v : Value), BindsTo s fd ⟨[v], []⟩ [("_law_script", v)]) ∧ ∀ (base : Heap) (cL PL : Addr), fd2.code = .ref cL → PySem.W.CodeHd base cL PL → base.BuiltinsAt mg PL → FnOk l.prog w K mg base CX0 30 fa fd ["_law_script"] (sp_law K PL) := by
  have e := hfa.symm.trans (PySem.W.mg_of X G a_law)
  cases e
  have F_is_whole := funV_mk (st := s_is_whole) l_is_whole c_is_whole k_is_whole
  have b_is_whole := binds_n (K := K) (x := "is_whole") (qual := "is_whole") (st := s_is_whole) (kV := kV_is_whole) (doc := dc_is_whole) (pm := pm_is_whole) (an := an_is_whole) (cdv := cd_is_whole) (ct := ct_is_whole) (ps := ["thing"]) <| of_allN 1 _ fun _ => rfl
  have F_is_name := funV_mk (st := s_is_name) l_is_name c_is_name k_is_name
  have b_is_name := binds_n (K := K) (x := "is_name") (qual := "is_name") (st := s_is_name) (kV := kV_is_name) (doc := dc_is_name) (pm := pm_is_name) (an := an_is_name) (cdv := cd_is_name) (ct := ct_is_name) (ps := ["thing"]) <| of_allN 1 _ fun _ => rfl
  have F_need_name := funV_mk (st := s_need_name) l_need_name c_need_name k_need_name
  have b_need_name := binds_n (K := K) (x := "need_name") (qual := "need_name") (st := s_need_name) (kV := kV_need_name) (doc := dc_need_name) (pm := pm_need_name) (an := an_need_name) (cdv := cd_need_name) (ct := ct_need_name) (ps := ["part", "thing"]) <| of_allN 2 _ fun _ _ => rfl
  have F_need_whole := funV_mk (st := s_need_whole) l_need_whole c_need_whole k_need_whole
  have b_need_whole := binds_n (K := K) (x := "need_whole") (qual := "need_whole") (st := s_need_whole) (kV := kV_need_whole) (doc := dc_need_whole) (pm := pm_need_whole) (an := an_need_whole) (cdv := cd_need_whole) (ct := ct_need_whole) (ps := ["part", "thing", "least"]) <| of_allN 3 _ fun _ _ _ => rfl
  have F_row_of_words := funV_mk (st := s_row_of_words) l_row_of_words c_row_of_words k_row_of_words
  have b_row_of_words := binds_n (K := K) (x := "row_of_words") (qual := "row_of_words") (st := s_row_of_words) (kV := kV_row_of_words) (doc := dc_row_of_words) (pm := pm_row_of_words) (an := an_row_of_words) (cdv := cd_row_of_words) (ct := ct_row_of_words) (ps := ["kind", "door", "numbers"]) <| of_allN 3 _ fun _ _ _ => rfl
  have F__law_cell_at := funV_mk (st := s__law_cell_at) l__law_cell_at c__law_cell_at k__law_cell_at
  have b__law_cell_at := binds_n (K := K) (x := "_law_cell_at") (qual := "_law_cell_at") (st := s__law_cell_at) (kV := kV__law_cell_at) (doc := dc__law_cell_at) (pm := pm__law_cell_at) (an := an__law_cell_at) (cdv := cd__law_cell_at) (ct := ct__law_cell_at) (ps := ["_law_script", "_law_k"]) <| of_allN 2 _ fun _ _ => rfl
  have F__law_drawn := funV_mk (st := s__law_drawn) l__law_drawn c__law_drawn k__law_drawn
  have b__law_drawn := binds_n (K := K) (x := "_law_drawn") (qual := "_law_drawn") (st := s__law_drawn) (kV := kV__law_drawn) (doc := dc__law_drawn) (pm := pm__law_drawn) (an := an__law_drawn) (cdv := cd__law_drawn) (ct := ct__law_drawn) (ps := ["_law_cell", "_law_k"]) <| of_allN 2 _ fun _ _ => rfl
  have F__law_name := funV_mk (st := s__law_name) l__law_name c__law_name k__law_name
  have b__law_name := binds_n (K := K) (x := "_law_name") (qual := "_law_name") (st := s__law_name) (kV := kV__law_name) (doc := dc__law_name) (pm := pm__law_name) (an := an__law_name) (cdv := cd__law_name) (ct := ct__law_name) (ps := ["_law_cell", "_law_k"]) <| of_allN 2 _ fun _ _ => rfl
  have F__law_turn := funV_mk (st := s__law_turn) l__law_turn c__law_turn k__law_turn
  have b__law_turn := binds_n (K := K) (x := "_law_turn") (qual := "_law_turn") (st := s__law_turn) (kV := kV__law_turn) (doc := dc__law_turn) (pm := pm__law_turn) (an := an__law_turn) (cdv := cd__law_turn) (ct := ct__law_turn) (ps := ["_law_cell"]) <| of_allN 1 _ fun _ => rfl
  have F__law_letting := funV_mk (st := s__law_letting) l__law_letting c__law_letting k__law_letting
  have b__law_letting := binds_n (K := K) (x := "_law_letting") (qual := "_law_letting") (st := s__law_letting) (kV := kV__law_letting) (doc := dc__law_letting) (pm := pm__law_letting) (an := an__law_letting) (cdv := cd__law_letting) (ct := ct__law_letting) (ps := ["_law_cell", "_law_turn_here"]) <| of_allN 2 _ fun _ _ => rfl
  have F__law_inner := funV_mk (st := s__law_inner) l__law_inner c__law_inner k__law_inner
  have b__law_inner := binds_n (K := K) (x := "_law_inner") (qual := "_law_inner") (st := s__law_inner) (kV := kV__law_inner) (doc := dc__law_inner) (pm := pm__law_inner) (an := an__law_inner) (cdv := cd__law_inner) (ct := ct__law_inner) (ps := ["_law_script", "_law_names", "_law_wide"]) <| of_allN 3 _ fun _ _ _ => rfl
  have F__law_inner_due := funV_mk (st := s__law_inner_due) l__law_inner_due c__law_inner_due k__law_inner_due
  have b__law_inner_due := binds_n (K := K) (x := "_law_inner_due") (qual := "_law_inner_due") (st := s__law_inner_due) (kV := kV__law_inner_due) (doc := dc__law_inner_due) (pm := pm__law_inner_due) (an := an__law_inner_due) (cdv := cd__law_inner_due) (ct := ct__law_inner_due) (ps := ["_law_script", "_law_wide", "_law_turn_here"]) <| of_allN 3 _ fun _ _ _ => rfl
  have F__law_rounds := funV_mk (st := s__law_rounds) l__law_rounds c__law_rounds k__law_rounds
  have b__law_rounds := binds_n (K := K) (x := "_law_rounds") (qual := "_law_rounds") (st := s__law_rounds) (kV := kV__law_rounds) (doc := dc__law_rounds) (pm := pm__law_rounds) (an := an__law_rounds) (cdv := cd__law_rounds) (ct := ct__law_rounds) (ps := ["_law_script"]) <| of_allN 1 _ fun _ => rfl
  have F__law_due := funV_mk (st := s__law_due) l__law_due c__law_due k__law_due
  have b__law_due := binds_n (K := K) (x := "_law_due") (qual := "_law_due") (st := s__law_due) (kV := kV__law_due) (doc := dc__law_due) (pm := pm__law_due) (an := an__law_due) (cdv := cd__law_due) (ct := ct__law_due) (ps := ["_law_script", "_law_wide", "_law_rounds_here", "_law_turn_here"]) <| of_allN 4 _ fun _ _ _ _ => rfl
  have F__law_words := funV_mk (st := s__law_words) l__law_words c__law_words k__law_words
  have b__law_words := binds_n (K := K) (x := "_law_words") (qual := "_law_words") (st := s__law_words) (kV := kV__law_words) (doc := dc__law_words) (pm := pm__law_words) (an := an__law_words) (cdv := cd__law_words) (ct := ct__law_words) (ps := ["_law_door", "_law_due_here"]) <| of_allN 2 _ fun _ _ => rfl
  have F__law_right := funV_mk (st := s__law_right) l__law_right c__law_right k__law_right
  have b__law_right := binds_n (K := K) (x := "_law_right") (qual := "_law_right") (st := s__law_right) (kV := kV__law_right) (doc := dc__law_right) (pm := pm__law_right) (an := an__law_right) (cdv := cd__law_right) (ct := ct__law_right) (ps := ["_law_script", "_law_door", "_law_names", "_law_wide", "_law_rounds_here", "_law_due_here"]) <| of_allN 6 _ fun _ _ _ _ _ _ => rfl
  have F_law := funV_mk (st := s_law) l_law c_law k_law
  have b_law := binds_n (K := K) (x := "law") (qual := "law") (st := s_law) (kV := kV_law) (doc := dc_law) (pm := pm_law) (an := an_law) (cdv := cd_law) (ct := ct_law) (ps := ["_law_script"]) <| of_allN 1 _ fun _ => rfl
  have F_Door___init__ := funV_mk (st := s_Door___init__) l_Door___init__ c_Door___init__ k_Door___init__
  have b_Door___init__ := binds_d 5 (K := K) (x := "__init__") (qual := "Door.__init__") (st := s_Door___init__) (kV := kV_Door___init__) (doc := dc_Door___init__) (pm := pm_Door___init__) (an := an_Door___init__) (cdv := cd_Door___init__) (ct := ct_Door___init__) (ps := ["self", "name", "start", "end", "wide"]) (ds := []) t_Door___init__ <| of_allN 5 _ fun _ _ _ _ _ => ⟨_, rfl, rfl⟩
  have bx_Door___init___1 := binds_d 4 (K := K) (x := "__init__") (qual := "Door.__init__") (st := s_Door___init__) (kV := kV_Door___init__) (doc := dc_Door___init__) (pm := pm_Door___init__) (an := an_Door___init__) (cdv := cd_Door___init__) (ct := ct_Door___init__) (ps := ["self", "name", "start", "end", "wide"]) (ds := [.int 1 tk_Door___init___1]) t_Door___init__ <| of_allN 4 _ fun _ _ _ _ => ⟨_, rfl, rfl⟩
  have bx_Door___init___2 := binds_d 3 (K := K) (x := "__init__") (qual := "Door.__init__") (st := s_Door___init__) (kV := kV_Door___init__) (doc := dc_Door___init__) (pm := pm_Door___init__) (an := an_Door___init__) (cdv := cd_Door___init__) (ct := ct_Door___init__) (ps := ["self", "name", "start", "end", "wide"]) (ds := [.none, .int 1 tk_Door___init___1]) t_Door___init__ <| of_allN 3 _ fun _ _ _ => ⟨_, rfl, rfl⟩
  have F_Door_lets := funV_mk (st := s_Door_lets) l_Door_lets c_Door_lets k_Door_lets
  have b_Door_lets := binds_n (K := K) (x := "lets") (qual := "Door.lets") (st := s_Door_lets) (kV := kV_Door_lets) (doc := dc_Door_lets) (pm := pm_Door_lets) (an := an_Door_lets) (cdv := cd_Door_lets) (ct := ct_Door_lets) (ps := ["self", "turn"]) <| of_allN 2 _ fun _ _ => rfl
  have F_Door_is_exit := funV_mk (st := s_Door_is_exit) l_Door_is_exit c_Door_is_exit k_Door_is_exit
  have b_Door_is_exit := binds_n (K := K) (x := "is_exit") (qual := "Door.is_exit") (st := s_Door_is_exit) (kV := kV_Door_is_exit) (doc := dc_Door_is_exit) (pm := pm_Door_is_exit) (an := an_Door_is_exit) (cdv := cd_Door_is_exit) (ct := ct_Door_is_exit) (ps := ["self"]) <| of_allN 1 _ fun _ => rfl
  have F_Door_words := funV_mk (st := s_Door_words) l_Door_words c_Door_words k_Door_words
  have b_Door_words := binds_n (K := K) (x := "words") (qual := "Door.words") (st := s_Door_words) (kV := kV_Door_words) (doc := dc_Door_words) (pm := pm_Door_words) (an := an_Door_words) (cdv := cd_Door_words) (ct := ct_Door_words) (ps := ["self"]) <| of_allN 1 _ fun _ => rfl
  have F_Since___init__ := funV_mk (st := s_Since___init__) l_Since___init__ c_Since___init__ k_Since___init__
  have b_Since___init__ := binds_n (K := K) (x := "__init__") (qual := "Since.__init__") (st := s_Since___init__) (kV := kV_Since___init__) (doc := dc_Since___init__) (pm := pm_Since___init__) (an := an_Since___init__) (cdv := cd_Since___init__) (ct := ct_Since___init__) (ps := ["self", "name", "start", "end", "wide", "since"]) <| of_allN 6 _ fun _ _ _ _ _ _ => rfl
  have F_Since_lets := funV_mk (st := s_Since_lets) l_Since_lets c_Since_lets k_Since_lets
  have b_Since_lets := binds_n (K := K) (x := "lets") (qual := "Since.lets") (st := s_Since_lets) (kV := kV_Since_lets) (doc := dc_Since_lets) (pm := pm_Since_lets) (an := an_Since_lets) (cdv := cd_Since_lets) (ct := ct_Since_lets) (ps := ["self", "turn"]) <| of_allN 2 _ fun _ _ => rfl
  have F_Since_words := funV_mk (st := s_Since_words) l_Since_words c_Since_words k_Since_words
  have b_Since_words := binds_n (K := K) (x := "words") (qual := "Since.words") (st := s_Since_words) (kV := kV_Since_words) (doc := dc_Since_words) (pm := pm_Since_words) (an := an_Since_words) (cdv := cd_Since_words) (ct := ct_Since_words) (ps := ["self"]) <| of_allN 1 _ fun _ => rfl
  have F_Until___init__ := funV_mk (st := s_Until___init__) l_Until___init__ c_Until___init__ k_Until___init__
  have b_Until___init__ := binds_n (K := K) (x := "__init__") (qual := "Until.__init__") (st := s_Until___init__) (kV := kV_Until___init__) (doc := dc_Until___init__) (pm := pm_Until___init__) (an := an_Until___init__) (cdv := cd_Until___init__) (ct := ct_Until___init__) (ps := ["self", "name", "start", "end", "wide", "until"]) <| of_allN 6 _ fun _ _ _ _ _ _ => rfl
  have F_Until_lets := funV_mk (st := s_Until_lets) l_Until_lets c_Until_lets k_Until_lets
  have b_Until_lets := binds_n (K := K) (x := "lets") (qual := "Until.lets") (st := s_Until_lets) (kV := kV_Until_lets) (doc := dc_Until_lets) (pm := pm_Until_lets) (an := an_Until_lets) (cdv := cd_Until_lets) (ct := ct_Until_lets) (ps := ["self", "turn"]) <| of_allN 2 _ fun _ _ => rfl
  have F_Until_words := funV_mk (st := s_Until_words) l_Until_words c_Until_words k_Until_words
  have b_Until_words := binds_n (K := K) (x := "words") (qual := "Until.words") (st := s_Until_words) (kV := kV_Until_words) (doc := dc_Until_words) (pm := pm_Until_words) (an := an_Until_words) (cdv := cd_Until_words) (ct := ct_Until_words) (ps := ["self"]) <| of_allN 1 _ fun _ => rfl
  have F_Beat___init__ := funV_mk (st := s_Beat___init__) l_Beat___init__ c_Beat___init__ k_Beat___init__
  have b_Beat___init__ := binds_d 7 (K := K) (x := "__init__") (qual := "Beat.__init__") (st := s_Beat___init__) (kV := kV_Beat___init__) (doc := dc_Beat___init__) (pm := pm_Beat___init__) (an := an_Beat___init__) (cdv := cd_Beat___init__) (ct := ct_Beat___init__) (ps := ["self", "name", "start", "end", "wide", "every", "since"]) (ds := []) t_Beat___init__ <| of_allN 7 _ fun _ _ _ _ _ _ _ => ⟨_, rfl, rfl⟩
  have bx_Beat___init___1 := binds_d 6 (K := K) (x := "__init__") (qual := "Beat.__init__") (st := s_Beat___init__) (kV := kV_Beat___init__) (doc := dc_Beat___init__) (pm := pm_Beat___init__) (an := an_Beat___init__) (cdv := cd_Beat___init__) (ct := ct_Beat___init__) (ps := ["self", "name", "start", "end", "wide", "every", "since"]) (ds := [.int 0 tk_Beat___init___0]) t_Beat___init__ <| of_allN 6 _ fun _ _ _ _ _ _ => ⟨_, rfl, rfl⟩
  have F_Beat_lets := funV_mk (st := s_Beat_lets) l_Beat_lets c_Beat_lets k_Beat_lets
  have b_Beat_lets := binds_n (K := K) (x := "lets") (qual := "Beat.lets") (st := s_Beat_lets) (kV := kV_Beat_lets) (doc := dc_Beat_lets) (pm := pm_Beat_lets) (an := an_Beat_lets) (cdv := cd_Beat_lets) (ct := ct_Beat_lets) (ps := ["self", "turn"]) <| of_allN 2 _ fun _ _ => rfl
  have F_Beat_words := funV_mk (st := s_Beat_words) l_Beat_words c_Beat_words k_Beat_words
  have b_Beat_words := binds_n (K := K) (x := "words") (qual := "Beat.words") (st := s_Beat_words) (kV := kV_Beat_words) (doc := dc_Beat_words) (pm := pm_Beat_words) (an := an_Beat_words) (cdv := cd_Beat_words) (ct := ct_Beat_words) (ps := ["self"]) <| of_allN 1 _ fun _ => rfl
  have F_Marked___init__ := funV_mk (st := s_Marked___init__) l_Marked___init__ c_Marked___init__ k_Marked___init__
  have b_Marked___init__ := binds_n (K := K) (x := "__init__") (qual := "Marked.__init__") (st := s_Marked___init__) (kV := kV_Marked___init__) (doc := dc_Marked___init__) (pm := pm_Marked___init__) (an := an_Marked___init__) (cdv := cd_Marked___init__) (ct := ct_Marked___init__) (ps := ["self", "name", "start", "end", "wide", "bits"]) <| of_allN 6 _ fun _ _ _ _ _ _ => rfl
  have F_Marked_lets := funV_mk (st := s_Marked_lets) l_Marked_lets c_Marked_lets k_Marked_lets
  have b_Marked_lets := binds_n (K := K) (x := "lets") (qual := "Marked.lets") (st := s_Marked_lets) (kV := kV_Marked_lets) (doc := dc_Marked_lets) (pm := pm_Marked_lets) (an := an_Marked_lets) (cdv := cd_Marked_lets) (ct := ct_Marked_lets) (ps := ["self", "turn"]) <| of_allN 2 _ fun _ _ => rfl
  have F_Marked_words := funV_mk (st := s_Marked_words) l_Marked_words c_Marked_words k_Marked_words
  have b_Marked_words := binds_n (K := K) (x := "words") (qual := "Marked.words") (st := s_Marked_words) (kV := kV_Marked_words) (doc := dc_Marked_words) (pm := pm_Marked_words) (an := an_Marked_words) (cdv := cd_Marked_words) (ct := ct_Marked_words) (ps := ["self"]) <| of_allN 1 _ fun _ => rfl
  have F_Told___init__ := funV_mk (st := s_Told___init__) l_Told___init__ c_Told___init__ k_Told___init__
  have b_Told___init__ := binds_n (K := K) (x := "__init__") (qual := "Told.__init__") (st := s_Told___init__) (kV := kV_Told___init__) (doc := dc_Told___init__) (pm := pm_Told___init__) (an := an_Told___init__) (cdv := cd_Told___init__) (ct := ct_Told___init__) (ps := ["self", "name", "start", "end", "letting"]) <| of_allN 5 _ fun _ _ _ _ _ => rfl
  have F_Told_lets := funV_mk (st := s_Told_lets) l_Told_lets c_Told_lets k_Told_lets
  have b_Told_lets := binds_n (K := K) (x := "lets") (qual := "Told.lets") (st := s_Told_lets) (kV := kV_Told_lets) (doc := dc_Told_lets) (pm := pm_Told_lets) (an := an_Told_lets) (cdv := cd_Told_lets) (ct := ct_Told_lets) (ps := ["self", "turn"]) <| of_allN 2 _ fun _ _ => rfl
  have F_Told_words := funV_mk (st := s_Told_words) l_Told_words c_Told_words k_Told_words
  have b_Told_words := binds_n (K := K) (x := "words") (qual := "Told.words") (st := s_Told_words) (kV := kV_Told_words) (doc := dc_Told_words) (pm := pm_Told_words) (an := an_Told_words) (cdv := cd_Told_words) (ct := ct_Told_words) (ps := ["self"]) <| of_allN 1 _ fun _ => rfl
  have F_Shut___init__ := funV_mk (st := s_Shut___init__) l_Shut___init__ c_Shut___init__ k_Shut___init__
  have b_Shut___init__ := binds_n (K := K) (x := "__init__") (qual := "Shut.__init__") (st := s_Shut___init__) (kV := kV_Shut___init__) (doc := dc_Shut___init__) (pm := pm_Shut___init__) (an := an_Shut___init__) (cdv := cd_Shut___init__) (ct := ct_Shut___init__) (ps := ["self", "door", "turn"]) <| of_allN 3 _ fun _ _ _ => rfl
  have F_Shut_lets := funV_mk (st := s_Shut_lets) l_Shut_lets c_Shut_lets k_Shut_lets
  have b_Shut_lets := binds_n (K := K) (x := "lets") (qual := "Shut.lets") (st := s_Shut_lets) (kV := kV_Shut_lets) (doc := dc_Shut_lets) (pm := pm_Shut_lets) (an := an_Shut_lets) (cdv := cd_Shut_lets) (ct := ct_Shut_lets) (ps := ["self", "turn"]) <| of_allN 2 _ fun _ _ => rfl
  have F_Shut_words := funV_mk (st := s_Shut_words) l_Shut_words c_Shut_words k_Shut_words
  have b_Shut_words := binds_n (K := K) (x := "words") (qual := "Shut.words") (st := s_Shut_words) (kV := kV_Shut_words) (doc := dc_Shut_words) (pm := pm_Shut_words) (an := an_Shut_words) (cdv := cd_Shut_words) (ct := ct_Shut_words) (ps := ["self"]) <| of_allN 1 _ fun _ => rfl
  have F_Wider___init__ := funV_mk (st := s_Wider___init__) l_Wider___init__ c_Wider___init__ k_Wider___init__
  have b_Wider___init__ := binds_n (K := K) (x := "__init__") (qual := "Wider.__init__") (st := s_Wider___init__) (kV := kV_Wider___init__) (doc := dc_Wider___init__) (pm := pm_Wider___init__) (an := an_Wider___init__) (cdv := cd_Wider___init__) (ct := ct_Wider___init__) (ps := ["self", "door", "turn", "more"]) <| of_allN 4 _ fun _ _ _ _ => rfl
  have F_Wider_lets := funV_mk (st := s_Wider_lets) l_Wider_lets c_Wider_lets k_Wider_lets
  have b_Wider_lets := binds_n (K := K) (x := "lets") (qual := "Wider.lets") (st := s_Wider_lets) (kV := kV_Wider_lets) (doc := dc_Wider_lets) (pm := pm_Wider_lets) (an := an_Wider_lets) (cdv := cd_Wider_lets) (ct := ct_Wider_lets) (ps := ["self", "turn"]) <| of_allN 2 _ fun _ _ => rfl
  have F_Wider_words := funV_mk (st := s_Wider_words) l_Wider_words c_Wider_words k_Wider_words
  have b_Wider_words := binds_n (K := K) (x := "words") (qual := "Wider.words") (st := s_Wider_words) (kV := kV_Wider_words) (doc := dc_Wider_words) (pm := pm_Wider_words) (an := an_Wider_words) (cdv := cd_Wider_words) (ct := ct_Wider_words) (ps := ["self"]) <| of_allN 1 _ fun _ => rfl
  have ic_Door : ICls K C_Door := ⟨⟨pg_Door, hd_Door, po_Door, sa_Door⟩, ha_Door, hn_obj, tk_obj, hm_Door⟩
  have ic_Since : ICls K C_Since := ⟨⟨pg_Since, hd_Since, po_Since, sa_Since⟩, ha_Since, hn_obj, tk_obj, hm_Since⟩
  have ic_Until : ICls K C_Until := ⟨⟨pg_Until, hd_Until, po_Until, sa_Until⟩, ha_Until, hn_obj, tk_obj, hm_Until⟩
  have ic_Beat : ICls K C_Beat := ⟨⟨pg_Beat, hd_Beat, po_Beat, sa_Beat⟩, ha_Beat, hn_obj, tk_obj, hm_Beat⟩
  have ic_Marked : ICls K C_Marked := ⟨⟨pg_Marked, hd_Marked, po_Marked, sa_Marked⟩, ha_Marked, hn_obj, tk_obj, hm_Marked⟩
  have ic_Told : ICls K C_Told := ⟨⟨pg_Told, hd_Told, po_Told, sa_Told⟩, ha_Told, hn_obj, tk_obj, hm_Told⟩
  have ic_Shut : ICls K C_Shut := ⟨⟨pg_Shut, hd_Shut, po_Shut, sa_Shut⟩, ha_Shut, hn_obj, tk_obj, hm_Shut⟩
  have ic_Wider : ICls K C_Wider := ⟨⟨pg_Wider, hd_Wider, po_Wider, sa_Wider⟩, ha_Wider, hn_obj, tk_obj, hm_Wider⟩
  exact ⟨PySem.W.fnOf "law" "law" (defArgs s_law) (defBody s_law) (defScope s_law) .none kV_law dc_law pm_law an_law cd_law ct_law, f__law_inner, PySem.W.fnOf "_law_inner" "_law_inner" (defArgs s__law_inner) (defBody s__law_inner) (defScope s__law_inner) .none kV__law_inner dc__law_inner pm__law_inner an__law_inner cd__law_inner ct__law_inner, PySem.W.mg_of X G a__law_inner, ⟨_, _, _, l__law_inner⟩, fun s v => .of_eq rfl, fun base cL PL h1 h2 h3 => ok_law ⟨f_is_whole, _, F_is_whole, b_is_whole,
    f_is_name, _, F_is_name, b_is_name,
    f_need_name, _, F_need_name, b_need_name,
    f_need_whole, _, F_need_whole, b_need_whole,
    f_row_of_words, _, F_row_of_words, b_row_of_words,
    f__law_cell_at, _, F__law_cell_at, b__law_cell_at,
    f__law_drawn, _, F__law_drawn, b__law_drawn,
    f__law_name, _, F__law_name, b__law_name,
    f__law_turn, _, F__law_turn, b__law_turn,
    f__law_letting, _, F__law_letting, b__law_letting,
    f__law_inner, _, F__law_inner, b__law_inner,
    f__law_inner_due, _, F__law_inner_due, b__law_inner_due,
    f__law_rounds, _, F__law_rounds, b__law_rounds,
    f__law_due, _, F__law_due, b__law_due,
    f__law_words, _, F__law_words, b__law_words,
    f__law_right, _, F__law_right, b__law_right,
    fa, _, F_law, b_law,
    f_Door___init__, _, F_Door___init__, b_Door___init__,
    f_Door_lets, _, F_Door_lets, b_Door_lets,
    f_Door_is_exit, _, F_Door_is_exit, b_Door_is_exit,
    f_Door_words, _, F_Door_words, b_Door_words,
    f_Since___init__, _, F_Since___init__, b_Since___init__,
    f_Since_lets, _, F_Since_lets, b_Since_lets,
    f_Since_words, _, F_Since_words, b_Since_words,
    f_Until___init__, _, F_Until___init__, b_Until___init__,
    f_Until_lets, _, F_Until_lets, b_Until_lets,
    f_Until_words, _, F_Until_words, b_Until_words,
    f_Beat___init__, _, F_Beat___init__, b_Beat___init__,
    f_Beat_lets, _, F_Beat_lets, b_Beat_lets,
    f_Beat_words, _, F_Beat_words, b_Beat_words,
    f_Marked___init__, _, F_Marked___init__, b_Marked___init__,
    f_Marked_lets, _, F_Marked_lets, b_Marked_lets,
    f_Marked_words, _, F_Marked_words, b_Marked_words,
    f_Told___init__, _, F_Told___init__, b_Told___init__,
    f_Told_lets, _, F_Told_lets, b_Told_lets,
    f_Told_words, _, F_Told_words, b_Told_words,
    f_Shut___init__, _, F_Shut___init__, b_Shut___init__,
    f_Shut_lets, _, F_Shut_lets, b_Shut_lets,
    f_Shut_words, _, F_Shut_words, b_Shut_words,
    f_Wider___init__, _, F_Wider___init__, b_Wider___init__,
    f_Wider_lets, _, F_Wider_lets, b_Wider_lets,
    f_Wider_words, _, F_Wider_words, b_Wider_words,
    PySem.W.mg_of X G a_is_whole,
    PySem.W.mg_of X G a_is_name,
    PySem.W.mg_of X G a_need_name,
    PySem.W.mg_of X G a_need_whole,
    PySem.W.mg_of X G a_row_of_words,
    PySem.W.mg_of X G a__law_cell_at,
    PySem.W.mg_of X G a__law_drawn,
    PySem.W.mg_of X G a__law_name,
    PySem.W.mg_of X G a__law_turn,
    PySem.W.mg_of X G a__law_letting,
    PySem.W.mg_of X G a__law_inner,
    PySem.W.mg_of X G a__law_inner_due,
    PySem.W.mg_of X G a__law_rounds,
    PySem.W.mg_of X G a__law_due,
    PySem.W.mg_of X G a__law_words,
    PySem.W.mg_of X G a__law_right,
    PySem.W.mg_of X G a_law,
    ⟨_, .cons ⟨_, rfl⟩ (.nil), bx_Door___init___1⟩,
    ⟨_, .cons rfl (.cons ⟨_, rfl⟩ (.nil)), bx_Door___init___2⟩,
    ⟨_, .cons ⟨_, rfl⟩ (.nil), bx_Beat___init___1⟩,
    C_Door, PySem.W.mg_of X G aC_Door,
    C_Since, PySem.W.mg_of X G aC_Since,
    C_Until, PySem.W.mg_of X G aC_Until,
    C_Beat, PySem.W.mg_of X G aC_Beat,
    C_Marked, PySem.W.mg_of X G aC_Marked,
    C_Told, PySem.W.mg_of X G aC_Told,
    C_Shut, PySem.W.mg_of X G aC_Shut,
    C_Wider, PySem.W.mg_of X G aC_Wider,
    C_OutError, PySem.W.mg_of X G aC_OutError,
    C_NoDoor, PySem.W.mg_of X G aC_NoDoor,
    C_NoText, PySem.W.mg_of X G aC_NoText,
    ⟨ic_Door, na_Door_name, na_Door_start, na_Door_end, na_Door_wide, na_Door_since, na_Door_until, na_Door_every, na_Door_bits, na_Door_letting, na_Door_inner, na_Door_turn, na_Door_more⟩,
    ⟨mk_Door, in_Door, fi_Door, kc_Door⟩,
    ⟨mt_Door_lets, mf_Door_lets, k_Door_lets⟩,
    ⟨mt_Door_is_exit, mf_Door_is_exit, k_Door_is_exit⟩,
    ⟨mt_Door_words, mf_Door_words, k_Door_words⟩,
    ⟨ic_Since, na_Since_name, na_Since_start, na_Since_end, na_Since_wide, na_Since_since, na_Since_until, na_Since_every, na_Since_bits, na_Since_letting, na_Since_inner, na_Since_turn, na_Since_more⟩,
    ⟨mk_Since, in_Since, fi_Since, kc_Since⟩,
    ⟨mt_Since_lets, mf_Since_lets, k_Since_lets⟩,
    ⟨mt_Since_words, mf_Since_words, k_Since_words⟩,
    ⟨mt_Since_is_exit, mf_Since_is_exit, k_Door_is_exit⟩,
    ⟨ic_Until, na_Until_name, na_Until_start, na_Until_end, na_Until_wide, na_Until_since, na_Until_until, na_Until_every, na_Until_bits, na_Until_letting, na_Until_inner, na_Until_turn, na_Until_more⟩,
    ⟨mk_Until, in_Until, fi_Until, kc_Until⟩,
    ⟨mt_Until_lets, mf_Until_lets, k_Until_lets⟩,
    ⟨mt_Until_words, mf_Until_words, k_Until_words⟩,
    ⟨mt_Until_is_exit, mf_Until_is_exit, k_Door_is_exit⟩,
    ⟨ic_Beat, na_Beat_name, na_Beat_start, na_Beat_end, na_Beat_wide, na_Beat_since, na_Beat_until, na_Beat_every, na_Beat_bits, na_Beat_letting, na_Beat_inner, na_Beat_turn, na_Beat_more⟩,
    ⟨mk_Beat, in_Beat, fi_Beat, kc_Beat⟩,
    ⟨mt_Beat_lets, mf_Beat_lets, k_Beat_lets⟩,
    ⟨mt_Beat_words, mf_Beat_words, k_Beat_words⟩,
    ⟨mt_Beat_is_exit, mf_Beat_is_exit, k_Door_is_exit⟩,
    ⟨ic_Marked, na_Marked_name, na_Marked_start, na_Marked_end, na_Marked_wide, na_Marked_since, na_Marked_until, na_Marked_every, na_Marked_bits, na_Marked_letting, na_Marked_inner, na_Marked_turn, na_Marked_more⟩,
    ⟨mk_Marked, in_Marked, fi_Marked, kc_Marked⟩,
    ⟨mt_Marked_lets, mf_Marked_lets, k_Marked_lets⟩,
    ⟨mt_Marked_words, mf_Marked_words, k_Marked_words⟩,
    ⟨mt_Marked_is_exit, mf_Marked_is_exit, k_Door_is_exit⟩,
    ⟨ic_Told, na_Told_name, na_Told_start, na_Told_end, na_Told_wide, na_Told_since, na_Told_until, na_Told_every, na_Told_bits, na_Told_letting, na_Told_inner, na_Told_turn, na_Told_more⟩,
    ⟨mk_Told, in_Told, fi_Told, kc_Told⟩,
    ⟨mt_Told_lets, mf_Told_lets, k_Told_lets⟩,
    ⟨mt_Told_words, mf_Told_words, k_Told_words⟩,
    ⟨mt_Told_is_exit, mf_Told_is_exit, k_Door_is_exit⟩,
    ⟨ic_Shut, na_Shut_name, na_Shut_start, na_Shut_end, na_Shut_wide, na_Shut_since, na_Shut_until, na_Shut_every, na_Shut_bits, na_Shut_letting, na_Shut_inner, na_Shut_turn, na_Shut_more⟩,
    ⟨mk_Shut, in_Shut, fi_Shut, kc_Shut⟩,
    ⟨mt_Shut_lets, mf_Shut_lets, k_Shut_lets⟩,
    ⟨mt_Shut_words, mf_Shut_words, k_Shut_words⟩,
    ⟨mt_Shut_is_exit, mf_Shut_is_exit, k_Door_is_exit⟩,
    ⟨ic_Wider, na_Wider_name, na_Wider_start, na_Wider_end, na_Wider_wide, na_Wider_since, na_Wider_until, na_Wider_every, na_Wider_bits, na_Wider_letting, na_Wider_inner, na_Wider_turn, na_Wider_more⟩,
    ⟨mk_Wider, in_Wider, fi_Wider, kc_Wider⟩,
    ⟨mt_Wider_lets, mf_Wider_lets, k_Wider_lets⟩,
    ⟨mt_Wider_words, mf_Wider_words, k_Wider_words⟩,
    ⟨mt_Wider_is_exit, mf_Wider_is_exit, k_Door_is_exit⟩,
    ⟨d1_Door___init__, d2_Door___init__, d3_Door___init__⟩,
    kit_same,
    kit_ne ne_Door_Shut ci_Shut ti_Shut si_Door_Shut,
    kit_ne ne_Door_Wider ci_Wider ti_Wider si_Door_Wider,
    kit_ne ne_Door_Told ci_Told ti_Told si_Door_Told,
    kit_ne ne_Since_Door ci_Door ti_Door si_Since_Door,
    kit_ne ne_Since_Shut ci_Shut ti_Shut si_Since_Shut,
    kit_ne ne_Since_Wider ci_Wider ti_Wider si_Since_Wider,
    kit_ne ne_Since_Told ci_Told ti_Told si_Since_Told,
    kit_ne ne_Until_Door ci_Door ti_Door si_Until_Door,
    kit_ne ne_Until_Shut ci_Shut ti_Shut si_Until_Shut,
    kit_ne ne_Until_Wider ci_Wider ti_Wider si_Until_Wider,
    kit_ne ne_Until_Told ci_Told ti_Told si_Until_Told,
    kit_ne ne_Beat_Door ci_Door ti_Door si_Beat_Door,
    kit_ne ne_Beat_Shut ci_Shut ti_Shut si_Beat_Shut,
    kit_ne ne_Beat_Wider ci_Wider ti_Wider si_Beat_Wider,
    kit_ne ne_Beat_Told ci_Told ti_Told si_Beat_Told,
    kit_ne ne_Marked_Door ci_Door ti_Door si_Marked_Door,
    kit_ne ne_Marked_Shut ci_Shut ti_Shut si_Marked_Shut,
    kit_ne ne_Marked_Wider ci_Wider ti_Wider si_Marked_Wider,
    kit_ne ne_Marked_Told ci_Told ti_Told si_Marked_Told,
    kit_ne ne_Told_Door ci_Door ti_Door si_Told_Door,
    kit_ne ne_Told_Shut ci_Shut ti_Shut si_Told_Shut,
    kit_ne ne_Told_Wider ci_Wider ti_Wider si_Told_Wider,
    kit_same,
    kit_ne ne_Shut_Door ci_Door ti_Door si_Shut_Door,
    kit_same,
    kit_ne ne_Shut_Wider ci_Wider ti_Wider si_Shut_Wider,
    kit_ne ne_Shut_Told ci_Told ti_Told si_Shut_Told,
    kit_ne ne_Wider_Door ci_Door ti_Door si_Wider_Door,
    kit_ne ne_Wider_Shut ci_Shut ti_Shut si_Wider_Shut,
    kit_same,
    kit_ne ne_Wider_Told ci_Told ti_Told si_Wider_Told,
    xe_NoText, ⟨xg_NoText, xh_NoText, xc_NoText, xo_NoText, xb_NoText, _, xd_NoText⟩,
    exm_mk e1_NoText_NoText e2_NoText_NoText e3_NoText_NoText e4_NoText_NoText,
    kit_ne i4_NoText_NoDoor i1_NoText_NoDoor i2_NoText_NoDoor i3_NoText_NoDoor,
    PySem.W.mg_none_of X G z_ValueError,
    PySem.W.mg_none_of X G z_range,
    PySem.W.mg_none_of X G z_isinstance,
    PySem.W.mg_none_of X G z_int,
    PySem.W.mg_none_of X G z_str,
    PySem.W.mg_none_of X G z_all,
    PySem.W.mg_none_of X G z_len,
    PySem.W.mg_none_of X G z_list,
    PySem.W.mg_none_of X G z_bool,
    PySem.W.mg_none_of X G z_min,
    ⟨t_LONGEST_NAME, PySem.W.mg_of X G q_LONGEST_NAME⟩⟩ h1 h2 h3⟩
theorem walk {l : PySem.W.OpenLaw} {q : Program} {loose : List Str} {XP : (Str → Option Value) → Heap → Prop} {YP : World → Heap → Prop} {d d2 : DefRec} {K : Params → PySem.W.Frag} (hn : l.most = some 63) (hdf : d.params.defaults = []) (hrec : d2 ∈ PyProof.Rows.recsOf q) (hd2 : d2.name = "_law_inner") (hnt : ∀ w : World, PySem.W.noTabs (K w.params) = true)
    (hY : ∀ (w : World) (h : Heap), YP w h → (K w.params).In h)
    (F : ∀ (w : World) (mg : Str → Option Value) (fa : Addr) (h : Heap), (K w.params).In h → h.Ns mainGlobals mg → mg d.name = some (.ref fa) →
      ∃ (fd : FuncData) (f2 : Addr) (fd2 : FuncData), mg "_law_inner" = some (.ref f2) ∧ (∃ oc od osl, (K w.params).lookup f2 = some ⟨oc, od, .func fd2, osl⟩) ∧ (∀ (s : Shared) (u : Value), BindsTo s fd ⟨[u], []⟩ [("_law_script", u)]) ∧ ∀ (base : Heap) (cL PL : Addr), fd2.code = .ref cL → PySem.W.CodeHd base cL PL → base.BuiltinsAt mg PL → FnOk l.prog w (K w.params) mg base CX0 30 fa fd ["_law_script"] (sp_law (K w.params) PL)) :
    PySem.W.WalkO q loose XP YP l.row.toRowW d [] (fun f vs => PySem.call f vs) :=
  L2.walk_ofT2 (d2 := d2) (n := 63) (k := 30) (x := "_law_script") (CX := fun _ => CX0) (sp := fun w PL => sp_law (K w.params) PL) hn (by decide) hdf ⟨rfl, by decide, by decide⟩ hrec hnt hY (fun w mg fa h a b c => by rw [hd2]; exact F w mg fa h a b c) (fun _ _ _ a ns hl hS hP => ⟨a, ns, rfl, hS, hl, hP, fun _ => rfl⟩) fun _ _ _ _ _ z => z
end Prf
open PySem PySem.W PyProof.Rows
set_option maxRecDepth 100000 in
set_option maxHeartbeats 0 in
theorem PySem.Challenge.cw_firstout_k07_whole_doors_round_doors_holds : PySem.Challenge.rw_firstout_k07_whole_doors_round_doors.Holds := by
  w_on; o_law; k_head; (case hw => w_witness2)
  k_fill
  refine Prf.walk (l := PySem.Challenge.rw_firstout_k07_whole_doors_round_doors) rfl rfl (List.mem_of_find?_eq_some (p := fun e => e.name == ("_law_inner" : Str)) rfl) rfl (fun w => by kernel_rfl) (fun w h Y => PySem.W.km_in_of Y) ?F
  case F =>
    intro w mg fa h KX G hmg
    refine' Prf.all_mk KX G hmg ?a_is_whole ?a_is_name ?a_need_name ?a_need_whole ?a_row_of_words ?a__law_cell_at ?a__law_drawn ?a__law_name ?a__law_turn ?a__law_letting ?a__law_inner ?a__law_inner_due ?a__law_rounds ?a__law_due ?a__law_words ?a__law_right ?a_law ?aC_Door ?aC_Since ?aC_Until ?aC_Beat ?aC_Marked ?aC_Told ?aC_Shut ?aC_Wider ?aC_OutError ?aC_NoDoor ?aC_NoText ?a_Door___init__ ?a_Door_lets ?a_Door_is_exit ?a_Door_words ?a_Since___init__ ?a_Since_lets ?a_Since_words ?a_Until___init__ ?a_Until_lets ?a_Until_words ?a_Beat___init__ ?a_Beat_lets ?a_Beat_words ?a_Marked___init__ ?a_Marked_lets ?a_Marked_words ?a_Told___init__ ?a_Told_lets ?a_Told_words ?a_Shut___init__ ?a_Shut_lets ?a_Shut_words ?a_Wider___init__ ?a_Wider_lets ?a_Wider_words ?l_is_whole ?c_is_whole ?k_is_whole ?l_is_name ?c_is_name ?k_is_name ?l_need_name ?c_need_name ?k_need_name ?l_need_whole ?c_need_whole ?k_need_whole ?l_row_of_words ?c_row_of_words ?k_row_of_words ?l__law_cell_at ?c__law_cell_at ?k__law_cell_at ?l__law_drawn ?c__law_drawn ?k__law_drawn ?l__law_name ?c__law_name ?k__law_name ?l__law_turn ?c__law_turn ?k__law_turn ?l__law_letting ?c__law_letting ?k__law_letting ?l__law_inner ?c__law_inner ?k__law_inner ?l__law_inner_due ?c__law_inner_due ?k__law_inner_due ?l__law_rounds ?c__law_rounds ?k__law_rounds ?l__law_due ?c__law_due ?k__law_due ?l__law_words ?c__law_words ?k__law_words ?l__law_right ?c__law_right ?k__law_right ?l_law ?c_law ?k_law ?l_Door___init__ ?c_Door___init__ ?k_Door___init__ ?t_Door___init__ ?l_Door_lets ?c_Door_lets ?k_Door_lets ?l_Door_is_exit ?c_Door_is_exit ?k_Door_is_exit ?l_Door_words ?c_Door_words ?k_Door_words ?l_Since___init__ ?c_Since___init__ ?k_Since___init__ ?l_Since_lets ?c_Since_lets ?k_Since_lets ?l_Since_words ?c_Since_words ?k_Since_words ?l_Until___init__ ?c_Until___init__ ?k_Until___init__ ?l_Until_lets ?c_Until_lets ?k_Until_lets ?l_Until_words ?c_Until_words ?k_Until_words ?l_Beat___init__ ?c_Beat___init__ ?k_Beat___init__ ?t_Beat___init__ ?l_Beat_lets ?c_Beat_lets ?k_Beat_lets ?l_Beat_words ?c_Beat_words ?k_Beat_words ?l_Marked___init__ ?c_Marked___init__ ?k_Marked___init__ ?l_Marked_lets ?c_Marked_lets ?k_Marked_lets ?l_Marked_words ?c_Marked_words ?k_Marked_words ?l_Told___init__ ?c_Told___init__ ?k_Told___init__ ?l_Told_lets ?c_Told_lets ?k_Told_lets ?l_Told_words ?c_Told_words ?k_Told_words ?l_Shut___init__ ?c_Shut___init__ ?k_Shut___init__ ?l_Shut_lets ?c_Shut_lets ?k_Shut_lets ?l_Shut_words ?c_Shut_words ?k_Shut_words ?l_Wider___init__ ?c_Wider___init__ ?k_Wider___init__ ?l_Wider_lets ?c_Wider_lets ?k_Wider_lets ?l_Wider_words ?c_Wider_words ?k_Wider_words ?pg_Door ?hd_Door ?po_Door ?sa_Door ?mk_Door ?kc_Door ?ha_Door ?hm_Door ?na_Door_name ?na_Door_start ?na_Door_end ?na_Door_wide ?na_Door_since ?na_Door_until ?na_Door_every ?na_Door_bits ?na_Door_letting ?na_Door_inner ?na_Door_turn ?na_Door_more ?in_Door ?fi_Door ?mt_Door_lets ?mf_Door_lets ?mt_Door_is_exit ?mf_Door_is_exit ?mt_Door_words ?mf_Door_words ?pg_Since ?hd_Since ?po_Since ?sa_Since ?mk_Since ?kc_Since ?ha_Since ?hm_Since ?na_Since_name ?na_Since_start ?na_Since_end ?na_Since_wide ?na_Since_since ?na_Since_until ?na_Since_every ?na_Since_bits ?na_Since_letting ?na_Since_inner ?na_Since_turn ?na_Since_more ?in_Since ?fi_Since ?mt_Since_lets ?mf_Since_lets ?mt_Since_words ?mf_Since_words ?mt_Since_is_exit ?mf_Since_is_exit ?pg_Until ?hd_Until ?po_Until ?sa_Until ?mk_Until ?kc_Until ?ha_Until ?hm_Until ?na_Until_name ?na_Until_start ?na_Until_end ?na_Until_wide ?na_Until_since ?na_Until_until ?na_Until_every ?na_Until_bits ?na_Until_letting ?na_Until_inner ?na_Until_turn ?na_Until_more ?in_Until ?fi_Until ?mt_Until_lets ?mf_Until_lets ?mt_Until_words ?mf_Until_words ?mt_Until_is_exit ?mf_Until_is_exit ?pg_Beat ?hd_Beat ?po_Beat ?sa_Beat ?mk_Beat ?kc_Beat ?ha_Beat ?hm_Beat ?na_Beat_name ?na_Beat_start ?na_Beat_end ?na_Beat_wide ?na_Beat_since ?na_Beat_until ?na_Beat_every ?na_Beat_bits ?na_Beat_letting ?na_Beat_inner ?na_Beat_turn ?na_Beat_more ?in_Beat ?fi_Beat ?mt_Beat_lets ?mf_Beat_lets ?mt_Beat_words ?mf_Beat_words ?mt_Beat_is_exit ?mf_Beat_is_exit ?pg_Marked ?hd_Marked ?po_Marked ?sa_Marked ?mk_Marked ?kc_Marked ?ha_Marked ?hm_Marked ?na_Marked_name ?na_Marked_start ?na_Marked_end ?na_Marked_wide ?na_Marked_since ?na_Marked_until ?na_Marked_every ?na_Marked_bits ?na_Marked_letting ?na_Marked_inner ?na_Marked_turn ?na_Marked_more ?in_Marked ?fi_Marked ?mt_Marked_lets ?mf_Marked_lets ?mt_Marked_words ?mf_Marked_words ?mt_Marked_is_exit ?mf_Marked_is_exit ?pg_Told ?hd_Told ?po_Told ?sa_Told ?mk_Told ?kc_Told ?ha_Told ?hm_Told ?na_Told_name ?na_Told_start ?na_Told_end ?na_Told_wide ?na_Told_since ?na_Told_until ?na_Told_every ?na_Told_bits ?na_Told_letting ?na_Told_inner ?na_Told_turn ?na_Told_more ?in_Told ?fi_Told ?mt_Told_lets ?mf_Told_lets ?mt_Told_words ?mf_Told_words ?mt_Told_is_exit ?mf_Told_is_exit ?pg_Shut ?hd_Shut ?po_Shut ?sa_Shut ?mk_Shut ?kc_Shut ?ha_Shut ?hm_Shut ?na_Shut_name ?na_Shut_start ?na_Shut_end ?na_Shut_wide ?na_Shut_since ?na_Shut_until ?na_Shut_every ?na_Shut_bits ?na_Shut_letting ?na_Shut_inner ?na_Shut_turn ?na_Shut_more ?in_Shut ?fi_Shut ?mt_Shut_lets ?mf_Shut_lets ?mt_Shut_words ?mf_Shut_words ?mt_Shut_is_exit ?mf_Shut_is_exit ?pg_Wider ?hd_Wider ?po_Wider ?sa_Wider ?mk_Wider ?kc_Wider ?ha_Wider ?hm_Wider ?na_Wider_name ?na_Wider_start ?na_Wider_end ?na_Wider_wide ?na_Wider_since ?na_Wider_until ?na_Wider_every ?na_Wider_bits ?na_Wider_letting ?na_Wider_inner ?na_Wider_turn ?na_Wider_more ?in_Wider ?fi_Wider ?mt_Wider_lets ?mf_Wider_lets ?mt_Wider_words ?mf_Wider_words ?mt_Wider_is_exit ?mf_Wider_is_exit ?hn_obj ?tk_obj ?d1_Door___init__ ?d2_Door___init__ ?d3_Door___init__ ?ci_Door ?ti_Door ?ci_Shut ?ti_Shut ?si_Door_Shut ?ne_Door_Shut ?ci_Wider ?ti_Wider ?si_Door_Wider ?ne_Door_Wider ?ci_Told ?ti_Told ?si_Door_Told ?ne_Door_Told ?si_Since_Door ?ne_Since_Door ?si_Since_Shut ?ne_Since_Shut ?si_Since_Wider ?ne_Since_Wider ?si_Since_Told ?ne_Since_Told ?si_Until_Door ?ne_Until_Door ?si_Until_Shut ?ne_Until_Shut ?si_Until_Wider ?ne_Until_Wider ?si_Until_Told ?ne_Until_Told ?si_Beat_Door ?ne_Beat_Door ?si_Beat_Shut ?ne_Beat_Shut ?si_Beat_Wider ?ne_Beat_Wider ?si_Beat_Told ?ne_Beat_Told ?si_Marked_Door ?ne_Marked_Door ?si_Marked_Shut ?ne_Marked_Shut ?si_Marked_Wider ?ne_Marked_Wider ?si_Marked_Told ?ne_Marked_Told ?si_Told_Door ?ne_Told_Door ?si_Told_Shut ?ne_Told_Shut ?si_Told_Wider ?ne_Told_Wider ?si_Shut_Door ?ne_Shut_Door ?si_Shut_Wider ?ne_Shut_Wider ?si_Shut_Told ?ne_Shut_Told ?si_Wider_Door ?ne_Wider_Door ?si_Wider_Shut ?ne_Wider_Shut ?si_Wider_Told ?ne_Wider_Told ?xe_NoText ?xg_NoText ?xh_NoText ?xc_NoText ?xo_NoText ?xb_NoText ?xd_NoText ?e1_NoText_NoText ?e2_NoText_NoText ?e3_NoText_NoText ?e4_NoText_NoText ?i1_NoText_NoDoor ?i2_NoText_NoDoor ?i3_NoText_NoDoor ?i4_NoText_NoDoor ?z_ValueError ?z_range ?z_isinstance ?z_int ?z_str ?z_all ?z_len ?z_list ?z_bool ?z_min ?q_LONGEST_NAME
    (case a_is_whole => k_is)
    (case a_is_name => k_is)
    (case a_need_name => k_is)
    (case a_need_whole => k_is)
    (case a_row_of_words => k_is)
    (case a__law_cell_at => k_is)
    (case a__law_drawn => k_is)
    (case a__law_name => k_is)
    (case a__law_turn => k_is)
    (case a__law_letting => k_is)
    (case a__law_inner => k_is)
    (case a__law_inner_due => k_is)
    (case a__law_rounds => k_is)
    (case a__law_due => k_is)
    (case a__law_words => k_is)
    (case a__law_right => k_is)
    (case a_law => k_is)
    (case aC_Door => k_is)
    (case aC_Since => k_is)
    (case aC_Until => k_is)
    (case aC_Beat => k_is)
    (case aC_Marked => k_is)
    (case aC_Told => k_is)
    (case aC_Shut => k_is)
    (case aC_Wider => k_is)
    (case aC_OutError => k_is)
    (case aC_NoDoor => k_is)
    (case aC_NoText => k_is)
    (case a_Door___init__ => k_is)
    (case a_Door_lets => k_is)
    (case a_Door_is_exit => k_is)
    (case a_Door_words => k_is)
    (case a_Since___init__ => k_is)
    (case a_Since_lets => k_is)
    (case a_Since_words => k_is)
    (case a_Until___init__ => k_is)
    (case a_Until_lets => k_is)
    (case a_Until_words => k_is)
    (case a_Beat___init__ => k_is)
    (case a_Beat_lets => k_is)
    (case a_Beat_words => k_is)
    (case a_Marked___init__ => k_is)
    (case a_Marked_lets => k_is)
    (case a_Marked_words => k_is)
    (case a_Told___init__ => k_is)
    (case a_Told_lets => k_is)
    (case a_Told_words => k_is)
    (case a_Shut___init__ => k_is)
    (case a_Shut_lets => k_is)
    (case a_Shut_words => k_is)
    (case a_Wider___init__ => k_is)
    (case a_Wider_lets => k_is)
    (case a_Wider_words => k_is)
    (case l_is_whole => k_is)
    (case c_is_whole => k_is)
    (case k_is_whole => k_is)
    (case l_is_name => k_is)
    (case c_is_name => k_is)
    (case k_is_name => k_is)
    (case l_need_name => k_is)
    (case c_need_name => k_is)
    (case k_need_name => k_is)
    (case l_need_whole => k_is)
    (case c_need_whole => k_is)
    (case k_need_whole => k_is)
    (case l_row_of_words => k_is)
    (case c_row_of_words => k_is)
    (case k_row_of_words => k_is)
    (case l__law_cell_at => k_is)
    (case c__law_cell_at => k_is)
    (case k__law_cell_at => k_is)
    (case l__law_drawn => k_is)
    (case c__law_drawn => k_is)
    (case k__law_drawn => k_is)
    (case l__law_name => k_is)
    (case c__law_name => k_is)
    (case k__law_name => k_is)
    (case l__law_turn => k_is)
    (case c__law_turn => k_is)
    (case k__law_turn => k_is)
    (case l__law_letting => k_is)
    (case c__law_letting => k_is)
    (case k__law_letting => k_is)
    (case l__law_inner => k_is)
    (case c__law_inner => k_is)
    (case k__law_inner => k_is)
    (case l__law_inner_due => k_is)
    (case c__law_inner_due => k_is)
    (case k__law_inner_due => k_is)
    (case l__law_rounds => k_is)
    (case c__law_rounds => k_is)
    (case k__law_rounds => k_is)
    (case l__law_due => k_is)
    (case c__law_due => k_is)
    (case k__law_due => k_is)
    (case l__law_words => k_is)
    (case c__law_words => k_is)
    (case k__law_words => k_is)
    (case l__law_right => k_is)
    (case c__law_right => k_is)
    (case k__law_right => k_is)
    (case l_law => k_is)
    (case c_law => k_is)
    (case k_law => k_is)
    (case l_Door___init__ => k_is)
    (case c_Door___init__ => k_is)
    (case k_Door___init__ => k_is)
    (case t_Door___init__ => k_is)
    (case l_Door_lets => k_is)
    (case c_Door_lets => k_is)
    (case k_Door_lets => k_is)
    (case l_Door_is_exit => k_is)
    (case c_Door_is_exit => k_is)
    (case k_Door_is_exit => k_is)
    (case l_Door_words => k_is)
    (case c_Door_words => k_is)
    (case k_Door_words => k_is)
    (case l_Since___init__ => k_is)
    (case c_Since___init__ => k_is)
    (case k_Since___init__ => k_is)
    (case l_Since_lets => k_is)
    (case c_Since_lets => k_is)
    (case k_Since_lets => k_is)
    (case l_Since_words => k_is)
    (case c_Since_words => k_is)
    (case k_Since_words => k_is)
    (case l_Until___init__ => k_is)
    (case c_Until___init__ => k_is)
    (case k_Until___init__ => k_is)
    (case l_Until_lets => k_is)
    (case c_Until_lets => k_is)
    (case k_Until_lets => k_is)
    (case l_Until_words => k_is)
    (case c_Until_words => k_is)
    (case k_Until_words => k_is)
    (case l_Beat___init__ => k_is)
    (case c_Beat___init__ => k_is)
    (case k_Beat___init__ => k_is)
    (case t_Beat___init__ => k_is)
    (case l_Beat_lets => k_is)
    (case c_Beat_lets => k_is)
    (case k_Beat_lets => k_is)
    (case l_Beat_words => k_is)
    (case c_Beat_words => k_is)
    (case k_Beat_words => k_is)
    (case l_Marked___init__ => k_is)
    (case c_Marked___init__ => k_is)
    (case k_Marked___init__ => k_is)
    (case l_Marked_lets => k_is)
    (case c_Marked_lets => k_is)
    (case k_Marked_lets => k_is)
    (case l_Marked_words => k_is)
    (case c_Marked_words => k_is)
    (case k_Marked_words => k_is)
    (case l_Told___init__ => k_is)
    (case c_Told___init__ => k_is)
    (case k_Told___init__ => k_is)
    (case l_Told_lets => k_is)
    (case c_Told_lets => k_is)
    (case k_Told_lets => k_is)
    (case l_Told_words => k_is)
    (case c_Told_words => k_is)
    (case k_Told_words => k_is)
    (case l_Shut___init__ => k_is)
    (case c_Shut___init__ => k_is)
    (case k_Shut___init__ => k_is)
    (case l_Shut_lets => k_is)
    (case c_Shut_lets => k_is)
    (case k_Shut_lets => k_is)
    (case l_Shut_words => k_is)
    (case c_Shut_words => k_is)
    (case k_Shut_words => k_is)
    (case l_Wider___init__ => k_is)
    (case c_Wider___init__ => k_is)
    (case k_Wider___init__ => k_is)
    (case l_Wider_lets => k_is)
    (case c_Wider_lets => k_is)
    (case k_Wider_lets => k_is)
    (case l_Wider_words => k_is)
    (case c_Wider_words => k_is)
    (case k_Wider_words => k_is)
    (case pg_Door => k_is)
    (case hd_Door => k_is)
    (case po_Door => k_is)
    (case sa_Door => k_is)
    (case mk_Door => k_is)
    (case kc_Door => k_is)
    (case ha_Door => k_is)
    (case hm_Door => k_is)
    (case na_Door_name => k_is)
    (case na_Door_start => k_is)
    (case na_Door_end => k_is)
    (case na_Door_wide => k_is)
    (case na_Door_since => k_is)
    (case na_Door_until => k_is)
    (case na_Door_every => k_is)
    (case na_Door_bits => k_is)
    (case na_Door_letting => k_is)
    (case na_Door_inner => k_is)
    (case na_Door_turn => k_is)
    (case na_Door_more => k_is)
    (case in_Door => k_is)
    (case fi_Door => k_is)
    (case mt_Door_lets => k_is)
    (case mf_Door_lets => k_is)
    (case mt_Door_is_exit => k_is)
    (case mf_Door_is_exit => k_is)
    (case mt_Door_words => k_is)
    (case mf_Door_words => k_is)
    (case pg_Since => k_is)
    (case hd_Since => k_is)
    (case po_Since => k_is)
    (case sa_Since => k_is)
    (case mk_Since => k_is)
    (case kc_Since => k_is)
    (case ha_Since => k_is)
    (case hm_Since => k_is)
    (case na_Since_name => k_is)
    (case na_Since_start => k_is)
    (case na_Since_end => k_is)
    (case na_Since_wide => k_is)
    (case na_Since_since => k_is)
    (case na_Since_until => k_is)
    (case na_Since_every => k_is)
    (case na_Since_bits => k_is)
    (case na_Since_letting => k_is)
    (case na_Since_inner => k_is)
    (case na_Since_turn => k_is)
    (case na_Since_more => k_is)
    (case in_Since => k_is)
    (case fi_Since => k_is)
    (case mt_Since_lets => k_is)
    (case mf_Since_lets => k_is)
    (case mt_Since_words => k_is)
    (case mf_Since_words => k_is)
    (case mt_Since_is_exit => k_is)
    (case mf_Since_is_exit => k_is)
    (case pg_Until => k_is)
    (case hd_Until => k_is)
    (case po_Until => k_is)
    (case sa_Until => k_is)
    (case mk_Until => k_is)
    (case kc_Until => k_is)
    (case ha_Until => k_is)
    (case hm_Until => k_is)
    (case na_Until_name => k_is)
    (case na_Until_start => k_is)
    (case na_Until_end => k_is)
    (case na_Until_wide => k_is)
    (case na_Until_since => k_is)
    (case na_Until_until => k_is)
    (case na_Until_every => k_is)
    (case na_Until_bits => k_is)
    (case na_Until_letting => k_is)
    (case na_Until_inner => k_is)
    (case na_Until_turn => k_is)
    (case na_Until_more => k_is)
    (case in_Until => k_is)
    (case fi_Until => k_is)
    (case mt_Until_lets => k_is)
    (case mf_Until_lets => k_is)
    (case mt_Until_words => k_is)
    (case mf_Until_words => k_is)
    (case mt_Until_is_exit => k_is)
    (case mf_Until_is_exit => k_is)
    (case pg_Beat => k_is)
    (case hd_Beat => k_is)
    (case po_Beat => k_is)
    (case sa_Beat => k_is)
    (case mk_Beat => k_is)
    (case kc_Beat => k_is)
    (case ha_Beat => k_is)
    (case hm_Beat => k_is)
    (case na_Beat_name => k_is)
    (case na_Beat_start => k_is)
    (case na_Beat_end => k_is)
    (case na_Beat_wide => k_is)
    (case na_Beat_since => k_is)
    (case na_Beat_until => k_is)
    (case na_Beat_every => k_is)
    (case na_Beat_bits => k_is)
    (case na_Beat_letting => k_is)
    (case na_Beat_inner => k_is)
    (case na_Beat_turn => k_is)
    (case na_Beat_more => k_is)
    (case in_Beat => k_is)
    (case fi_Beat => k_is)
    (case mt_Beat_lets => k_is)
    (case mf_Beat_lets => k_is)
    (case mt_Beat_words => k_is)
    (case mf_Beat_words => k_is)
    (case mt_Beat_is_exit => k_is)
    (case mf_Beat_is_exit => k_is)
    (case pg_Marked => k_is)
    (case hd_Marked => k_is)
    (case po_Marked => k_is)
    (case sa_Marked => k_is)
    (case mk_Marked => k_is)
    (case kc_Marked => k_is)
    (case ha_Marked => k_is)
    (case hm_Marked => k_is)
    (case na_Marked_name => k_is)
    (case na_Marked_start => k_is)
    (case na_Marked_end => k_is)
    (case na_Marked_wide => k_is)
    (case na_Marked_since => k_is)
    (case na_Marked_until => k_is)
    (case na_Marked_every => k_is)
    (case na_Marked_bits => k_is)
    (case na_Marked_letting => k_is)
    (case na_Marked_inner => k_is)
    (case na_Marked_turn => k_is)
    (case na_Marked_more => k_is)
    (case in_Marked => k_is)
    (case fi_Marked => k_is)
    (case mt_Marked_lets => k_is)
    (case mf_Marked_lets => k_is)
    (case mt_Marked_words => k_is)
    (case mf_Marked_words => k_is)
    (case mt_Marked_is_exit => k_is)
    (case mf_Marked_is_exit => k_is)
    (case pg_Told => k_is)
    (case hd_Told => k_is)
    (case po_Told => k_is)
    (case sa_Told => k_is)
    (case mk_Told => k_is)
    (case kc_Told => k_is)
    (case ha_Told => k_is)
    (case hm_Told => k_is)
    (case na_Told_name => k_is)
    (case na_Told_start => k_is)
    (case na_Told_end => k_is)
    (case na_Told_wide => k_is)
    (case na_Told_since => k_is)
    (case na_Told_until => k_is)
    (case na_Told_every => k_is)
    (case na_Told_bits => k_is)
    (case na_Told_letting => k_is)
    (case na_Told_inner => k_is)
    (case na_Told_turn => k_is)
    (case na_Told_more => k_is)
    (case in_Told => k_is)
    (case fi_Told => k_is)
    (case mt_Told_lets => k_is)
    (case mf_Told_lets => k_is)
    (case mt_Told_words => k_is)
    (case mf_Told_words => k_is)
    (case mt_Told_is_exit => k_is)
    (case mf_Told_is_exit => k_is)
    (case pg_Shut => k_is)
    (case hd_Shut => k_is)
    (case po_Shut => k_is)
    (case sa_Shut => k_is)
    (case mk_Shut => k_is)
    (case kc_Shut => k_is)
    (case ha_Shut => k_is)
    (case hm_Shut => k_is)
    (case na_Shut_name => k_is)
    (case na_Shut_start => k_is)
    (case na_Shut_end => k_is)
    (case na_Shut_wide => k_is)
    (case na_Shut_since => k_is)
    (case na_Shut_until => k_is)
    (case na_Shut_every => k_is)
    (case na_Shut_bits => k_is)
    (case na_Shut_letting => k_is)
    (case na_Shut_inner => k_is)
    (case na_Shut_turn => k_is)
    (case na_Shut_more => k_is)
    (case in_Shut => k_is)
    (case fi_Shut => k_is)
    (case mt_Shut_lets => k_is)
    (case mf_Shut_lets => k_is)
    (case mt_Shut_words => k_is)
    (case mf_Shut_words => k_is)
    (case mt_Shut_is_exit => k_is)
    (case mf_Shut_is_exit => k_is)
    (case pg_Wider => k_is)
    (case hd_Wider => k_is)
    (case po_Wider => k_is)
    (case sa_Wider => k_is)
    (case mk_Wider => k_is)
    (case kc_Wider => k_is)
    (case ha_Wider => k_is)
    (case hm_Wider => k_is)
    (case na_Wider_name => k_is)
    (case na_Wider_start => k_is)
    (case na_Wider_end => k_is)
    (case na_Wider_wide => k_is)
    (case na_Wider_since => k_is)
    (case na_Wider_until => k_is)
    (case na_Wider_every => k_is)
    (case na_Wider_bits => k_is)
    (case na_Wider_letting => k_is)
    (case na_Wider_inner => k_is)
    (case na_Wider_turn => k_is)
    (case na_Wider_more => k_is)
    (case in_Wider => k_is)
    (case fi_Wider => k_is)
    (case mt_Wider_lets => k_is)
    (case mf_Wider_lets => k_is)
    (case mt_Wider_words => k_is)
    (case mf_Wider_words => k_is)
    (case mt_Wider_is_exit => k_is)
    (case mf_Wider_is_exit => k_is)
    (case hn_obj => k_is)
    (case tk_obj => k_is)
    (case d1_Door___init__ => k_is)
    (case d2_Door___init__ => k_is)
    (case d3_Door___init__ => k_is)
    (case ci_Door => k_is)
    (case ti_Door => k_is)
    (case ci_Shut => k_is)
    (case ti_Shut => k_is)
    (case si_Door_Shut => k_is)
    (case ne_Door_Shut => rfl)
    (case ci_Wider => k_is)
    (case ti_Wider => k_is)
    (case si_Door_Wider => k_is)
    (case ne_Door_Wider => rfl)
    (case ci_Told => k_is)
    (case ti_Told => k_is)
    (case si_Door_Told => k_is)
    (case ne_Door_Told => rfl)
    (case si_Since_Door => k_is)
    (case ne_Since_Door => rfl)
    (case si_Since_Shut => k_is)
    (case ne_Since_Shut => rfl)
    (case si_Since_Wider => k_is)
    (case ne_Since_Wider => rfl)
    (case si_Since_Told => k_is)
    (case ne_Since_Told => rfl)
    (case si_Until_Door => k_is)
    (case ne_Until_Door => rfl)
    (case si_Until_Shut => k_is)
    (case ne_Until_Shut => rfl)
    (case si_Until_Wider => k_is)
    (case ne_Until_Wider => rfl)
    (case si_Until_Told => k_is)
    (case ne_Until_Told => rfl)
    (case si_Beat_Door => k_is)
    (case ne_Beat_Door => rfl)
    (case si_Beat_Shut => k_is)
    (case ne_Beat_Shut => rfl)
    (case si_Beat_Wider => k_is)
    (case ne_Beat_Wider => rfl)
    (case si_Beat_Told => k_is)
    (case ne_Beat_Told => rfl)
    (case si_Marked_Door => k_is)
    (case ne_Marked_Door => rfl)
    (case si_Marked_Shut => k_is)
    (case ne_Marked_Shut => rfl)
    (case si_Marked_Wider => k_is)
    (case ne_Marked_Wider => rfl)
    (case si_Marked_Told => k_is)
    (case ne_Marked_Told => rfl)
    (case si_Told_Door => k_is)
    (case ne_Told_Door => rfl)
    (case si_Told_Shut => k_is)
    (case ne_Told_Shut => rfl)
    (case si_Told_Wider => k_is)
    (case ne_Told_Wider => rfl)
    (case si_Shut_Door => k_is)
    (case ne_Shut_Door => rfl)
    (case si_Shut_Wider => k_is)
    (case ne_Shut_Wider => rfl)
    (case si_Shut_Told => k_is)
    (case ne_Shut_Told => rfl)
    (case si_Wider_Door => k_is)
    (case ne_Wider_Door => rfl)
    (case si_Wider_Shut => k_is)
    (case ne_Wider_Shut => rfl)
    (case si_Wider_Told => k_is)
    (case ne_Wider_Told => rfl)
    (case xe_NoText => k_exc)
    (case xg_NoText => k_is)
    (case xh_NoText => k_is)
    (case xc_NoText => k_is)
    (case xo_NoText => k_is)
    (case xb_NoText => k_is)
    (case xd_NoText => k_is)
    (case e1_NoText_NoText => k_is)
    (case e2_NoText_NoText => k_is)
    (case e3_NoText_NoText => k_is)
    (case e4_NoText_NoText => k_is)
    (case i1_NoText_NoDoor => k_is)
    (case i2_NoText_NoDoor => k_is)
    (case i3_NoText_NoDoor => k_is)
    (case i4_NoText_NoDoor => rfl)
    (case z_ValueError => k_is)
    (case z_range => k_is)
    (case z_isinstance => k_is)
    (case z_int => k_is)
    (case z_str => k_is)
    (case z_all => k_is)
    (case z_len => k_is)
    (case z_list => k_is)
    (case z_bool => k_is)
    (case z_min => k_is)
    (case q_LONGEST_NAME => k_is)
