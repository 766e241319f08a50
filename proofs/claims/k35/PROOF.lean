import PyProof.Rows.All
import Wide.All
import OpenK.AllK
import Wide.FinOn
import Lean
import PyProof.EqAt
import PyProof.EqKinds
import PyProof.TupleCall
import KE.KSortTup
import PyProof.Rows.DictUnroll
import PyProof.DictItems
import KE.LcSums
import PyProof.IsiH_list
import KE.KDictOf
import PyProof.DictWalks
import PyProof.ListRange
import PyProof.EnumStmt
import PyProof.EnumMake
import KE.KDictSum
import PyProof.StrOps2
import PySem.Challenge.RW_firstout_k35_bounds_grow
def PySem.W.Fast.tw12209812117636346400 : Unit := ()
def PySem.W.Fast.tw14439994392494674913 : Unit := ()
def PySem.W.Fast.tw13890562243232051234 : Unit := ()
def PySem.W.Fast.tw17393167525333253155 : Unit := ()
def PySem.W.Fast.tw5179628912117784485 : Unit := ()
def PySem.W.Fast.tw18279692858492384806 : Unit := ()
def PySem.W.Fast.tw14514232792907594375 : Unit := ()
def PySem.W.Fast.tw9570831593178944649 : Unit := ()
def PySem.W.Fast.tw6202916617718820329 : Unit := ()
def PySem.W.Fast.tw18230177132613881513 : Unit := ()
def PySem.W.Fast.tw3210808607261345741 : Unit := ()
def PySem.W.Fast.tw4895036587247418097 : Unit := ()
def PySem.W.Fast.tw3772096788108258067 : Unit := ()
def PySem.W.Fast.tw5565992741320027955 : Unit := ()
def PySem.W.Fast.tw12203521288183604117 : Unit := ()
def PySem.W.Fast.tw16740829081450664854 : Unit := ()
def PySem.W.Fast.tw12349472026616140823 : Unit := ()
def PySem.W.Fast.tw16497143103236186968 : Unit := ()
def PySem.W.Fast.tw3085470809070734074 : Unit := ()
def PySem.W.Fast.tw8109520813618080347 : Unit := ()
def PySem.W.Fast.tw2235609401130961149 : Unit := ()
def PySem.W.Fast.tw9396316445167608127 : Unit := ()
def PySem.W.Fast.tw4382136510793011882 : Unit := ()
def PySem.W.Fast.tw12645598004537325690 : Unit := ()
def PySem.W.Fast.tw6363164595815178566 : Unit := ()
def PySem.W.Fast.tw3563619759776056415 : Unit := ()
def PySem.W.Fast.tw18340227465845607044 : Unit := ()
def PySem.W.Fast.tw2600508679401658803 : Unit := ()
def PySem.W.Fast.tw17950095651045515543 : Unit := ()
def PySem.W.Fast.tw12003348548998940906 : Unit := ()
def PySem.W.Fast.tw7169305615368602218 : Unit := ()
def PySem.W.Fast.tw1040355105771950220 : Unit := ()
def PySem.W.Fast.tw12729135275695235414 : Unit := ()
def PySem.W.Fast.tw4802779735987216933 : Unit := ()
def PySem.W.Fast.tw16301024456341463822 : Unit := ()
def PySem.W.Fast.tw14806137379371741411 : Unit := ()
def PySem.W.Fast.tw457546904641567483 : Unit := ()
def PySem.W.Fast.tw6123874308787642244 : Unit := ()
def PySem.W.Fast.tw2557958359356621388 : Unit := ()
def PySem.W.Fast.tw11092136774242800090 : Unit := ()
def PySem.W.Fast.tw16587437551596542220 : Unit := ()
def PySem.W.Fast.tw10408343251389931566 : Unit := ()
def PySem.W.Fast.tw6461343849376682570 : Unit := ()
def PySem.W.Fast.tw15772384284422194535 : Unit := ()
def PySem.W.Fast.tw6729746399649729008 : Unit := ()
def PySem.W.Fast.tw8337830011150722179 : Unit := ()
def PySem.W.Fast.tw216550592184985345 : Unit := ()
def PySem.W.Fast.tw15590495148483796171 : Unit := ()
def PySem.W.Fast.tw16735924105796541927 : Unit := ()
def PySem.W.Fast.tw9448492070233776972 : Unit := ()
def PySem.W.Fast.tw13978543426811734391 : Unit := ()
def PySem.W.Fast.tw13078728370152510082 : Unit := ()
def PySem.W.Fast.tw17905716110493103164 : Unit := ()
def PySem.W.Fast.tw1303520255045592673 : Unit := ()
def PySem.W.Fast.tw1977924461011175789 : Unit := ()
def PySem.W.Fast.tw17919280132925486555 : Unit := ()
def PySem.W.Fast.tw14556971404524103782 : Unit := ()
def PySem.W.Fast.tw15268184516379248497 : Unit := ()
def PySem.W.Fast.tw5979700588051646246 : Unit := ()
def PySem.W.Fast.tw14441956494455009673 : Unit := ()
def PySem.W.Fast.tw26840330037472223 : Unit := ()
def PySem.W.Fast.tw5563096035052164242 : Unit := ()
def PySem.W.Fast.tw12786109199259760890 : Unit := ()
def PySem.W.Fast.tw2708402053168798823 : Unit := ()
def PySem.W.Fast.tw13433666307775761301 : Unit := ()
def PySem.W.Fast.tw11383227963890624960 : Unit := ()
def PySem.W.Fast.tw15013452203130407162 : Unit := ()
def PySem.W.Fast.tw16886445270011510113 : Unit := ()
def PySem.W.Fast.tw7969152394448531924 : Unit := ()
def PySem.W.Fast.tw11985578914188633004 : Unit := ()
def PySem.W.Fast.tw10220657295947680387 : Unit := ()
def PySem.W.Fast.tw3371550422081452004 : Unit := ()
def PySem.W.Fast.tw10922535283055691086 : Unit := ()
def PySem.W.Fast.tw7964393923155373772 : Unit := ()
def PySem.W.Fast.tw2375513432747530645 : Unit := ()
def PySem.W.Fast.tw122554981274532717 : Unit := ()
def PySem.W.Fast.tw15260293751557349065 : Unit := ()
def PySem.W.Fast.tw9759690833190969312 : Unit := ()
def PySem.W.Fast.tw6900575043879292472 : Unit := ()
def PySem.W.Fast.tw5567236176974796308 : Unit := ()
def PySem.W.Fast.tw3855626699065593052 : Unit := ()
def PySem.W.Fast.tw2443758135916036075 : Unit := ()
def PySem.W.Fast.tw13709797096218603581 : Unit := ()
def PySem.W.Fast.tw5959675025848986077 : Unit := ()
def PySem.W.Fast.tw8240887853649363494 : Unit := ()
def PySem.W.Fast.tw10419540381172219337 : Unit := ()
def PySem.W.Fast.tw10355591211537600525 : Unit := ()
def PySem.W.Fast.tw1973183311078904314 : Unit := ()
def PySem.W.Fast.tw17898538591040738927 : Unit := ()
def PySem.W.Fast.tw17160935485941854741 : Unit := ()
def PySem.W.Fast.tw18033343931010333332 : Unit := ()
def PySem.W.Fast.tw12620436939377675819 : Unit := ()
def PySem.W.Fast.tw9051586850328118066 : Unit := ()
def PySem.W.Fast.tw7644218424315769383 : Unit := ()
def PySem.W.Fast.tw9930818009123873551 : Unit := ()
def PySem.W.Fast.tw11968666630471352363 : Unit := ()
def PySem.W.Fast.tw2398816007707299597 : Unit := ()
def PySem.W.Fast.tw11026283526422136041 : Unit := ()
def PySem.W.Fast.tw661789985727384274 : Unit := ()
def PySem.W.Fast.tw9406842746085240403 : Unit := ()
def PySem.W.Fast.tw6831204982042295167 : Unit := ()
def PySem.W.Fast.tw17957779785784963016 : Unit := ()
def PySem.W.Fast.tw16827913271818478303 : Unit := ()
def PySem.W.Fast.tw1126360044991351276 : Unit := ()
def PySem.W.Fast.tw9528875656683511814 : Unit := ()
def PySem.W.Fast.tw17744576443587089535 : Unit := ()
def PySem.W.Fast.tw7089144971891465948 : Unit := ()
def PySem.W.Fast.tw931772021374484519 : Unit := ()
def PySem.W.Fast.tw12449071253236061601 : Unit := ()
def PySem.W.Fast.tw5776470788986669677 : Unit := ()
def PySem.W.Fast.tw18371567693910363368 : Unit := ()
def PySem.W.Fast.tw6497805598290444127 : Unit := ()
def PySem.W.Fast.tw9620071814605876818 : Unit := ()
def PySem.W.Fast.tw5596397915117984556 : Unit := ()
def PySem.W.Fast.tw12109443677914629273 : Unit := ()
def PySem.W.Fast.tw5036709190411079723 : Unit := ()
def PySem.W.Fast.tw17360133292105434724 : Unit := ()
def PySem.W.Fast.tw15219942824209024365 : Unit := ()
def PySem.W.Fast.tw9119392157686591922 : Unit := ()
def PySem.W.Fast.tw12288849761215821879 : Unit := ()
def PySem.W.Fast.tw5549811942565960938 : Unit := ()
def PySem.W.Fast.tw16277676204807040513 : Unit := ()
def PySem.W.Fast.tw4366290507912749063 : Unit := ()
def PySem.W.Fast.tw62416922399565235 : Unit := ()
def PySem.W.Fast.tw14167325251962549055 : Unit := ()
def PySem.W.Fast.tw6471484497560618229 : Unit := ()
def PySem.W.Fast.tw8385940305280512015 : Unit := ()
def PySem.W.Fast.tw7627454801548574050 : Unit := ()
def PySem.W.Fast.tw16488045140380212600 : Unit := ()
def PySem.W.Fast.tw15758705618361555033 : Unit := ()
def PySem.W.Fast.tw8115357618440896670 : Unit := ()
def PySem.W.Fast.tw3121846210549651475 : Unit := ()
def PySem.W.Fast.tw12865815547700396990 : Unit := ()
def PySem.W.Fast.tw7876081374371988696 : Unit := ()
def PySem.W.Fast.tw1087965028423966474 : Unit := ()
def PySem.W.Fast.tw3359401247503820620 : Unit := ()
def PySem.W.Fast.tw7994060883995540749 : Unit := ()
def PySem.W.Fast.tw230525228862546044 : Unit := ()
def PySem.W.Fast.tw9513099813286864794 : Unit := ()
def PySem.W.Fast.tw4137458411840566735 : Unit := ()
def PySem.W.Fast.tw10082418472003510544 : Unit := ()
def PySem.W.Fast.tw13170816572151196922 : Unit := ()
def PySem.W.Fast.tw10157214976650868094 : Unit := ()
def PySem.W.Fast.tw7431949288951215063 : Unit := ()
def PySem.W.Fast.tw10862559370708077016 : Unit := ()
def PySem.W.Fast.tw465278358805008074 : Unit := ()
def PySem.W.Fast.tw17863227086192759527 : Unit := ()
local macro_rules | `(tactic| walk_at "oi") => `(tactic| first | exact Or.inl rfl | exact Or.inr rfl)
set_option Elab.async false
set_option linter.all false
set_option maxRecDepth 100000
namespace L2
open PySem PySem.Spec PyProof.Rows
abbrev Key := Sum Int Str
def keyIs : Key → Value → Bool
  | .inl k, v => Value.isInt k v
  | .inr x, v => Value.isStrOf x v
def keyH (w : World) : Key → Int
  | .inl k => hashInt k
  | .inr x => hashStr w x
theorem keyIs_shape : ∀ {k : Key} {v : Value}, keyIs k v = true → (∃ i t, k = Sum.inl i ∧ v = Value.int i t) ∨ (∃ x t, k = Sum.inr x ∧ v = Value.str x t)
  | .inl i, v, h => by
    obtain ⟨t, e⟩ := Value.isInt_shape (k := i) (v := v) h
    exact .inl ⟨i, t, rfl, e⟩
  | .inr x, v, h => by
    obtain ⟨t, e⟩ := Value.isStrOf_shape (x := x) (v := v) h
    exact .inr ⟨x, t, rfl, e⟩
theorem keyIs_int (i : Int) (t : Tok) : keyIs (.inl i) (.int i t) = true := by simp [keyIs, Value.isInt]
theorem keyIs_str (x : Str) (t : Tok) : keyIs (.inr x) (.str x t) = true := by simp [keyIs, Value.isStrOf]
theorem key_ll (a b : Int) : decide ((Sum.inl a : Key) = Sum.inl b) = (a == b) := by
  by_cases e : a = b
  · subst e; simp
  · have h : ¬ (Sum.inl a : Key) = Sum.inl b := fun q => e (Sum.inl.inj q)
    rw [decide_eq_false h]
    exact (beq_eq_false_iff_ne.mpr e).symm
theorem key_rr (a b : Str) : decide ((Sum.inr a : Key) = Sum.inr b) = decide (a = b) := by
  by_cases e : a = b
  · subst e; simp
  · have h : ¬ (Sum.inr a : Key) = Sum.inr b := fun q => e (Sum.inr.inj q)
    rw [decide_eq_false h, decide_eq_false e]
theorem key_lr (a : Int) (b : Str) : decide ((Sum.inl a : Key) = Sum.inr b) = false := decide_eq_false (fun q => nomatch q)
theorem key_rl (a : Str) (b : Int) : decide ((Sum.inr a : Key) = Sum.inl b) = false := decide_eq_false (fun q => nomatch q)
def mixKind (prog : Program) (w : World) : PySem.KeyKind prog w Key where
  is := keyIs
  hash := keyH w
  inj := fun v a b ha hb => by
    rcases keyIs_shape ha with ⟨i, t, rfl, rfl⟩ | ⟨x, t, rfl, rfl⟩
    · rcases keyIs_shape hb with ⟨j, u, rfl, e⟩ | ⟨y, u, rfl, e⟩
      · injection e with e1 _; rw [e1]
      · exact nomatch e
    · rcases keyIs_shape hb with ⟨j, u, rfl, e⟩ | ⟨y, u, rfl, e⟩
      · exact nomatch e
      · injection e with e1 _; rw [e1]
  byValue := fun k v h => by
    rcases keyIs_shape h with ⟨i, t, rfl, rfl⟩ | ⟨x, t, rfl, rfl⟩ <;> rfl
  pyHash := fun hv h => by
    rcases keyIs_shape hv with ⟨i, t, rfl, rfl⟩ | ⟨x, t, rfl, rfl⟩
    · exact wpAny_pyHash_int h
    · exact wpAny_pyHash_str h
  eqBool := fun hu hv h => by
    rcases keyIs_shape hu with ⟨i, t, rfl, rfl⟩ | ⟨x, t, rfl, rfl⟩
    · rcases keyIs_shape hv with ⟨j, u, rfl, rfl⟩ | ⟨y, u, rfl, rfl⟩
      · rw [key_ll] at h; exact wpAny_eqBool_int h
      · rw [key_lr] at h; exact SeqAt.EqAt.int_str i t y u _ _ _ _ h
    · rcases keyIs_shape hv with ⟨j, u, rfl, rfl⟩ | ⟨y, u, rfl, rfl⟩
      · rw [key_rl] at h; exact SeqAt.EqAt.str_int x t j u _ _ _ _ h
      · rw [key_rr] at h; exact wpAny_eqBool_str h
  «strs» := fun k x t v h => by
    rcases keyIs_shape h with ⟨i, u, rfl, e⟩ | ⟨y, u, rfl, e⟩
    · exact nomatch e
    · injection e with e1 _
      subst e1
      cases v <;> rfl
theorem mixKind_int (prog : Program) (w : World) (i : Int) (t : Tok) : (mixKind prog w).is (.inl i) (.int i t) = true := keyIs_int i t
theorem mixKind_str (prog : Program) (w : World) (x : Str) (t : Tok) : (mixKind prog w).is (.inr x) (.str x t) = true := keyIs_str x t
end L2
namespace L2
open PySem PySem.Spec PyProof.Rows
inductive V where
  | non | bl (b : Bool) | int (i : Int) | str (x : Str) | byt (b : Array UInt8) | flt (b : UInt64) | ref (a : Addr) | ty (n : String)
  deriving DecidableEq
def RelV : V → Value → Prop
  | .non, u => u = Value.none
  | .bl b, u => u = Value.bool b
  | .int i, u => ∃ t, u = Value.int i t
  | .str x, u => ∃ t, u = Value.str x t
  | .byt b, u => ∃ t, u = Value.bytes b t
  | .flt b, u => ∃ t, u = Value.float b t
  | .ref a, u => u = Value.ref a
  | .ty n, u => u = Value.type n
abbrev Vals : List V → List Value → Prop := Paired RelV
theorem Vals.length {xs : List V} {us : List Value} (r : Vals xs us) : xs.length = us.length := Paired.length r
theorem Vals.get : ∀ {xs : List V} {us : List Value} {i : Nat} {x : V}, Vals xs us → xs[i]? = some x → ∃ u, us[i]? = some u ∧ RelV x u
  | _, _, _, _, .nil, e => by simp at e
  | _, _, 0, _, .cons r _, e => by simp at e; subst e; exact ⟨_, rfl, r⟩
  | _, _, i + 1, x, .cons _ t, e => by
    obtain ⟨u, h1, h2⟩ := Vals.get (i := i) (x := x) t (by simpa using e)
    exact ⟨u, by simpa using h1, h2⟩
theorem Vals.set {x : V} {u : Value} (r : RelV x u) : ∀ {xs : List V} {us : List Value} (i : Nat), Vals xs us → Vals (xs.set i x) (us.set i u)
  | _, _, _, .nil => .nil
  | _, _, 0, .cons _ t => .cons r t
  | _, _, i + 1, .cons q t => .cons q (Vals.set r i t)
theorem Vals.append : ∀ {xs ys : List V} {us ws : List Value}, Vals xs us → Vals ys ws → Vals (xs ++ ys) (us ++ ws)
  | _, _, _, _, .nil, s => s
  | _, _, _, _, .cons r t, s => .cons r (Vals.append t s)
theorem Vals.take : ∀ {xs : List V} {us : List Value} (n : Nat), Vals xs us → Vals (xs.take n) (us.take n)
  | _, _, 0, _ => .nil
  | _, _, _ + 1, .nil => .nil
  | _, _, n + 1, .cons r t => .cons r (Vals.take n t)
theorem Vals.drop : ∀ {xs : List V} {us : List Value} (n : Nat), Vals xs us → Vals (xs.drop n) (us.drop n)
  | _, _, 0, r => r
  | _, _, _ + 1, .nil => .nil
  | _, _, n + 1, .cons _ t => Vals.drop n t
def RelO : Option V → Option Value → Prop
  | some v, some u => RelV v u
  | none, none => True
  | _, _ => False
def KV {κ : Type} : List (κ × V) → List (κ × Value) → Prop := Paired fun (p : κ × V) (q : κ × Value) => p.1 = q.1 ∧ RelV p.2 q.2
def kV : Key → V
  | .inl i => .int i
  | .inr x => .str x
inductive HO where
    | lst (xs : List V)
    | tup (xs : List V)
    | dK (kvs : List (Key × V)) | dT (kvs : List (List Key × V))
    | set (S : Int → Bool) (n : Nat)
    | ins (C dx : Addr) (fs : List (Str × V))
    | own (x : Addr)
    | xd (fs : List (Str × V))
    | met (f x : Addr)
    | rng (lo hi : Int)
    | frz (o : Obj) (u : HO)
    | tbl (ps : Array Value)
    | ext (φ : Heap → Prop)
abbrev Hp := Addr → Option HO
def upd (H : Hp) (a : Addr) (o : HO) : Hp := fun b => if b = a then some o else H b
theorem upd_same {H : Hp} {a : Addr} {o : HO} : upd H a o a = some o := by unfold upd; rw [if_pos rfl]
theorem upd_ne {H : Hp} {a b : Addr} {o : HO} (h : b ≠ a) : upd H a o b = H b := by unfold upd; rw [if_neg h]
theorem upd_upd {H : Hp} {a : Addr} {o u : HO} : upd (upd H a o) a u = upd H a u := by
  funext b; unfold upd; split <;> rfl
theorem ne_of {H : Hp} {a b : Addr} {o u : HO} (h : H a = some o) (h' : H b = some u) (d : o ≠ u) : a ≠ b := by
  intro e; subst e; rw [h] at h'; exact d (Option.some.inj h')
theorem ne_of_none {H : Hp} {a b : Addr} {o : HO} (h : H a = some o) (h' : H b = none) : a ≠ b := by
  intro e; subst e; rw [h] at h'; cases h'
section
variable (P : Program) (w : World)
def ObjOk (H : Hp) (h : Heap) (a : Addr) : HO → Prop
  | .lst xs => xs.length ≤ sizeLine ∧ ∃ (its : List Value) (n : Nat), Vals xs its ∧ h.get? a = some { cls := .type "list", data := .seq its.toArray n }
  | .tup xs => xs.length ≤ sizeLine ∧ ∃ its : List Value, Vals xs its ∧ IsTup h a its.toArray
  | .dK kvs => kvs.length ≤ sizeLine ∧ (a == sysModules) = false ∧ ∃ vs, KV kvs vs ∧ h.DictOf (mixKind P w) a vs
  | .dT kvs => kvs.length ≤ sizeLine ∧ (a == sysModules) = false ∧ ∃ xs : List (List Key × Addr × Value),
      Paired (fun (p : List Key × V) (q : List Key × Addr × Value) => p.1 = q.1 ∧ H q.2.1 = some (.tup (p.1.map kV)) ∧ RelV p.2 q.2.2) kvs xs ∧
      ∃ o es ep, h.get? a = some o ∧ o.ExactDict ∧ o.data = .dict es ep ∧ es.toList = xs.map (entryOfKey (tupleKind (mixKind P w))) ∧ (xs.map (·.1)).Nodup
  | .set S n => h.SetOf (intKind P w) a S n
  | .ins C dx fs => H dx = some (.own a) ∧ fs.length ≤ 1000 ∧ dx ≠ a ∧ h.get? a = some (PySem.W.instObj C dx) ∧
      ∃ mA, h.Ns1 dx mA ∧ (∀ f, RelO (fs.lookup f) (mA f)) ∧ PySem.Within mA (fs.map (·.1))
  | .own _ => ∃ o, h.get? a = some o
  | .xd fs => ∃ mA, h.Ns1 a mA ∧ ∀ f, RelO (fs.lookup f) (mA f)
  | .rng lo hi => ∃ t u v, h.get? a = some { cls := .type "range", data := .fields #[.int lo t, .int hi u, .int 1 v] }
  | .frz o u => h.get? a = some o ∧ ObjOk H h a u
  | .tbl ps => h.get? a = some { cls := .none, data := .fields ps }
  | .met f x => h.get? a = some (PySem.W.methodObj (.ref f) (.ref x))
  | .ext φ => φ h ∧ (∃ o, h.get? a = some o) ∧ ∀ h1 h2 : Heap, φ h1 → (∀ o, h1.get? a = some o → h2.get? a = some o) → φ h2
def HOk (H : Hp) (h : Heap) : Prop := ∀ a o, H a = some o → ObjOk P w H h a o
end
section
variable {P : Program} {w : World} {H H' : Hp} {h h' : Heap} {a : Addr} {o : HO}
theorem ObjOk.lt (x : ObjOk P w H h a o) : a < h.objs.size := by
  cases o with
  | lst xs => obtain ⟨_, _, _, _, e⟩ := x; exact Heap.lt_size e
  | tup xs => obtain ⟨_, _, _, p⟩ := x; exact p.lt
  | dK kvs => obtain ⟨_, _, _, _, o, _, _, e, _⟩ := x; exact Heap.lt_size e
  | dT kvs => obtain ⟨_, _, _, _, o, _, _, e, _⟩ := x; exact Heap.lt_size e
  | set S n => obtain ⟨o, _, _, _, e, _⟩ := x; exact Heap.lt_size e
  | ins C dx fs => obtain ⟨_, _, _, e, _⟩ := x; exact Heap.lt_size e
  | own y => obtain ⟨_, e⟩ := x; exact Heap.lt_size e
  | xd fs => obtain ⟨_, ⟨_, _, _, e, _⟩, _⟩ := x; exact Heap.lt_size e
  | rng lo hi => obtain ⟨_, _, _, e⟩ := x; exact Heap.lt_size e
  | frz ob u => obtain ⟨e, _⟩ := x; exact Heap.lt_size e
  | tbl ps => exact Heap.lt_size (show h.get? a = some _ from x)
  | met f y => exact Heap.lt_size (show h.get? a = some _ from x)
  | ext φ => obtain ⟨_, ⟨_, e⟩, _⟩ := x; exact Heap.lt_size e
theorem Paired.mapP {α β : Type} {F G : α → β → Prop} : ∀ {l₁ : List α} {l₂ : List β}, Paired F l₁ l₂ → (∀ a b, F a b → G a b) → Paired G l₁ l₂
  | _, _, .nil, _ => .nil
  | _, _, .cons r t, f => .cons (f _ _ r) (Paired.mapP t f)
theorem Paired.imp' {α β : Type} {F G : α → β → Prop} (f : ∀ a b, F a b → G a b) {l₁ : List α} {l₂ : List β} (r : Paired F l₁ l₂) : Paired G l₁ l₂ := Paired.mapP r f
theorem ObjOk.stay (x : ObjOk P w H h a o) (k : ∀ b u, (b = a ∨ H b = some (.own a)) → h.get? b = some u → h'.get? b = some u)
    (ho : ∀ b, H b = some (.own a) → H' b = some (.own a)) (ht : ∀ b xs, H b = some (.tup xs) → H' b = some (.tup xs)) : ObjOk P w H' h' a o := by
  induction o with
  | lst xs => obtain ⟨z, its, n, r, e⟩ := x; exact ⟨z, its, n, r, k _ _ (.inl rfl) e⟩
  | tup xs => obtain ⟨z, its, r, ob, e, c⟩ := x; exact ⟨z, its, r, ob, k _ _ (.inl rfl) e, c⟩
  | dK kvs => obtain ⟨z, y, vs, r, ob, es, ep, e, c⟩ := x; exact ⟨z, y, vs, r, ob, es, ep, k _ _ (.inl rfl) e, c⟩
  | dT kvs =>
    obtain ⟨z, y, xs, r, ob, es, ep, e, c⟩ := x
    exact ⟨z, y, xs, Paired.mapP r fun p q z => ⟨z.1, ht _ _ z.2.1, z.2.2⟩, ob, es, ep, k _ _ (.inl rfl) e, c⟩
  | set S n => obtain ⟨ob, es, ep, t, e, c⟩ := x; exact ⟨ob, es, ep, t, k _ _ (.inl rfl) e, c⟩
  | ins C dx fs =>
    obtain ⟨d, z, ne, e, mA, ⟨od, es, ep, e2, c⟩, r⟩ := x
    exact ⟨ho _ d, z, ne, k _ _ (.inl rfl) e, mA, ⟨od, es, ep, k _ _ (.inr d) e2, c⟩, r⟩
  | own y => obtain ⟨ob, e⟩ := x; exact ⟨ob, k _ _ (.inl rfl) e⟩
  | xd fs => obtain ⟨mA, ⟨od, es, ep, e, c⟩, r⟩ := x; exact ⟨mA, ⟨od, es, ep, k _ _ (.inl rfl) e, c⟩, r⟩
  | rng lo hi => obtain ⟨t, u, v, e⟩ := x; exact ⟨t, u, v, k _ _ (.inl rfl) e⟩
  | frz ob u ih => obtain ⟨e, q⟩ := x; exact ⟨k _ _ (.inl rfl) e, ih q⟩
  | tbl ps =>
    have e : h.get? a = some { cls := .none, data := .fields ps } := x
    show h'.get? a = some { cls := .none, data := .fields ps }
    exact k a _ (.inl rfl) e
  | met f y =>
    have e : h.get? a = some (PySem.W.methodObj (.ref f) (.ref y)) := x
    show h'.get? a = some (PySem.W.methodObj (.ref f) (.ref y))
    exact k a _ (.inl rfl) e
  | ext φ => obtain ⟨p, ⟨o, e⟩, st⟩ := x; exact ⟨st _ _ p fun o q => k _ _ (.inl rfl) q, ⟨o, k _ _ (.inl rfl) e⟩, st⟩
theorem HOk.lt (x : HOk P w H h) (e : H a = some o) : a < h.objs.size := (x a o e).lt
theorem HOk.fresh (x : HOk P w H h) (e : h.objs.size ≤ a) : H a = none := by
  cases q : H a with
  | none => rfl
  | some u => exact absurd (Nat.lt_of_lt_of_le (x.lt q) e) (Nat.lt_irrefl _)
theorem HOk.kept (x : HOk P w H h) (k : ∀ b u, h.get? b = some u → h'.get? b = some u) : HOk P w H h' := fun a o e =>
  (x a o e).stay (fun b u _ q => k b u q) (fun _ q => q) fun _ _ q => q
theorem HOk.laid (x : HOk P w H h) (k : ∀ b u, h.get? b = some u → h'.get? b = some u) (hp : h.objs.size ≤ a) (new : ObjOk P w (upd H a o) h' a o) : HOk P w (upd H a o) h' := fun b u e => by
  have hn := x.fresh hp
  by_cases hb : b = a
  · subst hb; rw [upd_same] at e; cases e; exact new
  · rw [upd_ne hb] at e
    exact (x b u e).stay (fun c v _ q => k c v q) (fun c q => by rw [upd_ne (ne_of_none q hn)]; exact q) fun c xs q => by rw [upd_ne (ne_of_none q hn)]; exact q
end
def Rd (H : Hp) (a : Addr) (u : HO) : Prop := H a = some u ∨ ∃ o, H a = some (.frz o u)
theorem Rd.ok {P : Program} {w : World} {H : Hp} {h : Heap} {a : Addr} {u : HO} (r : Rd H a u) (x : HOk P w H h) : ObjOk P w H h a u := by
  rcases r with r | ⟨o, r⟩
  · exact x a u r
  · obtain ⟨_, q⟩ := x a _ r
    exact q
def Mut : Option HO → Prop
  | some (.lst _) => True
  | some (.dK _) => True
  | some (.dT _) => True
  | some (.set _ _) => True
  | some (.ins _ _ _) => True
  | some (.ext _) => True
  | _ => False
section
variable {P : Program} {w : World} {H : Hp} {h h' : Heap} {x e : Addr} {o' : HO}
theorem HOk.write (ok : HOk P w H h) (mu : Mut (H x)) (he : e = x ∨ H e = some (.own x)) (k : ∀ b u, b ≠ e → h.get? b = some u → h'.get? b = some u) (heo : ∃ u, h'.get? e = some u)
    (new : ObjOk P w (upd H x o') h' x o') : HOk P w (upd H x o') h' := fun b u q => by
  have nown : ∀ c y, H c = some (.own y) → c ≠ x := fun c y r z => by subst z; rw [r] at mu; exact mu
  have ntup : ∀ c xs, H c = some (.tup xs) → c ≠ x := fun c xs r z => by subst z; rw [r] at mu; exact mu
  by_cases hb : b = x
  · subst hb; rw [upd_same] at q; cases q; exact new
  · rw [upd_ne hb] at q
    by_cases hbe : b = e
    · have q' : H b = some (.own x) := by
        rcases he with z | z
        · exact absurd (hbe.trans z) hb
        · rw [hbe]; exact z
      rw [q] at q'; cases q'
      obtain ⟨v, hv⟩ := heo
      exact ⟨v, by rw [hbe]; exact hv⟩
    · refine (ok b u q).stay (fun c v hc r => k c v ?_ r) (fun c r => by rw [upd_ne (nown c b r)]; exact r) fun c xs r => by rw [upd_ne (ntup c xs r)]; exact r
      rcases hc with rfl | hc
      · exact hbe
      · rintro rfl
        rcases he with z | z
        · exact nown c b hc z
        · rw [hc] at z; cases z; exact hb rfl
end
structure Un (fs ex : List Addr) (H H' : Hp) (h h' : Heap) : Prop where
  keep : ∀ b o, h.get? b = some o → H b = none → b ∉ fs → b ∉ ex → h'.get? b = some o
  slot : ∀ b o, h.get? b = some o → H b = none → b ∈ fs → b ∉ ex → ∃ sl, h'.get? b = some { o with slots := sl }
  free : ∀ b o, h.get? b = some o → H b = none → b ∉ ex → H' b = none
  there : ∀ b o, h.get? b = some o → b ∉ ex → ∃ o', h'.get? b = some o'
  tups : ∀ b xs, H b = some (.tup xs) → H' b = some (.tup xs)
  frzs : ∀ b o u, H b = some (.frz o u) → H' b = some (.frz o u)
  tbls : ∀ b ps, H b = some (.tbl ps) → ∃ more, H' b = some (.tbl (ps ++ more))
section
variable {fs fs' ex ex' : List Addr} {H H1 H2 : Hp} {h h1 h2 h' : Heap} {a x e : Addr} {o : HO}
theorem Un.any (u : Un fs ex H H1 h h1) {b : Addr} {ob : Obj} (q : h.get? b = some ob) (n : H b = none) (hx : b ∉ ex) : ∃ sl, h1.get? b = some { ob with slots := sl } := by
  by_cases hb : b ∈ fs
  · exact u.slot b ob q n hb hx
  · exact ⟨ob.slots, u.keep b ob q n hb hx⟩
theorem Un.kept (k : ∀ b u, h.get? b = some u → h'.get? b = some u) : Un fs ex H H h h' :=
  ⟨fun b ob q _ _ _ => k b ob q, fun b ob q _ _ _ => ⟨ob.slots, k b ob q⟩, fun _ _ _ n _ => n, fun b ob q _ => ⟨ob, k b ob q⟩, fun _ _ q => q, fun _ _ _ q => q, fun _ ps q => ⟨#[], by rw [q]; simp⟩⟩
theorem Un.refl : Un fs ex H H h h := Un.kept fun _ _ q => q
theorem Un.laid (k : ∀ b u, h.get? b = some u → h'.get? b = some u) (hp : h.objs.size ≤ a) (hn : H a = none) : Un fs ex H (upd H a o) h h' where
  keep := fun b u q _ _ _ => k b u q
  slot := fun b u q _ _ _ => ⟨u.slots, k b u q⟩
  free := fun b u q n _ => by rw [upd_ne (Nat.ne_of_lt (Nat.lt_of_lt_of_le (Heap.lt_size q) hp))]; exact n
  there := fun b u q _ => ⟨u, k b u q⟩
  tups := fun b xs q => by rw [upd_ne (ne_of_none q hn)]; exact q
  frzs := fun b u xs q => by rw [upd_ne (ne_of_none q hn)]; exact q
  tbls := fun b ps q => ⟨#[], by rw [upd_ne (ne_of_none q hn), q]; simp⟩
theorem Un.write (mu : Mut (H x)) (he : e = x ∨ H e = some (.own x)) (k : ∀ b u, b ≠ e → h.get? b = some u → h'.get? b = some u) (heo : ∃ u, h'.get? e = some u) : Un fs ex H (upd H x o) h h' := by
  have hx : ∀ b, H b = none → b ≠ x := fun b n z => by subst z; rw [n] at mu; exact mu
  have hb : ∀ b, H b = none → b ≠ e := fun b n z => by
    subst z
    rcases he with r | r
    · exact hx b n r
    · rw [n] at r; cases r
  have hm : ∀ b u, H b = some u → ¬ Mut (some u) → b ≠ x := fun b u q nm z => by subst z; rw [q] at mu; exact nm mu
  refine ⟨fun b u q n _ _ => k b u (hb b n) q, fun b u q n _ _ => ⟨u.slots, k b u (hb b n) q⟩, fun b u q n _ => by rw [upd_ne (hx b n)]; exact n, fun b u q _ => ?_,
    fun b xs q => by rw [upd_ne (hm b _ q fun z => z)]; exact q, fun b u xs q => by rw [upd_ne (hm b _ q fun z => z)]; exact q, fun b ps q => ⟨#[], by rw [upd_ne (hm b _ q fun z => z), q]; simp⟩⟩
  by_cases hbe : b = e
  · subst hbe; exact heo
  · exact ⟨u, k b u hbe q⟩
end
def trk (h : Heap) (H : Hp) : List Addr := (List.range h.objs.size).filter fun a => (H a).isSome
def hidT (h : Heap) (H : Hp) : Heap := PySem.W.hideAll h (trk h H)
theorem hidT_size (h : Heap) (H : Hp) : (hidT h H).objs.size = h.objs.size := PySem.W.hideAll_size _ _
theorem hidT_get {h : Heap} {H : Hp} {b : Addr} {o : Obj} (e : h.get? b = some o) (n : H b = none) : (hidT h H).get? b = some o :=
  PySem.W.hideAll_get _ e fun hm => by
    have q : (H b).isSome = true := (List.mem_filter.mp hm).2
    rw [n] at q; simp at q
theorem of_hidT {h : Heap} {H : Hp} {b : Addr} {o : Obj} (e : (hidT h H).get? b = some o) : h.get? b = some o ∧ H b = none := by
  have e' : h.get? b = some o := PySem.W.of_hideAll (trk h H) e
  refine ⟨e', ?_⟩
  cases q : H b with
  | none => rfl
  | some x =>
    have hm : b ∈ trk h H := List.mem_filter.mpr ⟨List.mem_range.mpr (Heap.lt_size e'), by simp [q]⟩
    have z : (hidT h H).get? b = none := PySem.W.hideAll_none (trk h H) hm
    rw [z] at e; cases e
end L2
namespace L2
open PySem PySem.Spec PyProof.Rows
structure Mod (K : PySem.W.Frag) (mg : Str → Option Value) (base : Heap) : Prop where
  kin : K.In base
  glob : base.Ns mainGlobals mg
  blt : ∃ mb, base.Ns builtinsNs mb ∧ ∀ x : Str, x ≠ "__name__" → mb x = bootBuiltins x
  nolimit : base.NoLimit
structure Cx where
  prog : Program
  w : World
  K : PySem.W.Frag
  mg : Str → Option Value
  base : Heap
  A : Around
  N : List Str
  s₀ : Shared
  H₀ : Hp
  env : Env
  outer : List Env
  stack : List Env
  ex : List Addr
  fn : Str → Bool
  calm : Bool
  pn : List (Addr × Obj)
  xe : Value → Shared → Prop
def frs (l : List Env) : List Addr := l.filterMap (·.frame)
abbrev Cx.fs (X : Cx) : List Addr := frs X.outer
def Vis (sc : Scope) (x : Str) : Prop := sc.names.lookup x = some .local ∨ sc.names.lookup x = some .cell ∨ sc.names.lookup x = some .free
def Loc (sc : Scope) (x : Str) : Prop := sc.names.lookup x = some .local ∨ sc.names.lookup x = some .cell
def Look (env : Env) (h : Heap) (m : Str → Option Value) (x : Str) (u : Value) : Prop :=
  (env.kindOf x = some .local ∧ m x = some u) ∨ ((env.kindOf x = some .cell ∨ env.kindOf x = some .free) ∧ ∃ c, env.cells.lookup x = some c ∧ h.IsCell c (some u))
structure Cx.Ok (X : Cx) : Prop where
  mod : Mod X.K X.mg X.base
  kind : X.env.scope.kind = .function
  glob : X.env.globals = mainGlobals
  blt : X.env.builtins = builtinsNs
  above : X.s₀.heap.objs.size ≤ X.env.locals
  inj : ∀ x y c, X.env.cells.lookup x = some c → X.env.cells.lookup y = some c → x = y
  has : ∀ x, (X.env.kindOf x = some .cell ∨ X.env.kindOf x = some .free) → ∃ c, X.env.cells.lookup x = some c
  cab : ∀ x c, X.fn x = true → X.env.cells.lookup x = some c → X.s₀.heap.objs.size ≤ c
  hd : X.calm = true → X.A.handled = none
  frames : X.A.frames = some X.stack
  stk : X.stack = X.outer ∨ (X.stack = X.env :: X.outer ∧ X.env.frame = some X.env.locals)
  exf : ∀ b ∈ X.ex, b ≠ X.env.locals ∧ ∀ x c, X.env.cells.lookup x = some c → c ≠ b
  bs : ∀ b o, X.base.get? b = some o → X.s₀.heap.get? b = some o ∧ X.H₀ b = none
  bsz : X.base.objs.size ≤ X.s₀.heap.objs.size
  noex : ∀ b o, X.base.get? b = some o → b ∉ X.ex
  exfs : ∀ b ∈ X.ex, b ∉ X.fs
  funs : X.s₀.heap.FunFrames X.base X.outer
  frf : ∀ b ∈ X.fs, X.H₀ b = none
structure Inv (X : Cx) (pins : List (Addr × Obj)) (σ : List (Option V)) (H : Hp) (s : Shared) : Prop where
  ok : X.Ok
  os : s.os = X.s₀.os
  bare : AllBare s.gens
  base : Un X.fs X.ex X.H₀ H X.s₀.heap s.heap
  loc : ∃ m, s.heap.Ns X.env.locals m ∧ ∀ (i : Nat) (x : Str) (v : V), X.N[i]? = some x → σ[i]? = some (some v) → Vis X.env.scope x → ∃ u, RelV v u ∧ Look X.env s.heap m x u
  cell : ∀ x c, X.env.cells.lookup x = some c → ∃ v, s.heap.IsCell c v
  free : H X.env.locals = none
  freeC : ∀ x c, X.env.cells.lookup x = some c → H c = none
  pin : ∀ p ∈ X.pn ++ pins, s.heap.get? p.1 = some p.2 ∧ H p.1 = none ∧ p.1 ≠ X.env.locals ∧ p.1 ∉ X.fs ∧ ∀ v, p.2.data ≠ .cell v
  hok : HOk X.prog X.w H s.heap
  len : σ.length = X.N.length
section
variable {X : Cx} {pins : List (Addr × Obj)} {σ : List (Option V)} {H H' : Hp} {s : Shared} {h' : Heap}
theorem Cx.Ok.nofr (ok : X.Ok) {b : Addr} {o : Obj} (e : X.base.get? b = some o) : b ∉ X.fs := fun hb => by
  have := (ok.funs.mem hb).1
  rw [e] at this; cases this
theorem Inv.bs (I : Inv X pins σ H s) : ∀ b o, X.base.get? b = some o → s.heap.get? b = some o ∧ H b = none := fun b o e =>
  ⟨I.base.keep b o (I.ok.bs b o e).1 (I.ok.bs b o e).2 (I.ok.nofr e) (I.ok.noex b o e), I.base.free b o (I.ok.bs b o e).1 (I.ok.bs b o e).2 (I.ok.noex b o e)⟩
theorem Inv.bk (I : Inv X pins σ H s) : ∀ b o, X.base.get? b = some o → s.heap.get? b = some o := fun b o e => (I.bs b o e).1
theorem Inv.mod (I : Inv X pins σ H s) : Mod X.K X.mg X.base := I.ok.mod
theorem Inv.kIn (I : Inv X pins σ H s) : X.K.In s.heap := I.ok.mod.kin.keeps I.bk
theorem Inv.lt (I : Inv X pins σ H s) : X.env.locals < s.heap.objs.size := let ⟨_, hn, _⟩ := I.loc; hn.lt
theorem Inv.sz (I : Inv X pins σ H s) : X.s₀.heap.objs.size ≤ s.heap.objs.size := Nat.le_trans I.ok.above (Nat.le_of_lt I.lt)
theorem Inv.nofs (I : Inv X pins σ H s) {a : Addr} (h : s.heap.objs.size ≤ a) : a ∉ X.fs := fun hb => by
  obtain ⟨_, o, ho, _⟩ := I.ok.funs.mem hb
  exact absurd (Nat.lt_of_lt_of_le (Heap.lt_size ho) (Nat.le_trans I.sz h)) (Nat.lt_irrefl _)
theorem Inv.cne (I : Inv X pins σ H s) : ∀ x c, X.env.cells.lookup x = some c → c ≠ X.env.locals := fun x c e z => by
  obtain ⟨v, o, ho, hd⟩ := I.cell x c e
  obtain ⟨m, ⟨o', es, ep, ho', hd', _⟩, _⟩ := I.loc
  rw [z, ho'] at ho; cases ho; rw [hd'] at hd; cases hd
theorem Inv.funs (I : Inv X pins σ H s) : s.heap.FunFrames X.base X.outer := by
  have all : ∀ (l : List Env), (∀ b ∈ frs l, b ∈ X.fs) → X.s₀.heap.FunFrames X.base l → s.heap.FunFrames X.base l := by
    intro l
    induction l with
    | nil => intro _ _; trivial
    | cons env r ih =>
      intro hs hl
      obtain ⟨hk, ⟨L, o, hf, hn, ho, hd⟩, hr⟩ := hl
      have hL : L ∈ X.fs := hs L (by unfold frs; rw [List.filterMap_cons, hf]; exact List.mem_cons_self)
      obtain ⟨sl, e⟩ := I.base.slot L o ho (I.ok.frf L hL) hL fun z => I.ok.exfs L z hL
      exact ⟨hk, ⟨L, _, hf, hn, e, hd⟩, ih (fun b hb => hs b (by unfold frs; rw [List.filterMap_cons, hf]; exact List.mem_cons_of_mem _ hb)) hr⟩
  exact all X.outer (fun _ hb => hb) I.ok.funs
theorem Inv.stack (I : Inv X pins σ H s) : s.heap.FunFrames X.base X.stack := by
  rcases I.ok.stk with e | ⟨e, hf⟩
  · rw [e]; exact I.funs
  · rw [e]
    obtain ⟨m, hn, _⟩ := I.loc
    refine .cons (by rw [I.ok.kind]; decide) hf hn ?_ I.funs
    exact Heap.get?_none_of_le (Nat.le_trans I.ok.bsz I.ok.above)
theorem Inv.stkSub (I : Inv X pins σ H s) : ∀ b ∈ frs X.stack, b ∈ X.env.locals :: X.fs := fun b hb => by
  rcases I.ok.stk with e | ⟨e, hf⟩
  · rw [e] at hb; exact List.mem_cons_of_mem _ hb
  · rw [e] at hb
    unfold frs at hb
    rw [List.filterMap_cons, hf] at hb
    exact hb
theorem Inv.stkFree (I : Inv X pins σ H s) : ∀ b ∈ frs X.stack, H b = none := fun b hb => by
  rcases List.mem_cons.mp (I.stkSub b hb) with e | hb
  · rw [e]; exact I.free
  · obtain ⟨_, o, ho, _⟩ := I.ok.funs.mem hb
    exact I.base.free b o ho (I.ok.frf b hb) fun z => I.ok.exfs b z hb
theorem Inv.step {g' : Array GenState} {t' : Nat} {d' : Drawn} {ch : List Addr} (I : Inv X pins σ H s)
    (hch : ∀ b ∈ ch, (b ∈ X.ex ∨ X.s₀.heap.objs.size ≤ b) ∧ b ≠ X.env.locals ∧ (∀ x c, X.env.cells.lookup x = some c → c ≠ b) ∧ ∀ p ∈ X.pn ++ pins, p.1 ≠ b)
    (keep : ∀ b o, b ≠ X.env.locals → b ∉ X.fs → b ∉ ch → s.heap.get? b = some o → H b = none → h'.get? b = some o)
    (slot : ∀ b o, b ≠ X.env.locals → b ∈ X.fs → b ∉ ch → s.heap.get? b = some o → H b = none → ∃ sl, h'.get? b = some { o with slots := sl }) (free : ∀ b o, b ∉ ch → s.heap.get? b = some o → H b = none → H' b = none)
    (there : ∀ b o, b ∉ ch → s.heap.get? b = some o → ∃ o', h'.get? b = some o')
    (tups : ∀ b xs, H b = some (.tup xs) → H' b = some (.tup xs)) (frzs : ∀ b o u, H b = some (.frz o u) → H' b = some (.frz o u)) (tbls : ∀ b ps, H b = some (.tbl ps) → ∃ more, H' b = some (.tbl (ps ++ more)))
    (ns : ∀ m, s.heap.Ns X.env.locals m → h'.Ns X.env.locals m) (hok : HOk X.prog X.w H' h') (hg : AllBare g') :
    Inv X pins σ H' { s with heap := h', gens := g', drawn := d', toks := t' } := by
  have neL : ∀ b o, X.s₀.heap.get? b = some o → b ≠ X.env.locals := fun b o e => Nat.ne_of_lt (Nat.lt_of_lt_of_le (Heap.lt_size e) I.ok.above)
  have neC : ∀ b o, X.s₀.heap.get? b = some o → b ∉ X.ex → b ∉ ch := fun b o e hx hb => by
    rcases (hch b hb).1 with z | z
    · exact hx z
    · exact absurd (Nat.lt_of_lt_of_le (Heap.lt_size e) z) (Nat.lt_irrefl _)
  have cellK : ∀ x c, X.env.cells.lookup x = some c → ∀ v, s.heap.IsCell c v → h'.IsCell c v := fun x c e v ⟨o, ho, hd⟩ => by
    have nch : c ∉ ch := fun z => (hch c z).2.2.1 x c e rfl
    by_cases hc : c ∈ X.fs
    · obtain ⟨sl, q⟩ := slot c o (I.cne x c e) hc nch ho (I.freeC x c e)
      exact ⟨_, q, hd⟩
    · exact ⟨o, keep c o (I.cne x c e) hc nch ho (I.freeC x c e), hd⟩
  refine ⟨I.ok, I.os, hg, ⟨fun b o e n hb hx => ?_, fun b o e n hb hx => ?_, fun b o e n hx => ?_, fun b o e hx => ?_, fun b xs e => tups b xs (I.base.tups b xs e), fun b o xs e => frzs b o xs (I.base.frzs b o xs e), fun b ps e => ?_⟩, ?_, fun x c e => ?_, ?_, fun x c e => ?_, fun p hp => ?_, hok, I.len⟩
  · exact keep b o (neL b o e) hb (neC b o e hx) (I.base.keep b o e n hb hx) (I.base.free b o e n hx)
  · obtain ⟨sl, e1⟩ := I.base.slot b o e n hb hx
    obtain ⟨sl', e2⟩ := slot b _ (neL b o e) hb (neC b o e hx) e1 (I.base.free b o e n hx)
    exact ⟨sl', e2⟩
  · obtain ⟨o', e1⟩ := I.base.there b o e hx
    exact free b o' (neC b o e hx) e1 (I.base.free b o e n hx)
  · obtain ⟨o', e1⟩ := I.base.there b o e hx
    exact there b o' (neC b o e hx) e1
  · obtain ⟨m1, e1⟩ := I.base.tbls b ps e
    obtain ⟨m2, e2⟩ := tbls b _ e1
    exact ⟨m1 ++ m2, by rw [e2, Array.append_assoc]⟩
  · obtain ⟨m, hn, hl⟩ := I.loc
    refine ⟨m, ns m hn, fun i x v e1 e2 e3 => ?_⟩
    obtain ⟨u, r, l⟩ := hl i x v e1 e2 e3
    refine ⟨u, r, ?_⟩
    rcases l with l | ⟨k, c, e, z⟩
    · exact .inl l
    · exact .inr ⟨k, c, e, cellK x c e _ z⟩
  · obtain ⟨v, z⟩ := I.cell x c e
    exact ⟨v, cellK x c e v z⟩
  · obtain ⟨m, ⟨o, _, _, ho, _⟩, _⟩ := I.loc
    exact free _ o (fun z => (hch _ z).2.1 rfl) ho I.free
  · obtain ⟨v, o, ho, hd⟩ := I.cell x c e
    exact free c o (fun z => (hch c z).2.2.1 x c e rfl) ho (I.freeC x c e)
  · obtain ⟨e, n, ne, nf, d⟩ := I.pin p hp
    have nch : p.1 ∉ ch := fun z => (hch p.1 z).2.2.2 p hp rfl
    exact ⟨keep p.1 p.2 ne nf nch e n, free p.1 p.2 nch e n, ne, nf, d⟩
theorem Inv.un {t' : Nat} (I : Inv X pins σ H s) (u : Un X.fs [] H H' s.heap h') (hok : HOk X.prog X.w H' h') : Inv X pins σ H' { s with heap := h', toks := t' } := by
  obtain ⟨m, ⟨o, es, ep, ho, r⟩, _⟩ := id I.loc
  obtain ⟨sl, hL⟩ := u.any ho I.free (by simp)
  exact I.step (g' := s.gens) (d' := s.drawn) (ch := []) (fun _ z => nomatch z) (fun b o _ hb _ e n => u.keep b o e n hb (by simp)) (fun b o _ hb _ e n => u.slot b o e n hb (by simp)) (fun b o _ e n => u.free b o e n (by simp)) (fun b o _ e => u.there b o e (by simp)) u.tups u.frzs u.tbls (fun m' hm => by
    obtain ⟨o', es', ep', ho', r'⟩ := hm
    rw [ho] at ho'; cases ho'
    exact ⟨_, es', ep', hL, r'⟩) hok I.bare
theorem Inv.call {g' : Array GenState} {t' : Nat} {d' : Drawn} {ch : List Addr} (I : Inv X pins σ H s) (u : Un (frs X.stack) ch H H' s.heap h') (hok : HOk X.prog X.w H' h') (hg : AllBare g')
    (hch : ∀ b ∈ ch, (b ∈ X.ex ∨ X.s₀.heap.objs.size ≤ b) ∧ b ≠ X.env.locals ∧ (∀ x c, X.env.cells.lookup x = some c → c ≠ b) ∧ ∀ p ∈ X.pn ++ pins, p.1 ≠ b) :
    Inv X pins σ H' { s with heap := h', gens := g', drawn := d', toks := t' } := by
  obtain ⟨m, ⟨o, es, ep, ho, r⟩, _⟩ := id I.loc
  obtain ⟨sl, hL⟩ := u.any ho I.free fun z => (hch _ z).2.1 rfl
  exact I.step (ch := ch) hch (fun b o hL hb hc e n => u.keep b o e n (fun z => (List.mem_cons.mp (I.stkSub b z)).elim hL hb) hc) (fun b o _ _ hc e n => u.any e n hc) (fun b o hc e n => u.free b o e n hc) (fun b o hc e => u.there b o e hc) u.tups u.frzs u.tbls (fun m' hm => by
    obtain ⟨o', es', ep', ho', r'⟩ := hm
    rw [ho] at ho'; cases ho'
    exact ⟨_, es', ep', hL, r'⟩) hok hg
theorem Inv.turned {t' : Nat} {it : Addr} (I : Inv X pins σ H s) (k : ∀ b o, b ≠ it → s.heap.get? b = some o → h'.get? b = some o) (hn : H it = none) (hL : it ≠ X.env.locals)
    (h1 : it ∈ X.ex ∨ X.s₀.heap.objs.size ≤ it) (h2 : ∀ x c, X.env.cells.lookup x = some c → c ≠ it) (h3 : ∀ p ∈ X.pn ++ pins, p.1 ≠ it) : Inv X pins σ H { s with heap := h', toks := t' } := by
  have nit : ∀ b u, H b = some u → b ≠ it := fun b u e z => by rw [z, hn] at e; cases e
  refine I.step (g' := s.gens) (d' := s.drawn) (ch := [it]) (fun b hb => ?_) (fun b o _ _ hc e _ => k b o (fun z => hc (by simp [z])) e) (fun b o _ _ hc e _ => ⟨o.slots, k b o (fun z => hc (by simp [z])) e⟩) (fun _ _ _ _ n => n)
    (fun b o hc e => ⟨o, k b o (fun z => hc (by simp [z])) e⟩) (fun _ _ e => e) (fun _ _ _ e => e) (fun b ps e => ⟨#[], by rw [e]; simp⟩) (fun m hm => ?_) (fun b u e => ?_) I.bare
  · have e : b = it := by simpa using hb
    subst e
    exact ⟨h1, hL, h2, h3⟩
  · obtain ⟨o, es, ep, ho, r⟩ := hm
    exact ⟨o, es, ep, k _ o (Ne.symm hL) ho, r⟩
  · refine (I.hok b u e).stay (fun c v hc q => k c v ?_ q) (fun _ q => q) fun _ _ q => q
    rcases hc with z | z
    · rw [z]; exact nit b u e
    · exact nit c _ z
theorem Inv.tok (I : Inv X pins σ H s) (t : Nat) : Inv X pins σ H { s with toks := t } := I.un (h' := s.heap) (t' := t) Un.refl I.hok
theorem Inv.kept {t' : Nat} (I : Inv X pins σ H s) (k : ∀ b u, s.heap.get? b = some u → h'.get? b = some u) : Inv X pins σ H { s with heap := h', toks := t' } := I.un (Un.kept k) (I.hok.kept k)
theorem Inv.laid {a : Addr} {o : HO} {t' : Nat} (I : Inv X pins σ H s) (k : ∀ b u, s.heap.get? b = some u → h'.get? b = some u) (hp : s.heap.objs.size ≤ a) (new : ObjOk X.prog X.w (upd H a o) h' a o) :
    Inv X pins σ (upd H a o) { s with heap := h', toks := t' } := I.un (Un.laid k hp (I.hok.fresh hp)) (I.hok.laid k hp new)
theorem Inv.write {x e : Addr} {o : HO} {t' : Nat} (I : Inv X pins σ H s) (mu : Mut (H x)) (he : e = x ∨ H e = some (.own x)) (k : ∀ b u, b ≠ e → s.heap.get? b = some u → h'.get? b = some u) (heo : ∃ u, h'.get? e = some u)
    (new : ObjOk X.prog X.w (upd H x o) h' x o) : Inv X pins σ (upd H x o) { s with heap := h', toks := t' } := I.un (Un.write mu he k heo) (I.hok.write mu he k heo new)
theorem Inv.weak {σ' : List (Option V)} (I : Inv X pins σ H s) (hl : σ'.length = σ.length) (w : ∀ (i : Nat) v, σ'[i]? = some (some v) → σ[i]? = some (some v)) : Inv X pins σ' H s :=
  ⟨I.ok, I.os, I.bare, I.base, let ⟨m, hn, hl'⟩ := I.loc; ⟨m, hn, fun i x v e1 e2 e3 => hl' i x v e1 (w i v e2) e3⟩, I.cell, I.free, I.freeC, I.pin, I.hok, hl.trans I.len⟩
theorem Inv.pins_of {pins' : List (Addr × Obj)} (I : Inv X pins σ H s) (h : ∀ p ∈ pins', s.heap.get? p.1 = some p.2 ∧ H p.1 = none ∧ p.1 ≠ X.env.locals ∧ p.1 ∉ X.fs ∧ ∀ v, p.2.data ≠ .cell v) : Inv X pins' σ H s :=
  ⟨I.ok, I.os, I.bare, I.base, I.loc, I.cell, I.free, I.freeC, fun p hp => (List.mem_append.mp hp).elim (fun z => I.pin p (List.mem_append_left _ z)) (h p), I.hok, I.len⟩
theorem nodup_ix {N : List Str} (hN : N.Nodup) {i j : Nat} {x : Str} (a : N[i]? = some x) (b : N[j]? = some x) : i = j := by
  obtain ⟨h1, e1⟩ := List.getElem?_eq_some_iff.mp a
  obtain ⟨h2, e2⟩ := List.getElem?_eq_some_iff.mp b
  exact (List.getElem_inj hN).mp (e1.trans e2.symm)
theorem store_ok2 {M : Model} {A : Around} {E : Value → Shared → Prop} {i : Nat} {x : Str} {v : V} {u : Value} {Q : Unit → Shared → Prop} (I : Inv X pins σ H s) (hN : X.N.Nodup) (hi : X.N[i]? = some x) (hx : Loc X.env.scope x) (r : RelV v u)
    (h : ∀ s', Inv X pins (σ.set i (some v)) H s' → (∃ a, Heap.SameBut a s.heap s'.heap ∧ (a = X.env.locals ∨ X.env.cells.lookup x = some a)) → Q () s') (hf : X.fn x = true ∨ X.env.scope.names.lookup x = some .local := by first | exact .inl rfl | exact .inr rfl | assumption) : wpAny M A (storeName X.env x u) Q E s := by
  obtain ⟨m, hn, hl⟩ := id I.loc
  have hcls : (X.env.scope.kind == .class || (X.env.scope.kind == .module && X.env.locals != X.env.globals)) = false := by rw [I.ok.kind]; rfl
  have hiσ : i < σ.length := by rw [I.len]; exact (List.getElem?_eq_some_iff.mp hi).1
  have cne := I.cne
  have tracked : ∀ {a : Addr} {h' : Heap}, (∃ o, s.heap.get? a = some o ∧ H a = none) → Heap.SameBut a s.heap h' → HOk X.prog X.w H h' := fun {a h'} ha hs b ob e => by
    obtain ⟨_, _, hfree⟩ := ha
    refine (I.hok b ob e).stay (fun c w' hc q => (hs.2 c ?_).trans q) (fun _ q => q) fun _ _ q => q
    rintro rfl
    rcases hc with rfl | hc
    · rw [hfree] at e; cases e
    · rw [hfree] at hc; cases hc
  rcases hx with hk | hk
  · refine wpAny_storeName_local hk hn (fun h' hn' hs => ?_) hcls
    obtain ⟨oL, _, _, hoL, _⟩ := id hn
    refine h _ ⟨I.ok, I.os, I.bare, ⟨fun b o e n hb hx => ?_, fun b o e n hb hx => ?_, I.base.free, fun b o e hx => ?_, I.base.tups, I.base.frzs, I.base.tbls⟩, ⟨_, hn', fun j y v' e1 e2 e3 => ?_⟩, fun y c e => ?_, I.free, I.freeC, fun p hp => ?_, tracked ⟨oL, hoL, I.free⟩ hs, by simpa using I.len⟩ ⟨_, hs, .inl rfl⟩
    · exact (hs.2 b (Nat.ne_of_lt (Nat.lt_of_lt_of_le (Heap.lt_size e) I.ok.above))).trans (I.base.keep b o e n hb hx)
    · obtain ⟨sl, e1⟩ := I.base.slot b o e n hb hx
      exact ⟨sl, (hs.2 b (Nat.ne_of_lt (Nat.lt_of_lt_of_le (Heap.lt_size e) I.ok.above))).trans e1⟩
    · obtain ⟨o', e1⟩ := I.base.there b o e hx
      exact ⟨o', (hs.2 b (Nat.ne_of_lt (Nat.lt_of_lt_of_le (Heap.lt_size e) I.ok.above))).trans e1⟩
    · by_cases hj : j = i
      · subst hj
        rw [hi] at e1; cases e1
        rw [List.getElem?_set_self hiσ] at e2
        cases e2
        exact ⟨u, r, .inl ⟨hk, by simp⟩⟩
      · rw [List.getElem?_set_ne (Ne.symm hj)] at e2
        obtain ⟨u', r', q⟩ := hl j y v' e1 e2 e3
        refine ⟨u', r', ?_⟩
        rcases q with ⟨k, e⟩ | ⟨k, c, e, z⟩
        · refine .inl ⟨k, ?_⟩
          have : y ≠ x := fun e => hj (nodup_ix hN e1 (e ▸ hi))
          simp [this, e]
        · exact .inr ⟨k, c, e, z.sameBut hs (cne y c e)⟩
    · obtain ⟨w', z⟩ := I.cell y c e
      exact ⟨w', z.sameBut hs (cne y c e)⟩
    · obtain ⟨e, n, ne, nf, d⟩ := I.pin p hp
      exact ⟨(hs.2 p.1 ne).trans e, n, ne, nf, d⟩
  · have hfn : X.fn x = true := by
      rcases hf with z | z
      · exact z
      · rw [z] at hk; cases hk
    obtain ⟨c, hc⟩ := I.ok.has x (.inl hk)
    obtain ⟨w', z⟩ := I.cell x c hc
    refine wpAny_storeName_cell I.ok.kind hk hc z (fun h' hc' hs => ?_)
    obtain ⟨oc, hoc, hocd⟩ := id z
    refine h { s with heap := h' } ⟨I.ok, I.os, I.bare, ⟨fun b o e n hb hx => ?_, fun b o e n hb hx => ?_, I.base.free, fun b o e hx => ?_, I.base.tups, I.base.frzs, I.base.tbls⟩, ⟨m, hn.sameBut hs (Ne.symm (cne x c hc)), fun j y v' e1 e2 e3 => ?_⟩, fun y c' e => ?_, I.free, I.freeC, fun p hp => ?_, tracked ⟨oc, hoc, I.freeC x c hc⟩ hs, by simpa using I.len⟩ ⟨c, hs, .inr hc⟩
    · exact (hs.2 b (Nat.ne_of_lt (Nat.lt_of_lt_of_le (Heap.lt_size e) (I.ok.cab x c hfn hc)))).trans (I.base.keep b o e n hb hx)
    · obtain ⟨sl, e1⟩ := I.base.slot b o e n hb hx
      exact ⟨sl, (hs.2 b (Nat.ne_of_lt (Nat.lt_of_lt_of_le (Heap.lt_size e) (I.ok.cab x c hfn hc)))).trans e1⟩
    · obtain ⟨o', e1⟩ := I.base.there b o e hx
      exact ⟨o', (hs.2 b (Nat.ne_of_lt (Nat.lt_of_lt_of_le (Heap.lt_size e) (I.ok.cab x c hfn hc)))).trans e1⟩
    · by_cases hj : j = i
      · subst hj
        rw [hi] at e1; cases e1
        rw [List.getElem?_set_self hiσ] at e2
        cases e2
        exact ⟨u, r, .inr ⟨.inl hk, c, hc, hc'⟩⟩
      · rw [List.getElem?_set_ne (Ne.symm hj)] at e2
        obtain ⟨u', r', q⟩ := hl j y v' e1 e2 e3
        refine ⟨u', r', ?_⟩
        rcases q with q | ⟨k, c', e, z'⟩
        · exact .inl q
        · refine .inr ⟨k, c', e, z'.sameBut hs ?_⟩
          rintro rfl
          exact hj (nodup_ix hN e1 (I.ok.inj _ _ _ e hc ▸ hi))
    · by_cases hcc : c' = c
      · subst hcc; exact ⟨_, hc'⟩
      · obtain ⟨w2, z2⟩ := I.cell y c' e
        exact ⟨w2, z2.sameBut hs hcc⟩
    · obtain ⟨e, n, ne, nf, d⟩ := I.pin p hp
      refine ⟨(hs.2 p.1 ?_).trans e, n, ne, nf, d⟩
      intro q
      rw [q, hoc] at e
      have q' : oc = p.2 := Option.some.inj e
      exact d w' (by rw [← q']; exact hocd)
theorem store_ok {M : Model} {A : Around} {E : Value → Shared → Prop} {i : Nat} {x : Str} {v : V} {u : Value} {Q : Unit → Shared → Prop} (I : Inv X pins σ H s) (hN : X.N.Nodup) (hi : X.N[i]? = some x) (hx : Loc X.env.scope x) (r : RelV v u)
    (h : ∀ s', Inv X pins (σ.set i (some v)) H s' → Q () s') (hf : X.fn x = true ∨ X.env.scope.names.lookup x = some .local := by first | exact .inl rfl | exact .inr rfl | assumption) : wpAny M A (storeName X.env x u) Q E s :=
  store_ok2 I hN hi hx r (fun s' I' _ => h s' I') hf
theorem Inv.call' {s' : Shared} {ch : List Addr} (I : Inv X pins σ H s) (ho : s'.os = s.os) (u : Un (frs X.stack) ch H H' s.heap s'.heap) (hok : HOk X.prog X.w H' s'.heap) (hg : AllBare s'.gens)
    (hch : ∀ b ∈ ch, (b ∈ X.ex ∨ X.s₀.heap.objs.size ≤ b) ∧ b ≠ X.env.locals ∧ (∀ x c, X.env.cells.lookup x = some c → c ≠ b) ∧ ∀ p ∈ X.pn ++ pins, p.1 ≠ b) : Inv X pins σ H' s' := by
  obtain ⟨h', g', d', t', o'⟩ := s'
  have e : o' = s.os := ho
  subst e
  exact I.call (g' := g') (t' := t') (d' := d') u hok hg hch
end
abbrev XK := Value → Option Addr → Hp → Prop
abbrev St := List (Option V)
abbrev VK := V → Hp → Prop
abbrev TE := St → Hp → VK → Prop
abbrev TT := St → Hp → (Bool → Hp → Prop) → Prop
abbrev TA := St → Hp → (List V → Hp → Prop) → Prop
structure Ends where
  nx : St → Hp → Prop
  rt : VK
  bk : St → Hp → Prop := fun _ _ => False
  ct : St → Hp → Prop := fun _ _ => False
abbrev TS := Ends → St → Hp → Prop
def EP (X : Cx) (pins : List (Addr × Obj)) (σ : St) (Q : VK) (u : Value) (s' : Shared) : Prop := ∃ v H', Inv X pins σ H' s' ∧ RelV v u ∧ Q v H'
def TP (X : Cx) (pins : List (Addr × Obj)) (σ : St) (Q : Bool → Hp → Prop) (b : Bool) (s' : Shared) : Prop := ∃ H', Inv X pins σ H' s' ∧ Q b H'
def AP (X : Cx) (pins : List (Addr × Obj)) (σ : St) (Q : List V → Hp → Prop) (us : List Value) (s' : Shared) : Prop := ∃ vs H', Inv X pins σ H' s' ∧ Vals vs us ∧ Q vs H'
def SP (X : Cx) (pins : List (Addr × Obj)) (D : Ends) (f : Flow) (s' : Shared) : Prop :=
  match f with
  | .next => ∃ σ' H', Inv X pins σ' H' s' ∧ D.nx σ' H'
  | .brk => ∃ σ' H', Inv X pins σ' H' s' ∧ D.bk σ' H'
  | .cont => ∃ σ' H', Inv X pins σ' H' s' ∧ D.ct σ' H'
  | .ret u => ∃ v σ' H', Inv X pins σ' H' s' ∧ RelV v u ∧ D.rt v H'
def PE (X : Cx) (e : Expr) (t : TE) : Prop :=
  ∀ (pins : List (Addr × Obj)) (s : Shared) (σ : St) (H : Hp) (Q : VK), Inv X pins σ H s → t σ H Q → wpAny (model X.prog X.w) X.A (eval e X.env) (EP X pins σ Q) X.xe s
def PT (X : Cx) (e : Expr) (t : TT) : Prop :=
  ∀ (pins : List (Addr × Obj)) (s : Shared) (σ : St) (H : Hp) (Q : Bool → Hp → Prop), Inv X pins σ H s → t σ H Q → wpAny (model X.prog X.w) X.A (isTrue e X.env (eval e X.env)) (TP X pins σ Q) X.xe s
def PW (X : Cx) (e : Expr) (t : TT) : Prop :=
  ∀ (whole : Sem Value) (pins : List (Addr × Obj)) (s : Shared) (σ : St) (H : Hp) (Q : Bool → Hp → Prop), Inv X pins σ H s → t σ H Q → wpAny (model X.prog X.w) X.A (isTrue e X.env whole) (TP X pins σ Q) X.xe s
theorem PW.pt {X : Cx} {e : Expr} {t : TT} (h : PW X e t) : PT X e t := h _
def PA (X : Cx) (es : List Expr) (t : TA) : Prop :=
  ∀ (pos : Pos) (pins : List (Addr × Obj)) (s : Shared) (σ : St) (H : Hp) (Q : List V → Hp → Prop), Inv X pins σ H s → t σ H Q → wpAny (model X.prog X.w) X.A (spliced (backTo pos (starEach es X.env))) (AP X pins σ Q) X.xe s
def PS (X : Cx) (st : Stmt) (t : TS) : Prop :=
  ∀ (pins : List (Addr × Obj)) (s : Shared) (σ : St) (H : Hp) (D : Ends), Inv X pins σ H s → t D σ H → wpAny (model X.prog X.w) X.A (exec st X.env) (SP X pins D) X.xe s
def PSs (X : Cx) (st : List Stmt) (t : TS) : Prop :=
  ∀ (pins : List (Addr × Obj)) (s : Shared) (σ : St) (H : Hp) (D : Ends), Inv X pins σ H s → t D σ H → wpAny (model X.prog X.w) X.A (execs st X.env) (SP X pins D) X.xe s
theorem thn {α : Type} {t : Sem α} {Q Q' : α → Shared → Prop} {M : Model} {A : Around} {E : Value → Shared → Prop} {s : Shared} (h : wpAny M A t Q E s) (hQ : ∀ a s, Q a s → Q' a s) : wpAny M A t Q' E s := wpAny_mono h hQ fun _ _ x => x
end L2
namespace L2
open PySem PySem.Spec PyProof.Rows
section
variable {X : Cx}
def tVar (i : Nat) : TE := fun σ H Q => ∃ v, σ[i]? = some (some v) ∧ Q v H
def tC (v : V) : TE := fun _ H Q => Q v H
theorem pe_var {i : Nat} {x : Str} {pos : Pos} (hN : X.N[i]? = some x) (hv : Vis X.env.scope x) (hd : (x == ("__debug__" : Str)) = false := by decide) (hcd : (x == ("__classdict__" : Str)) = false := by decide) : PE X (.Name x pos) (tVar i) := by
  intro pins s σ H Q I h
  obtain ⟨v, e, h⟩ := h
  obtain ⟨m, hn, hl⟩ := I.loc
  obtain ⟨u, r, l⟩ := hl i x v hN e hv
  have fin : EP X pins σ Q u s := ⟨v, H, I, r, h⟩
  rcases l with ⟨hk, hm⟩ | ⟨hk, c, hc, hcell⟩
  · exact wpAny_Name (wpAny_loadName_local I.ok.kind hk hn hm fin) hd
  · rcases hk with hk | hk
    · exact wpAny_Name (wpAny_loadName_cell I.ok.kind hk hc hcell fin) hd
    · exact wpAny_Name (wpAny_loadName_free I.ok.kind hk hc hcell fin hcd) hd
theorem pe_int {i j pos} : PE X (.Constant (.int i) j pos) (tC (.int i)) := fun _ _ _ H _ I h => wpAny_Constant_int ⟨.int i, H, I.tok _, ⟨_, rfl⟩, h⟩
theorem pe_bl {b j pos} : PE X (.Constant (.bool b) j pos) (tC (.bl b)) := fun _ _ _ H _ I h => Constant_bool ⟨.bl b, H, I, rfl, h⟩
theorem pe_non {j pos} : PE X (.Constant .none j pos) (tC .non) := fun _ _ _ H _ I h => Constant_none ⟨.non, H, I, rfl, h⟩
theorem pe_str {x j pos} : PE X (.Constant (.str x) j pos) (tC (.str x)) := fun _ _ _ H _ I h => Calls.Constant_str ⟨.str x, H, I.tok _, ⟨_, rfl⟩, h⟩
def Gl (X : Cx) (x : Str) : Prop := X.env.kindOf x = some .globalImplicit
theorem ld_glob {E : Value → Shared → Prop} {pins : List (Addr × Obj)} {s : Shared} {σ : St} {H : Hp} {x : Str} {u : Value} {pos : Pos} {Q : Value → Shared → Prop} (I : Inv X pins σ H s) (hg : Gl X x) (hm : X.mg x = some u) (h : Q u s)
    (hd : (x == ("__debug__" : Str)) = false := by decide) : wpAny (model X.prog X.w) X.A (eval (.Name x pos) X.env) Q E s :=
  Calls.Name_function_global I.ok.kind hg (Calls.loadGlobal_global (by rw [I.ok.glob]; exact I.mod.glob.keeps I.bk) hm h) hd
theorem ld_blt {E : Value → Shared → Prop} {pins : List (Addr × Obj)} {s : Shared} {σ : St} {H : Hp} {x : Str} {u : Value} {pos : Pos} {Q : Value → Shared → Prop} (I : Inv X pins σ H s) (hg : Gl X x) (hm : X.mg x = none) (hv : bootBuiltins x = some u) (h : Q u s)
    (hn : x ≠ "__name__" := by decide) (hd : (x == ("__debug__" : Str)) = false := by decide) : wpAny (model X.prog X.w) X.A (eval (.Name x pos) X.env) Q E s := by
  obtain ⟨mb, h1, h2⟩ := I.mod.blt
  exact Calls.Name_function_global I.ok.kind hg (Calls.loadGlobal_builtin (by rw [I.ok.glob]; exact I.mod.glob.keeps I.bk) hm (by rw [I.ok.blt]; exact h1.keeps I.bk) ((h2 x hn).trans hv) h) hd
theorem pe_glob {x : Str} {v : V} {u : Value} {pos : Pos} (hg : Gl X x) (hm : X.mg x = some u) (r : RelV v u) (hd : (x == ("__debug__" : Str)) = false := by decide) : PE X (.Name x pos) (tC v) :=
  fun _ _ _ H _ I h => ld_glob I hg hm ⟨v, H, I, r, h⟩ hd
theorem pe_bltn {x : Str} {v : V} {u : Value} {pos : Pos} (hg : Gl X x) (hm : X.mg x = none) (hv : bootBuiltins x = some u) (r : RelV v u) (hn : x ≠ "__name__" := by decide) (hd : (x == ("__debug__" : Str)) = false := by decide) : PE X (.Name x pos) (tC v) :=
  fun _ _ _ H _ I h => ld_blt I hg hm hv ⟨v, H, I, r, h⟩ hn hd
variable {a b : Expr} {ta tb : TE} {pos : Pos}
def PC (X : Cx) (op : CmpOp) (a b : Expr) (t : TE) : Prop :=
  ∀ (pins : List (Addr × Obj)) (s : Shared) (σ : St) (H : Hp) (Q : VK), Inv X pins σ H s → t σ H Q →
    wpAny (model X.prog X.w) X.A (eval a X.env) (fun v s₁ => wpAny (model X.prog X.w) X.A (eval b X.env) (fun u s₂ => wpAny (model X.prog X.w) X.A (compareOp op v u) (EP X pins σ Q) X.xe s₂) X.xe s₁) X.xe s
def tB (t : TE) : TT := fun σ H Q => t σ H fun x H1 => ∃ c, x = .bl c ∧ Q c H1
theorem pt_cmp {op : CmpOp} {t : TE} (h : PC X op a b t) (h1 : behindInMarks op b = false := by first | exact nobehind _ (by decide) (by decide) | rfl) : PT X (.Compare a [op] [b] pos) (tB t) := by
  intro pins s σ H Q I hw
  refine wpAny_isTrue_Compare1 (thn (h pins s σ H _ I hw) fun v s1 h1 => thn h1 fun u s2 h2 => thn h2 fun c s3 ⟨x, H1, I1, r1, q1⟩ => ?_) h1
  obtain ⟨d, rfl, q⟩ := q1
  cases r1
  exact wpAny_truthy_bool ⟨H1, I1, q⟩
theorem pt_val {e : Expr} {t : TE} (h : PE X e t) (he : ∀ whole, isTrue e X.env whole = (do let v ← whole; standAt e.pos; holding [v] (truthy v)) := by intro _; rfl) : PT X e (tB t) := by
  intro pins s σ H Q I hw
  refine isTrue_plain (thn (h pins s σ H _ I hw) fun v s1 ⟨x, H1, I1, r1, q1⟩ => ?_) (he _)
  obtain ⟨d, rfl, q⟩ := q1
  cases r1
  exact wpAny_truthy_bool ⟨H1, I1, q⟩
variable {tA tB' : TT} {rest : List Expr}
def tAnd (t u : TT) : TT := fun σ H Q => t σ H fun c H1 => if c = true then u σ H1 Q else Q false H1
def tOr (t u : TT) : TT := fun σ H Q => t σ H fun c H1 => if c = true then Q true H1 else u σ H1 Q
def tNot (t : TT) : TT := fun σ H Q => t σ H fun c H1 => Q (!c) H1
theorem pw_and1 (ha : PT X a tA) : PW X (.BoolOp .And [a] pos) tA := by
  intro wh pins s σ H Q I h
  refine isTrue_and (thn (ha pins s σ H Q I h) fun c s1 e => ?_)
  cases c with
  | true => exact isTrue_and_nil e
  | false => exact e
theorem pw_or1 (ha : PT X a tA) : PW X (.BoolOp .Or [a] pos) tA := by
  intro wh pins s σ H Q I h
  refine isTrue_or (thn (ha pins s σ H Q I h) fun c s1 e => ?_)
  cases c with
  | false => exact isTrue_or_nil e
  | true => exact e
theorem pw_and (ha : PT X a tA) (hb : PW X (.BoolOp .And (b :: rest) pos) tB') : PW X (.BoolOp .And (a :: b :: rest) pos) (tAnd tA tB') := by
  intro wh pins s σ H Q I h
  refine isTrue_and (thn (ha pins s σ H _ I h) fun c s1 ⟨H1, I1, q1⟩ => ?_)
  cases c with
  | true => exact hb wh pins s1 σ H1 Q I1 q1
  | false => exact ⟨H1, I1, q1⟩
theorem pw_or (ha : PT X a tA) (hb : PW X (.BoolOp .Or (b :: rest) pos) tB') : PW X (.BoolOp .Or (a :: b :: rest) pos) (tOr tA tB') := by
  intro wh pins s σ H Q I h
  refine isTrue_or (thn (ha pins s σ H _ I h) fun c s1 ⟨H1, I1, q1⟩ => ?_)
  cases c with
  | true => exact ⟨H1, I1, q1⟩
  | false => exact hb wh pins s1 σ H1 Q I1 q1
theorem pt_not (ha : PT X a tA) : PT X (.UnaryOp .Not a pos) (tNot tA) := by
  intro pins s σ H Q I h
  exact isTrue_not (ha pins s σ H (fun c H1 => Q (!c) H1) I h)
def tAndV (ta tb : TE) : TE := fun σ H Q => ta σ H fun x H1 => ∃ c, x = .bl c ∧ if c = true then tb σ H1 Q else Q (.bl false) H1
def tNotV (ta : TE) : TE := fun σ H Q => ta σ H fun x H1 => ∃ c, x = .bl c ∧ Q (.bl (!c)) H1
theorem pe_one {op} {t : TE} (h : PE X a t) : PE X (.BoolOp op [a] pos) t := fun pins s σ H Q I hw => BoolOp_one (h pins s σ H Q I hw)
theorem pe_and (ha : PE X a ta) (hb : PE X (.BoolOp .And (b :: rest) pos) tb) : PE X (.BoolOp .And (a :: b :: rest) pos) (tAndV ta tb) := by
  intro pins s σ H Q I h
  refine BoolOp_and (thn (ha pins s σ H _ I h) fun v s1 ⟨x, H1, I1, r1, q1⟩ => ?_)
  obtain ⟨c, rfl, q1⟩ := q1
  cases r1
  refine wpAny_truthy_bool ?_
  cases c with
  | true => exact hb pins s1 σ H1 Q I1 q1
  | false => exact ⟨.bl false, H1, I1, rfl, q1⟩
theorem pe_not (ha : PE X a ta) : PE X (.UnaryOp .Not a pos) (tNotV ta) := by
  intro pins s σ H Q I h
  refine UnaryOp_ (thn (ha pins s σ H _ I h) fun v s1 ⟨x, H1, I1, r1, q1⟩ => ?_)
  obtain ⟨c, rfl, q1⟩ := q1
  cases r1
  exact not_of (wpAny_truthy_bool ⟨.bl (!c), H1, I1, rfl, q1⟩)
def tIf (t : TT) (ta tb : TE) : TE := fun σ H Q => t σ H fun c H1 => if c = true then ta σ H1 Q else tb σ H1 Q
theorem pe_ifExp {c : Expr} (hc : PT X c tA) (ha : PE X a ta) (hb : PE X b tb) : PE X (.IfExp c a b pos) (tIf tA ta tb) := by
  intro pins s σ H Q I h
  refine wpAny_IfExp (thn (hc pins s σ H _ I h) fun d s1 ⟨H1, I1, q1⟩ => ?_)
  cases d with
  | true => exact ha pins s1 σ H1 Q I1 q1
  | false => exact hb pins s1 σ H1 Q I1 q1
end
end L2
namespace L2
open PySem PySem.Spec PyProof.Rows
def SqL (K : PySem.W.Frag) (H : Hp) (a : Addr) (xs : List V) : Prop :=
  Rd H a (.lst xs) ∨
    ∃ (o : Obj) (its : Array Value) (n : Nat), K.lookup a = some o ∧ o.cls = .type "list" ∧ o.dict = none ∧ o.data = .seq its n ∧ its.size ≤ sizeLine ∧ Vals xs its.toList
def SqT (K : PySem.W.Frag) (H : Hp) (a : Addr) (xs : List V) : Prop :=
  Rd H a (.tup xs) ∨
    ∃ (o : Obj) (its : Array Value) (n : Nat), K.lookup a = some o ∧ o.cls = .type "tuple" ∧ o.data = .seq its n ∧ its.size ≤ sizeLine ∧ Vals xs its.toList
def absV : Value → Option V
  | .none => some .non
  | .bool b => some (.bl b)
  | .int i _ => some (.int i)
  | .str x _ => some (.str x)
  | .bytes b _ => some (.byt b)
  | .float b _ => some (.flt b)
  | .ref a => some (.ref a)
  | .type n => some (.ty n)
  | _ => none
theorem RelV.abs {x : V} {u : Value} (r : RelV x u) : absV u = some x := by
  cases x with
  | non => cases r; rfl
  | bl _ => cases r; rfl
  | int _ => obtain ⟨t, rfl⟩ := r; rfl
  | str _ => obtain ⟨t, rfl⟩ := r; rfl
  | byt _ => obtain ⟨t, rfl⟩ := r; rfl
  | flt _ => obtain ⟨t, rfl⟩ := r; rfl
  | ref _ => cases r; rfl
  | ty _ => cases r; rfl
theorem RelV.inj {x y : V} {u : Value} (r : RelV x u) (q : RelV y u) : x = y := Option.some.inj (r.abs.symm.trans q.abs)
theorem Vals.inj : ∀ {xs ys : List V} {us : List Value}, Vals xs us → Vals ys us → xs = ys
  | _, _, _, .nil, .nil => rfl
  | _, _, _, .cons r t, .cons r' t' => by rw [r.inj r', Vals.inj t t']
section
variable {X : Cx} {pins : List (Addr × Obj)} {σ : St} {H : Hp} {s : Shared} {a : Addr} {xs ys : List V}
theorem SqL.of {K : PySem.W.Frag} (h : H a = some (.lst xs)) : SqL K H a xs := .inl (.inl h)
theorem SqT.of {K : PySem.W.Frag} (h : H a = some (.tup xs)) : SqT K H a xs := .inl (.inl h)
theorem Inv.list (I : Inv X pins σ H s) (h : SqL X.K H a xs) : ∃ its : List Value, Vals xs its ∧ PlainL s.heap a its.toArray ∧ xs.length ≤ sizeLine := by
  rcases h with h | ⟨o, its, n, hk, hc, hd, hs, hz, r⟩
  · obtain ⟨z, its, n, r, e⟩ := h.ok I.hok
    exact ⟨its, r, ⟨_, n, e, rfl, rfl, rfl⟩, z⟩
  · refine ⟨its.toList, r, ⟨o, n, I.kIn a o hk, hc, hd, by simpa using hs⟩, ?_⟩
    have e := r.length
    simp only [Array.length_toList] at e
    omega
theorem Inv.tuple (I : Inv X pins σ H s) (h : SqT X.K H a xs) : ∃ its : List Value, Vals xs its ∧ IsTup s.heap a its.toArray ∧ xs.length ≤ sizeLine := by
  rcases h with h | ⟨o, its, n, hk, hc, hs, hz, r⟩
  · obtain ⟨z, its, r, p⟩ := h.ok I.hok
    exact ⟨its, r, p, z⟩
  · refine ⟨its.toList, r, ⟨o, I.kIn a o hk, hc, n, by simpa using hs⟩, ?_⟩
    have e := r.length
    simp only [Array.length_toList] at e
    omega
theorem Inv.list_inj (I : Inv X pins σ H s) (h : SqL X.K H a xs) (h' : SqL X.K H a ys) : xs = ys := by
  obtain ⟨its, r, ⟨o, n, e, _, _, d⟩, _⟩ := I.list h
  obtain ⟨its', r', ⟨o', n', e', _, _, d'⟩, _⟩ := I.list h'
  rw [e] at e'; cases e'
  rw [d] at d'
  injection d' with d1 _
  have : its = its' := by simpa using congrArg Array.toList d1
  subst this
  exact r.inj r'
end
abbrev Cx.wish (X : Cx) (E : Value → Shared → Prop) : Cx := { X with xe := E }
abbrev Cx.nox (X : Cx) : Cx := X.wish fun _ _ => False
theorem Cx.Ok.wish {X : Cx} (ok : X.Ok) (E : Value → Shared → Prop) : (X.wish E).Ok :=
  ⟨ok.mod, ok.kind, ok.glob, ok.blt, ok.above, ok.inj, ok.has, ok.cab, ok.hd, ok.frames, ok.stk, ok.exf, ok.bs, ok.bsz, ok.noex, ok.exfs, ok.funs, ok.frf⟩
theorem Cx.Ok.unwish {X : Cx} {E : Value → Shared → Prop} (ok : (X.wish E).Ok) : X.Ok :=
  ⟨ok.mod, ok.kind, ok.glob, ok.blt, ok.above, ok.inj, ok.has, ok.cab, ok.hd, ok.frames, ok.stk, ok.exf, ok.bs, ok.bsz, ok.noex, ok.exfs, ok.funs, ok.frf⟩
section
variable {X : Cx} {pins : List (Addr × Obj)} {σ : St} {H : Hp} {s : Shared} {E : Value → Shared → Prop}
theorem Inv.wish (I : Inv X pins σ H s) (E : Value → Shared → Prop) : Inv (X.wish E) pins σ H s := ⟨I.ok.wish E, I.os, I.bare, I.base, I.loc, I.cell, I.free, I.freeC, I.pin, I.hok, I.len⟩
theorem Inv.unwish (I : Inv (X.wish E) pins σ H s) : Inv X pins σ H s := ⟨I.ok.unwish, I.os, I.bare, I.base, I.loc, I.cell, I.free, I.freeC, I.pin, I.hok, I.len⟩
theorem SP.unwish {D : Ends} {f : Flow} {s' : Shared} (h : SP (X.wish E) pins D f s') : SP X pins D f s' := by
  cases f with
  | next => obtain ⟨σ', H', I, q⟩ := h; exact ⟨σ', H', I.unwish, q⟩
  | brk => obtain ⟨σ', H', I, q⟩ := h; exact ⟨σ', H', I.unwish, q⟩
  | cont => obtain ⟨σ', H', I, q⟩ := h; exact ⟨σ', H', I.unwish, q⟩
  | ret u => obtain ⟨v, σ', H', I, r, q⟩ := h; exact ⟨v, σ', H', I.unwish, r, q⟩
theorem PE.nox {e : Expr} {t : TE} (h : PE X.nox e t) : PE X e t := fun pins s σ H Q I hw =>
  wpAny_mono (h pins s σ H Q (I.wish _) hw) (fun _ _ ⟨v, H', I', r, q⟩ => ⟨v, H', I'.unwish, r, q⟩) fun _ _ z => False.elim z
theorem PSs.nox {st : List Stmt} {t : TS} (h : PSs X.nox st t) : PSs X st t := fun pins s σ H D I hw =>
  wpAny_mono (h pins s σ H D (I.wish _) hw) (fun _ _ q => q.unwish) fun _ _ z => False.elim z
end
section
variable {X : Cx} {st : Stmt} {rest : List Stmt} {t u : TS} {e : Expr} {te : TE} {pos : Pos}
def tNext : TS := fun D σ H => D.nx σ H
def tSeq (t u : TS) : TS := fun D σ H => t { D with nx := u D } σ H
theorem pss_nil : PSs X [] tNext := fun _ _ σ H _ I h => wpAny_execs_nil ⟨σ, H, I, h⟩
theorem pss_cons (h1 : PS X st t) (h2 : PSs X rest u) : PSs X (st :: rest) (tSeq t u) := by
  intro pins s σ H D I h
  refine wpAny_execs_cons (thn (h1 pins s σ H { D with nx := u D } I h) fun f s1 q => ?_)
  cases f with
  | next =>
    obtain ⟨σ', H', I', q⟩ := q
    exact h2 pins s1 σ' H' D I' q
  | ret v => exact q
  | brk => exact q
  | cont => exact q
theorem pss_one (h1 : PS X st t) : PSs X [st] t := by
  intro pins s σ H D I h
  refine wpAny_execs_cons (thn (h1 pins s σ H D I h) fun f s1 q => ?_)
  cases f with
  | next => exact wpAny_execs_nil q
  | ret v => exact q
  | brk => exact q
  | cont => exact q
theorem Inv.quiet {pins : List (Addr × Obj)} {σ : St} {H : Hp} {s : Shared} (I : Inv X pins σ H s) : interactive X.env = false := by simp [interactive, I.ok.kind]
def tDrop (te : TE) : TS := fun D σ H => te σ H fun _ H1 => D.nx σ H1
theorem ps_expr (he : PE X e te) (hs : swapsWith e none pos.line X.env = pure false := by rfl) : PS X (.Expr e pos) (tDrop te) := by
  intro pins s σ H D I h
  exact wpAny_Expr_any (thn (he pins s σ H _ I h) fun v s1 ⟨x, H1, I1, r1, q1⟩ => ⟨σ, H1, I1, q1⟩) I.quiet hs
def tRet (te : TE) : TS := fun D σ H => te σ H D.rt
theorem ps_ret (he : PE X e te) : PS X (.Return (some e) pos) (tRet te) := by
  intro pins s σ H D I h
  exact wpAny_Return_some (thn (he pins s σ H _ I h) fun v s1 ⟨x, H1, I1, r1, q1⟩ => ⟨x, σ, H1, I1, r1, q1⟩)
def tIfS (c : TT) (t u : TS) : TS := fun D σ H => c σ H fun b H1 => if b = true then t D σ H1 else u D σ H1
theorem ps_if {c : Expr} {a b : List Stmt} {tc : TT} (hc : PT X c tc) (ha : PSs X a t) (hb : PSs X b u) : PS X (.If c a b pos) (tIfS tc t u) := by
  intro pins s σ H D I h
  refine wpAny_If (thn (hc pins s σ H _ I h) fun d s1 ⟨H1, I1, q1⟩ => ?_)
  cases d with
  | true => exact ha pins s1 σ H1 D I1 q1
  | false => exact hb pins s1 σ H1 D I1 q1
def tNever : TS := fun _ _ _ => False
theorem ps_never : PS X st tNever := fun _ _ _ _ _ _ h => h.elim
end
abbrev TG := V → St → Hp → (St → Hp → Prop) → Prop
abbrev TGs := List V → St → Hp → (St → Hp → Prop) → Prop
def PG (X : Cx) (target : Expr) (t : TG) : Prop :=
  ∀ (pins : List (Addr × Obj)) (s : Shared) (σ : St) (H : Hp) (v : V) (u : Value) (Q : St → Hp → Prop), Inv X pins σ H s → RelV v u → t v σ H Q →
    wpAny (model X.prog X.w) X.A (assign target X.env u) (fun _ s' => ∃ σ' H', Inv X pins σ' H' s' ∧ Q σ' H') X.xe s
def PGs (X : Cx) (ts : List Expr) (t : TGs) : Prop :=
  ∀ (pins : List (Addr × Obj)) (s : Shared) (σ : St) (H : Hp) (vs : List V) (us : List Value) (Q : St → Hp → Prop), Inv X pins σ H s → Vals vs us → t vs σ H Q →
    wpAny (model X.prog X.w) X.A (assignInOrder ((assignEach ts X.env).map (·.2)) us) (fun _ s' => ∃ σ' H', Inv X pins σ' H' s' ∧ Q σ' H') X.xe s
abbrev TSet := V → V → V → Hp → (Hp → Prop) → Prop
def PSet (X : Cx) (t : TSet) : Prop :=
  ∀ (pins : List (Addr × Obj)) (s : Shared) (σ : St) (H : Hp) (o i v : V) (ov iv u : Value) (Q : Hp → Prop), Inv X pins σ H s → RelV o ov → RelV i iv → RelV v u → t o i v H Q →
    wpAny (model X.prog X.w) X.A (setItem ov iv u) (fun _ s' => ∃ H', Inv X pins σ H' s' ∧ Q H') X.xe s
abbrev TIp := V → V → Hp → VK → Prop
def PIp (X : Cx) (op : Operator) (t : TIp) : Prop :=
  ∀ (pins : List (Addr × Obj)) (s : Shared) (σ : St) (H : Hp) (x y : V) (v u : Value) (Q : VK), Inv X pins σ H s → RelV x v → RelV y u → t x y H Q →
    wpAny (model X.prog X.w) X.A (inplaceOp op v u) (EP X pins σ Q) X.xe s
section
variable {X : Cx} {pos : Pos}
def gName (i : Nat) : TG := fun v σ H Q => Q (σ.set i (some v)) H
theorem pg_name {i : Nat} {x : Str} (hN : X.N.Nodup) (hi : X.N[i]? = some x) (hx : Loc X.env.scope x) (hf : X.fn x = true ∨ X.env.scope.names.lookup x = some .local := by first | exact .inl rfl | exact .inr rfl | assumption) : PG X (.Name x pos) (gName i) := by
  intro pins s σ H v u Q I r h
  exact wpAny_assign_Name (store_ok I hN hi hx r (fun s' I' => ⟨_, H, I', h⟩) hf)
def gNil : TGs := fun vs σ H Q => vs = [] ∧ Q σ H
def gCons (t : TG) (u : TGs) : TGs := fun vs σ H Q => ∃ v r, vs = v :: r ∧ t v σ H fun σ' H' => u r σ' H' Q
theorem pgs_nil : PGs X [] gNil := by
  intro pins s σ H vs us Q I r h
  obtain ⟨e, h⟩ := h
  subst e
  cases r
  exact assignInOrder_nil ⟨σ, H, I, h⟩
theorem pgs_cons {e : Expr} {es : List Expr} {t : TG} {u : TGs} (h1 : PG X e t) (h2 : PGs X es u)
    (hs : (assignEach (e :: es) X.env).map (·.2) = assign e X.env :: (assignEach es X.env).map (·.2) := by rfl) : PGs X (e :: es) (gCons t u) := by
  intro pins s σ H vs us Q I r h
  obtain ⟨v, vr, e1, h⟩ := h
  subst e1
  cases r with
  | cons r rr =>
    rw [hs]
    refine assignInOrder_cons (thn (h1 pins s σ H _ _ _ I r h) fun _ s1 ⟨σ1, H1, I1, q1⟩ => ?_)
    exact h2 pins s1 σ1 H1 _ _ Q I1 rr q1
def gTup (K : PySem.W.Frag) (n : Nat) (t : TGs) : TG := fun v σ H Q => ∃ a xs, v = .ref a ∧ SqT K H a xs ∧ xs.length = n ∧ t xs σ H Q
theorem pg_tup {es : List Expr} {k : Nat} {t : TGs} {n : Nat} (hc : X.calm = true) (h : PGs X es t)
    (hn : (assignEach es X.env).length = n := by rfl) (hst : (assignEach es X.env).findIdx? (·.1) = none := by rfl) : PG X (.Tuple es k pos) (gTup X.K n t) := by
  intro pins s σ H v u Q I r hw
  obtain ⟨a, xs, e1, hq, hl, hw⟩ := hw
  subst e1
  cases r
  obtain ⟨its, rv, ht, hz⟩ := I.tuple hq
  refine assign_Tuple_tuple (I.ok.hd hc) ht (by simp [hn, ← hl, rv.length]) hst fun h' hx => ?_
  have I1 : Inv X pins σ H { s with heap := h' } := I.kept (t' := s.toks) fun b o e => hx b o (Nat.ne_of_lt (Heap.lt_size e)) e
  exact h pins _ σ H xs _ Q I1 (by simpa using rv) hw
def gSub (to ti : TE) (t : TSet) : TG := fun v σ H Q => to σ H fun o H1 => ti σ H1 fun i H2 => t o i v H2 fun H3 => Q σ H3
theorem pg_sub {o i : Expr} {to ti : TE} {t : TSet} (ho : PE X o to) (hi : PE X i ti) (hs : PSet X t)
    (ha : ∀ v, assign (.Subscript o i pos) X.env v = (do
      let ov ← holding [v] (eval o X.env)
      let iv ← holding [v, ov] (eval i X.env)
      standAt pos
      holding [v, ov, iv] (setItem ov iv v)
      release [v, ov, iv] []) := by intro _; rfl) : PG X (.Subscript o i pos) (gSub to ti t) := by
  intro pins s σ H v u Q I r h
  rw [ha]
  refine wpAny_bind (wpAny_holding (thn (ho pins s σ H _ I h) fun ov s1 ⟨x, H1, I1, r1, q1⟩ => ?_))
  refine wpAny_bind (wpAny_holding (thn (hi pins s1 σ H1 _ I1 q1) fun iv s2 ⟨y, H2, I2, r2, q2⟩ => ?_))
  refine wpAny_bind (wpAny_standAt (wpAny_bind (wpAny_holding (thn (hs pins s2 σ H2 x y v ov iv u _ I2 r1 r2 r q2) fun _ s3 ⟨H3, I3, q3⟩ => ?_))))
  exact wpAny_release ⟨σ, H3, I3, q3⟩
def tAsg (te : TE) (g : TG) : TS := fun D σ H => te σ H fun x H1 => g x σ H1 D.nx
theorem ps_asg {tg e : Expr} {te : TE} {g : TG} (he : PE X e te) (hg : PG X tg g) (hs : swapsWithSole [tg] e pos.line X.env = pure false := by rfl) (hw : swappedStores [tg] e X.env = pure none := by rfl)
    (h1 : (assignEach [tg] X.env).map (·.2) = [assign tg X.env] := by rfl) : PS X (.Assign [tg] e pos) (tAsg te g) := by
  intro pins s σ H D I h
  refine wpAny_Assign_stores (thn (he pins s σ H _ I h) fun v s1 ⟨x, H1, I1, r1, q1⟩ => ?_) hs hw
  rw [h1]
  exact thn (hg pins s1 σ H1 x v _ I1 r1 q1) fun _ s2 q => q
theorem ps_set {i : Nat} {x : Str} {e : Expr} {te : TE} {pos' : Pos} (hN : X.N.Nodup) (hi : X.N[i]? = some x) (hx : Loc X.env.scope x) (he : PE X e te) (hs : swapsWith e (some (.Name x pos')) pos.line X.env = pure false := by rfl) (hf : X.fn x = true ∨ X.env.scope.names.lookup x = some .local := by first | exact .inl rfl | exact .inr rfl | assumption) :
    PS X (.Assign [.Name x pos'] e pos) (tAsg te (gName i)) := by
  intro pins s σ H D I h
  refine wpAny_Assign_Name (thn (he pins s σ H _ I h) fun v s1 ⟨y, H1, I1, r1, q1⟩ => ?_) hs
  exact store_ok I1 hN hi hx r1 (fun s2 I2 => ⟨_, H1, I2, q1⟩) hf
def tAug (i : Nat) (te : TE) (ti : TIp) : TS := fun D σ H => ∃ x, σ[i]? = some (some x) ∧ te σ H fun y H1 => ti x y H1 fun z H2 => D.nx (σ.set i (some z)) H2
theorem ps_aug {i : Nat} {x : Str} {e : Expr} {te : TE} {op : Operator} {ti : TIp} {pos' : Pos} (hN : X.N.Nodup) (hi : X.N[i]? = some x) (hx : Loc X.env.scope x) (he : PE X e te) (ho : PIp X op ti) (hf : X.fn x = true ∨ X.env.scope.names.lookup x = some .local := by first | exact .inl rfl | exact .inr rfl | assumption) :
    PS X (.AugAssign (.Name x pos') op e pos) (tAug i te ti) := by
  intro pins s σ H D I h
  obtain ⟨v, e1, h⟩ := h
  obtain ⟨m, hn, hl⟩ := I.loc
  have vis : Vis X.env.scope x := by rcases hx with k | k; exact .inl k; exact .inr (.inl k)
  obtain ⟨u, r, l⟩ := hl i x v hi e1 vis
  refine wpAny_AugAssign_Name ?_
  have go : wpAny (model X.prog X.w) X.A (eval e X.env) (fun w s₂ => wpAny (model X.prog X.w) X.A (inplaceOp op u w) (fun r s₃ => wpAny (model X.prog X.w) X.A (storeName X.env x r) (fun _ => SP X pins D .next) X.xe s₃) X.xe s₂) X.xe s := by
    refine thn (he pins s σ H _ I h) fun w s1 ⟨y, H1, I1, r1, q1⟩ => ?_
    refine thn (ho pins s1 σ H1 v y u w _ I1 r r1 q1) fun z s2 ⟨zv, H2, I2, r2, q2⟩ => ?_
    exact store_ok I2 hN hi hx r2 (fun s3 I3 => ⟨_, H2, I3, q2⟩) hf
  rcases l with ⟨hk, hm⟩ | ⟨hk, c, hc, hcell⟩
  · exact wpAny_loadName_local I.ok.kind hk hn hm go
  · rcases hk with hk | hk
    · exact wpAny_loadName_cell I.ok.kind hk hc hcell go
    · rcases hx with k | k
      · have : X.env.scope.names.lookup x = some .free := hk
        rw [k] at this; cases this
      · have : X.env.scope.names.lookup x = some .free := hk
        rw [k] at this; cases this
def ipI (f : Int → Int → Int) : TIp := fun x y H Q => ∃ i j, x = .int i ∧ y = .int j ∧ Q (.int (f i j)) H
theorem ip_add : PIp X .Add (ipI fun i j => i + j) := by
  intro pins s σ H x y v u Q I r1 r2 h
  obtain ⟨i, j, e1, e2, q⟩ := h
  subst e1; subst e2
  obtain ⟨t, rfl⟩ := r1
  obtain ⟨t', rfl⟩ := r2
  exact iadd_int ⟨.int _, H, I.tok _, ⟨_, rfl⟩, q⟩
end
section
variable {X : Cx} {pos : Pos}
def tWhile (c : TT) (tb : TS) : TS := fun D σ H => ∃ W : Nat → St → Hp → Prop, (∃ m, W m σ H) ∧ ∀ m σ H, W m σ H →
  c σ H fun b H1 => if b = true then ∃ N : St → Hp → Prop, (∀ σ' H', N σ' H' → ∃ m', m' < m ∧ W m' σ' H') ∧ tb { D with nx := N, ct := N, bk := D.nx } σ H1 else D.nx σ H1
theorem ps_while {c : Expr} {body : List Stmt} {tc : TT} {tb : TS} (hp : PassesOwn (model X.prog X.w) X.A X.env X.xe) (hc : PT X c tc) (hb : PSs X body tb) : PS X (.While c body [] pos) (tWhile tc tb) := by
  intro pins s σ H D I h
  obtain ⟨W, ⟨m0, w0⟩, turn⟩ := h
  refine wpAny_While (codeAny_whileLoop (fun n s' => ∃ σ' H', Inv X pins σ' H' s' ∧ W n σ' H') ?_ m0 ⟨σ, H, I, w0⟩)
  rintro n s1 ⟨σ1, H1, I1, w1⟩
  refine wpAny_passesOwn hp (thn (hc pins s1 σ1 H1 _ I1 (turn n σ1 H1 w1)) fun b s2 ⟨H2, I2, q2⟩ => ?_)
  cases b with
  | true =>
    obtain ⟨N, hN, q2⟩ := q2
    rw [if_pos rfl]
    refine wpAny_passesOwn hp (thn (hb pins s2 σ1 H2 _ I2 q2) fun f s3 q3 => ?_)
    cases f with
    | next =>
      obtain ⟨σ3, H3, I3, n3⟩ := q3
      obtain ⟨m', hm, w3⟩ := hN σ3 H3 n3
      exact ⟨m', hm, σ3, H3, I3, w3⟩
    | cont =>
      obtain ⟨σ3, H3, I3, n3⟩ := q3
      obtain ⟨m', hm, w3⟩ := hN σ3 H3 n3
      exact ⟨m', hm, σ3, H3, I3, w3⟩
    | brk => exact q3
    | ret v => exact q3
  | false =>
    rw [if_neg Bool.false_ne_true]
    exact wpAny_execs_nil ⟨σ1, H2, I2, q2⟩
end
structure It where
  go : Nat → Hp → Prop
  yld : Nat → Hp → V → Hp → Prop
  stop : Nat → Hp → Prop
def FpOk (X : Cx) (pins : List (Addr × Obj)) (H : Hp) (b : Addr) : Prop :=
  H b = none ∧ b ≠ X.env.locals ∧ b ∉ X.fs ∧ (b ∈ X.ex ∨ X.s₀.heap.objs.size ≤ b) ∧ (∀ x c, X.env.cells.lookup x = some c → c ≠ b) ∧ ∀ p ∈ X.pn ++ pins, p.1 ≠ b
theorem Inv.fpOk {X : Cx} {pins : List (Addr × Obj)} {σ : St} {H H' : Hp} {s : Shared} {b : Addr} (I : Inv X pins σ H s) (hb : s.heap.objs.size ≤ b) (hn : H' b = none) : FpOk X pins H' b := by
  refine ⟨hn, Nat.ne_of_gt (Nat.lt_of_lt_of_le I.lt hb), I.nofs hb, .inr (Nat.le_trans I.sz hb), fun x c e z => ?_, fun p hp z => ?_⟩
  · obtain ⟨v, q⟩ := I.cell x c e
    exact absurd (Nat.lt_of_lt_of_le q.lt (by rw [z]; exact hb)) (Nat.lt_irrefl _)
  · exact absurd (Nat.lt_of_lt_of_le (Heap.lt_size (I.pin p hp).1) (by rw [z]; exact hb)) (Nat.lt_irrefl _)
structure Turn (P : Program) (w : World) (K : PySem.W.Frag) (tg : Expr) (J : It) (fp : List Addr) (it : Addr) (tn : Nat → Heap → Prop) : Prop where
  mem : it ∈ fp
  obj : ∀ i h, tn i h → ∀ b ∈ fp, ∃ o, h.get? b = some o ∧ ∀ v, o.data ≠ .cell v
  keep : ∀ i h h', tn i h → (∀ b ∈ fp, ∀ o, h.get? b = some o → h'.get? b = some o) → tn i h'
  item : ∀ (X : Cx), X.prog = P → X.w = w → X.K = K → X.calm = true → ∀ (i : Nat) (pins : List (Addr × Obj)) (s : Shared) (σ : St) (H : Hp) (E : Value → Shared → Prop), Inv X pins σ H s → (∀ b ∈ fp, FpOk X pins H b) → tn i s.heap → J.go i H →
    wpAny (model P w) X.A (pyNext (.ref it)) (fun r s1 => ∃ u, r = some u ∧
      wpAny (model P w) X.A (letOwnedTupleGo tg (.ref it) u) (fun _ s2 => ∃ x H', Inv X pins σ H' s2 ∧ RelV x u ∧ J.yld i H x H' ∧ tn (i + 1) s2.heap ∧ ∀ b ∈ fp, H' b = none) E s1) E s
  done : ∀ (X : Cx), X.prog = P → X.w = w → X.K = K → X.calm = true → ∀ (i : Nat) (pins : List (Addr × Obj)) (s : Shared) (σ : St) (H : Hp) (E : Value → Shared → Prop), Inv X pins σ H s → (∀ b ∈ fp, FpOk X pins H b) → tn i s.heap → J.stop i H →
    wpAny (model P w) X.A (pyNext (.ref it)) (fun r s1 => r = none ∧ Inv X pins σ H s1) E s
  self : ∀ (A : Around) (i : Nat) (s : Shared) (Q : Value → Shared → Prop) (E : Value → Shared → Prop), tn i s.heap → Q (.ref it) s → wpAny (model P w) A (pyIter (.ref it)) Q E s
abbrev TI := St → Hp → (It → Hp → Prop) → Prop
def PIE (X : Cx) (pins : List (Addr × Obj)) (σ : St) (tg : Expr) (R : It → Hp → Prop) (itv : Value) (s2 : Shared) : Prop :=
  ∃ (it : Addr) (fp : List Addr) (tn : Nat → Heap → Prop) (J : It) (H' : Hp), itv = .ref it ∧ Inv X pins σ H' s2 ∧ Turn X.prog X.w X.K tg J fp it tn ∧ tn 0 s2.heap ∧ (∀ b ∈ fp, FpOk X pins H' b) ∧ R J H'
def PI (X : Cx) (tg iter : Expr) (wi : TI) : Prop :=
  ∀ (pins : List (Addr × Obj)) (s : Shared) (σ : St) (H : Hp) (R : It → Hp → Prop), Inv X pins σ H s → wi σ H R →
    wpAny (model X.prog X.w) X.A (eval iter X.env) (fun v s1 => wpAny (model X.prog X.w) X.A (pyIter v) (PIE X pins σ tg R) X.xe s1) X.xe s
theorem go_of {M : Model} {A : Around} {E : Value → Shared → Prop} {s : Shared} {tg : Expr} {it : Addr} {u : Value} {o : Obj} {n : String} {vs : Array Value} {Q : Unit → Shared → Prop} (ho : s.heap.get? it = some o) (hc : o.cls = .type n) (hd : o.data = .fields vs)
    (hn : ["enumerate", "zip", "dict_itemiterator", "dict_reverseitemiterator", "odict_iterator", "itertools.zip_longest", "itertools.pairwise"].contains n = false) (hQ : Q () s) : wpAny M A (letOwnedTupleGo tg (.ref it) u) Q E s := by
  unfold letOwnedTupleGo
  cases tg <;> first
    | exact wpAny_pure hQ
    | (cases u <;> first
        | exact wpAny_pure hQ
        | (refine wpAny_bind (wpAny_load ho ?_)
           rw [hc, hd]
           show wpAny M A (if (["enumerate", "zip", "dict_itemiterator", "dict_reverseitemiterator", "odict_iterator", "itertools.zip_longest", "itertools.pairwise"].contains n && vs[0]? == some (rawInt _)) = true then _ else _) Q E s
           rw [if_neg (by intro h; rw [hn, Bool.false_and] at h; cases h)]
           exact wpAny_pure hQ))
def Itl (K : PySem.W.Frag) (a : Addr) : It :=
  ⟨fun i H => ∃ xs x, SqL K H a xs ∧ xs[i]? = some x, fun i H x H' => H' = H ∧ ∀ xs, SqL K H a xs → xs[i]? = some x, fun i H => ∃ xs, SqL K H a xs ∧ xs.length ≤ i⟩
def Itr (lo : Int) (n : Nat) : It := ⟨fun i _ => i < n, fun i H x H' => H' = H ∧ x = .int (lo + i), fun i _ => n ≤ i⟩
theorem turn_list {P : Program} {w : World} {K : PySem.W.Frag} {tg : Expr} (a it : Addr) : Turn P w K tg (Itl K a) [it] it (fun i h => h.IsListIter it a i) where
  mem := by simp
  obj := fun i h st b hb => by
    have e : b = it := by simpa using hb
    subst e
    obtain ⟨o, e, c, d⟩ := st
    exact ⟨o, e, fun v z => by rw [d] at z; cases z⟩
  keep := fun i h h' st k => st.at fun o e => k it (by simp) o e
  item := by
    intro X hP hw hK hc i pins s σ H E I hf st hg
    subst hP hw hK
    obtain ⟨xs, x, hq, hx⟩ := hg
    obtain ⟨its, rv, p, hz⟩ := I.list hq
    obtain ⟨u, hu, ru⟩ := rv.get hx
    obtain ⟨f0, f1, f2, f3, f4, f5⟩ := hf it (by simp)
    refine wpAny_pyNext_list_item st p.isList (x := u) (by simpa using hu) fun h' st' sb => ?_
    have I1 : Inv X pins σ H { s with heap := h' } := I.turned (t' := s.toks) (fun b o hb e => (sb.2 b hb).trans e) f0 f1 f3 f4 f5
    obtain ⟨o, e, c, d⟩ := id st'
    exact ⟨u, rfl, go_of (s := { s with heap := h' }) e c d (by decide) ⟨x, H, I1, ru, ⟨rfl, fun ys hy => by rw [I.list_inj hy hq]; exact hx⟩, st', fun b hb => (hf b hb).1⟩⟩
  done := by
    intro X hP hw hK hc i pins s σ H E I hf st hg
    subst hP hw hK
    obtain ⟨xs, hq, hx⟩ := hg
    obtain ⟨its, rv, p, hz⟩ := I.list hq
    obtain ⟨f0, f1, f2, f3, f4, f5⟩ := hf it (by simp)
    have hl := rv.length
    exact wpAny_pyNext_list_end (I.ok.hd hc) st p.isList (by simp; omega) fun h' eb => ⟨rfl, I.turned (t' := s.toks) (fun b o hb e => eb b o hb e) f0 f1 f3 f4 f5⟩
  self := fun _ _ _ _ _ st h => wpAny_pyIter_listiter st h
theorem turn_range {P : Program} {w : World} {K : PySem.W.Frag} {tg : Expr} (it : Addr) (lo : Int) (n : Nat) : Turn P w K tg (Itr lo n) [it] it (fun i h => IsRangeIter h it (lo + (i : Nat) * 1) ((n : Int) - (i : Nat)) 1) where
  mem := by simp
  obj := fun i h st b hb => by
    have e : b = it := by simpa using hb
    subst e
    exact ⟨_, st, fun v z => by
      have z' : Data.fields _ = Data.cell v := z
      cases z'⟩
  keep := fun i h h' st k => k it (by simp) _ st
  item := by
    intro X hP hw hK hc i pins s σ H E I hf st hg
    subst hP hw hK
    obtain ⟨f0, f1, f2, f3, f4, f5⟩ := hf it (by simp)
    have W := Walks.range (prog := X.prog) (w := X.w) (I.ok.hd hc) it lo 1 n
    refine W.item i s _ _ hg st fun v h' tk hv st' kk => ?_
    obtain ⟨t, rfl⟩ := hv
    have I1 : Inv X pins σ H { s with heap := h', toks := tk } := I.turned (fun b o hb e => kk b o (by simpa using hb) e) f0 f1 f3 f4 f5
    refine ⟨_, rfl, go_of (s := { s with heap := h', toks := tk }) (n := "range_iterator") st' rfl rfl (by decide) ⟨.int (lo + i), H, I1, ⟨t, ?_⟩, ⟨rfl, rfl⟩, st', fun b hb => (hf b hb).1⟩⟩
    rw [Int.mul_one]
  done := by
    intro X hP hw hK hc i pins s σ H E I hf st hg
    subst hP hw hK
    obtain ⟨f0, f1, f2, f3, f4, f5⟩ := hf it (by simp)
    exact wpAny_pyNext_range_end (I.ok.hd hc) st (by have : n ≤ i := hg; omega) fun h' eb => ⟨rfl, I.turned (t' := s.toks) (fun b o hb e => eb b o hb e) f0 f1 f3 f4 f5⟩
  self := fun _ _ _ _ _ st h => wpAny_pyIter_rangeiter st h
end L2
namespace L2
open PySem PySem.Spec PyProof.Rows
section
variable {X : Cx} {tg : Expr}
def iList (K : PySem.W.Frag) (tl : TE) : TI := fun σ H R => tl σ H fun x H1 => ∃ a, x = .ref a ∧ (∃ xs, SqL K H1 a xs) ∧ R (Itl K a) H1
theorem pi_list {l : Expr} {tl : TE} (hl : PE X l tl) : PI X tg l (iList X.K tl) := by
  intro pins s σ H R I h
  refine thn (hl pins s σ H _ I h) fun v s1 ⟨x, H1, I1, r1, q1⟩ => ?_
  obtain ⟨a, e, ⟨xs, hq⟩, q⟩ := q1
  subst e
  cases r1
  obtain ⟨its, rv, p, hz⟩ := I1.list hq
  refine wpAny_pyIter_list p.isList ?_
  refine ⟨s1.heap.objs.size, [s1.heap.objs.size], _, _, H1, rfl, I1.kept (t' := s1.toks) fun b o e => Heap.get?_push_of_some _ e, turn_list a _, ⟨_, Heap.get?_push_size _ rfl, rfl, rfl⟩, fun b hb => ?_, q⟩
  have e : b = s1.heap.objs.size := by simpa using hb
  subst e
  exact I1.fpOk (Nat.le_refl _) (I1.hok.fresh (Nat.le_refl _))
theorem range_it {pins : List (Addr × Obj)} {σ : St} {H : Hp} {s : Shared} {R : It → Hp → Prop} {E : Value → Shared → Prop} {lo hi : Int} {t u v : Tok} {tk : Nat} (I : Inv X pins σ H s) (h1 : -(2 ^ 62) ≤ lo) (h2 : lo < 2 ^ 62) (h3 : -(2 ^ 62) ≤ hi) (h4 : hi < 2 ^ 62)
    (q : R (Itr lo (hi - lo).toNat) H) : wpAny (model X.prog X.w) X.A (pyIter (.ref s.heap.objs.size)) (PIE X pins σ tg R) E { s with heap := s.heap.push { cls := .type "range", data := .fields #[.int lo t, .int hi u, .int 1 v] }, toks := tk } := by
  refine wpAny_pyIter_range (IsRange.new ..) (small_one h1 h2 h3 h4) ?_
  have I1 : Inv X pins σ H { s with heap := s.heap.push { cls := .type "range", data := .fields #[.int lo t, .int hi u, .int 1 v] }, toks := tk } := I.kept fun b o e => Heap.get?_push_of_some _ e
  refine ⟨(s.heap.push { cls := .type "range", data := .fields #[.int lo t, .int hi u, .int 1 v] }).objs.size, [(s.heap.push { cls := .type "range", data := .fields #[.int lo t, .int hi u, .int 1 v] }).objs.size], _, _, H, rfl,
    I1.kept (t' := tk) fun b o e => Heap.get?_push_of_some _ e, turn_range _ lo (hi - lo).toNat, ?_, fun b hb => ?_, q⟩
  · have e1 : lo + ((0 : Nat) : Int) * 1 = lo := by simp
    have e2 : (((hi - lo).toNat : Nat) : Int) - ((0 : Nat) : Int) = Builtin.Range.rangeSize lo hi 1 := by rw [rangeSize_one]; split <;> omega
    show IsRangeIter _ _ (lo + ((0 : Nat) : Int) * 1) ((((hi - lo).toNat : Nat) : Int) - ((0 : Nat) : Int)) 1
    rw [e1, e2]
    exact Heap.get?_push_size _ rfl
  · have e : b = (s.heap.push { cls := .type "range", data := .fields #[.int lo t, .int hi u, .int 1 v] }).objs.size := by simpa using hb
    subst e
    exact I1.fpOk (Nat.le_refl _) (I1.hok.fresh (Nat.le_refl _))
def iRng1 (ta : TA) : TI := fun σ H R => ta σ H fun vs H1 => ∃ j : Int, vs = [.int j] ∧ -(2 ^ 62) ≤ j ∧ j < 2 ^ 62 ∧ R (Itr 0 j.toNat) H1
def iRng2 (ta : TA) : TI := fun σ H R => ta σ H fun vs H1 => ∃ i j : Int, vs = [.int i, .int j] ∧ (-(2 ^ 62) ≤ i ∧ i < 2 ^ 62 ∧ -(2 ^ 62) ≤ j ∧ j < 2 ^ 62) ∧ R (Itr i (j - i).toNat) H1
theorem pi_range1 {a : Expr} {ta : TA} {p pos : Pos} (hg : Gl X "range") (hm : X.mg "range" = none) (ha : PA X [a] ta) (hs : starEach [a] X.env = [(false, eval a X.env)] := by rfl) : PI X tg (.Call (.Name "range" p) [a] [] pos) (iRng1 ta) := by
  intro pins s σ H R I h
  refine Call_ (ld_blt I hg hm boot_range (PyProof.Rows.callWith_type1 (thn (ha pos pins s σ H _ I h) fun us s1 ⟨vs, H1, I1, r1, q1⟩ => ?_) hs rfl))
  obtain ⟨j, e, q1, q2, q⟩ := q1
  subst e
  cases r1 with
  | cons r rr =>
    cases rr
    obtain ⟨t, rfl⟩ := r
    exact call_range_1 (range_it I1 (by omega) (by omega) q1 q2 (by simpa using q))
theorem pi_range2 {a b : Expr} {ta : TA} {p pos : Pos} (hg : Gl X "range") (hm : X.mg "range" = none) (ha : PA X [a, b] ta) (hs : starEach [a, b] X.env = [(false, eval a X.env), (false, eval b X.env)] := by rfl) (hs2 : starEach [b] X.env = [(false, eval b X.env)] := by rfl) :
    PI X tg (.Call (.Name "range" p) [a, b] [] pos) (iRng2 ta) := by
  intro pins s σ H R I h
  refine Call_ (ld_blt I hg hm boot_range (PyProof.Rows.callWith_type1 (thn (ha pos pins s σ H _ I h) fun us s1 ⟨vs, H1, I1, r1, q1⟩ => ?_) (by rw [hs, hs2]) (by rw [hs2]; rfl)))
  obtain ⟨i, j, e, ⟨q1, q2, q3, q4⟩, q⟩ := q1
  subst e
  cases r1 with
  | cons r rr =>
    cases rr with
    | cons r' rr =>
      cases rr
      obtain ⟨t, rfl⟩ := r
      obtain ⟨t', rfl⟩ := r'
      exact call_range_2 (range_it I1 q1 q2 q3 q4 q)
def tFor (wi : TI) (g : TG) (tb : TS) : TS := fun D σ H => wi σ H fun J H1 => ∃ W : Nat → Nat → St → Hp → Prop, (∃ m, W 0 m σ H1) ∧ ∀ i m σ H, W i m σ H →
  (J.stop i H ∧ D.nx σ H) ∨ (J.go i H ∧ ∃ N : St → Hp → Prop, (∀ σ' H', N σ' H' → ∃ m', m' < m ∧ W (i + 1) m' σ' H') ∧ ∀ x H', J.yld i H x H' → g x σ H' fun σ2 H2 => tb { D with nx := N, ct := N, bk := D.nx } σ2 H2)
def pinsAt (fp : List Addr) (h : Heap) : List (Addr × Obj) := fp.filterMap fun b => (h.get? b).map fun o => (b, o)
theorem mem_pinsAt {fp : List Addr} {h : Heap} {b : Addr} {o : Obj} (hb : b ∈ fp) (e : h.get? b = some o) : (b, o) ∈ pinsAt fp h := List.mem_filterMap.mpr ⟨b, hb, by rw [e]; rfl⟩
theorem of_pinsAt {fp : List Addr} {h : Heap} {p : Addr × Obj} (hp : p ∈ pinsAt fp h) : p.1 ∈ fp ∧ h.get? p.1 = some p.2 := by
  obtain ⟨b, hb, e⟩ := List.mem_filterMap.mp hp
  cases q : h.get? b with
  | none => rw [q] at e; cases e
  | some o =>
    rw [q] at e
    have e' : (b, o) = p := Option.some.inj e
    subst e'
    exact ⟨hb, q⟩
theorem Inv.pinned {pins : List (Addr × Obj)} {σ : St} {H : Hp} {s : Shared} {fp : List Addr} (I : Inv X pins σ H s) (hf : ∀ b ∈ fp, FpOk X pins H b) (ho : ∀ b ∈ fp, ∃ o, s.heap.get? b = some o ∧ ∀ v, o.data ≠ .cell v) : Inv X (pins ++ pinsAt fp s.heap) σ H s :=
  I.pins_of fun p hp => (List.mem_append.mp hp).elim (fun z => I.pin p (List.mem_append_right _ z)) fun z => by
    obtain ⟨hb, e⟩ := of_pinsAt z
    obtain ⟨f0, f1, f2, _⟩ := hf p.1 hb
    obtain ⟨o, e', d⟩ := ho p.1 hb
    rw [e] at e'; cases e'
    exact ⟨e, f0, f1, f2, d⟩
theorem Inv.unpinned {pins pl : List (Addr × Obj)} {σ : St} {H : Hp} {s : Shared} (I : Inv X (pins ++ pl) σ H s) : Inv X pins σ H s := I.pins_of fun p hp => I.pin p (List.mem_append_right _ (List.mem_append_left _ hp))
theorem ps_for {iter : Expr} {body : List Stmt} {wi : TI} {g : TG} {tb : TS} {pos : Pos} (hp : PassesOwn (model X.prog X.w) X.A X.env X.xe) (hc : X.calm = true) (hi : PI X tg iter wi) (hg : PG X tg g) (hb : PSs X body tb)
    (hs : ∀ x, foldedSetIterable iter X.env x = pure x := by intro _; rfl) : PS X (.For tg iter body [] pos) (tFor wi g tb) := by
  intro pins s σ H D I h
  refine wpAny_For (thn (hi pins s σ H _ I h) fun v s1 h1 => thn h1 fun itv s2 h2 => ?_) hs
  obtain ⟨it, fp, tn, J, H2, e, I2, T, st2, f2, W, ⟨m0, w0⟩, turn⟩ := h2
  subst e
  -- what stays true of the iterator's objects through the loop
  have stat : ∀ {H' : Hp}, (∀ b ∈ fp, H' b = none) → ∀ b ∈ fp, FpOk X pins H' b := fun hn b hb => ⟨hn b hb, (f2 b hb).2⟩
  refine codeAny_forLoop_any (fun n s' => ∃ i σ' H', Inv X pins σ' H' s' ∧ tn i s'.heap ∧ (∀ b ∈ fp, H' b = none) ∧ W i n σ' H') ?_ m0 ⟨0, σ, H2, I2, st2, fun b hb => (f2 b hb).1, w0⟩
  rintro n s3 ⟨i, σ3, H3, I3, st3, fr3, w3⟩
  rcases turn i n σ3 H3 w3 with ⟨stop, qn⟩ | ⟨go, N, hN, step⟩
  · refine wpAny_passesOwn hp (thn (T.done X rfl rfl rfl hc i pins s3 σ3 H3 X.xe I3 (stat fr3) st3 stop) fun r s4 ⟨hr, I4⟩ => ?_)
    subst hr
    exact wpAny_execs_nil ⟨σ3, H3, I4, qn⟩
  · refine wpAny_passesOwn hp (thn (T.item X rfl rfl rfl hc i pins s3 σ3 H3 X.xe I3 (stat fr3) st3 go) fun r s4 ⟨u, hr, h4⟩ => ?_)
    subst hr
    refine wpAny_passesOwn hp (thn h4 fun _ s5 ⟨x, H5, I5, r5, y5, st5, fr5⟩ => ?_)
    have I5' := I5.pinned (stat fr5) (T.obj _ _ st5)
    refine wpAny_passesOwn hp (thn (hg _ s5 σ3 H5 x u _ I5' r5 (step x H5 y5)) fun _ s6 ⟨σ6, H6, I6, q6⟩ => ?_)
    refine wpAny_passesOwn hp (thn (hb _ s6 σ6 H6 _ I6 q6) fun f s7 q7 => ?_)
    have again : ∀ {σ7 : St} {H7 : Hp}, Inv X (pins ++ pinsAt fp s5.heap) σ7 H7 s7 → N σ7 H7 → ∃ m, m < n ∧ ∃ i σ' H', Inv X pins σ' H' s7 ∧ tn i s7.heap ∧ (∀ b ∈ fp, H' b = none) ∧ W i m σ' H' := fun {σ7 H7} I7 n7 => by
      obtain ⟨m', hm, w7⟩ := hN σ7 H7 n7
      refine ⟨m', hm, i + 1, σ7, H7, I7.unpinned, T.keep _ _ _ st5 fun b hb o e => (I7.pin (b, o) (List.mem_append_right _ (List.mem_append_right _ (mem_pinsAt hb e)))).1, fun b hb => ?_, w7⟩
      obtain ⟨o, e, d⟩ := T.obj _ _ st5 b hb
      exact (I7.pin (b, o) (List.mem_append_right _ (List.mem_append_right _ (mem_pinsAt hb e)))).2.1
    cases f with
    | next => obtain ⟨σ7, H7, I7, n7⟩ := q7; exact again I7 n7
    | cont => obtain ⟨σ7, H7, I7, n7⟩ := q7; exact again I7 n7
    | brk => obtain ⟨σ7, H7, I7, q7⟩ := q7; exact ⟨σ7, H7, I7.unpinned, q7⟩
    | ret v => obtain ⟨x7, σ7, H7, I7, r7, q7⟩ := q7; exact ⟨x7, σ7, H7, I7.unpinned, r7, q7⟩
end
theorem for_list {K : PySem.W.Frag} {a : Addr} {xs : List V} {g : TG} {tb : TS} {D : Ends} {σ : St} {H : Hp} (Pv : Nat → St → Hp → Prop) (h0 : Pv 0 σ H) (hl : ∀ i σ H, i ≤ xs.length → Pv i σ H → SqL K H a xs)
    (hs : ∀ i x σ H, xs[i]? = some x → Pv i σ H → g x σ H fun σ2 H2 => tb { D with nx := Pv (i + 1), ct := Pv (i + 1), bk := D.nx } σ2 H2) (hd : ∀ σ H, Pv xs.length σ H → D.nx σ H) :
    ∃ W : Nat → Nat → St → Hp → Prop, (∃ m, W 0 m σ H) ∧ ∀ i m σ H, W i m σ H →
      ((Itl K a).stop i H ∧ D.nx σ H) ∨ ((Itl K a).go i H ∧ ∃ N : St → Hp → Prop, (∀ σ' H', N σ' H' → ∃ m', m' < m ∧ W (i + 1) m' σ' H') ∧ ∀ x H', (Itl K a).yld i H x H' → g x σ H' fun σ2 H2 => tb { D with nx := N, ct := N, bk := D.nx } σ2 H2) := by
  refine ⟨fun i m σ H => m = xs.length - i ∧ i ≤ xs.length ∧ Pv i σ H, ⟨xs.length, by simp, Nat.zero_le _, h0⟩, ?_⟩
  rintro i m σ H ⟨rfl, hi, p⟩
  have q := hl i σ H hi p
  by_cases hlt : i < xs.length
  · refine .inr ⟨⟨xs, xs[i], q, by simp [hlt]⟩, Pv (i + 1), fun σ' H' p' => ⟨xs.length - (i + 1), by omega, rfl, hlt, p'⟩, fun x H' y => ?_⟩
    obtain ⟨e, y⟩ := y
    subst e
    exact hs i x σ _ (y xs q) p
  · have e : i = xs.length := by omega
    subst e
    exact .inl ⟨⟨xs, q, Nat.le_refl _⟩, hd σ H p⟩
theorem for_range {lo : Int} {n : Nat} {g : TG} {tb : TS} {D : Ends} {σ : St} {H : Hp} (Pv : Nat → St → Hp → Prop) (h0 : Pv 0 σ H)
    (hs : ∀ i σ H, i < n → Pv i σ H → g (.int (lo + i)) σ H fun σ2 H2 => tb { D with nx := Pv (i + 1), ct := Pv (i + 1), bk := D.nx } σ2 H2) (hd : ∀ σ H, Pv n σ H → D.nx σ H) :
    ∃ W : Nat → Nat → St → Hp → Prop, (∃ m, W 0 m σ H) ∧ ∀ i m σ H, W i m σ H →
      ((Itr lo n).stop i H ∧ D.nx σ H) ∨ ((Itr lo n).go i H ∧ ∃ N : St → Hp → Prop, (∀ σ' H', N σ' H' → ∃ m', m' < m ∧ W (i + 1) m' σ' H') ∧ ∀ x H', (Itr lo n).yld i H x H' → g x σ H' fun σ2 H2 => tb { D with nx := N, ct := N, bk := D.nx } σ2 H2) := by
  refine ⟨fun i m σ H => m = n - i ∧ i ≤ n ∧ Pv i σ H, ⟨n, by simp, Nat.zero_le _, h0⟩, ?_⟩
  rintro i m σ H ⟨rfl, hi, p⟩
  by_cases hlt : i < n
  · refine .inr ⟨hlt, Pv (i + 1), fun σ' H' p' => ⟨n - (i + 1), by omega, rfl, hlt, p'⟩, fun x H' y => ?_⟩
    obtain ⟨e, y⟩ := y
    subst e y
    exact hs i σ _ hlt p
  · have e : i = n := by omega
    subst e
    exact .inl ⟨Nat.le_refl _, hd σ H p⟩
end L2
namespace L2
open PySem PySem.Spec PyProof.Rows
abbrev R2 := V → V → Hp → VK → Prop
def OpR (X : Cx) (f : Value → Value → Sem Value) (r : R2) : Prop :=
  ∀ (pins : List (Addr × Obj)) (s : Shared) (σ : St) (H : Hp) (x y : V) (v u : Value) (Q : VK), Inv X pins σ H s → RelV x v → RelV y u → r x y H Q →
    wpAny (model X.prog X.w) X.A (f v u) (EP X pins σ Q) X.xe s
def CallR (X : Cx) (f : Value) (r : List V → Hp → VK → Prop) : Prop :=
  ∀ (pins : List (Addr × Obj)) (s : Shared) (σ : St) (H : Hp) (xs : List V) (us : List Value) (Q : VK), Inv X pins σ H s → Vals xs us → r xs H Q →
    wpAny (model X.prog X.w) X.A (call f us) (EP X pins σ Q) X.xe s
def tOp (r : R2) (ta tb : TE) : TE := fun σ H Q => ta σ H fun x H1 => tb σ H1 fun y H2 => r x y H2 Q
def rI (C : Int → Int → Prop) (g : Int → Int → V) : R2 := fun x y H Q => ∃ i j, x = .int i ∧ y = .int j ∧ C i j ∧ Q (g i j) H
def rI0 (g : Int → Int → V) : R2 := fun x y H Q => ∃ i j, x = .int i ∧ y = .int j ∧ Q (g i j) H
section
variable {X : Cx} {a b c : Expr} {ta tb tc : TE} {pos : Pos}
theorem binT (ha : PE X a ta) (hb : PE X b tb) {pins : List (Addr × Obj)} {s : Shared} {σ : St} {H : Hp} {R : V → V → Hp → Prop} (I : Inv X pins σ H s)
    (h : ta σ H fun x H1 => tb σ H1 fun y H2 => R x y H2) {Q : Value → Shared → Prop} {f : Value → Value → Sem Value}
    (hf : ∀ v u s2 x y H2, Inv X pins σ H2 s2 → RelV x v → RelV y u → R x y H2 → wpAny (model X.prog X.w) X.A (f v u) Q X.xe s2) :
    wpAny (model X.prog X.w) X.A (eval a X.env) (fun v s₁ => wpAny (model X.prog X.w) X.A (eval b X.env) (fun u s₂ => wpAny (model X.prog X.w) X.A (f v u) Q X.xe s₂) X.xe s₁) X.xe s := by
  refine thn (ha pins s σ H _ I h) fun v s1 ⟨x, H1, I1, r1, q1⟩ => ?_
  refine thn (hb pins s1 σ H1 _ I1 q1) fun u s2 ⟨y, H2, I2, r2, q2⟩ => ?_
  exact hf v u s2 x y H2 I2 r1 r2 q2
theorem pe_op {op : Operator} {r : R2} (ho : OpR X (binaryOp op) r) (ha : PE X a ta) (hb : PE X b tb) : PE X (.BinOp a op b pos) (tOp r ta tb) := by
  intro pins s σ H Q I h
  exact wpAny_BinOp (binT ha hb I h fun v u s2 x y H2 I2 rx ry q => ho pins s2 σ H2 x y v u Q I2 rx ry q)
theorem opI {f : Value → Value → Sem Value} {C : Int → Int → Prop} {g : Int → Int → Int}
    (rule : ∀ (i j : Int) (t u : Tok) (s : Shared) (Q : Value → Shared → Prop) (E : Value → Shared → Prop), C i j → Q (.int (g i j) s.toks) { s with toks := s.toks + 1 } → wpAny (model X.prog X.w) X.A (f (.int i t) (.int j u)) Q E s) :
    OpR X f (rI C fun i j => .int (g i j)) := by
  intro pins s σ H x y v u Q I rx ry h
  obtain ⟨i, j, rfl, rfl, hc, q⟩ := h
  obtain ⟨t, rfl⟩ := rx
  obtain ⟨t', rfl⟩ := ry
  exact rule i j t t' s _ _ hc ⟨.int (g i j), H, I.tok _, ⟨_, rfl⟩, q⟩
theorem opI0 {f : Value → Value → Sem Value} {g : Int → Int → Int}
    (rule : ∀ (i j : Int) (t u : Tok) (s : Shared) (Q : Value → Shared → Prop) (E : Value → Shared → Prop), Q (.int (g i j) s.toks) { s with toks := s.toks + 1 } → wpAny (model X.prog X.w) X.A (f (.int i t) (.int j u)) Q E s) :
    OpR X f (rI0 fun i j => .int (g i j)) := by
  intro pins s σ H x y v u Q I rx ry h
  obtain ⟨i, j, rfl, rfl, q⟩ := h
  obtain ⟨t, rfl⟩ := rx
  obtain ⟨t', rfl⟩ := ry
  exact rule i j t t' s _ _ ⟨.int (g i j), H, I.tok _, ⟨_, rfl⟩, q⟩
theorem opB0 {f : Value → Value → Sem Value} {g : Int → Int → Bool}
    (rule : ∀ (i j : Int) (t u : Tok) (s : Shared) (Q : Value → Shared → Prop) (E : Value → Shared → Prop), Q (.bool (g i j)) s → wpAny (model X.prog X.w) X.A (f (.int i t) (.int j u)) Q E s) :
    OpR X f (rI0 fun i j => .bl (g i j)) := by
  intro pins s σ H x y v u Q I rx ry h
  obtain ⟨i, j, rfl, rfl, q⟩ := h
  obtain ⟨t, rfl⟩ := rx
  obtain ⟨t', rfl⟩ := ry
  exact rule i j t t' s _ _ ⟨.bl (g i j), H, I, rfl, q⟩
def CDiv (i j : Int) : Prop := 0 < j ∧ j < 1073741824
def CPow (i j : Int) : Prop := 0 ≤ j ∧ j ≤ 1000000 ∧ i.natAbs < 2 ^ 64
def CMul (i j : Int) : Prop := (-(2 ^ 64) < i ∧ i < 2 ^ 64) ∨ (-(2 ^ 64) < j ∧ j < 2 ^ 64)
theorem CMul.ok {i j : Int} (h : CMul i j) : IntMulOk i j := by
  rcases h with ⟨h1, h2⟩ | ⟨h1, h2⟩
  · exact .of_left (intBits_le_64 h1 h2)
  · exact .of_right (intBits_le_64 h1 h2)
theorem two_pow_nn (k : Nat) : (0 : Int) ≤ 2 ^ k := by
  rw [two_pow_cast]
  exact Int.natCast_nonneg _
theorem op_add : OpR X (binaryOp .Add) (rI0 fun i j => .int (i + j)) := opI0 fun _ _ _ _ _ _ _ q => add_int q
theorem op_sub : OpR X (binaryOp .Sub) (rI0 fun i j => .int (i - j)) := opI0 fun _ _ _ _ _ _ _ q => sub_int q
theorem op_mul : OpR X (binaryOp .Mult) (rI CMul fun i j => .int (i * j)) := opI fun _ _ _ _ _ _ _ hc q => mul_int q hc.ok
theorem op_fdiv : OpR X (binaryOp .FloorDiv) (rI CDiv fun i j => .int (i / j)) := opI fun i j _ _ _ _ _ hc q => by
  have h1 : (0 : Int) < j := hc.1
  have h2 : j < 1073741824 := hc.2
  exact floordiv_int (by omega) (by rw [Int.fdiv_eq_ediv_of_nonneg i (by omega)]; exact q) (.inl (PyProof.noPylong_small (by omega)))
theorem op_mod : OpR X (binaryOp .Mod) (rI (fun _ j => 0 < j) fun i j => .int (i % j)) := opI fun i j _ _ _ _ _ hc q => by
  have h1 : (0 : Int) < j := hc
  exact mod_int' (by omega) (by rw [Int.fmod_eq_emod_of_nonneg i (by omega)]; exact q)
theorem op_pow : OpR X (binaryOp .Pow) (rI CPow fun i j => .int (i ^ j.toNat)) := opI fun _ _ _ _ _ _ _ hc q => pow_int_small hc.1 hc.2.1 hc.2.2 q
theorem op_shr : OpR X (binaryOp .RShift) (rI (fun _ j => 0 ≤ j) fun i j => .int (i / 2 ^ j.toNat)) := opI fun i j _ _ _ _ _ hc q =>
  rshift_int hc (by rw [Int.fdiv_eq_ediv_of_nonneg i (two_pow_nn _)]; exact q)
end
def scal : V → V → Bool
  | .non, .non => true | .non, .int _ => true | .int _, .non => true | .non, .bl _ => true | .bl _, .non => true | .non, .str _ => true | .str _, .non => true
  | .int _, .int _ => true | .bl _, .bl _ => true | .str _, .str _ => true | .byt _, .byt _ => true
  | .int _, .str _ => true | .str _, .int _ => true | .bl _, .str _ => true | .str _, .bl _ => true
  | _, _ => false
def rEq : R2 := fun x y H Q => scal x y = true ∧ Q (.bl (decide (x = y))) H
theorem dec_int {i j : Int} : decide (V.int i = V.int j) = (i == j) := by
  rw [Bool.eq_iff_iff]
  simp
theorem dec_bl {i j : Bool} : decide (V.bl i = V.bl j) = (i == j) := by
  rw [Bool.eq_iff_iff]
  simp
theorem dec_str {i j : Str} : decide (V.str i = V.str j) = (i == j) := by
  rw [Bool.eq_iff_iff]
  simp
theorem dec_byt {i j : Array UInt8} : decide (V.byt i = V.byt j) = (i.toList == j.toList) := by
  rw [Bool.eq_iff_iff]
  cases i
  cases j
  simp
section
variable {X : Cx} {a b c : Expr} {ta tb tc : TE} {pos : Pos}
theorem fin_bl {pins : List (Addr × Obj)} {σ : St} {H : Hp} {s : Shared} {Q : VK} {k k' : Bool} (I : Inv X pins σ H s) (q : Q (.bl k) H) (e : k = k') : EP X pins σ Q (.bool k') s := by
  subst e
  exact ⟨.bl k, H, I, rfl, q⟩
theorem op_eq : OpR X (compareOp .Eq) rEq := by
  intro pins s σ H x y v u Q I rx ry h
  obtain ⟨hs, q⟩ := h
  cases x with
  | non =>
    cases rx
    cases y with
    | non => cases ry; exact PySem.EqNone.eq_none_none (fin_bl I q (by simp))
    | bl j => cases ry; exact PySem.EqNone.eq_none_bool (fin_bl I q (by simp))
    | int j => obtain ⟨t', rfl⟩ := ry; exact PySem.EqNone.eq_none_int (fin_bl I q (by simp))
    | str j => obtain ⟨t', rfl⟩ := ry; exact PySem.EqNone.eq_none_str (fin_bl I q (by simp))
    | _ => exact absurd (show false = true from hs) Bool.false_ne_true
  | bl i =>
    cases rx
    cases y with
    | non => cases ry; exact PySem.EqNone.eq_bool_none (fin_bl I q (by simp))
    | bl j => cases ry; exact eq_bool (fin_bl I q dec_bl)
    | str j => obtain ⟨t', rfl⟩ := ry; exact PySem.EqMixed.eq_bool_str (fin_bl I q (by simp))
    | _ => exact absurd (show false = true from hs) Bool.false_ne_true
  | int i =>
    obtain ⟨t, rfl⟩ := rx
    cases y with
    | non => cases ry; exact PySem.EqNone.eq_int_none (fin_bl I q (by simp))
    | int j => obtain ⟨t', rfl⟩ := ry; exact eq_int (fin_bl I q dec_int)
    | str j => obtain ⟨t', rfl⟩ := ry; exact PySem.EqMixed.eq_int_str (fin_bl I q (by simp))
    | _ => exact absurd (show false = true from hs) Bool.false_ne_true
  | str i =>
    obtain ⟨t, rfl⟩ := rx
    cases y with
    | non => cases ry; exact PySem.EqNone.eq_str_none (fin_bl I q (by simp))
    | bl j => cases ry; exact PySem.EqMixed.eq_str_bool (fin_bl I q (by simp))
    | int j => obtain ⟨t', rfl⟩ := ry; exact PySem.EqMixed.eq_str_int (fin_bl I q (by simp))
    | str j => obtain ⟨t', rfl⟩ := ry; exact eq_str (fin_bl I q dec_str)
    | _ => exact absurd (show false = true from hs) Bool.false_ne_true
  | byt i =>
    obtain ⟨t, rfl⟩ := rx
    cases y with
    | byt j => obtain ⟨t', rfl⟩ := ry; exact PySem.W.eq_bytes (fin_bl I q dec_byt)
    | _ => exact absurd (show false = true from hs) Bool.false_ne_true
  | _ => cases y <;> exact absurd (show false = true from hs) Bool.false_ne_true
theorem op_lt : OpR X (compareOp .Lt) (rI0 fun i j => .bl (decide (i < j))) := opB0 fun _ _ _ _ _ _ _ q => lt_int q
theorem op_le : OpR X (compareOp .LtE) (rI0 fun i j => .bl (decide (i ≤ j))) := opB0 fun _ _ _ _ _ _ _ q => le_int q
theorem op_gt : OpR X (compareOp .Gt) (rI0 fun i j => .bl (decide (j < i))) := opB0 fun _ _ _ _ _ _ _ q => gt_int q
theorem op_ge : OpR X (compareOp .GtE) (rI0 fun i j => .bl (decide (j ≤ i))) := opB0 fun _ _ _ _ _ _ _ q => ge_int q
theorem op_isN : OpR X (compareOp .Is) (fun x y H Q => y = .non ∧ Q (.bl (decide (x = .non))) H) := by
  intro pins s σ H x y v u Q I rx ry h
  obtain ⟨rfl, q⟩ := h
  cases ry
  refine is_none_gen (fin_bl I q ?_)
  cases x <;> first
    | (cases rx; rfl)
    | (obtain ⟨t, rfl⟩ := rx; rfl)
theorem op_notN : OpR X (compareOp .IsNot) (fun x y H Q => y = .non ∧ Q (.bl (!decide (x = .non))) H) := by
  intro pins s σ H x y v u Q I rx ry h
  obtain ⟨rfl, q⟩ := h
  cases ry
  refine isnot_none_gen (fin_bl I q ?_)
  cases x <;> first
    | (cases rx; rfl)
    | (obtain ⟨t, rfl⟩ := rx; rfl)
theorem nomark (b : Expr) {op : CmpOp} (h : op ≠ .In := by decide) (h2 : op ≠ .NotIn := by decide) : behindInMarks op b = false := by
  have e1 : (op == CmpOp.In) = false := by cases op <;> first | rfl | exact absurd rfl h
  have e2 : (op == CmpOp.NotIn) = false := by cases op <;> first | rfl | exact absurd rfl h2
  cases b <;> simp [behindInMarks, e1, e2]
theorem pe_cmpR {op : CmpOp} {r : R2} (ho : OpR X (compareOp op) r) (ha : PE X a ta) (hb : PE X b tb) (hm : behindInMarks op b = false) : PE X (.Compare a [op] [b] pos) (tOp r ta tb) := by
  intro pins s σ H Q I h
  exact wpAny_Compare1 (binT ha hb I h fun v u s2 x y H2 I2 rx ry q => ho pins s2 σ H2 x y v u Q I2 rx ry q) hm
def tTest (t : TE) : TT := fun σ H Q => t σ H fun x H' => ∃ k, x = .bl k ∧ Q k H'
theorem pt_cmpR {op : CmpOp} {r : R2} (ho : OpR X (compareOp op) r) (ha : PE X a ta) (hb : PE X b tb) (hm : behindInMarks op b = false) : PT X (.Compare a [op] [b] pos) (tTest (tOp r ta tb)) := by
  intro pins s σ H Q I h
  refine wpAny_isTrue_Compare1 (thn (ha pins s σ H _ I h) fun v s1 ⟨x, H1, I1, r1, q1⟩ => thn (hb pins s1 σ H1 _ I1 q1) fun u s2 ⟨y, H2, I2, r2, q2⟩ =>
    thn (ho pins s2 σ H2 x y v u _ I2 r1 r2 q2) fun c s3 ⟨z, H3, I3, r3, k, e, q3⟩ => ?_) hm
  subst e
  cases r3
  exact wpAny_truthy_bool ⟨H3, I3, q3⟩
def tChain (r r' : R2) (ta tb tc : TE) : TE := fun σ H Q => ta σ H fun x H1 => tb σ H1 fun y H2 => r x y H2 fun z H3 => ∃ k, z = .bl k ∧
  (if k = true then tc σ H3 fun w' H4 => r' y w' H4 Q else Q (.bl false) H3)
theorem pe_chain {op op' : CmpOp} {r r' : R2} (ho : OpR X (compareOp op) r) (ho' : OpR X (compareOp op') r') (ha : PE X a ta) (hb : PE X b tb) (hc : PE X c tc)
    (hm : lastMarks [op, op'] [b, c] = false := by with_unfolding_all rfl) : PE X (.Compare a [op, op'] [b, c] pos) (tChain r r' ta tb tc) := by
  intro pins s σ H Q I h
  refine Compare_chain (thn (ha pins s σ H _ I h) fun v s1 ⟨x, H1, I1, r1, q1⟩ => chain_link (thn (hb pins s1 σ H1 _ I1 q1) fun u s2 ⟨y, H2, I2, r2, q2⟩ =>
    thn (ho pins s2 σ H2 x y v u _ I2 r1 r2 q2) fun d s3 ⟨z, H3, I3, r3, k, e, q3⟩ => ?_)) hm
  subst e
  cases r3
  refine wpAny_truthy_bool ?_
  cases k with
  | false => exact ite_ff ⟨.bl false, H3, I3, rfl, q3⟩
  | true => exact ite_tt (chain_last (thn (hc pins s3 σ H3 _ I3 q3) fun w' s4 ⟨z', H4, I4, r4, q4⟩ => ho' pins s4 σ H4 y z' u w' Q I4 r2 r4 q4))
theorem line63 : (sizeLine : Nat) < 2 ^ 63 := by rw [sizeLine_eq]; decide
theorem op_add_str : OpR X (binaryOp .Add) (fun x y H Q => ∃ i j, x = .str i ∧ y = .str j ∧ i.length + j.length ≤ sizeLine ∧ Q (.str (i ++ j)) H) := by
  intro pins s σ H x y v u Q I rx ry h
  obtain ⟨i, j, rfl, rfl, hz, q⟩ := h
  obtain ⟨t, rfl⟩ := rx
  obtain ⟨t', rfl⟩ := ry
  exact add_str (fun t' tk => ⟨.str (i ++ j), H, I.tok _, ⟨_, rfl⟩, q⟩) hz
theorem vals1 {x : V} {us : List Value} (r : Vals [x] us) : ∃ u, us = [u] ∧ RelV x u := by
  cases r with
  | cons r1 r2 => cases r2; exact ⟨_, rfl, r1⟩
theorem vals2 {x y : V} {us : List Value} (r : Vals [x, y] us) : ∃ u w', us = [u, w'] ∧ RelV x u ∧ RelV y w' := by
  cases r with
  | cons r1 r2 =>
    cases r2 with
    | cons r3 r4 => cases r4; exact ⟨_, _, rfl, r1, r3⟩
theorem call_min2 (hc : X.calm = true) : CallR X (.builtin "min") (fun xs H Q => ∃ i j, xs = [.int i, .int j] ∧ Q (.int (if j < i then j else i)) H) := by
  intro pins s σ H xs us Q I r h
  obtain ⟨i, j, rfl, q⟩ := h
  obtain ⟨u, w', rfl, ⟨t, rfl⟩, ⟨t', rfl⟩⟩ := vals2 r
  refine min_two_ints (I.ok.hd hc) fun h' tk k => ⟨_, H, I.kept k, ?_, q⟩
  by_cases hj : j < i
  · rw [if_pos hj, if_pos hj]; exact ⟨_, rfl⟩
  · rw [if_neg hj, if_neg hj]; exact ⟨_, rfl⟩
end
end L2
namespace L2
open PySem PySem.Spec PyProof.Rows
structure ObjM (h : Heap) (x dx C : Addr) (mA : Str → Option Value) : Prop where
  obj : h.get? x = some (PySem.W.instObj C dx)
  ns : h.Ns1 dx mA
  ne : dx ≠ x
theorem lookIn_ns {h : Heap} {dx : Addr} {mA : Str → Option Value} (n : h.Ns1 dx mA) : ∃ od, h.get? dx = some od ∧ ∀ name, PySem.W.lookIn name od = some (mA name) := by
  obtain ⟨o, es, ep, ho, hd, hk, _, hm⟩ := n
  refine ⟨o, ho, fun name => ?_⟩
  have e := hm name
  unfold nsFind findBy at e
  rw [← Array.find?_toList] at e
  unfold PySem.W.lookIn
  rw [hd]
  dsimp only
  split
  · rename_i y q
    rw [q] at e
    exact congrArg some e
  · rename_i q
    rw [q] at e
    have a : es.toList.any (·.refKey) = false := by
      rw [List.any_eq_false]
      intro y hy
      obtain ⟨z, t, hkey⟩ := hk y (Array.mem_toList_iff.mp hy)
      simp [DictEntry.refKey, hkey]
    have a' : ¬ es.toList.any (·.refKey) = true := by rw [a]; exact Bool.false_ne_true
    rw [if_neg a']
    exact congrArg some e
theorem ObjM.look {h : Heap} {x dx C : Addr} {mA : Str → Option Value} (I : ObjM h x dx C mA) : ∃ od, PySem.W.InstAt h x (PySem.W.instObj C dx) C (some od) ∧ ∀ name, PySem.W.lookIn name od = some (mA name) :=
  let ⟨od, ho, hl⟩ := lookIn_ns I.ns
  ⟨od, ⟨I.obj, rfl, rfl, ho⟩, hl⟩
section
variable {prog : Program} {w : World} {A : Around} {E : Value → Shared → Prop} {s : Shared} {K : PySem.W.Frag} {x dx C f : Addr} {mA : Str → Option Value} {name : Str} {v : Value}
theorem get_map {expr : Bool} {Q : Value → Shared → Prop} (X : K.In s.heap) (I : ObjM s.heap x dx C mA) (hg : PySem.W.plainGet K C name = true) (hh : PySem.W.hasDictIn K C = true)
    (ha : PySem.W.findIn K (.ref C) name = some none) (hv : mA name = some v) (hv' : PySem.W.handedIn v = true) (h : Q v { s with toks := s.toks + 1 }) :
    wpAny (model prog w) A (getAttr (.ref x) name expr) Q E s := by
  obtain ⟨od, J, hl⟩ := I.look
  exact PySem.W.get_value X J (PySem.W.plainGet_of hg).1 (PySem.W.findObj_own hh ha rfl (by rw [hl, hv])) hv' h
theorem get_meth {pl : Sem Bool} {Q : Value × List Value → Shared → Prop} (X : K.In s.heap) (I : ObjM s.heap x dx C mA) (hg : PySem.W.plainGet K C name = true)
    (hf : PySem.W.findIn K (.ref C) name = some (some (.ref f))) (ht : PySem.W.isFn K (.ref f) = true) (hv : mA name = none) (h : Q (.ref f, [.ref x]) s) :
    wpAny (model prog w) A (getMethod (.ref x) name pl) Q E s := by
  obtain ⟨od, J, hl⟩ := I.look
  exact PySem.W.method_fn X J (PySem.W.plainGet_of hg).1 (PySem.W.plainGet_of hg).2 hf (beq_iff_eq.mp ht) (by show (PySem.W.lookIn name od).map (·.isSome) = some false; rw [hl, hv]; rfl) h
theorem set_map {ns : List Str} {Q : Unit → Shared → Prop} (X : K.In s.heap) (I : ObjM s.heap x dx C mA)
    (hs : PySem.W.findIn K (.ref C) "__setattr__" = some (some (.builtin "object.__setattr__"))) (hp : PySem.W.plainOver K C = true) (ht : PySem.W.takerIn K C name = some none) (hh : PySem.W.hasDictIn K C = true)
    (hw : PySem.Within mA ns) (hsz : ns.length ≤ sizeLine)
    (h : ∀ h', ObjM h' x dx C (fun y => if y = name then some v else mA y) → Heap.SameBut dx s.heap h' → Q () { s with heap := h', toks := s.toks + 2 }) :
    wpAny (model prog w) A (setAttr (.ref x) name v) Q E s := by
  obtain ⟨od, J, hl⟩ := I.look
  refine PySem.W.set_plain X J hs (PySem.W.osa_open (s := { s with toks := s.toks + 1 }) (r := none) X J hp ht fun b => ?_)
  obtain ⟨cd, hc, hd'⟩ := PySem.W.any_some hh
  have hx : s.heap.get? x = some ⟨.ref C, some dx, .plain, #[]⟩ := I.obj
  refine wpAny_bind (wpAny_pure (wpAny_bind (wpAny_bind (wpAny_loadPart hx (wpAny_bind (PySem.W.Looks.here (s := { s with toks := s.toks + 1 }) (PySem.W.looks_clsIn X hc) ?_))))))
  rw [hd']
  refine wpAny_pure (a := some dx) (wpAny_bind (wpAny_pure (wpAny_bind ?_)))
  refine wpAny_nsSet1 (s := { s with toks := s.toks + 1 }) I.ns fun h' hn2 hs2 => ?_
  obtain ⟨oD, esD, epD, hoD, hdD, hcD⟩ := hn2.count (PySem.Within.cons name v hw)
  refine wpAny_bind (wpAny_lookBehind hoD (by rw [hdD]; exact pastItsLine_dict (Nat.le_trans hcD (by rw [List.length_cons]; omega))) ?_)
  exact wpAny_pure (h _ ⟨(hs2.2 _ (Ne.symm I.ne)).trans I.obj, hn2, I.ne⟩ hs2)
theorem make_map {R : Result → Shared → Prop} {vs : List Value} {kw : List (Str × Value)} (X : K.In s.heap) (hm : PySem.W.makesIn K C = true)
    (hi : PySem.W.findIn K (.ref C) "__init__" = some (some (.ref f))) (hf : PySem.W.typeIn K (.ref f) = some (.type "function"))
    (h : codeAny (model prog w) (A.under (.builtin "type.__call__" ⟨.ref C :: vs, kw⟩)) (.call (.ref f) ⟨.ref (s.heap.objs.size + 1) :: vs, kw⟩) (PySem.W.InitBack (s.heap.objs.size + 1) R)
      { s with heap := (s.heap.push PySem.W.emptyDict).push (PySem.W.instObj C s.heap.objs.size) }) :
    codeAny (model prog w) A (.call (.ref C) ⟨vs, kw⟩) R s := by
  obtain ⟨hh, g, d, t, os⟩ := s
  exact PySem.W.make_core (PySem.W.makes_of X hm) (PySem.W.looks_findIn X hi) (fun self => PySem.W.bind_fn X self hf) (.inl rfl) h
end
def putF (f : Str) (v : V) : List (Str × V) → List (Str × V)
  | [] => [(f, v)]
  | (g, x) :: r => if g = f then (g, v) :: r else (g, x) :: putF f v r
theorem lookup_putF (f g : Str) (v : V) : ∀ fs : List (Str × V), (putF f v fs).lookup g = if g = f then some v else fs.lookup g
  | [] => by
    show List.lookup g [(f, v)] = _
    by_cases h : g = f
    · have hb : (g == f) = true := beq_iff_eq.mpr h
      simp only [List.lookup, hb, if_pos h]
    · have hb : (g == f) = false := beq_eq_false_iff_ne.mpr h
      simp only [List.lookup, hb, if_neg h]
  | (k, x) :: r => by
    have ih := lookup_putF f g v r
    rw [show putF f v ((k, x) :: r) = (if k = f then (k, v) :: r else (k, x) :: putF f v r) from rfl]
    by_cases hk : k = f
    · rw [if_pos hk]
      by_cases h : g = k
      · have hb : (g == k) = true := beq_iff_eq.mpr h
        simp only [List.lookup, hb, if_pos (h.trans hk)]
      · have hb : (g == k) = false := beq_eq_false_iff_ne.mpr h
        simp only [List.lookup, hb, if_neg (fun e : g = f => h (e.trans hk.symm))]
    · rw [if_neg hk]
      by_cases h : g = k
      · have hb : (g == k) = true := beq_iff_eq.mpr h
        simp only [List.lookup, hb, if_neg (fun e : g = f => hk (h.symm.trans e))]
      · have hb : (g == k) = false := beq_eq_false_iff_ne.mpr h
        simp only [List.lookup, hb]
        exact ih
theorem keys_putF (f : Str) (v : V) : ∀ fs : List (Str × V), f ∈ (putF f v fs).map (·.1) ∧ ∀ g, g ∈ fs.map (·.1) → g ∈ (putF f v fs).map (·.1)
  | [] => ⟨by simp [putF], fun g h => by simp at h⟩
  | (k, x) :: r => by
    obtain ⟨i1, i2⟩ := keys_putF f v r
    rw [show putF f v ((k, x) :: r) = (if k = f then (k, v) :: r else (k, x) :: putF f v r) from rfl]
    by_cases hk : k = f
    · rw [if_pos hk]
      subst hk
      exact ⟨by simp, fun g h => by simpa using h⟩
    · rw [if_neg hk]
      refine ⟨?_, fun g h => ?_⟩
      · rw [List.map_cons]
        exact List.mem_cons_of_mem _ i1
      · rw [List.map_cons] at h ⊢
        rcases List.mem_cons.mp h with e | e
        · exact List.mem_cons.mpr (.inl e)
        · exact List.mem_cons_of_mem _ (i2 g e)
theorem length_putF (f : Str) (v : V) : ∀ fs : List (Str × V), (putF f v fs).length ≤ fs.length + 1
  | [] => by simp [putF]
  | (k, x) :: r => by
    have ih := length_putF f v r
    rw [show putF f v ((k, x) :: r) = (if k = f then (k, v) :: r else (k, x) :: putF f v r) from rfl]
    by_cases hk : k = f
    · rw [if_pos hk, List.length_cons, List.length_cons]; omega
    · rw [if_neg hk, List.length_cons, List.length_cons]; omega
theorem RelO.some_of {v : V} {o : Option Value} (r : RelO (some v) o) : ∃ u, o = some u ∧ RelV v u := by
  cases o with
  | none => exact (show False from r).elim
  | some u => exact ⟨u, rfl, r⟩
theorem RelO.none_of {o : Option Value} (r : RelO none o) : o = none := by
  cases o with
  | none => rfl
  | some u => exact (show False from r).elim
theorem handed_of {v : V} {u : Value} (r : RelV v u) : PySem.W.handedIn u = true := by
  cases v with
  | non => cases (show u = Value.none from r); rfl
  | bl b => cases (show u = Value.bool b from r); rfl
  | int i => obtain ⟨t, e⟩ := (show ∃ t, u = Value.int i t from r); cases e; rfl
  | str x => obtain ⟨t, e⟩ := (show ∃ t, u = Value.str x t from r); cases e; rfl
  | byt b => obtain ⟨t, e⟩ := (show ∃ t, u = Value.bytes b t from r); cases e; rfl
  | flt b => obtain ⟨t, e⟩ := (show ∃ t, u = Value.float b t from r); cases e; rfl
  | ref a => cases (show u = Value.ref a from r); rfl
  | ty n => cases (show u = Value.type n from r); rfl
section
variable {P : Program} {w : World} {H H' : Hp} {h h' : Heap} {a C dx : Addr} {fs fs' : List (Str × V)}
theorem ins_get (hok : HOk P w H h) (e : H a = some (.ins C dx fs)) : ∃ mA, ObjM h a dx C mA ∧ (∀ f, RelO (fs.lookup f) (mA f)) ∧ PySem.Within mA (fs.map (·.1)) ∧ fs.length ≤ 1000 ∧ H dx = some (.own a) := by
  obtain ⟨d, z, ne, ob, mA, n, r, q⟩ := (show ObjOk P w H h a (.ins C dx fs) from hok a _ e)
  exact ⟨mA, ⟨ob, n, ne⟩, r, q, z, d⟩
end
structure Cls (K : PySem.W.Frag) (C : Addr) : Prop where
  pg : PySem.W.plainGet K C Str.empty = true
  hd : PySem.W.hasDictIn K C = true
  po : PySem.W.plainOver K C = true
  sa : PySem.W.findIn K (.ref C) "__setattr__" = some (some (.builtin "object.__setattr__"))
theorem Cls.get {K : PySem.W.Frag} {C : Addr} (c : Cls K C) (f : Str) : PySem.W.plainGet K C f = true := c.pg
def NoAttr (K : PySem.W.Frag) (C : Addr) (f : Str) : Prop := PySem.W.findIn K (.ref C) f = some none
theorem NoAttr.taker {K : PySem.W.Frag} {C : Addr} {f : Str} (n : NoAttr K C f) : PySem.W.takerIn K C f = some none := by
  unfold PySem.W.takerIn
  rw [show PySem.W.findIn K (.ref C) f = some none from n]
  rfl
structure Meth (K : PySem.W.Frag) (C : Addr) (m : Str) (f : Addr) : Prop where
  at_ : PySem.W.findIn K (.ref C) m = some (some (.ref f))
  fn : PySem.W.isFn K (.ref f) = true
  kp : PySem.W.keepIn K (.ref f) = true
section
variable {X : Cx} {pins : List (Addr × Obj)} {σ : St} {H : Hp} {s : Shared} {a C dx : Addr} {fs : List (Str × V)} {f : Str} {v : V} {A : Around} {E : Value → Shared → Prop}
theorem getattr_ok {b : Bool} {Q : Value → Shared → Prop} (I : Inv X pins σ H s) (e : H a = some (.ins C dx fs)) (c : Cls X.K C) (n : NoAttr X.K C f) (l : fs.lookup f = some v)
    (h : ∀ u s', Inv X pins σ H s' → RelV v u → Q u s') : wpAny (model X.prog X.w) A (getAttr (.ref a) f b) Q E s := by
  obtain ⟨mA, O, r, _, _, _⟩ := ins_get I.hok e
  obtain ⟨u, hu, ru⟩ := RelO.some_of (v := v) (o := mA f) (by rw [← l]; exact r f)
  exact get_map I.kIn O (c.get f) c.hd n hu (handed_of ru) (h u _ (I.tok _) ru)
theorem getmeth_ok {m : Str} {g : Addr} {pl : Sem Bool} {Q : Value × List Value → Shared → Prop} (I : Inv X pins σ H s) (e : H a = some (.ins C dx fs)) (c : Cls X.K C) (k : Meth X.K C m g) (l : fs.lookup m = none)
    (h : Q (.ref g, [.ref a]) s) : wpAny (model X.prog X.w) A (getMethod (.ref a) m pl) Q E s := by
  obtain ⟨mA, O, r, _, _, _⟩ := ins_get I.hok e
  have hn : mA m = none := RelO.none_of (by rw [← l]; exact r m)
  exact get_meth I.kIn O (c.get m) k.at_ k.fn hn h
theorem setattr_ok {y : V} {u : Value} {Q : Unit → Shared → Prop} (I : Inv X pins σ H s) (e : H a = some (.ins C dx fs)) (c : Cls X.K C) (n : NoAttr X.K C f) (hl : fs.length < 1000) (ry : RelV y u)
    (h : ∀ s', Inv X pins σ (upd H a (.ins C dx (putF f y fs))) s' → Q () s') : wpAny (model X.prog X.w) A (setAttr (.ref a) f u) Q E s := by
  obtain ⟨mA, O, r, wi, _, ho⟩ := ins_get I.hok e
  have hz : (fs.map (·.1)).length ≤ sizeLine := by rw [List.length_map, sizeLine_eq]; omega
  refine set_map I.kIn O c.sa c.po n.taker c.hd wi hz fun h' O' sb => h _ ?_
  have hd : ∃ o, h'.get? dx = some o := let ⟨o, _, _, e', _⟩ := O'.ns; ⟨o, e'⟩
  refine I.write (x := a) (e := dx) (by rw [e]; exact True.intro) (.inr ho) (fun b q hb z => (sb.2 b hb).trans z) hd ?_
  refine ⟨by rw [upd_ne O.ne]; exact ho, ?_, O.ne, O'.obj, _, O'.ns, fun g => ?_, fun g hg => ?_⟩
  · have := length_putF f y fs; omega
  · show RelO ((putF f y fs).lookup g) (if g = f then some u else mA g)
    rw [lookup_putF]
    by_cases q : g = f
    · rw [if_pos q, if_pos q]; exact ry
    · rw [if_neg q, if_neg q]; exact r g
  · by_cases q : g = f
    · rw [q]; exact (keys_putF f y fs).1
    · refine (keys_putF f y fs).2 g (wi g fun z => hg ?_)
      show (if g = f then some u else mA g) = none
      rw [if_neg q]; exact z
theorem Inv.made (I : Inv X pins σ H s) : Inv X pins σ (upd (upd H s.heap.objs.size (.own (s.heap.objs.size + 1))) (s.heap.objs.size + 1) (.ins C s.heap.objs.size []))
    { s with heap := (s.heap.push PySem.W.emptyDict).push (PySem.W.instObj C s.heap.objs.size) } := by
  have e1 : (s.heap.push PySem.W.emptyDict).get? s.heap.objs.size = some PySem.W.emptyDict := Heap.get?_push_size s.heap rfl
  have e2 : ((s.heap.push PySem.W.emptyDict).push (PySem.W.instObj C s.heap.objs.size)).get? (s.heap.objs.size + 1) = some (PySem.W.instObj C s.heap.objs.size) := by
    have := Heap.get?_push_size (s.heap.push PySem.W.emptyDict) (o := PySem.W.instObj C s.heap.objs.size) rfl
    rwa [Heap.size_push] at this
  have e3 : (s.heap.push PySem.W.emptyDict).Ns s.heap.objs.size (fun _ => none) := ⟨PySem.W.emptyDict, #[], _, e1, rfl, (fun e he => absurd he (by simp)), fun _ => rfl⟩
  have I1 := I.laid (a := s.heap.objs.size) (o := .own (s.heap.objs.size + 1)) (h' := s.heap.push PySem.W.emptyDict) (t' := s.toks) (fun b u q => Heap.get?_push_of_some _ q) (Nat.le_refl _) ⟨_, e1⟩
  refine I1.laid (a := s.heap.objs.size + 1) (o := .ins C s.heap.objs.size []) (t' := s.toks) (fun b u q => Heap.get?_push_of_some _ q) (Nat.le_of_eq (Heap.size_push _ _)) ?_
  have ne : s.heap.objs.size ≠ s.heap.objs.size + 1 := Nat.ne_of_lt (Nat.lt_succ_self _)
  refine ⟨by rw [upd_ne ne, upd_same], Nat.zero_le _, ne, e2, fun _ => none, (Heap.Ns1.of_empty e3).at fun o q => Heap.get?_push_of_some _ q, fun _ => True.intro, fun y hy => absurd rfl hy⟩
theorem attr_of {prog : Program} {w : World} {env : Env} {e : Expr} {f : Str} {pos : Pos} {s : Shared} {Q : Value → Shared → Prop} (hb : attributeBase e f env (eval e env) = eval e env)
    (h : wpAny (model prog w) A (eval e env) (fun o s₁ => wpAny (model prog w) A (getAttr o f true) Q E s₁) E s) : wpAny (model prog w) A (eval (.Attribute e f pos) env) Q E s :=
  Attribute_any_ h (by rw [arm_eval_Attribute, hb])
end
def tFld (K : PySem.W.Frag) (ta : TE) (f : Str) : TE := fun σ H Q => ta σ H fun x H1 => ∃ a C dx fs v, x = .ref a ∧ H1 a = some (.ins C dx fs) ∧ Cls K C ∧ NoAttr K C f ∧ fs.lookup f = some v ∧ Q v H1
def sFld (K : PySem.W.Frag) (ta tv : TE) (f : Str) : TS := fun D σ H => tv σ H fun y H1 => ta σ H1 fun x H2 => ∃ a C dx fs, x = .ref a ∧ H2 a = some (.ins C dx fs) ∧ Cls K C ∧ NoAttr K C f ∧ fs.length < 1000 ∧
  D.nx σ (upd H2 a (.ins C dx (putF f y fs)))
def InOp (X : Cx) (op : Operator) (rd : V → V → Hp → VK → Prop) : Prop :=
  ∀ (pins : List (Addr × Obj)) (s : Shared) (σ : St) (H : Hp) (x y : V) (u v : Value) (Q : VK), Inv X pins σ H s → RelV x u → RelV y v → rd x y H Q → wpAny (model X.prog X.w) X.A (inplaceOp op u v) (EP X pins σ Q) X.xe s
section
variable {X : Cx} {o e value : Expr} {f : Str} {pos pos' tpos : Pos} {ta tv : TE}
theorem pe_fld (he : PE X e ta) (hb : attributeBase e f X.env (eval e X.env) = eval e X.env) : PE X (.Attribute e f pos) (tFld X.K ta f) := by
  intro pins s σ H Q I h
  refine attr_of hb (thn (he pins s σ H _ I h) fun u s1 ⟨x, H1, I1, rx, a, C, dx, fs, v, ex, ea, c, n, l, q⟩ => ?_)
  subst ex
  obtain rfl : u = Value.ref a := rx
  exact getattr_ok I1 ea c n l fun u' s2 I2 ru => ⟨v, H1, I2, ru, q⟩
theorem ps_fld (ha : PE X o ta) (hv : PE X value tv) (hs : swapsWith value (some (.Attribute o f pos')) pos.line X.env = pure false) : PS X (.Assign [.Attribute o f pos'] value pos) (sFld X.K ta tv f) := by
  intro pins s σ H D I h
  refine plainObj_wpAny_Assign_Attribute (thn (hv pins s σ H _ I h) fun u s1 ⟨y, H1, I1, ry, q⟩ => thn (ha pins s1 σ H1 _ I1 q) fun ov s2 ⟨x, H2, I2, rx, a, C, dx, fs, ex, ea, c, n, l, q2⟩ => ?_) hs
  subst ex
  obtain rfl : ov = Value.ref a := rx
  exact setattr_ok I2 ea c n l ry fun s3 I3 => ⟨σ, _, I3, q2⟩
def rAdd : V → V → Hp → VK → Prop := fun x y H Q => ∃ i j, x = .int i ∧ y = .int j ∧ Q (.int (i + j)) H
theorem in_add : InOp X .Add rAdd := by
  rintro pins s σ H x y u v Q I rx ry ⟨i, j, rfl, rfl, q⟩
  obtain ⟨t, rfl⟩ := (show ∃ t, u = Value.int i t from rx)
  obtain ⟨t', rfl⟩ := (show ∃ t', v = Value.int j t' from ry)
  exact PyProof.Rows.iadd_int ⟨.int (i + j), H, I.tok _, ⟨_, rfl⟩, q⟩
end
section
variable {X : Cx} {pins : List (Addr × Obj)} {σ : St} {H : Hp} {s : Shared} {A : Around} {E : Value → Shared → Prop} {Q : Value → Shared → Prop} {c : Value} {b : Bool}
inductive TyOf (K : PySem.W.Frag) (H : Hp) : V → Value → Prop where
  | non : TyOf K H .non (.type "NoneType")
  | bl (x : Bool) : TyOf K H (.bl x) (.type "bool")
  | int (i : Int) : TyOf K H (.int i) (.type "int")
  | str (x : Str) : TyOf K H (.str x) (.type "str")
  | flt (x : UInt64) : TyOf K H (.flt x) (.type "float")
  | lst {a : Addr} {xs : List V} (e : H a = some (.lst xs)) : TyOf K H (.ref a) (.type "list")
  | frz {a : Addr} {o : Obj} {xs : List V} (e : H a = some (.frz o (.lst xs))) : TyOf K H (.ref a) (.type "list")
  | tup {a : Addr} {xs : List V} (e : H a = some (.tup xs)) : TyOf K H (.ref a) (.type "tuple")
  | dK {a : Addr} {kvs : List (Key × V)} (e : H a = some (.dK kvs)) : TyOf K H (.ref a) (.type "dict")
  | dT {a : Addr} {kvs : List (List Key × V)} (e : H a = some (.dT kvs)) : TyOf K H (.ref a) (.type "dict")
  | ins {a C dx : Addr} {fs : List (Str × V)} (e : H a = some (.ins C dx fs)) (cl : Cls K C) (ha : PySem.W.findIn K (.ref C) "__class__" = some (some (.builtin "object.__class__")))
      (hn : PySem.W.specialIn K (.builtin "object.__class__") "__get__" = some (some (.builtin "getset_descriptor.__get__"))) (htk : PySem.W.takesIn K (.builtin "object.__class__") = some true)
      (hm : PySem.W.mroIn K C (.type "object") = some true) : TyOf K H (.ref a) (.ref C)
theorem isinst_ok {x : V} {u t : Value} (I : Inv X pins σ H s) (rx : RelV x u) (ty : TyOf X.K H x t) (e : PySem.W.kitOne X.K t c = some b) (h : ∀ tk, Q (.bool b) { s with toks := tk }) :
    wpAny (model X.prog X.w) A (call (.builtin "isinstance") [u, c]) Q E s := by
  cases ty with
  | non => cases (show u = Value.none from rx); exact PySem.W.kia_one PySem.W.kitx_none I.kIn True.intro e (fun z => nomatch z) h
  | bl y => cases (show u = Value.bool y from rx); exact PySem.W.kia_one PySem.W.kitx_bool I.kIn True.intro e (fun z => nomatch z) h
  | int i => obtain ⟨t, q⟩ := (show ∃ t, u = Value.int i t from rx); cases q; exact PySem.W.kia_one PySem.W.kitx_int I.kIn True.intro e (fun z => nomatch z) h
  | str y => obtain ⟨t, q⟩ := (show ∃ t, u = Value.str y t from rx); cases q; exact PySem.W.kia_one PySem.W.kitx_str I.kIn True.intro e (fun z => nomatch z) h
  | flt y => obtain ⟨t, q⟩ := (show ∃ t, u = Value.float y t from rx); cases q; exact PySem.W.kia_one PySem.W.kitx_float I.kIn True.intro e (fun z => nomatch z) h
  | @lst a xs ea =>
    cases (show u = Value.ref a from rx)
    obtain ⟨_, _, n, _, h1⟩ := (show ObjOk X.prog X.w H s.heap a (.lst xs) from I.hok a _ ea)
    exact PySem.W.kia_one PySem.W.kitx_list I.kIn ⟨_, h1, rfl⟩ e (fun z => nomatch z) h
  | @frz a ob xs ea =>
    cases (show u = Value.ref a from rx)
    obtain ⟨_, _, _, n, _, h1⟩ := (show ObjOk X.prog X.w H s.heap a (.frz ob (.lst xs)) from I.hok a _ ea)
    exact PySem.W.kia_one PySem.W.kitx_list I.kIn ⟨_, h1, rfl⟩ e (fun z => nomatch z) h
  | @tup a xs ea =>
    cases (show u = Value.ref a from rx)
    obtain ⟨_, _, _, p⟩ := (show ObjOk X.prog X.w H s.heap a (.tup xs) from I.hok a _ ea)
    obtain ⟨o, h1, h2, _⟩ := p
    exact PySem.W.kia_one PySem.W.kitx_tuple I.kIn ⟨o, h1, h2⟩ e (fun z => nomatch z) h
  | @dK a kvs ea =>
    cases (show u = Value.ref a from rx)
    obtain ⟨_, _, vs, _, p⟩ := (show ObjOk X.prog X.w H s.heap a (.dK kvs) from I.hok a _ ea)
    obtain ⟨o, es, ep, h1, h2, _⟩ := p
    exact PySem.W.kia_one PySem.W.kitx_dict I.kIn ⟨o, h1, h2.1⟩ e (fun z => nomatch z) h
  | @dT a kvs ea =>
    cases (show u = Value.ref a from rx)
    obtain ⟨_, _, xs, _, o, es, ep, h1, h2, _⟩ := (show ObjOk X.prog X.w H s.heap a (.dT kvs) from I.hok a _ ea)
    exact PySem.W.kia_one PySem.W.kitx_dict I.kIn ⟨o, h1, h2.1⟩ e (fun z => nomatch z) h
  | @ins a C dx fs ea cl ha hn htk hm =>
    cases (show u = Value.ref a from rx)
    obtain ⟨mA, O, _⟩ := ins_get I.hok ea
    obtain ⟨od, J, _⟩ := O.look
    exact PySem.W.kia_one (PySem.W.kitx_own (cl.get _) cl.hd ha hn htk hm) I.kIn J e (fun z => nomatch z) h
end
end L2
namespace L2
open PySem PySem.Spec PyProof.Rows
structure Room (k : Nat) (A : Around) : Prop where
  hd : A.handled = none
  dp : A.depth + 3 * k + 5 < recursionLimit
  un : A.units + 16 * k + 200 < cLine
theorem Room.mono {j k : Nat} {A : Around} (r : Room k A) (h : j ≤ k) : Room j A := ⟨r.hd, by have := r.dp; omega, by have := r.un; omega⟩
theorem Room.deeper {k : Nat} {A : Around} (r : Room (k + 1) A) (env : Env) : Room k (A.deeper env) :=
  ⟨r.hd, by have := r.dp; show A.depth + 1 + 3 * k + 5 < _; omega, by have := r.un; show A.units + 3 + 16 * k + 200 < _; omega⟩
theorem make_depth {A : Around} {C : Addr} {us : List Value} {kw : List (Str × Value)} : (A.under (.builtin "type.__call__" ⟨.ref C :: us, kw⟩)).depth = A.depth + 1 := by
  first | rfl | simp [Around.under, Code.weight, Code.isCreation, Code.isGuard, Code.isCaller, Code.frames, Code.isFrame, guardIds]
theorem make_units {A : Around} {C : Addr} {us : List Value} {kw : List (Str × Value)} : (A.under (.builtin "type.__call__" ⟨.ref C :: us, kw⟩)).units = A.units + 1 := by
  first | rfl | simp [Around.under, Code.cUnits, Code.frames, Code.isFrame]
theorem Room.make {k : Nat} {A : Around} (r : Room (k + 1) A) (C : Addr) (us : List Value) (kw : List (Str × Value)) : Room k (A.under (.builtin "type.__call__" ⟨.ref C :: us, kw⟩)) :=
  ⟨r.hd, by have := r.dp; rw [make_depth]; omega, by have := r.un; rw [make_units]; omega⟩
theorem Room.depth {k : Nat} {A : Around} (r : Room k A) : A.depth < recursionLimit := by have := r.dp; omega
theorem Room.units0 {k : Nat} {A : Around} (r : Room k A) : A.units < cLine := by have := r.un; omega
def tNil : TA := fun _ H Q => Q [] H
def tCons (ta : TE) (tr : TA) : TA := fun σ H Q => ta σ H fun x H1 => tr σ H1 fun xs H2 => Q (x :: xs) H2
section
variable {X : Cx} {e : Expr} {es : List Expr} {te : TE} {t : TA} {pos : Pos}
theorem pa_nil : PA X [] tNil := fun _ _ _ _ H Q I h => Calls.spliced_nil ⟨[], H, I, .nil, h⟩
theorem pa_cons (ha : PE X e te) (hr : PA X es t) (hs : starEach (e :: es) X.env = (false, eval e X.env) :: starEach es X.env := by rfl) : PA X (e :: es) (tCons te t) := by
  intro pos pins s σ H Q I h
  rw [hs]
  show wpAny _ _ (spliced ((false, eval e X.env) :: backTo pos (starEach es X.env))) _ _ s
  refine Calls.spliced_cons (thn (ha pins s σ H _ I h) fun u s1 ⟨x, H1, I1, r1, q1⟩ => ?_)
  exact thn (hr pos pins s1 σ H1 _ I1 q1) fun us s2 ⟨xs, H2, I2, r2, q2⟩ => ⟨x :: xs, H2, I2, .cons r1 r2, q2⟩
def tTup (t : TA) : TE := fun σ H Q => t σ H fun xs H1 => xs.length ≤ sizeLine ∧ ∀ p, H1 p = none → Q (.ref p) (upd H1 p (.tup xs))
def tLst (t : TA) : TE := fun σ H Q => t σ H fun xs H1 => xs.length ≤ sizeLine ∧ ∀ p, H1 p = none → Q (.ref p) (upd H1 p (.lst xs))
theorem pe_tup {x1} (h : PA X es t) : PE X (.Tuple es x1 pos) (tTup t) := by
  intro pins s σ H Q I hq
  refine wpAny_Tuple_spliced (thn (h pos pins s σ H _ I hq) fun us s1 ⟨xs, H1, I1, r, z, q⟩ => ⟨by rw [← r.length]; exact z, ?_⟩)
  have hf : H1 s1.heap.objs.size = none := I1.hok.fresh (Nat.le_refl _)
  refine ⟨.ref s1.heap.objs.size, upd H1 s1.heap.objs.size (.tup xs), I1.laid (t' := s1.toks) (fun b u e => Heap.get?_push_of_some _ e) (Nat.le_refl _) ?_, rfl, q _ hf⟩
  exact ⟨z, us, r, ⟨_, Heap.get?_push_size _ rfl, rfl, _, rfl⟩⟩
theorem pe_lst (h : PA X es t) : PE X (.List es pos) (tLst t) := by
  intro pins s σ H Q I hq
  refine wpAny_List_spliced (thn (h pos pins s σ H _ I hq) fun us s1 ⟨xs, H1, I1, r, z, q⟩ => ⟨by rw [← r.length]; exact z, ?_⟩)
  have hf : H1 s1.heap.objs.size = none := I1.hok.fresh (Nat.le_refl _)
  refine ⟨.ref s1.heap.objs.size, upd H1 s1.heap.objs.size (.lst xs), I1.laid (t' := s1.toks) (fun b u e => Heap.get?_push_of_some _ e) (Nat.le_refl _) ?_, rfl, q _ hf⟩
  exact ⟨z, us, 0, r, Heap.get?_push_size _ rfl⟩
end
abbrev Sp := List V → Hp → VK → XK → Prop
abbrev CXT := List Env → Hp → Shared → XK → Value → Shared → Prop
structure Env0 (P : Program) (w : World) (K : PySem.W.Frag) (mg : Str → Option Value) (base : Heap) (A : Around) (outer : List Env) (s : Shared) (H : Hp) : Prop where
  frames : A.frames = some outer
  mod : Mod K mg base
  bs : ∀ b o, base.get? b = some o → s.heap.get? b = some o ∧ H b = none
  bsz : base.objs.size ≤ s.heap.objs.size
  funs : s.heap.FunFrames base outer
  frf : ∀ b ∈ frs outer, H b = none
  hok : HOk P w H s.heap
  bare : AllBare s.gens
def CE (outer : List Env) (P : Program) (w : World) (H : Hp) (s : Shared) (Q : VK) (u : Value) (s' : Shared) : Prop :=
  ∃ v H', s'.os = s.os ∧ AllBare s'.gens ∧ Un (frs outer) [] H H' s.heap s'.heap ∧ HOk P w H' s'.heap ∧ RelV v u ∧ Q v H'
def CR (CX : CXT) (outer : List Env) (P : Program) (w : World) (H : Hp) (s : Shared) (Q : VK) (E : XK) (r : Result) (s' : Shared) : Prop :=
  match r with
  | .ok (.ret u) => CE outer P w H s Q u s'
  | .ok _ => False
  | .error e => CX outer H s E e s'
structure FnOk (P : Program) (w : World) (K : PySem.W.Frag) (mg : Str → Option Value) (base : Heap) (CX : CXT) (k : Nat) (f : Addr) (fd : FuncData) (ps : List Str) (sp : Sp) : Prop where
  len : ∀ vs H Q E, sp vs H Q E → vs.length = ps.length
  run : ∀ (A : Around) (outer : List Env) (s : Shared) (H : Hp) (args : Args) (us : List Value) (vs : List V) (Q : VK) (E : XK), Room k A → Env0 P w K mg base A outer s H → BindsTo s fd args (ps.zip us) → Vals vs us → sp vs H Q E →
    codeAny (model P w) A (.call (.ref f) args) (CR CX outer P w H s Q E) s
theorem FnOk.mono {P : Program} {w : World} {K : PySem.W.Frag} {mg : Str → Option Value} {base : Heap} {CX : CXT} {j k : Nat} {f : Addr} {fd : FuncData} {ps : List Str} {sp : Sp} (F : FnOk P w K mg base CX j f fd ps sp) (h : j ≤ k) :
    FnOk P w K mg base CX k f fd ps sp := ⟨F.len, fun A outer s H args us vs Q E hr => F.run A outer s H args us vs Q E (hr.mono h)⟩
theorem Env0.make {P : Program} {w : World} {K : PySem.W.Frag} {mg : Str → Option Value} {base : Heap} {A : Around} {outer : List Env} {s : Shared} {H : Hp} (e : Env0 P w K mg base A outer s H) (C : Addr) (us : List Value) (kw : List (Str × Value)) :
    Env0 P w K mg base (A.under (.builtin "type.__call__" ⟨.ref C :: us, kw⟩)) outer s H := ⟨by first | exact e.frames | (simpa [Around.under, Code.envs, Code.isFrame, pushEnvs] using e.frames), e.mod, e.bs, e.bsz, e.funs, e.frf, e.hok, e.bare⟩
section
variable {X : Cx} {pins : List (Addr × Obj)} {σ : St} {H : Hp} {s s' : Shared}
theorem Inv.env0 (I : Inv X pins σ H s) : Env0 X.prog X.w X.K X.mg X.base X.A X.stack s H :=
  ⟨I.ok.frames, I.ok.mod, I.bs, Nat.le_trans I.ok.bsz I.sz, I.stack, I.stkFree, I.hok, I.bare⟩
theorem Inv.after {Q : VK} {u : Value} (I : Inv X pins σ H s) (h : CE X.stack X.prog X.w H s Q u s') : EP X pins σ Q u s' := by
  obtain ⟨v, H', os, bare, un, hok, r, q⟩ := h
  obtain ⟨hh, g, d, t, os'⟩ := s'
  obtain rfl : os' = s.os := os
  exact ⟨v, H', I.call (h' := hh) (g' := g) (d' := d) (t' := t) (ch := []) un hok bare (fun b z => absurd z (by simp)), r, q⟩
end
def tCall (sp : Sp) (dvs : List V) (E : XK) (t : TA) : TE := fun σ H Q => t σ H fun vs H1 => sp (vs ++ dvs) H1 Q E
def tMake (C : Addr) (sp : Sp) (dvs : List V) (E : XK) (t : TA) : TE := fun σ H Q => t σ H fun vs H1 => ∀ x dx, H1 x = none → H1 dx = none → dx ≠ x →
  sp (.ref x :: (vs ++ dvs)) (upd (upd H1 dx (.own x)) x (.ins C dx [])) (fun v H2 => v = .non ∧ Q (.ref x) H2) E
def Binds (K : PySem.W.Frag) (fd : FuncData) (ps : List Str) (ds : List Value) : Prop :=
  ∀ (s : Shared) (us : List Value), K.In s.heap → (us ++ ds).length = ps.length → BindsTo s fd ⟨us, []⟩ (ps.zip (us ++ ds))
theorem Binds.all {K : PySem.W.Frag} {fd : FuncData} {ps : List Str} (h : ∀ us : List Value, us.length = ps.length → bindArgs fd ⟨us, []⟩ = pure (ps.zip us)) : Binds K fd ps [] := fun s us _ hl => by
  rw [List.append_nil] at hl ⊢
  exact .of_eq (h us hl)
def Passes (CX : CXT) (X : Cx) (E : XK) : Prop := ∀ (pins : List (Addr × Obj)) (σ : St) (H : Hp) (s : Shared) (e : Value) (s' : Shared), Inv X pins σ H s → CX X.stack H s E e s' → X.xe e s'
section
variable {X : Cx} {CX : CXT} {k : Nat} {f C : Addr} {fd : FuncData} {ps : List Str} {sp : Sp} {dvs : List V} {ds : List Value} {E : XK} {x m : Str} {p pos apos : Pos} {e o : Expr} {es : List Expr} {ta : TE} {t : TA}
theorem run_fn {pins : List (Addr × Obj)} {σ : St} {H : Hp} {s : Shared} {Q : VK} {us : List Value} {vs : List V} (F : FnOk X.prog X.w X.K X.mg X.base CX k f fd ps sp) (hr : Room k X.A) (hb : Binds X.K fd ps ds) (hd : Vals dvs ds) (hx : Passes CX X E)
    (I : Inv X pins σ H s) (r : Vals vs us) (h : sp (vs ++ dvs) H Q E) : wpAny (model X.prog X.w) X.A (call (.ref f) us) (EP X pins σ Q) X.xe s := by
  have r2 : Vals (vs ++ dvs) (us ++ ds) := r.append hd
  have hl : (us ++ ds).length = ps.length := by rw [← r2.length]; exact F.len _ _ _ _ h
  refine wpAny_call (codeAny_mono (F.run X.A X.stack s H ⟨us, []⟩ (us ++ ds) (vs ++ dvs) Q E hr I.env0 (hb s us I.kIn hl) r2 h) fun r s' hq => ?_)
  cases r with
  | error e => exact hx pins σ H s e s' I hq
  | ok fl =>
    cases fl with
    | ret u => exact I.after hq
    | next => exact False.elim hq
    | brk => exact False.elim hq
    | cont => exact False.elim hq
theorem pe_call (F : FnOk X.prog X.w X.K X.mg X.base CX k f fd ps sp) (hr : Room k X.A) (hg : Gl X x) (hm : X.mg x = some (.ref f)) (hk : PySem.W.keepIn X.K (.ref f) = true) (hb : Binds X.K fd ps ds) (hd : Vals dvs ds) (hx : Passes CX X E)
    (ha : PA X (e :: es) t) (hdb : (x == ("__debug__" : Str)) = false := by decide) (he : starEach (e :: es) X.env = (false, eval e X.env) :: starEach es X.env := by rfl) (hpl : (backTo pos (starEach es X.env)).any (·.1) = false := by rfl) :
    PE X (.Call (.Name x p) (e :: es) [] pos) (tCall sp dvs E t) := by
  intro pins s σ H Q I h
  refine wpAny_Call_Name_kw (ld_glob I hg hm ?_ hdb)
  refine PySem.W.callWith_K (h₀ := X.base) I.ok.mod.kin hk (thn (ha pos pins s σ H _ I h) fun us s1 ⟨vs, H1, I1, r, q⟩ => ⟨I1.kIn, ?_⟩) he hpl
  exact run_fn F hr hb hd hx I1 r q
structure Mk (K : PySem.W.Frag) (C f : Addr) : Prop where
  makes : PySem.W.makesIn K C = true
  init : PySem.W.findIn K (.ref C) "__init__" = some (some (.ref f))
  fn : PySem.W.isFn K (.ref f) = true
  kp : PySem.W.keepIn K (.ref C) = true
theorem run_make {pins : List (Addr × Obj)} {σ : St} {H : Hp} {s : Shared} {Q : VK} {us : List Value} {vs : List V} (M : Mk X.K C f) (F : FnOk X.prog X.w X.K X.mg X.base CX k f fd ps sp) (hr : Room (k + 1) X.A) (hb : Binds X.K fd ps ds) (hd : Vals dvs ds)
    (hx : Passes CX X E) (I : Inv X pins σ H s) (r : Vals vs us)
    (h : ∀ x dx, H x = none → H dx = none → dx ≠ x → sp (.ref x :: (vs ++ dvs)) (upd (upd H dx (.own x)) x (.ins C dx [])) (fun v H2 => v = .non ∧ Q (.ref x) H2) E) :
    wpAny (model X.prog X.w) X.A (call (.ref C) us) (EP X pins σ Q) X.xe s := by
  have hq := h (s.heap.objs.size + 1) s.heap.objs.size (I.hok.fresh (Nat.le_succ _)) (I.hok.fresh (Nat.le_refl _)) (Nat.ne_of_lt (Nat.lt_succ_self _))
  have I2 := Inv.made (C := C) I
  have r2 : Vals (V.ref (s.heap.objs.size + 1) :: (vs ++ dvs)) (Value.ref (s.heap.objs.size + 1) :: (us ++ ds)) := .cons rfl (r.append hd)
  have hl : (Value.ref (s.heap.objs.size + 1) :: us ++ ds).length = ps.length := by
    have e := r2.length
    rw [F.len _ _ _ _ hq] at e
    exact e.symm
  refine wpAny_call (make_map (f := f) I.kIn M.makes M.init (beq_iff_eq.mp M.fn) (codeAny_mono (F.run _ X.stack _ _ ⟨Value.ref (s.heap.objs.size + 1) :: us, []⟩ (Value.ref (s.heap.objs.size + 1) :: (us ++ ds)) _ _ E (hr.make C us [])
    (I2.env0.make C us []) (hb _ (Value.ref (s.heap.objs.size + 1) :: us) I2.kIn hl) r2 hq) fun r s' hq' => ?_))
  cases r with
  | error e => exact hx pins σ _ _ e s' I2 hq'
  | ok fl =>
    cases fl with
    | ret u =>
      obtain ⟨v, H', I3, rv, ev, q3⟩ := I2.after hq'
      subst ev
      exact ⟨rv, ⟨V.ref (s.heap.objs.size + 1), H', I3, rfl, q3⟩⟩
    | next => exact False.elim hq'
    | brk => exact False.elim hq'
    | cont => exact False.elim hq'
theorem pe_make (M : Mk X.K C f) (F : FnOk X.prog X.w X.K X.mg X.base CX k f fd ps sp) (hr : Room (k + 1) X.A) (hg : Gl X x) (hm : X.mg x = some (.ref C)) (hb : Binds X.K fd ps ds) (hd : Vals dvs ds) (hx : Passes CX X E)
    (ha : PA X (e :: es) t) (hdb : (x == ("__debug__" : Str)) = false := by decide) (he : starEach (e :: es) X.env = (false, eval e X.env) :: starEach es X.env := by rfl) (hpl : (backTo pos (starEach es X.env)).any (·.1) = false := by rfl) :
    PE X (.Call (.Name x p) (e :: es) [] pos) (tMake C sp dvs E t) := by
  intro pins s σ H Q I h
  refine wpAny_Call_Name_kw (ld_glob I hg hm ?_ hdb)
  refine PySem.W.callWith_K (h₀ := X.base) I.ok.mod.kin M.kp (thn (ha pos pins s σ H _ I h) fun us s1 ⟨vs, H1, I1, r, q⟩ => ⟨I1.kIn, ?_⟩) he hpl
  exact run_make M F hr hb hd hx I1 r q
end
section
variable {X : Cx} {CX : CXT} {k : Nat} {f C : Addr} {fd : FuncData} {ps ks : List Str} {sp : Sp} {E : XK} {x m : Str} {p pos apos kpos : Pos} {e o : Expr} {es : List Expr} {kws : List Keyword} {te ta : TE} {t tk : TA} {nm : Option Str}
variable {g : List Value → List Value → List Value} {gV : List V → List V → List V}
end
structure FnScope (N P : List Str) (sc : Scope) : Prop where
  kind : sc.kind = .function
  co : sc.isCoroutine = false
  gen : sc.isGenerator = false
  nd : N.Nodup
  pre : N.take P.length = P
  par : ∀ x ∈ P, sc.names.lookup x = some .local ∨ sc.names.lookup x = some .cell
  nofree : ∀ y ∈ sc.names, y.2 ≠ .free
theorem bindL_out {kindOf : Str → Option NameKind} {x : Str} : ∀ {binds : List (Str × Value)} {m : Str → Option Value}, (∀ v, (x, v) ∉ binds) → bindL kindOf binds m x = m x
  | [], _, _ => rfl
  | (n, v) :: r, m, h => by
    unfold bindL
    rw [bindL_out fun w hw => h w (List.mem_cons_of_mem _ hw)]
    split
    · have : x ≠ n := by rintro rfl; exact h v List.mem_cons_self
      simp [this]
    · rfl
theorem bindC_out {kindOf : Str → Option NameKind} {x : Str} : ∀ {binds : List (Str × Value)} {m : Str → Option Value}, (∀ v, (x, v) ∉ binds) → bindC kindOf binds m x = m x
  | [], _, _ => rfl
  | (n, v) :: r, m, h => by
    unfold bindC
    rw [bindC_out fun w hw => h w (List.mem_cons_of_mem _ hw)]
    split
    · rfl
    · have : x ≠ n := by rintro rfl; exact h v List.mem_cons_self
      simp [this]
theorem bindL_get {kindOf : Str → Option NameKind} {x : Str} {v : Value} : ∀ {P : List Str} {vs : List Value} {i : Nat} {m : Str → Option Value}, P.Nodup → P[i]? = some x → vs[i]? = some v → kindOf x = some .local →
    bindL kindOf (P.zip vs) m x = some v
  | [], _, _, _, _, h, _, _ => by simp at h
  | _ :: _, [], _, _, _, _, h, _ => by simp at h
  | p :: P, w :: vs, 0, m, nd, h1, h2, hk => by
    simp at h1 h2; subst h1; subst h2
    show bindL kindOf ((p, w) :: P.zip vs) m p = _
    unfold bindL
    rw [bindL_out fun v hv => (List.nodup_cons.mp nd).1 (List.of_mem_zip hv).1, if_pos hk]
    simp
  | p :: P, w :: vs, i + 1, m, nd, h1, h2, hk => by
    show bindL kindOf ((p, w) :: P.zip vs) m x = _
    unfold bindL
    exact bindL_get (i := i) (List.nodup_cons.mp nd).2 (by simpa using h1) (by simpa using h2) hk
theorem bindC_get {kindOf : Str → Option NameKind} {x : Str} {v : Value} : ∀ {P : List Str} {vs : List Value} {i : Nat} {m : Str → Option Value}, P.Nodup → P[i]? = some x → vs[i]? = some v → kindOf x ≠ some .local →
    bindC kindOf (P.zip vs) m x = some v
  | [], _, _, _, _, h, _, _ => by simp at h
  | _ :: _, [], _, _, _, _, h, _ => by simp at h
  | p :: P, w :: vs, 0, m, nd, h1, h2, hk => by
    simp at h1 h2; subst h1; subst h2
    show bindC kindOf ((p, w) :: P.zip vs) m p = _
    unfold bindC
    rw [bindC_out fun v hv => (List.nodup_cons.mp nd).1 (List.of_mem_zip hv).1, if_neg hk]
    simp
  | p :: P, w :: vs, i + 1, m, nd, h1, h2, hk => by
    show bindC kindOf ((p, w) :: P.zip vs) m x = _
    unfold bindC
    exact bindC_get (i := i) (List.nodup_cons.mp nd).2 (by simpa using h1) (by simpa using h2) hk
def start (N : List Str) (vs : List V) : St := vs.map some ++ List.replicate (N.length - vs.length) none
def cxOf (CX : CXT) (P : Program) (w : World) (K : PySem.W.Frag) (mg : Str → Option Value) (base : Heap) (N : List Str) (qual : Str) (scope : Scope) (f : Addr) (cd : Value) (A : Around) (outer : List Env) (s : Shared) (H : Hp) (E : XK) : Cx where
  prog := P
  w := w
  K := K
  mg := mg
  base := base
  A := A.deeper (envOfC qual scope s.heap.objs.size f cd)
  N := N
  s₀ := s
  H₀ := H
  env := envOfC qual scope s.heap.objs.size f cd
  outer := outer
  stack := envOfC qual scope s.heap.objs.size f cd :: outer
  ex := []
  calm := true
  fn := fun _ => true
  pn := []
  xe := fun e s' => wpAny (model P w) (A.deeper (envOfC qual scope s.heap.objs.size f cd)) (leaving (envOfC qual scope s.heap.objs.size f cd) e) (fun _ s'' => CX outer H s E e s'') (fun e' s'' => CX outer H s E e' s'') s'
theorem cell_has {sc : Scope} {n : Nat} {x : Str} (h : sc.names.lookup x = some .cell) : ∃ c, (cellsFrom n sc.names []).lookup x = some c := by
  have q := PySem.W.cellsFrom_some sc.names n [] (.inl h)
  exact Option.isSome_iff_exists.mp q
theorem inv_start {CX : CXT} {P : Program} {w : World} {K : PySem.W.Frag} {mg : Str → Option Value} {base : Heap} {N ps : List Str} {qual : Str} {scope : Scope} {f : Addr} {cd : Value} {A : Around} {outer : List Env} {s s1 : Shared} {H : Hp} {E : XK} {us : List Value} {vs : List V}
    (S : FnScope N ps scope) (hd : A.handled = none) (e0 : Env0 P w K mg base A outer s H) (hl : vs.length = ps.length) (r : Vals vs us)
    (x : InCallC s s.heap.objs.size (bindL (envOfC qual scope s.heap.objs.size f cd).kindOf (ps.zip us) fun _ => none) (cellsFrom (s.heap.objs.size + 1) scope.names []) (bindC (envOfC qual scope s.heap.objs.size f cd).kindOf (ps.zip us) fun _ => none) s1) :
    Inv (cxOf CX P w K mg base N qual scope f cd A outer s H E) [] (start N vs) H s1 := by
  have hpl : ps.length ≤ N.length := by have := congrArg List.length S.pre; rw [List.length_take] at this; omega
  obtain ⟨h1, tk, rfl, hk⟩ := x.done
  have noA : ∀ b : Addr, b ∉ (cxOf CX P w K mg base N qual scope f cd A outer s H E).ex := fun b z => absurd (show b ∈ ([] : List Addr) from z) (by simp)
  refine ⟨⟨e0.mod, S.kind, rfl, rfl, Nat.le_refl _, fun y z c h1 h2 => ?_, fun y hy => ?_, fun y c _ h => ?_, fun _ => hd, Around.frames_deeper e0.frames, .inr ⟨rfl, rfl⟩, fun b z => absurd z (noA b), e0.bs, e0.bsz, fun b _ _ => noA b, fun b z => absurd z (noA b), e0.funs, e0.frf⟩,
    rfl, e0.bare, Un.kept hk, ⟨_, x.toInCall.ns, fun i y v h1 h2 h3 => ?_⟩, fun y c h => ⟨_, x.cell y c h⟩, e0.hok.fresh (Nat.le_refl _), fun y c h => ?_, fun p hp => absurd (show p ∈ ([] : List (Addr × Obj)) from hp) (by simp), e0.hok.kept hk, ?_⟩
  · exact name_of_addr x.apart (PySem.mem_of_lookup h1) (PySem.mem_of_lookup h2)
  · have hy : scope.names.lookup y = some .cell ∨ scope.names.lookup y = some .free := hy
    rcases hy with hy | hy
    · exact cell_has hy
    · exact absurd rfl (S.nofree _ (PySem.mem_of_lookup hy))
  · exact Nat.le_of_lt (x.above y c (PySem.mem_of_lookup h))
  · have hi : i < vs.length := by
      unfold start at h2
      by_cases hi : i < vs.length
      · exact hi
      · rw [List.getElem?_append_right (by simpa using hi)] at h2
        rw [List.getElem?_replicate] at h2
        split at h2 <;> cases h2
    have ha : vs[i]? = some v := by
      unfold start at h2
      rw [List.getElem?_append_left (by simpa using hi), List.getElem?_map] at h2
      cases e : vs[i]? with
      | none => rw [e] at h2; cases h2
      | some a => rw [e] at h2; cases h2; rfl
    obtain ⟨u, hu, rv⟩ := r.get ha
    have hp : ps[i]? = some y := by
      rw [← S.pre, List.getElem?_take_of_lt (by omega)]; exact h1
    have ndP : ps.Nodup := by rw [← S.pre]; exact S.nd.sublist (List.take_sublist _ _)
    refine ⟨u, rv, ?_⟩
    rcases S.par y (List.mem_of_getElem? hp) with k | k
    · exact .inl ⟨k, bindL_get ndP hp hu k⟩
    · obtain ⟨c, e⟩ := cell_has (n := s.heap.objs.size + 1) k
      refine .inr ⟨.inl k, c, e, ?_⟩
      have q := x.cell y c e
      rw [bindC_get ndP hp hu (by show scope.names.lookup y ≠ _; rw [k]; decide)] at q
      exact q
  · exact e0.hok.fresh (Nat.le_of_lt (x.above y c (PySem.mem_of_lookup h)))
  · unfold start
    show _ = N.length
    rw [List.length_append, List.length_map, List.length_replicate]
    omega
theorem fn_of {CX : CXT} {P : Program} {w : World} {K : PySem.W.Frag} {mg : Str → Option Value} {base : Heap} {k : Nat} {f : Addr} {name qual : Str} {params : Arguments} {body : List Stmt} {scope : Scope} {dV kV doc pm cdv ct oc : Value} {an od : Option Addr}
    {osl : Array (Option Value)} {N ps : List Str} {sp : Sp} (lk : K.lookup f = some ⟨oc, od, .func (PySem.W.fnOf name qual params body scope dV kV doc pm an cdv ct), osl⟩) (hcd : PySem.W.codeIn K cdv qual = true) (S : FnScope N ps scope)
    (len : ∀ vs H Q E, sp vs H Q E → vs.length = ps.length)
    (hbody : ∀ (A : Around) (outer : List Env) (s : Shared) (H : Hp) (vs : List V) (Q : VK) (E : XK), Room k (A.deeper (envOfC qual scope s.heap.objs.size f cdv)) → sp vs H Q E →
      ∃ t, PSs (cxOf CX P w K mg base N qual scope f cdv A outer s H E) body t ∧ t { nx := fun _ H' => Q .non H', rt := Q } (start N vs) H) :
    FnOk P w K mg base CX (k + 1) f (PySem.W.fnOf name qual params body scope dV kV doc pm an cdv ct) ps sp := by
  refine ⟨len, fun A outer s H args us vs Q E hr e0 hb r hsp => ?_⟩
  have hl := len _ _ _ _ hsp
  have KX : K.In s.heap := e0.mod.kin.keeps fun b o e => (e0.bs b o e).1
  have lim : s.heap.NoLimit := e0.mod.nolimit.keeps fun b o e => (e0.bs b o e).1
  have hkind : ∀ y ∈ ps.zip us, scope.names.lookup y.1 = some .local ∨ (scope.names.lookup y.1 = some .cell ∧ ((cellsFrom (s.heap.objs.size + 1) scope.names []).lookup y.1).isSome = true) := fun ⟨n, v⟩ hy => by
    rcases S.par n (List.of_mem_zip hy).1 with q | q
    · exact .inl q
    · exact .inr ⟨q, PySem.W.cellsFrom_some _ _ _ (.inl q)⟩
  refine codeAny_call_function hr.depth (KX _ _ lk) rfl S.co S.gen rfl (PySem.W.codeRec_of KX hcd) (hb _ _ _ _ ?_)
  refine wpAny_newFunctionEnv_cells S.kind hkind fun env he s1 x => ?_
  subst he
  refine ⟨lim.keeps x.toInCall.keep, codeAny_func ?_⟩
  obtain ⟨t, ht, hq⟩ := hbody A outer s H vs Q E (hr.deeper _) hsp
  have I : Inv (cxOf CX P w K mg base N qual scope f cdv A outer s H E) [] (start N vs) H s1 := inv_start S hr.hd e0 hl r x
  refine wpAny_mono (ht [] s1 (start N vs) H _ I hq) (fun fl s' hs => ?_) fun e s' hs => hs
  have fin : ∀ {σ' : St} {H' : Hp} {v : V} {u : Value}, Inv (cxOf CX P w K mg base N qual scope f cdv A outer s H E) [] σ' H' s' → RelV v u → Q v H' → CE outer P w H s Q u s' :=
    fun {σ' H' v u} J rv q => ⟨v, H', J.os, J.bare, J.base, J.hok, rv, q⟩
  cases fl with
  | ret u =>
    obtain ⟨v, σ', H', J, rv, q⟩ := hs
    exact fin J rv q
  | next =>
    obtain ⟨σ', H', J, q⟩ := hs
    exact fin (v := V.non) (u := Value.none) J rfl q
  | brk =>
    obtain ⟨_, _, _, q⟩ := hs
    exact False.elim q
  | cont =>
    obtain ⟨_, _, _, q⟩ := hs
    exact False.elim q
end L2
namespace L2
open PySem PySem.Spec PyProof.Rows
section
variable {X : Cx} {x : Str} {p pos : Pos} {e : Expr} {es : List Expr} {t : TA} {id T : String} {r : List V → Hp → VK → Prop}
def tCB (r : List V → Hp → VK → Prop) (t : TA) : TE := fun σ H Q => t σ H fun vs H1 => r vs H1 Q
theorem pe_callB (hc : CallR X (.builtin id) r) (hg : Gl X x) (hm : X.mg x = none) (hv : bootBuiltins x = some (.builtin id)) (ha : PA X (e :: es) t) (hn : x ≠ "__name__" := by decide) (hdb : (x == ("__debug__" : Str)) = false := by decide)
    (he : starEach (e :: es) X.env = (false, eval e X.env) :: starEach es X.env := by rfl) (hpl : (backTo pos (starEach es X.env)).any (·.1) = false := by rfl) : PE X (.Call (.Name x p) (e :: es) [] pos) (tCB r t) := by
  intro pins s σ H Q I h
  refine wpAny_Call_Name_kw (ld_blt I hg hm hv ?_ hn hdb)
  exact PyProof.Rows.callWith_builtin1 (thn (ha pos pins s σ H _ I h) fun us s1 ⟨vs, H1, I1, r1, q1⟩ => hc pins s1 σ H1 vs us Q I1 r1 q1) he hpl
theorem pe_callTy (hc : CallR X (.type T) r) (hg : Gl X x) (hm : X.mg x = none) (hv : bootBuiltins x = some (.type T)) (ha : PA X (e :: es) t) (hn : x ≠ "__name__" := by decide) (hdb : (x == ("__debug__" : Str)) = false := by decide)
    (he : starEach (e :: es) X.env = (false, eval e X.env) :: starEach es X.env := by rfl) (hpl : (backTo pos (starEach es X.env)).any (·.1) = false := by rfl) : PE X (.Call (.Name x p) (e :: es) [] pos) (tCB r t) := by
  intro pins s σ H Q I h
  refine wpAny_Call_Name_kw (ld_blt I hg hm hv ?_ hn hdb)
  exact PyProof.Rows.callWith_type1 (thn (ha pos pins s σ H _ I h) fun us s1 ⟨vs, H1, I1, r1, q1⟩ => hc pins s1 σ H1 vs us Q I1 r1 q1) he hpl
end
end L2
namespace HT
open PySem PyProof.Rows
section
open PySem.SeqAt
open PySem.AutoSeq1 (wpAny_loadPart')
open PySem.MeetsSeq PySem.MeetsSeq2 PySem.MeetsSeq3
end
section
variable {prog : Program} {w : World} {A : Around} {E : Value → Shared → Prop} {s : Shared}
def sIx (n d : Nat) : Option Int → Nat
  | none => d
  | some v => if v < 0 then (v + (n : Int)).toNat else min v.toNat n
theorem sIx_le (n d : Nat) (hd : d ≤ n) (o : Option Int) : sIx n d o ≤ n := by
  cases o with
  | none => exact hd
  | some v =>
    show (if v < 0 then (v + (n : Int)).toNat else min v.toNat n) ≤ n
    by_cases hv : v < 0
    · rw [if_pos hv]; omega
    · rw [if_neg hv]; exact Nat.min_le_right _ _
theorem clip_eq (v : Int) (n d : Nat) : (if v < 0 then max (v + (n : Int)) 0 else min v (n : Int)) = ((sIx n d (some v) : Nat) : Int) := by
  show (if v < 0 then max (v + (n : Int)) 0 else min v (n : Int)) = (((if v < 0 then (v + (n : Int)).toNat else min v.toNat n) : Nat) : Int)
  by_cases hv : v < 0
  · simp only [if_pos hv]; omega
  · simp only [if_neg hv]; omega
theorem adjust_gen (lo hi : Option Int) (n : Nat) : Builtin.Slice.sliceAdjust lo hi 1 (n : Int) = (((sIx n 0 lo : Nat) : Int), ((sIx n n hi : Nat) : Int)) := by
  have h1 : ¬ ((1 : Int) < 0) := by omega
  unfold Builtin.Slice.sliceAdjust
  simp only [h1, if_false]
  refine Prod.ext ?_ ?_
  · cases lo with
    | none => rfl
    | some v => exact clip_eq v n 0
  · cases hi with
    | none => rfl
    | some v => exact clip_eq v n n
theorem places_gen (i j : Nat) : Builtin.Slice.slicePlaces (i : Int) (j : Int) 1 = j - i := by
  unfold Builtin.Slice.slicePlaces
  have h1 : (1 : Int) > 0 := by omega
  simp only [h1, if_true, Int.ediv_one]
  split <;> omega
theorem slicePart_ {v : Value} {o : Option Int} {Q : Option Int → Shared → Prop} (p : IsPart v o) (h : Q o s) : wpAny (model prog w) A (Builtin.Slice.slicePartIndex v) Q E s := by
  cases p with
  | none => exact slicePart_none h
  | int i t => exact slicePart_int h
theorem sliceApplied_gen {sl : Addr} {vl vu : Value} {lo hi : Option Int} {n : Nat} {Q : Int × Int × Nat → Shared → Prop} (hs : s.heap.IsSliceOf sl vl vu .none) (pl : IsPart vl lo) (pu : IsPart vu hi)
    (h : Q (((sIx n 0 lo : Nat) : Int), 1, sIx n n hi - sIx n 0 lo) s) : wpAny (model prog w) A (Builtin.Slice.sliceApplied (.ref sl) (pure (n : Int))) Q E s := by
  obtain ⟨os, hos, hcs, hds⟩ := id hs
  unfold Builtin.Slice.sliceApplied Builtin.Slice.sliceFields
  refine wpAny_bind (wpAny_bind (wpAny_field hos hds (x := vl) rfl (wpAny_bind (wpAny_field hos hds (x := vu) rfl (wpAny_bind (wpAny_field hos hds (x := .none) rfl (wpAny_pure ?_)))))))
  refine wpAny_bind (slicePart_none ?_)
  show wpAny _ _ (if ((1 : Int) == 0) = true then _ else _) _ _ s
  rw [if_neg (by decide)]
  refine wpAny_bind (slicePart_ pl (wpAny_bind (slicePart_ pu (wpAny_bind (wpAny_pure ?_)))))
  show wpAny _ _ (match Builtin.Slice.sliceAdjust lo hi 1 (n : Int) with | (lo, hi) => pure (lo, (1 : Int), Builtin.Slice.slicePlaces lo hi 1)) _ _ s
  rw [adjust_gen lo hi n]
  show wpAny _ _ (pure (((sIx n 0 lo : Nat) : Int), (1 : Int), Builtin.Slice.slicePlaces ((sIx n 0 lo : Nat) : Int) ((sIx n n hi : Nat) : Int) 1)) _ _ s
  rw [places_gen]
  exact wpAny_pure h
theorem pick_gen (xs : Array Value) (i k : Nat) : ((List.range k).filterMap fun (m : Nat) => xs[((i : Int) + (m : Int) * 1).toNat]?).toArray = ((xs.toList.drop i).take k).toArray := by
  have e : (fun (m : Nat) => xs[((i : Int) + (m : Int) * 1).toNat]?) = fun m => xs[i + m]? := by
    funext m
    have : ((i : Int) + (m : Int) * 1).toNat = i + m := by omega
    rw [this]
  rw [e]
  have := pick_run xs i k
  rw [List.filterMap_map] at this
  have e2 : ((fun x => xs[x]?) ∘ fun x => i + x) = fun m => xs[i + m]? := rfl
  rw [e2] at this
  rw [this]
theorem getItem_tuple_cut {t sl : Addr} {items : Array Value} {vl vu : Value} {lo hi : Option Int} {Q : Value → Shared → Prop} (ht : IsTup s.heap t items) (hs : s.heap.IsSliceOf sl vl vu .none) (pl : IsPart vl lo) (pu : IsPart vu hi)
    (hw : ¬ (sIx items.size 0 lo = 0 ∧ sIx items.size items.size hi = items.size))
    (h : Q (.ref s.heap.objs.size) { s with heap := s.heap.push { cls := .type "tuple", data := .seq ((items.toList.drop (sIx items.size 0 lo)).take (sIx items.size items.size hi - sIx items.size 0 lo)).toArray } })
    (hsz : items.size ≤ sizeLine) : wpAny (model prog w) A (getItem (.ref t) (.ref sl)) Q E s := by
  have htake : sizeOk (.seq ((items.toList.drop (sIx items.size 0 lo)).take (sIx items.size items.size hi - sIx items.size 0 lo)).toArray) := by
    show ((items.toList.drop (sIx items.size 0 lo)).take (sIx items.size items.size hi - sIx items.size 0 lo)).toArray.size ≤ sizeLine
    rw [List.size_toArray, List.length_take, List.length_drop, Array.length_toList]
    omega
  have hj : sIx items.size items.size hi ≤ items.size := sIx_le _ _ (Nat.le_refl _) hi
  obtain ⟨os, hos, hcs, hds⟩ := id hs
  have hTs : s.TypeIs (.ref sl) "slice" := ⟨os, hos, hcs⟩
  unfold getItem
  try with_reducible refine wpAny_holding ?_
  first | refine wpAny_bind (wpAny_pure ?_) | skip
  refine wpAny_bind (wpAny_sequenceKey ht.typeIs (by decide) ?_)
  refine wpAny_bind (wpAny_callSpecial?_slot (name := Str.ofString "__getitem__") ht.typeIs PyProof.Rows.slot_tuple_getitem
    (wpAny_call_entry PyProof.Rows.slot_tuple_getitem ht.typeIs entry_tuple_getitem ?_ (args_tuple_getitem _ _)))
  show wpAny _ _ (Builtin.Tuple.tupleItemsOf (.ref t) >>= _) _ _ s
  refine wpAny_bind (tupleItemsOf_ ht ?_)
  refine wpAny_bind (wpAny_typeOf hTs ?_)
  rw [if_pos (by decide)]
  refine wpAny_bind (sliceApplied_gen hs pl pu ?_)
  have hno : ¬ ((((sIx items.size 0 lo : Nat) : Int) == 0 && (1 : Int) == 1 && (sIx items.size items.size hi - sIx items.size 0 lo) == items.size) = true) := by
    intro q
    rw [Bool.and_eq_true, Bool.and_eq_true] at q
    have q1 : ((sIx items.size 0 lo : Nat) : Int) = 0 := eq_of_beq q.1.1
    have q2 : sIx items.size items.size hi - sIx items.size 0 lo = items.size := eq_of_beq q.2
    exact hw ⟨by omega, by omega⟩
  show wpAny _ _ (if (((sIx items.size 0 lo : Nat) : Int) == 0 && (1 : Int) == 1 && (sIx items.size items.size hi - sIx items.size 0 lo) == items.size) = true then _ else _) _ _ s
  rw [if_neg hno, pick_gen]
  first
    | exact wpAny_bind (m := Builtin.Tuple.tupleExact _) (wpAny_newObj_type (wpAny_pure ⟨_, rfl, wpAny_pure h⟩) htake)
    | exact wpAny_bind (m := Builtin.Tuple.tupleExact _) (wpAny_newObj_type (wpAny_bind (wpAny_pure (wpAny_pure ⟨_, rfl, wpAny_pure h⟩))) htake)
    | exact wpAny_bind (wpAny_bind (m := Builtin.Tuple.tupleExact _) (wpAny_newObj_type (wpAny_pure (wpAny_pure ⟨_, rfl, wpAny_pure h⟩)) htake))
    | exact wpAny_bind (wpAny_bind (m := Builtin.Tuple.tupleExact _) (wpAny_newObj_type (wpAny_pure ⟨_, rfl, wpAny_pure h⟩) htake))
end
end HT
namespace L2
open PySem PySem.Spec PyProof.Rows
abbrev TO := St → Hp → (Option Int → Hp → Prop) → Prop
def PO (X : Cx) (e : Option Expr) (t : TO) : Prop :=
  ∀ (pins : List (Addr × Obj)) (s : Shared) (σ : St) (H : Hp) (Q : Option Int → Hp → Prop), Inv X pins σ H s → t σ H Q →
    wpAny (model X.prog X.w) X.A (evalPart e X.env) (fun u s' => ∃ o H', Inv X pins σ H' s' ∧ IsPart u o ∧ Q o H') X.xe s
def tNoPart : TO := fun _ H Q => Q none H
def tPart (t : TE) : TO := fun σ H Q => t σ H fun x H1 => ∃ i, x = .int i ∧ Q (some i) H1
section
variable {X : Cx} {e : Expr} {te : TE} {lo hi : Option Expr} {tl th : TO} {pos p2 : Pos}
theorem po_none : PO X none tNoPart := by
  intro pins s σ H Q I h
  rw [evalPart_none]
  exact wpAny_pure ⟨none, H, I, .none, h⟩
theorem po_some (h : PE X e te) : PO X (some e) (tPart te) := by
  intro pins s σ H Q I hw
  rw [evalPart_some]
  refine thn (h pins s σ H _ I hw) fun u s1 ⟨x, H1, I1, r1, q1⟩ => ?_
  obtain ⟨i, rfl, q⟩ := q1
  obtain ⟨t, rfl⟩ := r1
  exact ⟨some i, H1, I1, .int i t, q⟩
def SlR (X : Cx) (r : V → Option Int → Option Int → Hp → VK → Prop) : Prop :=
  ∀ (pins : List (Addr × Obj)) (s : Shared) (σ : St) (H : Hp) (x : V) (v vl vu : Value) (lo hi : Option Int) (sl : Addr) (Q : VK), Inv X pins σ H s → RelV x v → s.heap.IsSliceOf sl vl vu .none → IsPart vl lo → IsPart vu hi → r x lo hi H Q →
    ∃ T id, typeLookup (.type T) "__getitem__" = pure (some (.builtin id)) ∧ s.TypeIs v T ∧ wpAny (model X.prog X.w) X.A (getItem v (.ref sl)) (EP X pins σ Q) X.xe s
def tSl (r : V → Option Int → Option Int → Hp → VK → Prop) (te : TE) (tl th : TO) : TE := fun σ H Q => te σ H fun x H1 => tl σ H1 fun l H2 => th σ H2 fun u H3 => r x l u H3 Q
theorem pe_slice {r : V → Option Int → Option Int → Hp → VK → Prop} (hr : SlR X r) (he : PE X e te) (hl : PO X lo tl) (hu : PO X hi th) : PE X (.Subscript e (.Slice lo hi none p2) pos) (tSl r te tl th) := by
  intro pins s σ H Q I h
  refine Subscript_ (thn (he pins s σ H _ I h) fun v s1 ⟨x, H1, I1, r1, q1⟩ => ?_)
  refine wpAny_Slice (thn (hl pins s1 σ H1 _ I1 q1) fun vl s2 ⟨l, H2, I2, pl, q2⟩ => thn (hu pins s2 σ H2 _ I2 q2) fun vu s3 ⟨u, H3, I3, pu, q3⟩ => ?_)
  rw [evalPart_none]
  refine wpAny_pure ?_
  have I4 : Inv X pins σ H3 { s3 with heap := s3.heap.push { cls := .type "slice", data := .fields #[vl, vu, .none] } } := I3.kept (t' := s3.toks) fun b ob q => Heap.get?_push_of_some _ q
  obtain ⟨T, id, hT, ht, hg⟩ := hr pins { s3 with heap := s3.heap.push { cls := .type "slice", data := .fields #[vl, vu, .none] } } σ H3 x v vl vu l u s3.heap.objs.size Q I4 r1 (Heap.IsSliceOf.new ..) pl pu q3
  show wpAny (model X.prog X.w) X.A (subscriptTail e (.Slice lo hi none p2) v (.ref s3.heap.objs.size)) (EP X pins σ Q) X.xe { s3 with heap := s3.heap.push { cls := .type "slice", data := .fields #[vl, vu, .none] } }
  exact tail_any (ops := [.ref s3.heap.objs.size, v]) ht hT hg (by with_unfolding_all rfl)
def cutV (xs : List V) (lo hi : Option Int) : List V := (xs.drop (HT.sIx xs.length 0 lo)).take (HT.sIx xs.length xs.length hi - HT.sIx xs.length 0 lo)
theorem cutV_length (xs : List V) (lo hi : Option Int) : (cutV xs lo hi).length ≤ xs.length := by
  unfold cutV
  rw [List.length_take, List.length_drop]
  omega
def rSlT (K : PySem.W.Frag) : V → Option Int → Option Int → Hp → VK → Prop := fun x lo hi H Q => ∃ a xs, x = .ref a ∧ SqT K H a xs ∧
  ¬ (HT.sIx xs.length 0 lo = 0 ∧ HT.sIx xs.length xs.length hi = xs.length) ∧ ∀ p, H p = none → Q (.ref p) (upd H p (.tup (cutV xs lo hi)))
theorem sl_tup : SlR X (rSlT X.K) := by
  intro pins s σ H x v vl vu lo hi sl Q I rx hs pl pu h
  obtain ⟨a, xs, rfl, hx, hw, q⟩ := h
  cases rx
  obtain ⟨its, r, ht, hz⟩ := I.tuple hx
  have hlen : its.toArray.size = xs.length := by rw [List.size_toArray]; exact r.length.symm
  refine ⟨"tuple", _, PyProof.Rows.slot_tuple_getitem.lookup, ht.typeIs, ?_⟩
  refine HT.getItem_tuple_cut ht hs pl pu (by rw [hlen]; exact hw) ?_ (by rw [hlen]; exact hz)
  rw [hlen]
  refine ⟨.ref s.heap.objs.size, _, I.laid (t' := s.toks) (o := .tup (cutV xs lo hi)) (fun b ob q => Heap.get?_push_of_some _ q) (Nat.le_refl _) ?_, rfl, q _ (I.hok.fresh (Nat.le_refl _))⟩
  exact ⟨Nat.le_trans (cutV_length xs lo hi) hz, _, (r.drop (HT.sIx xs.length 0 lo)).take (HT.sIx xs.length xs.length hi - HT.sIx xs.length 0 lo), IsTup.new _ _⟩
end
end L2
namespace L2
open PySem PySem.Spec PyProof.Rows
def ixN (n : Nat) (i : Int) : Option Nat := if 0 ≤ i then (if i < n then some i.toNat else none) else if -(n : Int) ≤ i then some (i + n).toNat else none
def atI {α : Type} (xs : List α) (i : Int) : Option α := (ixN xs.length i).bind fun j => xs[j]?
theorem ixN_seq {n : Nat} {i : Int} {j : Nat} (h : ixN n i = some j) : seqIndex? i n = some j ∧ j < n ∧ -(n : Int) ≤ i ∧ i < n := by
  unfold ixN at h
  by_cases h0 : 0 ≤ i
  · rw [if_pos h0] at h
    by_cases h1 : i < n
    · rw [if_pos h1] at h
      have e : i.toNat = j := Option.some.inj h
      exact ⟨by rw [seqIndex_of h0 h1, e], by omega, by omega, h1⟩
    · rw [if_neg h1] at h; cases h
  · rw [if_neg h0] at h
    by_cases h1 : -(n : Int) ≤ i
    · rw [if_pos h1] at h
      have e : (i + n).toNat = j := Option.some.inj h
      exact ⟨by rw [seqIndex_neg (by omega) h1, e], by omega, h1, by omega⟩
    · rw [if_neg h1] at h; cases h
theorem atI_get {α : Type} {xs : List α} {i : Int} {v : α} (h : atI xs i = some v) : ∃ j, seqIndex? i xs.length = some j ∧ xs[j]? = some v ∧ j < xs.length ∧ -(xs.length : Int) ≤ i ∧ i < xs.length := by
  unfold atI at h
  cases e : ixN xs.length i with
  | none => rw [e] at h; cases h
  | some j =>
    rw [e] at h
    obtain ⟨h1, h2, h3, h4⟩ := ixN_seq e
    exact ⟨j, h1, h, h2, h3, h4⟩
theorem atI_nat {α : Type} {xs : List α} {j : Nat} {v : α} (h : xs[j]? = some v) : atI xs (j : Int) = some v := by
  have hj : j < xs.length := (List.getElem?_eq_some_iff.mp h).1
  have e : ixN xs.length (j : Int) = some j := by
    unfold ixN
    rw [if_pos (by omega), if_pos (by omega)]; simp
  unfold atI; rw [e]; exact h
def PlainIx (b : Expr) : Prop := ∀ o i, subscripted b false o i = operate [o, i] (getItem o i)
def IxR (X : Cx) (r : R2) : Prop :=
  ∀ (value slice : Expr) (pins : List (Addr × Obj)) (s : Shared) (σ : St) (H : Hp) (x y : V) (v u : Value) (Q : VK), Inv X pins σ H s → RelV x v → RelV y u → r x y H Q →
    subscripted slice false v u = operate [v, u] (getItem v u) → wpAny (model X.prog X.w) X.A (subscriptTail value slice v u) (EP X pins σ Q) X.xe s
def MtR (X : Cx) (id : String) (r : V → List V → Hp → VK → Prop) : Prop :=
  ∀ (pins : List (Addr × Obj)) (s : Shared) (σ : St) (H : Hp) (x : V) (xs : List V) (v : Value) (us : List Value) (Q : VK), Inv X pins σ H s → RelV x v → Vals xs us → r x xs H Q →
    wpAny (model X.prog X.w) X.A (call (.builtin id) (v :: us)) (EP X pins σ Q) X.xe s
section
variable {X : Cx} {a b : Expr} {ta tb : TE} {pos : Pos}
theorem pe_ix {r : R2} (hr : IxR X r) (ha : PE X a ta) (hb : PE X b tb) (hs : PlainIx b) : PE X (.Subscript a b pos) (tOp r ta tb) := by
  intro pins s σ H Q I h
  exact Subscript_ (binT ha hb I h fun v u s2 x y H2 I2 rx ry q => hr a b pins s2 σ H2 x y v u Q I2 rx ry q (hs _ _))
def rIxL (K : PySem.W.Frag) : R2 := fun x y H Q => ∃ p xs i v, x = .ref p ∧ y = .int i ∧ SqL K H p xs ∧ atI xs i = some v ∧ Q v H
def rIxT (K : PySem.W.Frag) : R2 := fun x y H Q => ∃ p xs i v, x = .ref p ∧ y = .int i ∧ SqT K H p xs ∧ atI xs i = some v ∧ Q v H
def rIxS : R2 := fun x y H Q => ∃ z i c, x = .str z ∧ y = .int i ∧ z.length ≤ sizeLine ∧ atI z.cps.toList i = some c ∧ Q (.str ⟨#[c]⟩) H
theorem ix_list : IxR X (rIxL X.K) := by
  intro value slice pins s σ H x y v u Q I rx ry h hs
  obtain ⟨p, xs, i, z, rfl, rfl, hq, he, q⟩ := h
  cases rx
  obtain ⟨t, rfl⟩ := ry
  obtain ⟨its, r, pl, hz⟩ := I.list hq
  obtain ⟨j, h1, h2, h3, h4, h5⟩ := atI_get he
  obtain ⟨w, ew, rw'⟩ := r.get h2
  have hl := r.length
  have hn := line63
  have fin : EP X pins σ Q w s := ⟨z, H, I, rw', q⟩
  by_cases h0 : 0 ≤ i
  · have hj : i.toNat = j := by
      rw [seqIndex_of h0 h5] at h1
      exact Option.some.inj h1
    exact item_listR pl.isList h0 (by omega) (by rw [hj]; simpa using ew) fin hs
  · have hj : (i + (its.toArray.size : Int)).toNat = j := by
      rw [seqIndex_neg (by omega) h4] at h1
      rw [List.size_toArray, ← hl]
      exact Option.some.inj h1
    exact subscriptTail_builtinR (x := w) pl.isList.typeIs slot_list_getitem.lookup
      (wpAny_getItem_list_neg (Q := fun r s' => r = w ∧ EP X pins σ Q r s') pl.isList (by omega) (by rw [List.size_toArray] <;> omega) (by omega) (by rw [hj]; simpa using ew) ⟨rfl, fin⟩) hs
theorem ix_tup : IxR X (rIxT X.K) := by
  intro value slice pins s σ H x y v u Q I rx ry h hs
  obtain ⟨p, xs, i, z, rfl, rfl, hq, he, q⟩ := h
  cases rx
  obtain ⟨t, rfl⟩ := ry
  obtain ⟨its, r, pl, hz⟩ := I.tuple hq
  obtain ⟨j, h1, h2, h3, h4, h5⟩ := atI_get he
  obtain ⟨w, ew, rw'⟩ := r.get h2
  have hl := r.length
  have hn := line63
  have fin : EP X pins σ Q w s := ⟨z, H, I, rw', q⟩
  exact subscriptTail_builtinR (x := w) pl.typeIs slot_tuple_getitem.lookup
    (getItem_tuple (j := j) (Q := fun r s' => r = w ∧ EP X pins σ Q r s') pl (by omega) (by omega) (by rw [List.size_toArray, ← hl]; exact h1) (by simpa using ew) ⟨rfl, fin⟩) hs
theorem ix_str : IxR X rIxS := by
  intro value slice pins s σ H x y v u Q I rx ry h hs
  obtain ⟨z, i, c, rfl, rfl, hz, he, q⟩ := h
  obtain ⟨t, rfl⟩ := rx
  obtain ⟨t', rfl⟩ := ry
  obtain ⟨j, h1, h2, h3, h4, h5⟩ := atI_get he
  have hl : z.cps.toList.length = z.length := by simp [Str.length]
  rw [hl] at h1 h4 h5
  have hn := line63
  exact tail_any (typeIs_str s z t) slot_str_getitem.lookup (getItem_str (c := c) (by
    have e1 : decide (i < -(2 ^ 63 : Int)) = false := decide_eq_false (by omega)
    have e2 : decide (i ≥ 2 ^ 63) = false := decide_eq_false (by omega)
    rw [e1, e2, Bool.or_false]) (by rw [h1]; simpa using h2) ⟨.str ⟨#[c]⟩, H, I.tok _, ⟨_, rfl⟩, q⟩) hs
theorem mapSeq_set (its : List Value) (n j : Nat) (u : Value) : Obj.mapSeq (·.setIfInBounds j u) { cls := .type "list", data := .seq its.toArray n } = { cls := .type "list", data := .seq (its.set j u).toArray n } := by
  simp [Obj.mapSeq]
theorem Inv.lst {pins : List (Addr × Obj)} {σ : St} {H : Hp} {s : Shared} {p : Addr} {xs : List V} (I : Inv X pins σ H s) (h : H p = some (.lst xs)) :
    ∃ (its : List Value) (n : Nat), Vals xs its ∧ s.heap.get? p = some { cls := .type "list", data := .seq its.toArray n } ∧ xs.length ≤ sizeLine := by
  obtain ⟨z, its, n, r, e⟩ := I.hok p _ h
  exact ⟨its, n, r, e, z⟩
theorem Inv.lstUpd {pins : List (Addr × Obj)} {σ : St} {H : Hp} {s : Shared} {p : Addr} {xs ys : List V} {its its' : List Value} {n n' : Nat} {f : Obj → Obj} (I : Inv X pins σ H s) (h : H p = some (.lst xs))
    (ho : s.heap.get? p = some { cls := .type "list", data := .seq its.toArray n }) (hf : f { cls := .type "list", data := .seq its.toArray n } = { cls := .type "list", data := .seq its'.toArray n' }) (r : Vals ys its') (hz : ys.length ≤ sizeLine) (t : Nat) :
    Inv X pins σ (upd H p (.lst ys)) { s with heap := s.heap.update p f, toks := t } := by
  have e : (s.heap.update p f).get? p = some { cls := .type "list", data := .seq its'.toArray n' } := by
    rw [Heap.get?_update_self f ho (by rw [hf] <;> rfl), hf]
  refine I.write (x := p) (e := p) (by rw [h]; trivial) (.inl rfl) (fun b u hb q => (Heap.get?_update_other _ _ (Ne.symm hb)).trans q) ⟨_, e⟩ ?_
  exact ⟨hz, its', n', r, e⟩
def rSetL : V → V → V → Hp → (Hp → Prop) → Prop := fun o i v H Q => ∃ p xs k j, o = .ref p ∧ i = .int k ∧ H p = some (.lst xs) ∧ ixN xs.length k = some j ∧ Q (upd H p (.lst (xs.set j v)))
theorem set_list : PSet X rSetL := by
  intro pins s σ H o i v ov iv u Q I ro ri rv h
  obtain ⟨p, xs, k, j, rfl, rfl, hp, hj, q⟩ := h
  cases ro
  obtain ⟨t, rfl⟩ := ri
  obtain ⟨its, n, r, ho, hz⟩ := I.lst hp
  obtain ⟨h1, h2, h3, h4⟩ := ixN_seq hj
  have hl := r.length
  have hn := line63
  have I' : Inv X pins σ (upd H p (.lst (xs.set j v))) { s with heap := s.heap.update p (Obj.mapSeq (·.setIfInBounds j u)) } :=
    I.lstUpd hp ho (mapSeq_set its n j u) (r.set rv j) (by rw [List.length_set]; exact hz) s.toks
  by_cases h0 : 0 ≤ k
  · have hk : k.toNat = j := by
      rw [seqIndex_of h0 h4] at h1
      exact Option.some.inj h1
    exact PySem.W.ki_setAt ho h0 (by omega) (by rw [List.size_toArray, ← hl]; exact h4) (by rw [hk]; exact ⟨_, I', q⟩)
  · have hk : (k + (its.toArray.size : Int)).toNat = j := by
      rw [seqIndex_neg (by omega) h3] at h1
      rw [List.size_toArray, ← hl]
      exact Option.some.inj h1
    exact PySem.W.ki_setBack ho (by omega) (by rw [List.size_toArray, ← hl]; exact h3) (by omega) (by rw [hk]; exact ⟨_, I', q⟩)
theorem call_len_seq : CallR X (.builtin "len") (fun xs H Q => ∃ p ys, xs = [.ref p] ∧ (SqL X.K H p ys ∨ SqT X.K H p ys) ∧ Q (.int ys.length) H) := by
  intro pins s σ H xs us Q I r h
  obtain ⟨p, ys, rfl, hq, q⟩ := h
  obtain ⟨u, rfl, rx⟩ := vals1 r
  cases rx
  have hn := line63
  rcases hq with hq | hq
  · obtain ⟨its, r', pl, hz⟩ := I.list hq
    have hlen := r'.length
    exact Calls.call_len_list pl.isList (by simp only [List.size_toArray] <;> omega) ⟨.int ys.length, H, I.tok _, ⟨s.toks + 1, by rw [List.size_toArray, hlen]⟩, q⟩
  · obtain ⟨its, r', pl, hz⟩ := I.tuple hq
    have hlen := r'.length
    exact len_tuple pl (by simp only [List.size_toArray] <;> omega) ⟨.int ys.length, H, I.tok _, ⟨s.toks + 1, by rw [List.size_toArray, hlen]⟩, q⟩
theorem call_len_str : CallR X (.builtin "len") (fun xs H Q => ∃ z, xs = [.str z] ∧ z.length ≤ sizeLine ∧ Q (.int z.length) H) := by
  intro pins s σ H xs us Q I r h
  obtain ⟨z, rfl, hz, q⟩ := h
  obtain ⟨u, rfl, t, rfl⟩ := vals1 r
  have hn := line63
  exact len_str (by omega) ⟨.int z.length, H, I.tok _, ⟨_, rfl⟩, q⟩
def tyV (K : PySem.W.Frag) (T : String) (x : V) (H : Hp) : Prop := match x with
  | .str _ => T = "str"
  | .int _ => T = "int"
  | .ref p => (T = "list" ∧ ∃ xs, SqL K H p xs) ∨ (T = "tuple" ∧ ∃ o, K.lookup p = some o ∧ o.cls = .type "tuple" ∧ o.dict = none) ∨
      (T = "dict" ∧ ((∃ kvs, H p = some (.dK kvs)) ∨ ∃ kvs, H p = some (.dT kvs))) ∨ (T = "set" ∧ ∃ S n, H p = some (.set S n))
  | _ => False
theorem tyV_is {pins : List (Addr × Obj)} {σ : St} {H : Hp} {s : Shared} {T : String} {x : V} {v : Value} (I : Inv X pins σ H s) (r : RelV x v) (ty : tyV X.K T x H) :
    s.TypeIs v T ∧ ∀ a, v = .ref a → ∃ ob, s.heap.get? a = some ob ∧ ob.dict = none := by
  cases x with
  | str z =>
    obtain ⟨t, rfl⟩ := r
    cases (show T = "str" from ty)
    exact ⟨typeIs_str s z t, fun _ e => nomatch e⟩
  | int i =>
    obtain ⟨t, rfl⟩ := r
    cases (show T = "int" from ty)
    exact ⟨typeIs_int s i t, fun _ e => nomatch e⟩
  | ref p =>
    cases r
    rcases ty with ⟨rfl, xs, hq⟩ | ⟨rfl, o, hk, hc, hd⟩ | ⟨rfl, hk⟩ | ⟨rfl, S, n, hk⟩
    · obtain ⟨its, _, pl, _⟩ := I.list hq
      refine ⟨pl.isList.typeIs, fun a e => ?_⟩
      cases e
      obtain ⟨o, n, e, c, hd, _⟩ := pl
      exact ⟨o, e, hd⟩
    · refine ⟨⟨o, I.kIn p o hk, hc⟩, fun a e => ?_⟩
      cases e
      exact ⟨o, I.kIn _ o hk, hd⟩
    · have z : ∃ o, s.heap.get? p = some o ∧ o.ExactDict := by
        rcases hk with ⟨kvs, hk⟩ | ⟨kvs, hk⟩
        · obtain ⟨_, _, _, _, o, _, _, e, ex, _⟩ := I.hok p _ hk
          exact ⟨o, e, ex⟩
        · obtain ⟨_, _, _, _, o, _, _, e, ex, _⟩ := I.hok p _ hk
          exact ⟨o, e, ex⟩
      obtain ⟨o, e, ex⟩ := z
      refine ⟨⟨o, e, ex.1⟩, fun a e2 => ?_⟩
      cases e2
      exact ⟨o, e, ex.2.1⟩
    · obtain ⟨o, _, _, _, e, ex, _⟩ := I.hok p _ hk
      refine ⟨⟨o, e, ex.1⟩, fun a e2 => ?_⟩
      cases e2
      exact ⟨o, e, ex.2.1⟩
  | _ => exact False.elim ty
def tBM0 (K : PySem.W.Frag) (T : String) (r : V → List V → Hp → VK → Prop) (to : TE) : TE := fun σ H Q => to σ H fun x H1 => tyV K T x H1 ∧ r x [] H1 Q
def tBM (K : PySem.W.Frag) (T : String) (r : V → List V → Hp → VK → Prop) (to : TE) (t : TA) : TE := fun σ H Q => to σ H fun x H1 => tyV K T x H1 ∧ t σ H1 fun xs H2 => r x xs H2 Q
variable {o e : Expr} {es : List Expr} {to : TE} {t : TA} {name : Str} {apos cpos : Pos} {T id : String} {r : V → List V → Hp → VK → Prop}
theorem pe_bm0 (pa : PlainAttrs T) (slot : Slot T name id) (hty : typeOf (.builtin id) = pure (.type "method_descriptor")) (hm : MtR X id r) (ho : PE X o to)
    (hbase : attributeBase o name X.env (eval o X.env) = eval o X.env := by rfl) (hline : (apos.endLine == cpos.line) = true := by rfl) : PE X (.Call (.Attribute o name apos) [] [] cpos) (tBM0 X.K T r to) := by
  intro pins s σ H Q I h
  refine wpAny_Call_method0_late hbase hline (thn (ho pins s σ H _ I h) fun v s1 ⟨x, H1, I1, r1, ty, q1⟩ => ?_)
  obtain ⟨h1, h2⟩ := tyV_is I1 r1 ty
  exact ⟨T, id, pa, slot, hty, h1, h2, Calls.callWith_builtin rfl (PySem.evalArgs_none (hm pins s1 σ H1 x [] v [] Q I1 r1 .nil q1))⟩
theorem pe_bm (pa : PlainAttrs T) (slot : Slot T name id) (hty : typeOf (.builtin id) = pure (.type "method_descriptor")) (hm : MtR X id r) (ho : PE X o to) (ha : PA X (e :: es) t)
    (hbase : attributeBase o name X.env (eval o X.env) = eval o X.env := by rfl)
    (hfew : ((backTo cpos (starEach (e :: es) X.env)).all (fun x => !x.1) && (backToKw cpos (keywordEach [] X.env)).all (fun x => x.1.isSome)
      && decide ((e :: es).length + ([] : List Keyword).length + (if ([] : List Keyword).isEmpty then 0 else 1) < 30)) = true := by rfl)
    (hline : (apos.endLine == cpos.line) = true := by rfl) (hs : starEach (e :: es) X.env = (false, eval e X.env) :: starEach es X.env := by rfl) (hplain : (backTo cpos (starEach es X.env)).any (·.1) = false := by rfl) :
    PE X (.Call (.Attribute o name apos) (e :: es) [] cpos) (tBM X.K T r to t) := by
  intro pins s σ H Q I h
  refine wpAny_Call_method_late hbase hfew hline rfl (thn (ho pins s σ H _ I h) fun v s1 ⟨x, H1, I1, r1, ty, q1⟩ => ?_)
  obtain ⟨h1, h2⟩ := tyV_is I1 r1 ty
  refine ⟨T, id, pa, slot, hty, h1, h2, ?_⟩
  have hA := ha cpos pins s1 σ H1 _ I1 q1
  rw [hs] at hA ⊢
  refine Calls.callWith_builtin (by show (false || (backTo cpos (starEach es X.env)).any (·.1)) = false; rw [hplain] <;> rfl) (Calls.evalArgs_plain ?_)
  exact thn hA fun us s2 ⟨vs, H2, I2, r2, q2⟩ => hm pins s2 σ H2 x vs v us Q I2 r1 r2 q2
/- xs.append(e), list.index on a module's tuple .. are MtR facts of 06m -/
end
end L2
namespace L2
open PySem PySem.Spec PyProof.Rows
def MtM (X : Cx) (id : String) (r : V → List V → Hp → VK → Prop) : Prop :=
  ∀ (pins : List (Addr × Obj)) (s : Shared) (σ : St) (H : Hp) (x : V) (xs : List V) (v : Value) (us : List Value) (Q : VK), Inv X pins σ H s → RelV x v → Vals xs us → r x xs H Q →
    wpAny (model X.prog X.w) X.A (call (.builtin id) (v :: us)) (EP X pins σ Q) X.xe s
theorem Vals.one : ∀ {x : V} {us : List Value}, Vals [x] us → ∃ u, us = [u] ∧ RelV x u
  | _, _, .cons r .nil => ⟨_, rfl, r⟩
section
variable {X : Cx} {pins : List (Addr × Obj)} {σ : St} {H : Hp} {s : Shared} {l b : Addr} {xs ys zs : List V}
theorem Inv.lset {its its' : List Value} {n : Nat} {f : Array Value → Array Value} {t' : Nat} (I : Inv X pins σ H s) (hH : H l = some (.lst xs))
    (e : s.heap.get? l = some { cls := .type "list", data := .seq its.toArray n }) (hf : f its.toArray = its'.toArray) (hv : Vals ys its') (hz : ys.length ≤ sizeLine) :
    Inv X pins σ (upd H l (.lst ys)) { s with heap := s.heap.update l (Obj.mapSeq f), toks := t' } := by
  have q := PySem.IsL.update e f
  rw [hf] at q
  refine I.write (x := l) (e := l) (by rw [hH]; exact trivial) (.inl rfl) (fun b' u hb hu => (Heap.get?_update_other s.heap (Obj.mapSeq f) (Ne.symm hb)).trans hu) ⟨_, q⟩ ?_
  exact ⟨hz, its', _, hv, q⟩
theorem Inv.lnew {its : List Value} {t' : Nat} (I : Inv X pins σ H s) (hv : Vals ys its) (hz : ys.length ≤ sizeLine) :
    Inv X pins σ (upd H s.heap.objs.size (.lst ys)) { s with heap := s.heap.push { cls := .type "list", data := .seq its.toArray }, toks := t' } :=
  I.laid (fun _ _ q => Heap.get?_push_of_some _ q) (Nat.le_refl _) ⟨hz, its, 0, hv, Heap.get?_push_size _ rfl⟩
theorem Inv.fresh (I : Inv X pins σ H s) : H s.heap.objs.size = none := I.hok.fresh (Nat.le_refl _)
theorem Inv.lstM (I : Inv X pins σ H s) (hH : H l = some (.lst xs)) : xs.length ≤ sizeLine ∧ ∃ (its : List Value) (n : Nat), Vals xs its ∧ xs.length = its.length ∧ s.heap.get? l = some { cls := .type "list", data := .seq its.toArray n } := by
  obtain ⟨z, its, n, r, e⟩ := I.hok l _ hH
  exact ⟨z, its, n, r, r.length, e⟩
end
section
variable {X : Cx}
def rAppend : V → List V → Hp → VK → Prop := fun x vs H Q => ∃ l xs y, x = .ref l ∧ vs = [y] ∧ H l = some (.lst xs) ∧ xs.length < sizeLine ∧ Q .non (upd H l (.lst (xs ++ [y])))
theorem mt_append : MtM X "list.append" rAppend := by
  intro pins s σ H x vs v us Q I rx rv h
  obtain ⟨l, xs, y, rfl, rfl, hH, hz, q⟩ := h
  cases rx
  obtain ⟨u, rfl, ru⟩ := rv.one
  obtain ⟨z, its, n, r, hl, e⟩ := I.lstM hH
  refine call_meets F.slot_list_append ⟨_, e, rfl⟩ F.entry_list_append (F.args_list_append_2 _ _) (PySem.list_append l its.toArray n u (by rw [List.size_toArray]; omega)) ⟨e, ?_⟩
  refine ⟨.non, _, I.lset (its' := its ++ [u]) hH e (by simp) (r.append (.cons ru .nil)) ?_, rfl, q⟩
  rw [List.length_append, List.length_singleton]
  omega
def rCat : R2 := fun x y H Q => ∃ l b xs zs, x = .ref l ∧ y = .ref b ∧ H l = some (.lst xs) ∧ H b = some (.lst zs) ∧ xs.length + zs.length ≤ sizeLine ∧ ∀ p, H p = none → Q (.ref p) (upd H p (.lst (xs ++ zs)))
theorem op_cat : OpR X (binaryOp .Add) rCat := by
  intro pins s σ H x y v u Q I rx ry h
  obtain ⟨l, b, xs, zs, rfl, rfl, hH, hB, hz, q⟩ := h
  cases rx
  cases ry
  obtain ⟨z, its, n, r, hl, e⟩ := I.lstM hH
  obtain ⟨z2, its2, n2, r2, hl2, e2⟩ := I.lstM hB
  refine PySem.P.add_list e e2 ?_ (by rw [List.size_toArray, List.size_toArray]; omega)
  have ea : its.toArray ++ its2.toArray = (its ++ its2).toArray := by simp
  rw [ea]
  exact ⟨.ref _, _, I.lnew (t' := s.toks) (r.append r2) (by rw [List.length_append]; omega), rfl, q _ I.fresh⟩
end
section
variable {prog : Program} {w : World} {A : Around} {E : Value → Shared → Prop} {s : Shared}
set_option maxRecDepth 100000 in
end
section
variable {X : Cx}
end
end L2
namespace Att
open PySem PySem.W PySem.Calls PyProof.Rows
theorem ints_of_wellAll {P : Params} {h : Heap} : ∀ (ns : List Int) (vs : List Value), WellAll P h vs (ns.map WData.int) → IntsAre vs ns := by
  intro ns
  induction ns with
  | nil =>
    intro vs w
    rw [List.map_nil] at w
    cases w
    exact .nil
  | cons n ns ih =>
    intro vs w
    rw [List.map_cons] at w
    cases w with
    | cons a b =>
      cases a
      exact .cons _ _ (ih _ b)
theorem script_of {l : OpenLaw} {n : Nat} (hn : l.most = some n) {P : Params} {h : Heap} {args : List WData} {vals : List Value}
    (hpre : l.row.toRowW.claim.pre args = true) (hwl : WellAll P h vals args) :
    ∃ a vs ns, vals = [Value.ref a] ∧ args = [WData.list (ns.map WData.int)] ∧ h.get? a = some { cls := .type "list", data := .seq vs.toArray } ∧ IntsAre vs ns ∧ ns.length ≤ n := by
  have hsh : WShape.hasAll [] args [.list .int] = true := (pre_splitW hpre).1
  have hc : l.pre.holds [] { args := args } = true := (pre_splitW hpre).2
  obtain ⟨d, r, rfl, h1, h2⟩ := hasAllW_cons hsh
  obtain rfl := hasAllW_nil h2
  obtain ⟨xs, rfl, h3⟩ := hasW_list h1
  obtain ⟨ns, rfl⟩ := items_int h3
  have hlen : ns.length ≤ n := by
    unfold OpenLaw.pre at hc
    have h4 : (WTm.not (.lt (.lit (.int (n : Int))) (.len (.arg 0)))).holds [] { args := [.list (ns.map .int)] } = true := by
      have h4 := (holds_andW hc).1
      rw [hn] at h4
      exact h4
    have h5 := condW_of h4 (w_not (w_lt w_lit (w_len_list (w_arg rfl))))
    rw [List.length_map] at h5
    refine Nat.le_of_not_lt fun q => ?_
    have q' : (n : Int) < ((ns.length : Nat) : Int) := by omega
    first
      | (rw [decide_eq_true q'] at h5; exact absurd h5 (by decide))
      | (simp at h5; omega)
  cases hwl with
  | cons w1 w2 =>
    cases w2
    cases w1 with
    | list ho hall => exact ⟨_, _, ns, rfl, rfl, ho, ints_of_wellAll ns _ hall, hlen⟩
theorem post_true (l : OpenLaw) (args : List WData) : l.row.toRowW.claim.post args (.bool true) args = true :=
  postW_of (r := l.row.toRowW) (X := (true == true))
    (show WShape.has [] (.bool true) .bool = true by first | rfl | decide | simp [WShape.has, WShape.arms, WShape.armsAll])
    (show (WTm.eq .res (.lit (.bool true))).value [] { args := args, res := some (.bool true), after := args } = some (.bool (true == true)) from w_eq_bool (w_res rfl) w_lit) rfl
theorem attach_call {l : OpenLaw} {n : Nat} {q : Program} {loose : List Str} {XP : (Str → Option Value) → Heap → Prop} {YP : World → Heap → Prop} {d : DefRec}
    (hn : l.most = some n) (hdf : d.params.defaults = [])
    (call : ∀ (w : World) (s₀ s₁ : Shared) (mg mb : Str → Option Value) (fa : Addr) (o : Obj) (pm cd doc : Value) (a : Addr) (vs : List Value) (ns : List Int),
      Ground q loose [] XP w s₀ mg mb s₁.heap → YP w s₁.heap →
      s₁.heap.get? fa = some o → o.data = .func (docDef d.name d.params d.body d.scope pm cd doc) → s₁.heap.CodeRec cd d.name → mg d.name = some (.ref fa) →
      s₁.heap.get? a = some { cls := .type "list", data := .seq vs.toArray } → IntsAre vs ns → ns.length ≤ n → s₁.gens = #[] →
      codeAny (model l.prog w) callerA (.call (.ref fa) ⟨[.ref a], []⟩) (fun r s' => r = .ok (.ret (.bool true)) ∧ OldK s₁.heap s'.heap ∧ s'.os = s₁.os ∧ AllBare s'.gens) s₁) :
    WalkO q loose XP YP l.row.toRowW d [] (fun f vs => PySem.call f vs) := by
  intro w s₀ s₁ mg mb G Y fa o pm cd doc dV kV ho hd hcd hD hmg hg args vals as hpre hlay hrd hwl hlo
  obtain rfl : dV = .none := Dflts.none hD hdf
  obtain rfl : kV = .none := Dflts.noKw hD
  obtain ⟨a, vs, ns, rfl, rfl, hobj, hints, hlen⟩ := script_of hn hpre hwl
  refine enter_call (codeAny_mono (call w s₀ s₁ mg mb fa o pm cd doc a vs ns G Y ho (fd_plain hd) hcd hmg hobj hints hlen hg) fun r s' hq => ?_)
  obtain ⟨rfl, h2, h3, h4⟩ := hq
  exact ⟨.inl ⟨.bool true, .bool true, [], rfl, fun _ => rfl, .bool true, post_true l _, fun _ => ⟨List.Pairwise.nil, fun _ hm => (nomatch hm)⟩⟩, h2, h3, h4⟩
section
variable {prog : Program} {w : World} {A : Around} {E : Value → Shared → Prop} {s : Shared} {K : Frag}
end
end Att
namespace L2
open PySem PySem.Spec PyProof.Rows
theorem vals_ints : ∀ {vs : List Value} {ns : List Int}, IntsAre vs ns → Vals (ns.map V.int) vs
  | _, _, .nil => .nil
  | _, _, .cons n t h => .cons ⟨t, rfl⟩ (vals_ints h)
end L2
namespace L2
open PySem PySem.Spec PyProof.Rows
end L2
/- THE LAST THEOREM (shape; LID, My.* are yours):
   My.Adr: a structure of the addresses that your layer names (classes, functions); My.Txt K t: a structure (Prop) of the equations over K;
   My.txt_mk : {K} {implicit addresses ..} (e1 : nsIn K mainGlobals "law" = some (some (.ref f))) (e2 : K.lookup f = some ⟨oc, od, .func (fnOf "law" "law" params body scope dV kV doc pm an cdv ct), sl⟩) (e3 : codeIn K cdv "law" = true) .. : ∃ t, My.Txt K t
set_option maxRecDepth 100000 in
set_option maxHeartbeats 0 in
theorem PySem.Challenge.cw_LID_holds : PySem.Challenge.rw_LID.Holds := by
  w_on; o_law; k_head; (case hw => w_witness2)
  k_fill
  refine L2.walk_of (l := PySem.Challenge.rw_LID) (n := 63) (k := 40) (x := "script") (CX := fun w => ..) (sp := fun _ => My.sp_law) rfl (by decide) rfl ⟨rfl, by decide, by decide⟩ (fun w h Y => PySem.W.kIn_of Y) ?F ?S ?C
  case F =>
    intro w mg fa h KX G hmg
    have T : ∃ t, My.Txt (L2.KOf KX) t := by
      dsimp only [L2.KOf]                          -- K must stand as «<heap const> w.params» for k_is
      refine' My.txt_mk ?e1 ?e2 ?e3 ..
      (case e1 => PySem.W.k_is)                    -- in the order: a name -> its address -> its object -> its parts
      (case e2 => PySem.W.k_is)
      ..
    obtain ⟨t, T⟩ := T
    have e0 := hmg.symm.trans (PySem.W.mg_of KX G T.law)
    cases e0                                       -- fa is the law's own address
    exact ⟨_, fun s u => .of_eq rfl, fun base kb nb => My.law_fn T kb nb⟩     -- if «.of_eq rfl» comes too early: refine' ⟨_, ?b, fun base kb nb => My.law_fn T kb nb⟩; exact fun s u => .of_eq rfl
  case S => exact fun w H a ns hl hO hS => ..
  case C => exact ..
(the tactic k_is has no namespace: write k_is) -/
namespace L2
open PySem PySem.Spec PyProof.Rows
def inClass (s : Stmt) (j : Nat) : Stmt := match s with
  | .ClassDef _ _ _ body _ _ _ _ _ _ _ => body.getD j (.Pass ⟨0, 0, 0, 0⟩)
  | _ => .Pass ⟨0, 0, 0, 0⟩
def defArgs (s : Stmt) : Arguments := match s with
  | .FunctionDef _ a _ _ _ _ _ _ _ _ => a
  | _ => { posonlyargs := [], args := [], vararg := none, kwonlyargs := [], kw_defaults := [], kwarg := none, defaults := [] }
def defBody (s : Stmt) : List Stmt := match s with
  | .FunctionDef _ _ b _ _ _ _ _ _ _ => b
  | _ => []
def defScope (s : Stmt) : Scope := match s with
  | .FunctionDef _ _ _ _ _ _ sc _ _ _ => sc
  | _ => { kind := .function, names := [], isGenerator := false, isCoroutine := false }
abbrev CX0 : CXT := fun _ _ _ _ _ _ => False
abbrev E0 : XK := fun _ _ _ => False
theorem pass0 {X : Cx} : Passes CX0 X E0 := fun _ _ _ _ _ _ _ h => h.elim
section
variable {P : Program} {w : World} {K : PySem.W.Frag} {mg : Str → Option Value} {base : Heap}
end
theorem small1000 {n : Nat} (h : n ≤ 1000) : n < sizeLine := Nat.lt_of_le_of_lt h (by decide)
section
variable {X : Cx}
theorem pv (i : Nat) {x : Str} {pos : Pos} (hN : X.N[i]? = some x := by rfl) (hv : Vis X.env.scope x := by first | exact Or.inl rfl | exact Or.inr (Or.inl rfl) | exact Or.inr (Or.inr rfl)) (hd : (x == ("__debug__" : Str)) = false := by decide)
    (hcd : (x == ("__classdict__" : Str)) = false := by decide) : PE X (.Name x pos) (tVar i) := pe_var hN hv hd hcd
end
theorem ite2 {c A B : Prop} [Decidable c] (h1 : c → A) (h2 : ¬ c → B) : if c then A else B := by
  by_cases h : c
  · rw [if_pos h]
    exact h1 h
  · rw [if_neg h]
    exact h2 h
def Same (H H' : Hp) : Prop := ∀ b o, H b = some o → H' b = some o
theorem Same.refl (H : Hp) : Same H H := fun _ _ h => h
theorem Same.trans {H H1 H2 : Hp} (a : Same H H1) (b : Same H1 H2) : Same H H2 := fun c o h => b c o (a c o h)
theorem Same.seq {K : PySem.W.Frag} {H H' : Hp} {a : Addr} {xs : List V} (e : Same H H') (h : SqL K H a xs) : SqL K H' a xs := by
  rcases h with (h | ⟨o, h⟩) | h
  · exact .inl (.inl (e _ _ h))
  · exact .inl (.inr ⟨o, e _ _ h⟩)
  · exact .inr h
end L2
namespace L2
open PySem PySem.Spec PyProof.Rows
section
variable {X : Cx} {pins : List (Addr × Obj)} {σ : St} {H : Hp} {s : Shared} {D : Addr} {ys : List V}
theorem HOk.adds {P : Program} {w : World} {h : Heap} {o : HO} (x : HOk P w H h) (hn : H D = none) (new : ObjOk P w (upd H D o) h D o) : HOk P w (upd H D o) h := fun b u e => by
  by_cases hb : b = D
  · subst hb; rw [upd_same] at e; cases e; exact new
  · rw [upd_ne hb] at e
    exact (x b u e).stay (fun c v _ q => q) (fun c q => by rw [upd_ne (ne_of_none q hn)]; exact q) fun c xs q => by rw [upd_ne (ne_of_none q hn)]; exact q
theorem HOk.drops {P : Program} {w : World} {h : Heap} (x : HOk P w (upd H D (.lst ys)) h) (hn : H D = none) : HOk P w H h := fun b u e => by
  have hb : b ≠ D := ne_of_none e hn
  refine (x b u (by rw [upd_ne hb]; exact e)).stay (fun c v _ q => q) (fun c q => ?_) fun c xs q => ?_
  · by_cases hc : c = D
    · subst hc; rw [upd_same] at q; cases q
    · rw [upd_ne hc] at q; exact q
  · by_cases hc : c = D
    · subst hc; rw [upd_same] at q; cases q
    · rw [upd_ne hc] at q; exact q
theorem Inv.track {its : List Value} {n : Nat} (I : Inv X pins σ H s) (hn : H D = none) (e : s.heap.get? D = some { cls := .type "list", data := .seq its.toArray n }) (r : Vals ys its) (hz : ys.length ≤ sizeLine)
    (h0 : X.s₀.heap.objs.size ≤ D) (h1 : D ≠ X.env.locals) (h2 : ∀ x c, X.env.cells.lookup x = some c → c ≠ D) (h3 : ∀ p ∈ X.pn ++ pins, p.1 ≠ D) : Inv X pins σ (upd H D (.lst ys)) s where
  ok := I.ok
  os := I.os
  bare := I.bare
  base := by
    have lt : ∀ b o, X.s₀.heap.get? b = some o → b ≠ D := fun b o q => Nat.ne_of_lt (Nat.lt_of_lt_of_le (Heap.lt_size q) h0)
    refine ⟨I.base.keep, I.base.slot, fun b o q n' hx => ?_, I.base.there, fun b xs q => ?_, fun b o u q => ?_, fun b ps q => ?_⟩
    · rw [upd_ne (lt b o q)]; exact I.base.free b o q n' hx
    · have z := I.base.tups b xs q
      rw [upd_ne (ne_of_none z hn)]; exact z
    · have z := I.base.frzs b o u q
      rw [upd_ne (ne_of_none z hn)]; exact z
    · obtain ⟨more, z⟩ := I.base.tbls b ps q
      exact ⟨more, by rw [upd_ne (ne_of_none z hn)]; exact z⟩
  loc := I.loc
  cell := I.cell
  free := by rw [upd_ne (Ne.symm h1)]; exact I.free
  freeC := fun x c q => by rw [upd_ne (h2 x c q)]; exact I.freeC x c q
  pin := fun p hp => by
    obtain ⟨a, b, c⟩ := I.pin p hp
    exact ⟨a, by rw [upd_ne (h3 p hp)]; exact b, c⟩
  hok := I.hok.adds hn ⟨hz, its, n, r, e⟩
  len := I.len
theorem Inv.untrack (I : Inv X pins σ (upd H D (.lst ys)) s) (hn : H D = none) : Inv X pins σ H s where
  ok := I.ok
  os := I.os
  bare := I.bare
  base := by
    have low : ∀ b u, upd H D (.lst ys) b = some u → (∀ xs, u ≠ .lst xs) → H b = some u := fun b u q nl => by
      by_cases hb : b = D
      · subst hb; rw [upd_same] at q; cases q; exact absurd rfl (nl ys)
      · rw [upd_ne hb] at q; exact q
    refine ⟨I.base.keep, I.base.slot, fun b o q n' hx => ?_, I.base.there, fun b xs q => ?_, fun b o u q => ?_, fun b ps q => ?_⟩
    · have z := I.base.free b o q n' hx
      by_cases hb : b = D
      · subst hb; exact hn
      · rw [upd_ne hb] at z; exact z
    · exact low _ _ (I.base.tups b xs q) (fun _ z => by cases z)
    · exact low _ _ (I.base.frzs b o u q) (fun _ z => by cases z)
    · obtain ⟨more, z⟩ := I.base.tbls b ps q
      exact ⟨more, low _ _ z (fun _ z => by cases z)⟩
  loc := I.loc
  cell := I.cell
  free := by
    have z := I.free
    by_cases hb : X.env.locals = D
    · rw [hb]; exact hn
    · rw [upd_ne hb] at z; exact z
  freeC := fun x c q => by
    have z := I.freeC x c q
    by_cases hb : c = D
    · rw [hb]; exact hn
    · rw [upd_ne hb] at z; exact z
  pin := fun p hp => by
    obtain ⟨a, b, c⟩ := I.pin p hp
    refine ⟨a, ?_, c⟩
    by_cases hb : p.1 = D
    · rw [hb]; exact hn
    · rw [upd_ne hb] at b; exact b
  hok := I.hok.drops hn
  len := I.len
end
def blockCx (X : Cx) (scope : Scope) (cl : List (Str × Addr)) (N : List Str) (C : Addr) (s0 : Shared) (H0 : Hp) (fp : List Addr) : Cx where
  prog := X.prog
  w := X.w
  K := X.K
  mg := X.mg
  base := X.base
  A := X.A
  N := N
  s₀ := s0
  H₀ := H0
  env := compEnvC scope cl C X.env
  outer := X.stack
  stack := X.stack
  ex := fp
  fn := fun _ => false
  calm := X.calm
  pn := []
  xe := fun _ _ => False
structure Blk (X : Cx) (scope : Scope) (cl : List (Str × Addr)) (N : List Str) (nl : Nat) (ci : List Nat) : Prop where
  kind : scope.kind = .function
  names : ∀ y ∈ scope.names, y.2 = .local → scope.names.lookup y.1 = some .local
  nocell : ∀ y ∈ scope.names, y.2 ≠ .cell
  clos : closureFor scope X.env = pure cl
  sub : ∀ n c, cl.lookup n = some c → X.env.cells.lookup n = some c
  has : ∀ n, ((relabel scope X.env).names.lookup n = some .cell ∨ (relabel scope X.env).names.lookup n = some .free) → ∃ c, cl.lookup n = some c
  len : N.length = nl + ci.length
  cap : ∀ (j i : Nat), ci[j]? = some i → ∃ n, N[nl + j]? = some n ∧ X.N[i]? = some n ∧ (X.env.scope.names.lookup n = some .cell ∨ X.env.scope.names.lookup n = some .free) ∧
    ((relabel scope X.env).names.lookup n = some .cell ∨ (relabel scope X.env).names.lookup n = some .free) ∧ cl.lookup n = X.env.cells.lookup n
def capSt (nl : Nat) (ci : List Nat) (σ : St) : St := List.replicate nl none ++ ci.map fun i => (σ[i]?).join
theorem capSt_get {nl : Nat} {ci : List Nat} {σ : St} {k : Nat} {v : V} (h : (capSt nl ci σ)[k]? = some (some v)) : ∃ j i, k = nl + j ∧ ci[j]? = some i ∧ σ[i]? = some (some v) := by
  unfold capSt at h
  by_cases hk : k < nl
  · rw [List.getElem?_append_left (by simpa using hk), List.getElem?_replicate] at h
    split at h <;> cases h
  · rw [List.getElem?_append_right (by simpa using hk), List.length_replicate, List.getElem?_map] at h
    cases e : ci[k - nl]? with
    | none => rw [e] at h; cases h
    | some i =>
      rw [e] at h
      have h' : (σ[i]?).join = some v := by simpa using h
      refine ⟨k - nl, i, by omega, e, ?_⟩
      cases q : σ[i]? with
      | none => rw [q] at h'; cases h'
      | some o => rw [q] at h'; simp at h'; rw [h']
theorem capSt_length {nl : Nat} {ci : List Nat} {σ : St} : (capSt nl ci σ).length = nl + ci.length := by unfold capSt; simp
section
variable {X : Cx} {scope : Scope} {cl : List (Str × Addr)} {N : List Str} {nl : Nat} {ci : List Nat} {pins : List (Addr × Obj)} {σ : St} {H2 : Hp} {s2 : Shared} {fp : List Addr}
theorem block_start (B : Blk X scope cl N nl ci) (I : Inv X pins σ H2 s2) (f2 : ∀ b ∈ fp, FpOk X pins H2 b) (fo : ∀ b ∈ fp, ∃ o, s2.heap.get? b = some o) {C : Addr} {h4 : Heap} {t4 : Nat} {m4 : Str → Option Value} (hC : s2.heap.objs.size ≤ C) (hns : h4.Ns C m4)
    (hk : ∀ b o, s2.heap.get? b = some o → h4.get? b = some o) : Inv (blockCx X scope cl N C s2 H2 fp) [] (capSt nl ci σ) H2 { s2 with heap := h4, toks := t4 } := by
  have lt2 : ∀ b ∈ fp, b < s2.heap.objs.size := fun b hb => by obtain ⟨o, e⟩ := fo b hb; exact Heap.lt_size e
  have ok : (blockCx X scope cl N C s2 H2 fp).Ok := by
    refine ⟨I.ok.mod, B.kind, I.ok.glob, I.ok.blt, hC, fun x y c h1 h2 => I.ok.inj x y c (B.sub x c h1) (B.sub y c h2), fun x hx => B.has x hx, fun x c hf _ => (by cases hf), I.ok.hd, I.ok.frames, .inl rfl, fun b hb => ⟨?_, ?_⟩, I.bs, ?_, fun b o e hb => ?_, fun b hb z => ?_, I.stack, I.stkFree⟩
    · exact Nat.ne_of_lt (Nat.lt_of_lt_of_le (lt2 b hb) hC)
    · exact fun x c h => (f2 b hb).2.2.2.2.1 x c (B.sub x c h)
    · exact Nat.le_trans I.ok.bsz I.sz
    · rcases (f2 b hb).2.2.2.1 with z | z
      · exact I.ok.noex b o e z
      · exact absurd (Nat.lt_of_lt_of_le (Heap.lt_size e) (Nat.le_trans I.ok.bsz z)) (Nat.lt_irrefl _)
    · rcases List.mem_cons.mp (I.stkSub b z) with q | q
      · exact (f2 b hb).2.1 q
      · exact (f2 b hb).2.2.1 q
  refine ⟨ok, rfl, I.bare, Un.kept hk, ⟨m4, hns, fun k x v e1 e2 e3 => ?_⟩, fun x c e => ?_, I.hok.fresh hC, fun x c e => I.freeC x c (B.sub x c e), fun p hp => (by cases hp), I.hok.kept hk, ?_⟩
  · obtain ⟨j, i, rfl, hj, hσ⟩ := capSt_get e2
    obtain ⟨n, hn1, hn2, hk1, hk2, hl⟩ := B.cap j i hj
    have en : x = n := by
      have e1' : N[nl + j]? = some x := e1
      rw [hn1] at e1'; exact (Option.some.inj e1').symm
    subst en
    obtain ⟨m, hm, hloc⟩ := I.loc
    have vis : Vis X.env.scope x := .inr hk1
    obtain ⟨u, ru, lk⟩ := hloc i x v hn2 hσ vis
    refine ⟨u, ru, .inr ⟨hk2, ?_⟩⟩
    rcases lk with ⟨kl, _⟩ | ⟨_, c, ec, hc⟩
    · have kl' : X.env.scope.names.lookup x = some .local := kl
      rcases hk1 with z | z <;> · rw [z] at kl'; cases kl'
    · refine ⟨c, hl.trans ec, ?_⟩
      obtain ⟨o, ho, hd⟩ := hc
      exact ⟨o, hk _ _ ho, hd⟩
  · obtain ⟨v, o, ho, hd⟩ := I.cell x c (B.sub x c e)
    exact ⟨v, o, hk _ _ ho, hd⟩
  · show (capSt nl ci σ).length = N.length
    rw [capSt_length, B.len]
theorem block_end {C : Addr} {σ' : St} {H' : Hp} {s' : Shared} {pb : List (Addr × Obj)} (I : Inv X pins σ H2 s2) (f2 : ∀ b ∈ fp, FpOk X pins H2 b) (J : Inv (blockCx X scope cl N C s2 H2 fp) pb σ' H' s') : Inv X pins σ H' s' :=
  I.call' J.os J.base J.hok J.bare fun b hb => ⟨(f2 b hb).2.2.2.1, (f2 b hb).2.1, (f2 b hb).2.2.2.2.1, (f2 b hb).2.2.2.2.2⟩
end
section
variable {prog : Program} {w : World} {A : Around} {R : Result → Shared → Prop} {s : Shared}
theorem compLoop_go {elt target iter : Expr} {ifs : List Expr} {scope : Scope} {pos : Pos} {it acc : Value} {env : Env} (I : Nat → Shared → Prop)
    (turn : ∀ n s, I n s → wpAny (model prog w) A (pyNext it) (fun r s₁ => match r with
      | none => R (.ok .next) s₁
      | some v => wpAny (model prog w) A (letOwnedTupleGo target it v) (fun _ s₁' => wpAny (model prog w) A (assign target env v) (fun _ s₂ =>
          wpAny (model prog w) A (forIn ifs true fun c r => if r = true then do let ok ← isTrue c env (eval c env); pure (ForInStep.yield ok) else pure (ForInStep.yield r)) (fun ok s₃ =>
            if ok = true then wpAny (model prog w) A (eval elt env) (fun x s₄ =>
              wpAny (model prog w) A (call (.builtin "list.append") [acc, x]) (fun _ s₅ => ∃ m, m < n ∧ I m s₅) (notedBy (model prog w) A env fun e s' => R (.error e) s') s₄) (notedBy (model prog w) A env fun e s' => R (.error e) s') s₃
            else ∃ m, m < n ∧ I m s₃) (notedBy (model prog w) A env fun e s' => R (.error e) s') s₂) (notedBy (model prog w) A env fun e s' => R (.error e) s') s₁') (notedBy (model prog w) A env fun e s' => R (.error e) s') s₁) (notedBy (model prog w) A env fun e s' => R (.error e) s') s)
    (n : Nat) (h : I n s) :
    codeAny (model prog w) A (.compLoop (.ListComp elt [⟨target, iter, ifs, 0⟩] scope pos) 0 it acc env) R s := by
  refine codeAny_loop rfl I (fun n s hI => ?_) n h
  show wpAny _ A ((compTurn (.ListComp elt [⟨target, iter, ifs, 0⟩] scope pos) 0 it acc env).onRaise (fun x => do noteFrame x env; theTreesLotGoes x)) _ _ s
  refine wpAny_noted ?_
  rw [compTurn_list]
  refine wpAny_bind (wpAny_standAt (wpAny_bind (wpAny_mono (turn n s hI) (fun r s₁ h₁ => ?_) fun _ _ h' => h')))
  cases r with
  | none => exact wpAny_pure h₁
  | some v =>
    refine wpAny_bind (wpAny_mono h₁ (fun _ s₁' h₁' => ?_) fun _ _ h' => h')
    refine wpAny_bind (wpAny_mono h₁' (fun _ s₂ h₂ => wpAny_bind (wpAny_mono h₂ (fun ok s₃ h₃ => ?_) fun _ _ h' => h')) fun _ _ h' => h')
    cases ok with
    | false => exact wpAny_pure ⟨rfl, h₃⟩
    | true =>
      exact wpAny_bind (wpAny_bind (wpAny_mono h₃ (fun x s₄ h₄ => wpAny_bind (wpAny_mono h₄ (fun _ s₅ h₅ => wpAny_pure (wpAny_pure ⟨rfl, h₅⟩)) fun _ _ h' => h')) fun _ _ h' => h'))
end
def PF (X : Cx) (ifs : List Expr) (t : TT) : Prop :=
  ∀ (pins : List (Addr × Obj)) (s : Shared) (σ : St) (H : Hp) (Q : Bool → Hp → Prop), Inv X pins σ H s → t σ H Q →
    wpAny (model X.prog X.w) X.A (forIn ifs true fun c r => if r = true then do let ok ← isTrue c X.env (eval c X.env); pure (ForInStep.yield ok) else pure (ForInStep.yield r)) (TP X pins σ Q) X.xe s
def tAll : TT := fun _ H Q => Q true H
theorem pf_nil {X : Cx} : PF X [] tAll := fun _ _ _ H _ I h => wpAny_tests_nil ⟨H, I, h⟩
theorem pf_one {X : Cx} {c : Expr} {t : TT} (h : PT X c t) : PF X [c] t := fun pins s σ H Q I q => wpAny_tests_one (h pins s σ H Q I q)
def tCompW (J : It) (g : TG) (ti : TT) (te : TE) (σ0 : St) (fin : List V → Hp → Prop) (H1 : Hp) : Prop :=
  ∃ W : Nat → Nat → List V → Hp → Prop, (∃ m, W 0 m [] H1) ∧ ∀ i m ys H, W i m ys H →
    (J.stop i H ∧ fin ys H) ∨
    (J.go i H ∧ ∀ x H', J.yld i H x H' → g x σ0 H' fun σ2 H2 => (σ2.length = σ0.length ∧ ∀ (j : Nat) v, σ0[j]? = some (some v) → σ2[j]? = some (some v)) ∧
      ti σ2 H2 fun b H3 => if b = true then te σ2 H3 fun y H4 => ys.length < sizeLine ∧ ∃ m', m' < m ∧ W (i + 1) m' (ys ++ [y]) H4 else ∃ m', m' < m ∧ W (i + 1) m' ys H3)
def tComp (wi : TI) (nl : Nat) (ci : List Nat) (g : TG) (ti : TT) (te : TE) : TE := fun σ H Q =>
  wi σ H fun J H1 => tCompW J g ti te (capSt nl ci σ) (fun ys H' => ∀ p, H' p = none → Q (.ref p) (upd H' p (.lst ys))) H1
section
variable {X : Cx} {scope : Scope} {cl : List (Str × Addr)} {N : List Str} {nl : Nat} {ci : List Nat} {tg elt iter : Expr} {ifs : List Expr} {pos : Pos} {wi : TI} {g : TG} {ti : TT} {te : TE}
theorem block_run {pins : List (Addr × Obj)} {σ : St} {H2 : Hp} {s2 : Shared} {fp : List Addr} {it : Addr} {J : It} {tn : Nat → Heap → Prop} {E : Value → Shared → Prop} {RR : Value → Addr → Result → Shared → Prop} {fin : List V → Hp → Prop}
    (hc : X.calm = true) (B : Blk X scope cl N nl ci) (hg : ∀ C s0 H0 fp, PG (blockCx X scope cl N C s0 H0 fp) tg g) (hi : ∀ C s0 H0 fp, PF (blockCx X scope cl N C s0 H0 fp) ifs ti) (he : ∀ C s0 H0 fp, PE (blockCx X scope cl N C s0 H0 fp) elt te)
    (I2 : Inv X pins σ H2 s2) (T : Turn X.prog X.w X.K tg J fp it tn) (st2 : tn 0 s2.heap) (f2 : ∀ b ∈ fp, FpOk X pins H2 b) (hW : tCompW J g ti te (capSt nl ci σ) fin H2)
    (hfin : ∀ (D C : Addr) (s' : Shared) (H' : Hp) (ys : List V) (oC : Obj) (m : Str → Option Value), H' D = none → Inv X (pins ++ [(C, oC)]) σ (upd H' D (.lst ys)) s' → s'.heap.Ns C m → s2.heap.objs.size ≤ C → fin ys H' → RR (.ref D) C (.ok .next) s') :
    wpAny (model X.prog X.w) X.A (newList []) (fun acc s₃ => wpAny (model X.prog X.w) X.A (newFunctionEnv scope X.env.globals cl [] X.env.qual none .none (some X.env)) (fun cenv s₄ =>
      codeAny (model X.prog X.w) X.A (.compStart (.ListComp elt [⟨tg, iter, ifs, 0⟩] scope pos) 0 (.ref it) acc { cenv with scope := relabel scope X.env }) (RR acc cenv.locals) s₄) E s₃) E s2 := by
  obtain ⟨W, ⟨m0, w0⟩, turn⟩ := hW
  refine wpAny_newObj_type (wpAny_newFunctionEnv B.nocell (by intro y hy; simp at hy) (fun h1 hns1 hsb1 => ?_) B.kind)
  dsimp only at hns1 hsb1 ⊢
  generalize hH2 : s2.heap.push { cls := .type "list", dict := none, data := .seq ([] : List Value).toArray } = G2 at hns1 hsb1 ⊢
  have hCs : G2.objs.size = s2.heap.objs.size + 1 := by rw [← hH2, Heap.size_push]
  generalize hCe : G2.objs.size = C at hns1 hsb1 hCs ⊢
  have hDC : s2.heap.objs.size ≠ C := by rw [hCs]; exact Nat.ne_of_lt (Nat.lt_succ_self _)
  have hCle : s2.heap.objs.size ≤ C := by rw [hCs]; exact Nat.le_succ _
  have old : ∀ b o, s2.heap.get? b = some o → h1.get? b = some o := fun b o e => hsb1.extBut b o (by rw [hCs]; exact Nat.ne_of_lt (Nat.lt_succ_of_lt (Heap.lt_size e))) (Heap.get?_push_of_some _ (hH2 ▸ Heap.get?_push_of_some _ e))
  have hacc : h1.get? s2.heap.objs.size = some { cls := .type "list", data := .seq ([] : List Value).toArray 0 } := hsb1.extBut _ _ hDC (Heap.get?_push_of_some _ (hH2 ▸ Heap.get?_push_size _ rfl))
  have fo : ∀ b ∈ fp, ∃ o, s2.heap.get? b = some o := fun b hb => let ⟨o, e, _⟩ := T.obj 0 _ st2 b hb; ⟨o, e⟩
  have lt2 : ∀ b ∈ fp, b < s2.heap.objs.size := fun b hb => let ⟨o, e⟩ := fo b hb; Heap.lt_size e
  have hDfp : s2.heap.objs.size ∉ fp := fun z => Nat.lt_irrefl _ (lt2 _ z)
  have hCfp : C ∉ fp := fun z => Nat.lt_irrefl _ (Nat.lt_of_lt_of_le (lt2 _ z) hCle)
  generalize hDe : s2.heap.objs.size = D at hCs hDC hCle hacc hDfp lt2
  have loop : ∀ s3 : Shared, s3 = { s2 with heap := h1, toks := s2.toks + ([] : List (Str × Value)).length } →
      codeAny (model X.prog X.w) X.A (.compLoop (.ListComp elt [⟨tg, iter, ifs, 0⟩] scope pos) 0 (.ref it) (.ref D) (compEnvC scope cl C X.env)) (RR (.ref D) C) s3 := by
    rintro s3 rfl
    have I4 : Inv (blockCx X scope cl N C s2 H2 fp) [] (capSt nl ci σ) H2 { s2 with heap := h1, toks := s2.toks + ([] : List (Str × Value)).length } := block_start B I2 f2 fo (by rw [hDe]; exact hCle) hns1 old
    have fpk : ∀ {H' : Hp}, (∀ b ∈ fp, H' b = none) → ∀ b ∈ fp, FpOk (blockCx X scope cl N C s2 H2 fp) [] H' b := fun hn b hb =>
      ⟨hn b hb, (I4.ok.exf b hb).1, I4.ok.exfs b hb, .inl hb, (I4.ok.exf b hb).2, fun p hp => by cases hp⟩
    have hDX : ∀ x c, (blockCx X scope cl N C s2 H2 fp).env.cells.lookup x = some c → c ≠ D := fun x c e => by
      obtain ⟨v, o, ho, _⟩ := I2.cell x c (B.sub x c e)
      rw [← hDe]; exact Nat.ne_of_lt (Heap.lt_size ho)
    have hDL : D ≠ (blockCx X scope cl N C s2 H2 fp).env.locals := hDC
    have hDf : D ∉ (blockCx X scope cl N C s2 H2 fp).fs := fun z => by
      rcases List.mem_cons.mp (I2.stkSub D z) with q | q
      · exact Nat.lt_irrefl _ (by have := I2.lt; rw [hDe, ← q] at this; exact this)
      · exact I2.nofs (by rw [hDe]; exact Nat.le_refl _) q
    refine compLoop_go (fun n s' => ∃ i ys its k H', W i n ys H' ∧ Inv (blockCx X scope cl N C s2 H2 fp) [] (capSt nl ci σ) H' s' ∧ tn i s'.heap ∧ (∀ b ∈ fp, H' b = none) ∧ H' D = none ∧
      s'.heap.get? D = some { cls := .type "list", data := .seq its.toArray k } ∧ Vals ys its ∧ ys.length ≤ sizeLine) ?_ m0 ?_
    · rintro n s' ⟨i, ys, its, k, H', w', I', st', fr', hD', eD, rv, hz⟩
      have IP : Inv (blockCx X scope cl N C s2 H2 fp) [(D, { cls := .type "list", data := .seq its.toArray k })] (capSt nl ci σ) H' s' := I'.pins_of fun p hp => by
        obtain rfl : p = _ := by simpa using hp
        exact ⟨eD, hD', hDL, hDf, fun v z => by cases z⟩
      have fpD : ∀ {H'' : Hp}, (∀ b ∈ fp, H'' b = none) → ∀ b ∈ fp, FpOk (blockCx X scope cl N C s2 H2 fp) [(D, { cls := .type "list", data := .seq its.toArray k })] H'' b := fun hn b hb =>
        ⟨hn b hb, (I4.ok.exf b hb).1, I4.ok.exfs b hb, .inl hb, (I4.ok.exf b hb).2, fun p hp => by
          obtain rfl : p = _ := by simpa [blockCx] using hp
          exact fun z => hDfp ((show D = b from z) ▸ hb)⟩
      rcases turn i n ys H' w' with ⟨stop, q⟩ | ⟨go, step⟩
      · refine thn (T.done (blockCx X scope cl N C s2 H2 fp) rfl rfl rfl hc i _ s' (capSt nl ci σ) H' _ IP (fpD fr') st' stop) fun r s'' ⟨hr, I''⟩ => ?_
        subst hr
        have eD2 := (I''.pin (D, _) (List.mem_append_right _ List.mem_cons_self)).1
        have J1 : Inv (blockCx X scope cl N C s2 H2 fp) [] (capSt nl ci σ) (upd H' D (.lst ys)) s'' :=
          (I''.pins_of (pins' := []) fun p hp => by cases hp).track hD' eD2 rv hz (by show s2.heap.objs.size ≤ D; rw [hDe]; exact Nat.le_refl _) hDL hDX fun p hp => by cases hp
        have K1 : Inv X pins σ (upd H' D (.lst ys)) s'' := block_end I2 f2 J1
        obtain ⟨mC, nsC, _⟩ := J1.loc
        obtain ⟨oC, es, ep, hoC, hdC, rC⟩ := id nsC
        refine hfin D C s'' H' ys oC mC hD' (K1.pins_of fun p hp => ?_) nsC (by rw [hDe]; exact hCle) q
        rcases List.mem_append.mp hp with hp | hp
        · exact K1.pin p (List.mem_append_right _ hp)
        · obtain rfl : p = (C, oC) := by simpa using hp
          refine ⟨hoC, J1.free, Nat.ne_of_gt (Nat.lt_of_lt_of_le I2.lt (by rw [hDe]; exact hCle)), I2.nofs (by rw [hDe]; exact hCle), fun v z => ?_⟩
          rw [hdC] at z; cases z
      · refine thn (T.item (blockCx X scope cl N C s2 H2 fp) rfl rfl rfl hc i _ s' (capSt nl ci σ) H' _ IP (fpD fr') st' go) fun r s4 ⟨u, hr, h4⟩ => ?_
        subst hr
        refine thn h4 fun _ s5 ⟨x, H5, I5, r5, y5, st5, fr5⟩ => ?_
        have I5' := I5.pinned (fpD fr5) (T.obj _ _ st5)
        refine wpAny_mono (hg C s2 H2 fp _ s5 (capSt nl ci σ) H5 x u _ I5' r5 (step x H5 y5)) (fun _ s6 ⟨σ6, H6, I6, ⟨hl6, hk6⟩, q6⟩ => ?_) fun _ _ f => f.elim
        refine wpAny_mono (hi C s2 H2 fp _ s6 σ6 H6 _ I6 q6) (fun b s7 ⟨H7, I7, q7⟩ => ?_) fun _ _ f => f.elim
        have pinD : ∀ {pp : List (Addr × Obj)} {σx : St} {Hx : Hp} {sx : Shared}, Inv (blockCx X scope cl N C s2 H2 fp) ([(D, ({ cls := .type "list", data := .seq its.toArray k } : Obj))] ++ pinsAt fp s5.heap) σx Hx sx →
            sx.heap.get? D = some { cls := .type "list", data := .seq its.toArray k } ∧ Hx D = none ∧ tn (i + 1) sx.heap ∧ (∀ b ∈ fp, Hx b = none) := fun {pp σx Hx sx} Ix => by
          refine ⟨(Ix.pin (D, _) (List.mem_append_right _ (List.mem_append_left _ List.mem_cons_self))).1, (Ix.pin (D, _) (List.mem_append_right _ (List.mem_append_left _ List.mem_cons_self))).2.1, T.keep _ _ _ st5 fun b hb o e => (Ix.pin (b, o) (List.mem_append_right _ (List.mem_append_right _ (mem_pinsAt hb e)))).1, fun b hb => ?_⟩
          obtain ⟨o, e, d⟩ := T.obj _ _ st5 b hb
          exact (Ix.pin (b, o) (List.mem_append_right _ (List.mem_append_right _ (mem_pinsAt hb e)))).2.1
        cases b with
        | false =>
          rw [if_neg Bool.false_ne_true] at q7 ⊢
          obtain ⟨m', hm', w7⟩ := q7
          obtain ⟨e7, n7, st7, fr7⟩ := pinD (pp := []) I7
          exact ⟨m', hm', i + 1, ys, its, k, H7, w7, (I7.pins_of (pins' := []) fun p hp => by cases hp).weak hl6.symm hk6, st7, fr7, n7, e7, rv, hz⟩
        | true =>
          rw [if_pos rfl] at q7 ⊢
          refine wpAny_mono (he C s2 H2 fp _ s7 σ6 H7 _ I7 q7) (fun y' s8 ⟨y, H8, I8, r8, hlt, m', hm', w8⟩ => ?_) fun _ _ f => f.elim
          obtain ⟨e8, n8, st8, fr8⟩ := pinD (pp := []) I8
          have I8f : Inv (blockCx X scope cl N C s2 H2 fp) (pinsAt fp s5.heap) σ6 H8 s8 := I8.pins_of fun p hp => I8.pin p (List.mem_append_right _ (List.mem_append_right _ hp))
          have I8t := I8f.track n8 e8 rv hz (by show s2.heap.objs.size ≤ D; rw [hDe]; exact Nat.le_refl _) hDL hDX fun p hp => by
            have hp' : p ∈ pinsAt fp s5.heap := by simpa [blockCx] using hp
            exact fun z => hDfp (z ▸ (of_pinsAt hp').1)
          refine wpAny_mono (mt_append (X := blockCx X scope cl N C s2 H2 fp) (pinsAt fp s5.heap) s8 σ6 _ (.ref D) [y] (.ref D) [y'] (fun _ H9 => H9 = upd H8 D (.lst (ys ++ [y]))) I8t rfl (.cons r8 .nil)
            ⟨D, ys, y, rfl, rfl, upd_same, hlt, upd_upd⟩) (fun _ s9 ⟨_, H9, I9, _, e9⟩ => ?_) fun _ _ f => f.elim
          subst e9
          obtain ⟨hz9, its9, k9, rv9, e9⟩ := I9.hok D _ upd_same
          have I9u := I9.untrack n8
          refine ⟨m', hm', i + 1, ys ++ [y], its9, k9, H8, w8, (I9u.pins_of (pins' := []) fun p hp => by cases hp).weak hl6.symm hk6, ?_, fr8, n8, e9, rv9, hz9⟩
          exact T.keep _ _ _ st5 fun b hb o e => (I9u.pin (b, o) (List.mem_append_right _ (mem_pinsAt hb e))).1
    · exact ⟨0, [], [], 0, H2, w0, I4, T.keep _ _ _ st2 fun b hb o e => old b o e, fun b hb => (f2 b hb).1, I2.hok.fresh (by rw [hDe]; exact Nat.le_refl _), hacc, .nil, Nat.zero_le _⟩
  exact codeAny_compStart_list (loop _ rfl) (T.self _ 0 _ _ _ (T.keep _ _ _ st2 fun b hb o e => old b o e) (loop _ rfl))
theorem pe_comp (hc : X.calm = true) (B : Blk X scope cl N nl ci) (hp : PI X tg iter wi) (hg : ∀ C s0 H0 fp, PG (blockCx X scope cl N C s0 H0 fp) tg g) (hi : ∀ C s0 H0 fp, PF (blockCx X scope cl N C s0 H0 fp) ifs ti)
    (he : ∀ C s0 H0 fp, PE (blockCx X scope cl N C s0 H0 fp) elt te) (hs : ∀ x, foldedSetIterable iter X.env x = pure x := by intro _; rfl) : PE X (.ListComp elt [⟨tg, iter, ifs, 0⟩] scope pos) (tComp wi nl ci g ti te) := by
  intro pins s σ H Q I h
  rw [eval_ListComp]
  refine wpAny_comprehension_free (use := none) rfl hs B.clos B.kind B.names (thn (hp pins s σ H _ I h) fun v s1 h1 => thn h1 fun itv s2 h2 => ?_)
  obtain ⟨it, fp, tn, J, H2, e, I2, T, st2, f2, hW⟩ := h2
  subst e
  refine block_run (RR := fun acc C => compPost (model X.prog X.w) X.A X.xe none (EP X pins σ Q) acc C) hc B hg hi he I2 T st2 f2 hW ?_
  intro D C s' H' ys oC m hD K1 hn hC q
  refine ⟨m, hn, fun h' hs' => ?_⟩
  have hL : C ≠ X.env.locals := (K1.pin (C, oC) (by simp)).2.2.1
  have I9 : Inv X pins σ (upd H' D (.lst ys)) { s' with heap := h', toks := s'.toks } := K1.unpinned.turned (t' := s'.toks) (it := C) (fun b o hb e => hs'.extBut b o hb e) (K1.pin (C, oC) (by simp)).2.1 hL (.inr (Nat.le_trans I2.sz hC)) (fun x c e z => ?_) fun p hp z => ?_
  · exact ⟨.ref D, _, I9, rfl, q D hD⟩
  · obtain ⟨v, o, ho, _⟩ := I2.cell x c e
    exact absurd (Nat.lt_of_lt_of_le (Heap.lt_size ho) (z ▸ hC)) (Nat.lt_irrefl _)
  · exact absurd (Nat.lt_of_lt_of_le (Heap.lt_size (I2.pin p hp).1) (z ▸ hC)) (Nat.lt_irrefl _)
theorem ps_setComp {i : Nat} {x : Str} {pos' spos : Pos} (hN : X.N.Nodup) (hix : X.N[i]? = some x) (hx : Loc X.env.scope x) (hc : X.calm = true) (B : Blk X scope cl N nl ci) (hp : PI X tg iter wi) (hg : ∀ C s0 H0 fp, PG (blockCx X scope cl N C s0 H0 fp) tg g)
    (hi : ∀ C s0 H0 fp, PF (blockCx X scope cl N C s0 H0 fp) ifs ti) (he : ∀ C s0 H0 fp, PE (blockCx X scope cl N C s0 H0 fp) elt te)
    (hsw : swapsWith (.ListComp elt [⟨tg, iter, ifs, 0⟩] scope pos) (some (.Name x pos')) spos.line X.env = pure true := by rfl) (hs : ∀ x, foldedSetIterable iter X.env x = pure x := by intro _; rfl)
    (hf : X.fn x = true ∨ X.env.scope.names.lookup x = some .local := by first | exact .inl rfl | exact .inr rfl | assumption) :
    PS X (.Assign [.Name x pos'] (.ListComp elt [⟨tg, iter, ifs, 0⟩] scope pos) spos) (tAsg (tComp wi nl ci g ti te) (gName i)) := by
  intro pins s σ H D I h
  rw [exec_Assign_Name_used _ _ _ _ hsw]
  refine wpAny_bind (wpAny_standAt (wpAny_bind ?_))
  show wpAny _ X.A (do let _ ← comprehension (.ListComp elt [⟨tg, iter, ifs, 0⟩] scope pos) scope X.env _ (newList []) false (eval iter X.env) (some (assign (.Name x pos') X.env))) _ _ s
  refine wpAny_bind (wpAny_mono (wpAny_comprehension_free (use := some (assign (.Name x pos') X.env)) (Q := fun _ s' => SP X pins D .next s') rfl hs B.clos B.kind B.names
    (thn (hp pins s σ H _ I h) fun v s1 h1 => thn h1 fun itv s2 h2 => ?_)) (fun _ s' hq => wpAny_pure (wpAny_pure hq)) fun _ _ e => e)
  obtain ⟨it, fp, tn, J, H2, e, I2, T, st2, f2, hW⟩ := h2
  subst e
  refine block_run (RR := fun acc C => compPost (model X.prog X.w) X.A X.xe (some (assign (.Name x pos') X.env)) (fun _ s' => SP X pins D .next s') acc C) hc B hg hi he I2 T st2 f2 hW ?_
  intro Dd C s' H' ys oC m hD K1 hn hC q
  show wpAny _ X.A (assign (.Name x pos') X.env (.ref Dd)) _ _ _
  refine thn (pg_name (i := i) hN hix hx hf (pins ++ [(C, oC)]) s' σ (upd H' Dd (.lst ys)) (.ref Dd) (.ref Dd) (fun σ' H'' => D.nx σ' H'') K1 rfl (q Dd hD)) fun _ s'' ⟨σ', H'', K2, q2⟩ => ?_
  have eC := K2.pin (C, oC) (by simp)
  obtain ⟨oC', es, ep, hoC, hdC, rC⟩ := id hn
  have eo : oC' = oC := by
    have := (K1.pin (C, oC) (by simp)).1
    rw [hoC] at this; exact Option.some.inj this
  subst eo
  refine ⟨m, ⟨oC', es, ep, eC.1, hdC, rC⟩, fun h' hs' => ?_⟩
  have hL : C ≠ X.env.locals := eC.2.2.1
  have I9 : Inv X pins σ' H'' { s'' with heap := h', toks := s''.toks } := K2.unpinned.turned (t' := s''.toks) (it := C) (fun b o hb e => hs'.extBut b o hb e) eC.2.1 hL (.inr (Nat.le_trans I2.sz hC)) (fun x c e z => ?_) fun p hp z => ?_
  · exact ⟨σ', H'', I9, q2⟩
  · obtain ⟨v, o, ho, _⟩ := I2.cell x c e
    exact absurd (Nat.lt_of_lt_of_le (Heap.lt_size ho) (z ▸ hC)) (Nat.lt_irrefl _)
  · exact absurd (Nat.lt_of_lt_of_le (Heap.lt_size (I2.pin p hp).1) (z ▸ hC)) (Nat.lt_irrefl _)
end
end L2
namespace L2
open PySem PySem.Spec PyProof.Rows
def Its (x : Str) : It := ⟨fun i _ => i < x.cps.size, fun i H v H' => H' = H ∧ ∃ c, x.cps[i]? = some c ∧ v = .str ⟨#[c]⟩, fun i _ => i = x.cps.size⟩
theorem turn_str {P : Program} {w : World} {K : PySem.W.Frag} {tg : Expr} (it : Addr) (x : Str) (t : Tok) (ty : String)
    (hty : ["enumerate", "zip", "dict_itemiterator", "dict_reverseitemiterator", "odict_iterator", "itertools.zip_longest", "itertools.pairwise"].contains ty = false)
    (W : ∀ A' : Around, A'.handled = none → Walks P w A' it [it] [it] x.cps.size (SignAt x) (fun i h => h.IsStrIter it ty x t i))
    (hself : ∀ (A : Around) (i : Nat) (s : Shared) (Q : Value → Shared → Prop) (E : Value → Shared → Prop), s.heap.IsStrIter it ty x t i → Q (.ref it) s → wpAny (model P w) A (pyIter (.ref it)) Q E s) :
    Turn P w K tg (Its x) [it] it (fun i h => h.IsStrIter it ty x t i) where
  mem := by simp
  obj := fun i h st b hb => by
    have e : b = it := by simpa using hb
    subst e
    obtain ⟨o, e, c, d⟩ := st
    exact ⟨o, e, fun v z => by rw [d] at z; cases z⟩
  keep := fun i h h' st k => let ⟨o, ho, r⟩ := st; ⟨o, k it (by simp) o ho, r⟩
  item := by
    intro X hP hw hK hc i pins s σ H E I hf st hg
    subst hP hw hK
    obtain ⟨f0, f1, f2, f3, f4, f5⟩ := hf it (by simp)
    refine (W X.A (I.ok.hd hc)).item i s _ _ hg st fun v h' tk hv st' kk => ?_
    obtain ⟨c, u, hc', rfl⟩ := hv
    have I1 : Inv X pins σ H { s with heap := h', toks := tk } := I.turned (fun b o hb e => kk b o (by simpa using hb) e) f0 f1 f3 f4 f5
    obtain ⟨o, e, c1, d⟩ := id st'
    exact ⟨_, rfl, go_of (s := { s with heap := h', toks := tk }) e c1 d hty ⟨.str ⟨#[c]⟩, H, I1, ⟨u, rfl⟩, ⟨rfl, c, hc', rfl⟩, st', fun b hb => (hf b hb).1⟩⟩
  done := by
    intro X hP hw hK hc i pins s σ H E I hf st hg
    subst hP hw hK
    obtain ⟨f0, f1, f2, f3, f4, f5⟩ := hf it (by simp)
    have e : i = x.cps.size := hg
    subst e
    exact (W X.A (I.ok.hd hc)).done s _ _ st fun h' tk kk => ⟨rfl, I.turned (fun b o hb e => kk b o (by simpa using hb) e) f0 f1 f3 f4 f5⟩
  self := hself
def iStr (tl : TE) : TI := fun σ H R => tl σ H fun x H1 => ∃ z, x = .str z ∧ R (Its z) H1
theorem pi_str {X : Cx} {tg l : Expr} {tl : TE} (hl : PE X l tl) : PI X tg l (iStr tl) := by
  intro pins s σ H R I h
  refine thn (hl pins s σ H _ I h) fun v s1 ⟨x, H1, I1, rx, z, ez, q⟩ => ?_
  subst ez
  obtain ⟨t, rfl⟩ := rx
  cases ha : z.cps.all (· < 128)
  · refine wpAny_pyIter_wide ha ⟨s1.heap.objs.size, [s1.heap.objs.size], _, Its z, H1, rfl, I1.kept (t' := s1.toks) fun b u e => Heap.get?_push_of_some _ e, turn_str _ z t "str_iterator" (by decide) (fun A' hA => Walks.strWide hA _ z t) (fun _ _ _ _ _ st h => wpAny_pyIter_striter_wide st h), ⟨_, Heap.get?_push_size _ rfl, rfl, rfl⟩, fun b hb => ?_, q⟩
    have e : b = s1.heap.objs.size := by simpa using hb
    subst e
    exact I1.fpOk (Nat.le_refl _) (I1.hok.fresh (Nat.le_refl _))
  · refine wpAny_pyIter_ascii ha ⟨s1.heap.objs.size, [s1.heap.objs.size], _, Its z, H1, rfl, I1.kept (t' := s1.toks) fun b u e => Heap.get?_push_of_some _ e, turn_str _ z t "str_ascii_iterator" (by decide) (fun A' hA => Walks.strAscii hA _ z t) (fun _ _ _ _ _ st h => wpAny_pyIter_striter_ascii st h), ⟨_, Heap.get?_push_size _ rfl, rfl, rfl⟩, fun b hb => ?_, q⟩
    have e : b = s1.heap.objs.size := by simpa using hb
    subst e
    exact I1.fpOk (Nat.le_refl _) (I1.hok.fresh (Nat.le_refl _))
theorem comp_of {J : It} {g : TG} {ti : TT} {te : TE} {σ0 : St} {fin : List V → Hp → Prop} {H1 : Hp} (n : Nat) (f : Nat → V) (hn : n ≤ sizeLine) (Ok : Hp → Prop) (h0 : Ok H1)
    (hst : ∀ H, Ok H → J.stop n H) (hgo : ∀ i H, i < n → Ok H → J.go i H)
    (hstep : ∀ i H x H', i < n → Ok H → J.yld i H x H' → g x σ0 H' fun σ2 H2 => (σ2.length = σ0.length ∧ ∀ (j : Nat) v, σ0[j]? = some (some v) → σ2[j]? = some (some v)) ∧ ti σ2 H2 fun b H3 => b = true ∧ te σ2 H3 fun y H4 => y = f i ∧ Ok H4)
    (mono : ∀ σ H (Q Q' : Bool → Hp → Prop), (∀ b H', Q b H' → Q' b H') → ti σ H Q → ti σ H Q') (mono2 : ∀ σ H (Q Q' : VK), (∀ b H', Q b H' → Q' b H') → te σ H Q → te σ H Q') (mono3 : ∀ x σ H (Q Q' : St → Hp → Prop), (∀ σ' H', Q σ' H' → Q' σ' H') → g x σ H Q → g x σ H Q')
    (hfin : ∀ H, Ok H → fin ((List.range n).map f) H) : tCompW J g ti te σ0 fin H1 := by
  refine ⟨fun i m ys H => m = n - i ∧ i ≤ n ∧ ys = (List.range i).map f ∧ Ok H, ⟨n, by simp, Nat.zero_le _, rfl, h0⟩, ?_⟩
  rintro i m ys H ⟨rfl, hi, rfl, ok⟩
  by_cases hlt : i < n
  · refine .inr ⟨hgo i H hlt ok, fun x H' y => ?_⟩
    refine mono3 _ _ _ _ _ (fun σ' H'' q => ⟨q.1, mono _ _ _ _ (fun b H3 q => ?_) q.2⟩) (hstep i H x H' hlt ok y)
    obtain ⟨rfl, q⟩ := q
    rw [if_pos rfl]
    refine mono2 _ _ _ _ (fun v H4 q => ?_) q
    obtain ⟨rfl, ok4⟩ := q
    refine ⟨by rw [List.length_map, List.length_range]; omega, n - (i + 1), by omega, rfl, hlt, ?_, ok4⟩
    rw [List.range_succ, List.map_append]; rfl
  · have e : i = n := by omega
    subst e
    exact .inl ⟨hst H ok, hfin H ok⟩
section
variable {X : Cx}
theorem all_getD : ∀ bs : List Bool, (List.range bs.length).all (fun i => bs.getD i true) = bs.all id
  | [] => rfl
  | b :: bs => by
    rw [List.length_cons, List.range_succ_eq_map, List.all_cons, List.all_map, List.all_cons, ← all_getD bs]
    rfl
theorem call_all_bools (hc : X.calm = true) : CallR X (.builtin "all") (fun xs H Q => ∃ (p : Addr) (bs : List Bool), xs = [.ref p] ∧ SqL X.K H p (bs.map V.bl) ∧ Q (.bl (bs.all id)) H) := by
  intro pins s σ H xs us Q I r h
  obtain ⟨p, bs, rfl, hq, q⟩ := h
  obtain ⟨u, rfl, rx⟩ := vals1 r
  cases rx
  obtain ⟨its, r', pl, hz⟩ := I.list hq
  have hl := pl.isList
  have hlt : p < s.heap.objs.size := by obtain ⟨_, e, _⟩ := hl; exact Heap.lt_size e
  have hlen : bs.length = its.length := by have := r'.length; rw [List.length_map] at this; exact this
  refine call_all_walk (wpAny_pyIter_list hl ?_)
  refine ⟨s.heap.objs.size, _, _, its.toArray.size, _, _, fun i => bs.getD i true, rfl, Walks.list (show X.A.in1.handled = none from I.ok.hd hc) s.heap.objs.size p (Nat.ne_of_lt hlt) its.toArray, ⟨⟨_, Heap.get?_push_size _ rfl, rfl, rfl⟩, hl.push _⟩, ?_, ?_⟩
  · intro i v s' Q' E' hi hQ
    have hi' : its[i]? = some v := by simpa using hi
    have hib : i < bs.length := by rw [hlen]; exact (List.getElem?_eq_some_iff.mp hi').1
    obtain ⟨u, hu, ru⟩ := r'.get (i := i) (x := V.bl bs[i]) (by rw [List.getElem?_map, List.getElem?_eq_getElem hib]; rfl)
    rw [hi'] at hu; cases hu
    have : v = Value.bool bs[i] := ru
    subst this
    refine wpAny_truthy_bool ?_
    have eb : bs.getD i true = bs[i] := by rw [List.getD_eq_getElem?_getD, List.getElem?_eq_getElem hib]; rfl
    have hQ' : Q' (bs.getD i true) s' := hQ
    rw [eb] at hQ'
    exact hQ'
  · intro h' tk hk
    have eall : (List.range its.toArray.size).all (fun i => bs.getD i true) = bs.all id := by
      rw [List.size_toArray, ← hlen]
      exact all_getD bs
    rw [eall]
    refine ⟨.bl (bs.all id), H, ?_, rfl, q⟩
    have I1 : Inv X pins σ H { s with heap := s.heap.push { cls := .type "list_iterator", data := .fields #[.ref p, .int 0 0] }, toks := s.toks } := I.kept fun b u e => Heap.get?_push_of_some _ e
    obtain ⟨f0, f1, f2, f3, f4, f5⟩ := I.fpOk (Nat.le_refl _) (I.hok.fresh (Nat.le_refl _))
    exact I1.turned (fun b o hb e => hk b o (by simpa using hb) e) f0 f1 f3 f4 f5
theorem call_isinst : CallR X (.builtin "isinstance") (fun xs H Q => ∃ x c t u b, xs = [x, c] ∧ TyOf X.K H x t ∧ RelV c u ∧ PySem.W.kitOne X.K t u = some b ∧ Q (.bl b) H) := by
  intro pins s σ H xs us Q I r h
  obtain ⟨x, c, t, u, b, rfl, ty, rc, e, q⟩ := h
  obtain ⟨v1, v2, rfl, r1, r2⟩ := vals2 r
  have e2 : v2 = u := by
    cases c with
    | non => exact (show v2 = _ from r2).trans (show u = _ from rc).symm
    | bl b => exact (show v2 = _ from r2).trans (show u = _ from rc).symm
    | ref b => exact (show v2 = _ from r2).trans (show u = _ from rc).symm
    | ty b => exact (show v2 = _ from r2).trans (show u = _ from rc).symm
    | int i =>
      obtain ⟨t1, rfl⟩ := (show ∃ t, u = _ from rc)
      cases ty <;> simp [PySem.W.kitOne, PySem.W.kitCls] at e
    | str i =>
      obtain ⟨t1, rfl⟩ := (show ∃ t, u = _ from rc)
      cases ty <;> simp [PySem.W.kitOne, PySem.W.kitCls] at e
    | byt i =>
      obtain ⟨t1, rfl⟩ := (show ∃ t, u = _ from rc)
      cases ty <;> simp [PySem.W.kitOne, PySem.W.kitCls] at e
    | flt i =>
      obtain ⟨t1, rfl⟩ := (show ∃ t, u = _ from rc)
      cases ty <;> simp [PySem.W.kitOne, PySem.W.kitCls] at e
  subst e2
  exact isinst_ok I r1 ty e fun tk => ⟨.bl b, H, I.tok tk, rfl, q⟩
theorem op_le_str : OpR X (compareOp .LtE) (fun x y H Q => ∃ i j, x = .str i ∧ y = .str j ∧ Q (.bl (!decide (j.cps.toList < i.cps.toList))) H) := by
  intro pins s σ H x y v u Q I rx ry h
  obtain ⟨i, j, rfl, rfl, q⟩ := h
  obtain ⟨t, rfl⟩ := rx
  obtain ⟨t', rfl⟩ := ry
  exact P.le_str ⟨.bl _, H, I, rfl, q⟩
end
end L2
namespace L2
open PySem PySem.Spec PyProof.Rows
def blkOk (xs : List (Str × NameKind)) (XN : List Str) (ns : List (Str × NameKind)) (N : List Str) (nl : Nat) (ci : List Nat) : Bool :=
  (ns.all fun y => y.2 != .cell && (y.2 != .local || ns.lookup y.1 == some .local) && (y.2 != .free || (xs.lookup y.1 == some .cell && ns.lookup y.1 == some .free))) &&
  (N.length == nl + ci.length) &&
  (List.range ci.length).all fun j => match ci[j]?, N[nl + j]? with
    | some i, some n => XN[i]? == some n && xs.lookup n == some .cell && ns.lookup n == some .free
    | _, _ => false
def clOf (ns : List (Str × NameKind)) (cs : List (Str × Addr)) : List (Str × Addr) → List (Str × Addr)
  | acc => ns.foldl (fun acc y => if y.2 == .free then (y.1, (cs.lookup y.1).getD 0) :: acc else acc) acc
theorem closureFor_go {env : Env} : ∀ (ns : List (Str × NameKind)) (acc : List (Str × Addr)), (∀ y ∈ ns, y.2 = .free → ∃ c, env.cells.lookup y.1 = some c) →
    (forIn ns acc fun x r => (do
      let (name, kind) := x
      if (kind == NameKind.free) = true then do
          let c ← cellOf env name
          pure (ForInStep.yield ((name, c) :: r))
        else pure (ForInStep.yield r)) : Sem (List (Str × Addr))) = pure (clOf ns env.cells acc)
  | [], acc, _ => rfl
  | (n, k) :: r, acc, h => by
    have ih := fun acc => closureFor_go r acc fun y hy => h y (List.mem_cons_of_mem _ hy)
    rw [List.forIn_cons]
    by_cases hk : k = .free
    · subst hk
      obtain ⟨c, e⟩ := h (n, .free) List.mem_cons_self rfl
      have e1 : cellOf env n = pure c := by unfold cellOf; rw [e]
      simp only [beq_self_eq_true, if_true, e1]
      show (forIn r ((n, c) :: acc) _ : Sem (List (Str × Addr))) = _
      rw [ih]
      show _ = pure (clOf ((n, NameKind.free) :: r) env.cells acc)
      simp only [clOf, List.foldl_cons, beq_self_eq_true, if_true, e, Option.getD_some]
    · have hb : (k == NameKind.free) = false := by simpa using hk
      simp only [hb, Bool.false_eq_true, if_false]
      show (forIn r acc _ : Sem (List (Str × Addr))) = _
      rw [ih]
      simp only [clOf, List.foldl_cons, hb, Bool.false_eq_true, if_false]
theorem clOf_lookup {cs : List (Str × Addr)} : ∀ (ns : List (Str × NameKind)) (acc : List (Str × Addr)) (n : Str), (∀ y ∈ ns, y.2 = .free → ∃ c, cs.lookup y.1 = some c) →
    ((n, NameKind.free) ∈ ns ∨ acc.lookup n = cs.lookup n) → (∀ c, acc.lookup n = some c → cs.lookup n = some c) → (clOf ns cs acc).lookup n = cs.lookup n
  | [], acc, n, _, h, _ => by
    rcases h with h | h
    · cases h
    · exact h
  | (m, k) :: r, acc, n, hc, h, hs => by
    have hc' : ∀ y ∈ r, y.2 = .free → ∃ c, cs.lookup y.1 = some c := fun y hy => hc y (List.mem_cons_of_mem _ hy)
    show (clOf r cs (if k == .free then (m, (cs.lookup m).getD 0) :: acc else acc)).lookup n = cs.lookup n
    by_cases hk : k = .free
    · subst hk
      obtain ⟨c, e⟩ := hc (m, .free) List.mem_cons_self rfl
      simp only [beq_self_eq_true, if_true, e, Option.getD_some]
      by_cases hm : n = m
      · subst hm
        have q : List.lookup n ((n, c) :: acc) = some c := by simp [List.lookup_cons]
        exact clOf_lookup r _ n hc' (.inr (q.trans e.symm)) fun c' z => by rw [q] at z; cases z; exact e
      · have hb : (n == m) = false := by simpa using hm
        have q : List.lookup n ((m, c) :: acc) = acc.lookup n := by simp [List.lookup_cons, hb]
        refine clOf_lookup r _ n hc' ?_ fun c' z => hs c' (q ▸ z)
        rcases h with h | h
        · rcases List.mem_cons.mp h with z | z
          · cases z; exact absurd rfl hm
          · exact .inl z
        · exact .inr (q.trans h)
    · have hb : (k == NameKind.free) = false := by simpa using hk
      simp only [hb, Bool.false_eq_true, if_false]
      refine clOf_lookup r _ n hc' ?_ hs
      rcases h with h | h
      · rcases List.mem_cons.mp h with z | z
        · cases z; exact absurd rfl hk
        · exact .inl z
      · exact .inr h
theorem clOf_sub {cs : List (Str × Addr)} : ∀ (ns : List (Str × NameKind)) (acc : List (Str × Addr)), (∀ y ∈ ns, y.2 = .free → ∃ c, cs.lookup y.1 = some c) →
    (∀ n c, acc.lookup n = some c → cs.lookup n = some c) → ∀ n c, (clOf ns cs acc).lookup n = some c → cs.lookup n = some c
  | [], acc, _, hs, n, c, h => hs n c h
  | (m, k) :: r, acc, hc, hs, n, c, h => by
    have hc' : ∀ y ∈ r, y.2 = .free → ∃ c, cs.lookup y.1 = some c := fun y hy => hc y (List.mem_cons_of_mem _ hy)
    have h' : (clOf r cs (if k == .free then (m, (cs.lookup m).getD 0) :: acc else acc)).lookup n = some c := h
    refine clOf_sub r _ hc' ?_ n c h'
    intro n' c' z
    by_cases hk : k = .free
    · subst hk
      obtain ⟨d, e⟩ := hc (m, .free) List.mem_cons_self rfl
      simp only [beq_self_eq_true, if_true, e, Option.getD_some] at z
      by_cases hm : n' = m
      · subst hm
        simp [List.lookup_cons] at z
        subst z; exact e
      · have hb : (n' == m) = false := by simpa using hm
        simp [List.lookup_cons, hb] at z
        exact hs n' c' z
    · have hb : (k == NameKind.free) = false := by simpa using hk
      simp only [hb, Bool.false_eq_true, if_false] at z
      exact hs n' c' z
theorem lookup_relabel_free {env : Env} (hkf : env.scope.kind = .function) : ∀ {names : List (Str × NameKind)} {x : Str}, names.lookup x = some .free → env.kindOf x = some .cell →
    (names.map fun (n, k) => if (k == NameKind.free && env.scope.kind == .function && env.kindOf n == some .cell) then (n, NameKind.cell) else (n, k)).lookup x = some .cell
  | [], _, h, _ => by simp at h
  | (n, k) :: r, x, h, hc => by
    show List.lookup x ((if (k == NameKind.free && env.scope.kind == .function && env.kindOf n == some .cell) = true then (n, NameKind.cell) else (n, k)) :: _) = _
    cases hx : x == n with
    | true =>
      simp only [List.lookup_cons, hx] at h
      cases h
      have e : x = n := by simpa using hx
      subst e
      rw [hkf, hc]
      simp [List.lookup_cons]
    | false =>
      simp only [List.lookup_cons, hx] at h
      have ih := lookup_relabel_free hkf h hc
      split
      · simp only [List.lookup_cons, hx]; exact ih
      · simp only [List.lookup_cons, hx]; exact ih
theorem lookup_relabel_back {env : Env} : ∀ {names : List (Str × NameKind)} {x : Str} {k' : NameKind}, (∀ y ∈ names, y.2 ≠ .cell) → (k' = .cell ∨ k' = .free) →
    (names.map fun (n, k) => if (k == NameKind.free && env.scope.kind == .function && env.kindOf n == some .cell) then (n, NameKind.cell) else (n, k)).lookup x = some k' → (x, NameKind.free) ∈ names
  | [], _, _, _, _, h => by simp at h
  | (n, k) :: r, x, k', hn, hk', h => by
    have h' : List.lookup x ((if (k == NameKind.free && env.scope.kind == .function && env.kindOf n == some .cell) = true then (n, NameKind.cell) else (n, k)) :: r.map _) = some k' := h
    cases hx : x == n with
    | true =>
      have e : x = n := by simpa using hx
      subst e
      by_cases hf : k = .free
      · subst hf; exact List.mem_cons_self
      · have hb : (k == NameKind.free) = false := by simpa using hf
        simp only [hb, Bool.false_and, Bool.false_eq_true, if_false, List.lookup_cons, hx] at h'
        cases h'
        rcases hk' with z | z
        · exact absurd z (hn (x, k) List.mem_cons_self)
        · exact absurd z hf
    | false =>
      have h2 : List.lookup x (r.map fun (n, k) => if (k == NameKind.free && env.scope.kind == .function && env.kindOf n == some .cell) then (n, NameKind.cell) else (n, k)) = some k' := by
        split at h'
        · simp only [List.lookup_cons, hx] at h'; exact h'
        · simp only [List.lookup_cons, hx] at h'; exact h'
      exact List.mem_cons_of_mem _ (lookup_relabel_back (fun y hy => hn y (List.mem_cons_of_mem _ hy)) hk' h2)
theorem blk {X : Cx} {scope : Scope} {N : List Str} {nl : Nat} {ci : List Nat} (n0 : Nat) (hX : X.env.cells = cellsFrom n0 X.env.scope.names []) (hkf : X.env.scope.kind = .function) (hk : scope.kind = .function)
    (h : blkOk X.env.scope.names X.N scope.names N nl ci = true) : Blk X scope (clOf scope.names X.env.cells []) N nl ci := by
  unfold blkOk at h
  rw [Bool.and_eq_true, Bool.and_eq_true] at h
  obtain ⟨⟨h1, h2⟩, h3⟩ := h
  rw [List.all_eq_true] at h1
  have h1' : ∀ y ∈ scope.names, y.2 ≠ .cell ∧ (y.2 = .local → scope.names.lookup y.1 = some .local) ∧ (y.2 = .free → X.env.scope.names.lookup y.1 = some .cell ∧ scope.names.lookup y.1 = some .free) := fun y hy => by
    have q := h1 y hy
    simp only [Bool.and_eq_true, Bool.or_eq_true, bne_iff_ne, ne_eq, beq_iff_eq] at q
    obtain ⟨⟨q1, q2⟩, q3⟩ := q
    exact ⟨q1, fun e => q2.resolve_left fun z => z e, fun e => q3.resolve_left fun z => z e⟩
  have hcs : ∀ y ∈ scope.names, y.2 = .free → ∃ c, X.env.cells.lookup y.1 = some c := fun y hy e => by
    rw [hX]
    exact cell_has ((h1' y hy).2.2 e).1
  refine ⟨hk, fun y hy => (h1' y hy).2.1, fun y hy => (h1' y hy).1, ?_, ?_, ?_, by simpa using h2, ?_⟩
  · unfold closureFor
    refine (congrArg (fun m : Sem (List (Str × Addr)) => m >>= fun cs => pure cs) (closureFor_go scope.names [] hcs)).trans ?_
    rfl
  · exact clOf_sub scope.names [] hcs fun n c z => by cases z
  · intro n hn
    have hm : (n, NameKind.free) ∈ scope.names := by
      rcases hn with z | z
      · exact lookup_relabel_back (fun y hy => (h1' y hy).1) (.inl rfl) z
      · exact lookup_relabel_back (fun y hy => (h1' y hy).1) (.inr rfl) z
    obtain ⟨c, e⟩ := hcs _ hm rfl
    exact ⟨c, (clOf_lookup scope.names [] n hcs (.inl hm) fun c z => by cases z).trans e⟩
  · intro j i hj
    have hjl : j < ci.length := (List.getElem?_eq_some_iff.mp hj).1
    rw [List.all_eq_true] at h3
    have q := h3 j (List.mem_range.mpr hjl)
    rw [hj] at q
    cases e : N[nl + j]? with
    | none => rw [e] at q; cases q
    | some n =>
      rw [e] at q
      simp only [Bool.and_eq_true, beq_iff_eq] at q
      obtain ⟨⟨q1, q2⟩, q3⟩ := q
      refine ⟨n, rfl, q1, .inl q2, .inl (lookup_relabel_free hkf q3 q2), ?_⟩
      exact clOf_lookup scope.names [] n hcs (.inl (PySem.mem_of_lookup q3)) fun c z => by cases z
structure Fc (P : Program) (w : World) (K : PySem.W.Frag) (mg : Str → Option Value) (base : Heap) (x : Str) (k : Nat) (ps : List Str) (sp : Sp) : Prop where
  ex : ∃ f fd, mg x = some (.ref f) ∧ PySem.W.keepIn K (.ref f) = true ∧ Binds K fd ps [] ∧ FnOk P w K mg base CX0 k f fd ps sp
theorem pe_f {X : Cx} {x : Str} {k k' : Nat} {ps : List Str} {sp : Sp} {e : Expr} {es : List Expr} {t : TA} {p pos : Pos} (F : Fc X.prog X.w X.K X.mg X.base x k ps sp) (hr : Room k' X.A) (ha : PA X (e :: es) t) (hk : k ≤ k' := by decide) (hg : Gl X x := by rfl)
    (hdb : (x == ("__debug__" : Str)) = false := by decide) (he : starEach (e :: es) X.env = (false, eval e X.env) :: starEach es X.env := by rfl) (hpl : (backTo pos (starEach es X.env)).any (·.1) = false := by rfl) :
    PE X (.Call (.Name x p) (e :: es) [] pos) (tCall sp [] E0 t) := by
  obtain ⟨f, fd, hm, kp, b, G⟩ := F.ex
  exact pe_call G (hr.mono hk) hg hm kp b .nil pass0 ha hdb he hpl
theorem pe_ty {X : Cx} {x : Str} {n : String} {pos : Pos} (hg : Gl X x) (hm : X.mg x = none) (hv : bootBuiltins x = some (.type n)) (hn : x ≠ "__name__" := by decide) (hd : (x == ("__debug__" : Str)) = false := by decide) : PE X (.Name x pos) (tC (.ty n)) := pe_bltn hg hm hv rfl hn hd
theorem pe_gint {X : Cx} {x : Str} {i : Int} {t : Tok} {pos : Pos} (hg : Gl X x) (hm : X.mg x = some (.int i t)) (hd : (x == ("__debug__" : Str)) = false := by decide) : PE X (.Name x pos) (tC (.int i)) := pe_glob hg hm ⟨t, rfl⟩ hd
theorem bt_isinstance : bootBuiltins "isinstance" = some (.builtin "isinstance") := by decide +kernel
theorem bt_all : bootBuiltins "all" = some (.builtin "all") := by decide +kernel
theorem bt_len : bootBuiltins "len" = some (.builtin "len") := by decide +kernel
theorem bt_min : bootBuiltins "min" = some (.builtin "min") := by decide +kernel
theorem bt_int : bootBuiltins "int" = some (.type "int") := by decide +kernel
theorem bt_str : bootBuiltins "str" = some (.type "str") := by decide +kernel
theorem bt_bool : bootBuiltins "bool" = some (.type "bool") := by decide +kernel
theorem bt_list : bootBuiltins "list" = some (.type "list") := by decide +kernel
theorem bt_dict : bootBuiltins "dict" = some (.type "dict") := by decide +kernel
inductive BTy (K : PySem.W.Frag) (H : Hp) : V → String → Prop where
  | non : BTy K H .non "NoneType"
  | bl (x : Bool) : BTy K H (.bl x) "bool"
  | int (i : Int) : BTy K H (.int i) "int"
  | str (x : Str) : BTy K H (.str x) "str"
  | lst {a : Addr} {xs : List V} (e : H a = some (.lst xs)) : BTy K H (.ref a) "list"
  | tup {a : Addr} {xs : List V} (e : H a = some (.tup xs)) : BTy K H (.ref a) "tuple"
  | dK {a : Addr} {kvs : List (Key × V)} (e : H a = some (.dK kvs)) : BTy K H (.ref a) "dict"
theorem BTy.ty {K : PySem.W.Frag} {H : Hp} {x : V} {n : String} (b : BTy K H x n) : TyOf K H x (.type n) := by
  cases b with
  | non => exact .non
  | bl => exact .bl _
  | int => exact .int _
  | str => exact .str _
  | lst e => exact .lst e
  | tup e => exact .tup e
  | dK e => exact .dK e
def isB (n c : String) : Bool := n == c || (n == "bool" && c == "int")
theorem kit_b {K : PySem.W.Frag} {H : Hp} {x : V} {n : String} (b : BTy K H x n) (c : String) (hc : c = "int" ∨ c = "bool" ∨ c = "str") : PySem.W.kitOne K (.type n) (.type c) = some (isB n c) := by
  cases b <;> rcases hc with rfl | rfl | rfl <;> kernel_rfl
end L2
namespace L2
open PySem PySem.Spec PyProof.Rows
theorem comp_name {J : It} {te : TE} {σ0 : St} {fin : List V → Hp → Prop} {H1 : Hp} (n : Nat) (Ok : Nat → List V → Hp → Prop) (hn : n ≤ sizeLine) (h00 : σ0[0]? = some none) (h0 : Ok 0 [] H1) (hlen : ∀ i ys H, Ok i ys H → ys.length ≤ i)
    (hst : ∀ ys H, Ok n ys H → J.stop n H ∧ fin ys H) (hstep : ∀ i ys H, i < n → Ok i ys H → J.go i H ∧ ∀ x H', J.yld i H x H' → ∀ R : VK, (∀ y H4, Ok (i + 1) (ys ++ [y]) H4 → R y H4) → te (σ0.set 0 (some x)) H' R) : tCompW J (gName 0) tAll te σ0 fin H1 := by
  refine ⟨fun i m ys H => m = n - i ∧ i ≤ n ∧ Ok i ys H, ⟨n, by simp, Nat.zero_le _, h0⟩, ?_⟩
  rintro i m ys H ⟨rfl, hi, ok⟩
  by_cases hlt : i < n
  · obtain ⟨go, st⟩ := hstep i ys H hlt ok
    refine .inr ⟨go, fun x H' y => ⟨⟨by simp, fun j v hv => ?_⟩, ?_⟩⟩
    · cases j with
      | zero => rw [h00] at hv; cases hv
      | succ j => rw [List.getElem?_set_ne (by omega)]; exact hv
    · unfold tAll
      dsimp only
      rw [if_pos rfl]
      exact st x H' y _ fun z H4 ok4 => ⟨by have := hlen i ys H ok; omega, n - (i + 1), by omega, rfl, hlt, ok4⟩
  · have e : i = n := by omega
    subst e
    exact .inl (hst ys H ok)
theorem comp_range {lo : Int} {n : Nat} {te : TE} {σ0 : St} {fin : List V → Hp → Prop} {H1 : Hp} (Ok : Nat → List V → Hp → Prop) (hn : n ≤ sizeLine) (h00 : σ0[0]? = some none) (h0 : Ok 0 [] H1) (hlen : ∀ i ys H, Ok i ys H → ys.length ≤ i) (hfin : ∀ ys H, Ok n ys H → fin ys H)
    (hstep : ∀ i ys H, i < n → Ok i ys H → ∀ R : VK, (∀ y H4, Ok (i + 1) (ys ++ [y]) H4 → R y H4) → te (σ0.set 0 (some (.int (lo + i)))) H R) : tCompW (Itr lo n) (gName 0) tAll te σ0 fin H1 :=
  comp_name n Ok hn h00 h0 hlen (fun ys H ok => ⟨Nat.le_refl _, hfin ys H ok⟩) fun i ys H hi ok => ⟨hi, fun x H' y => by
    obtain ⟨e1, e2⟩ := y
    subst e1 e2
    exact hstep i ys _ hi ok⟩
section
variable {X : Cx}
end
structure FunV (K : PySem.W.Frag) (x qual : Str) (st : Stmt) (f : Addr) (fd : FuncData) : Prop where
  ex : ∃ (oc : Value) (od : Option Addr) (dV kV doc pm : Value) (an : Option Addr) (cdv ct : Value) (osl : Array (Option Value)),
    fd = PySem.W.fnOf x qual (defArgs st) (defBody st) (defScope st) dV kV doc pm an cdv ct ∧ K.lookup f = some ⟨oc, od, .func fd, osl⟩ ∧ PySem.W.codeIn K cdv qual = true
  kp : PySem.W.keepIn K (.ref f) = true
section
variable {P : Program} {w : World} {K : PySem.W.Frag} {mg : Str → Option Value} {base : Heap}
theorem FunV.ok {x qual : Str} {st : Stmt} {f : Addr} {fd : FuncData} {N ps : List Str} {k : Nat} {sp : Sp} (F : FunV K x qual st f fd) (S : FnScope N ps (defScope st)) (len : ∀ vs H Q E, sp vs H Q E → vs.length = ps.length)
    (hbody : ∀ (cdv : Value) (A : Around) (outer : List Env) (s : Shared) (H : Hp) (vs : List V) (Q : VK) (E : XK), Room k (A.deeper (envOfC qual (defScope st) s.heap.objs.size f cdv)) → sp vs H Q E →
      ∃ t, PSs (cxOf CX0 P w K mg base N qual (defScope st) f cdv A outer s H E).nox (defBody st) t ∧ t { nx := fun _ H' => Q .non H', rt := Q } (start N vs) H) : FnOk P w K mg base CX0 (k + 1) f fd ps sp := by
  obtain ⟨oc, od, dV, kV, doc, pm, an, cdv, ct, osl, rfl, lk, hcd⟩ := F.ex
  refine fn_of lk hcd S len fun A outer s H vs Q E hr h => ?_
  obtain ⟨t, h1, h2⟩ := hbody cdv A outer s H vs Q E hr h
  exact ⟨t, PSs.nox h1, h2⟩
theorem funV_mk {x qual : Str} {st : Stmt} {f : Addr} {oc : Value} {od an : Option Addr} {osl : Array (Option Value)} {dV kV doc pm cdv ct : Value} (l : K.lookup f = some ⟨oc, od, .func (PySem.W.fnOf x qual (defArgs st) (defBody st) (defScope st) dV kV doc pm an cdv ct), osl⟩) (c : PySem.W.codeIn K cdv qual = true)
    (k : PySem.W.keepIn K (.ref f) = true) : FunV K x qual st f (PySem.W.fnOf x qual (defArgs st) (defBody st) (defScope st) dV kV doc pm an cdv ct) := ⟨⟨oc, od, dV, kV, doc, pm, an, cdv, ct, osl, rfl, l, c⟩, k⟩
structure Mc (P : Program) (w : World) (K : PySem.W.Frag) (mg : Str → Option Value) (base : Heap) (C : Addr) (nm : Str) (k : Nat) (sp : Sp) : Prop where
  ex : ∃ f fd ps, Cls K C ∧ Meth K C nm f ∧ Binds K fd ps [] ∧ FnOk P w K mg base CX0 k f fd ps sp
structure Kc (P : Program) (w : World) (K : PySem.W.Frag) (mg : Str → Option Value) (base : Heap) (x : Str) (C : Addr) (k : Nat) (dvs : List V) (sp : Sp) : Prop where
  ex : ∃ f fd ps ds, mg x = some (.ref C) ∧ Mk K C f ∧ Vals dvs ds ∧ Binds K fd ps ds ∧ FnOk P w K mg base CX0 k f fd ps sp
end
section
variable {X : Cx} {k k' : Nat} {sp : Sp} {x m : Str} {p pos apos : Pos} {e o : Expr} {es : List Expr} {ta : TE} {t : TA} {C : Addr} {dvs : List V}
def tMD (M : Addr → Sp → Prop) (m : Str) (ta : TE) (t : TA) : TE := fun σ H Q => ta σ H fun x H1 => ∃ a C dx fs sp, x = .ref a ∧ H1 a = some (.ins C dx fs) ∧ fs.lookup m = none ∧ M C sp ∧ t σ H1 fun vs H2 => sp (x :: vs) H2 Q E0
theorem pe_md (k : Nat) {pl : Sem Bool} (hr : Room k' X.A) (ho : PE X o ta) (ha : PA X (e :: es) t) (hk : k ≤ k' := by decide)
    (hst : starEach (e :: es) X.env = (false, eval e X.env) :: starEach es X.env := by rfl) (hpl : (backTo pos (starEach es X.env)).any (·.1) = false := by rfl)
    (ht : eval (.Call (.Attribute o m apos) (e :: es) [] pos) X.env = (do
      let ov ← eval o X.env
      standAt apos.atName
      let (f, first) ← holding [ov] (getMethod ov m pl)
      callWith pos f first (backTo pos (starEach (e :: es) X.env)) (backToKw pos (keywordEach [] X.env))) := by rfl) :
    PE X (.Call (.Attribute o m apos) (e :: es) [] pos) (tMD (fun C sp => Mc X.prog X.w X.K X.mg X.base C m k sp) m ta t) := by
  intro pins s σ H Q I h
  refine PySem.W.methodCall_KW (pl := pl) (thn (ho pins s σ H _ I h) fun u s1 ⟨x, H1, I1, rx, a, C, dx, fs, sp, ex, ea, l, M, q⟩ => ?_) ht
  subst ex
  obtain rfl : u = Value.ref a := rx
  obtain ⟨f, fd, ps, c, hm, hb, F⟩ := M.ex
  refine getmeth_ok I1 ea c hm l ?_
  refine PySem.W.callWith_K (first := [.ref a]) (h₀ := X.base) I.ok.mod.kin hm.kp (thn (ha pos pins s1 σ H1 _ I1 q) fun us s2 ⟨vs, H2, I2, r, q2⟩ => ⟨I2.kIn, ?_⟩) hst hpl
  exact run_fn (us := .ref a :: us) (vs := .ref a :: vs) (dvs := []) F (hr.mono hk) hb .nil pass0 I2 (.cons rfl r) (by rw [List.append_nil]; exact q2)
theorem pe_md0 (k : Nat) {pl : Sem Bool} (hr : Room k' X.A) (ho : PE X o ta) (hk : k ≤ k' := by decide)
    (ht : eval (.Call (.Attribute o m apos) [] [] pos) X.env = (do
      let ov ← eval o X.env
      standAt apos.atName
      let (f, first) ← holding [ov] (getMethod ov m pl)
      callWith pos f first (backTo pos (starEach [] X.env)) (backToKw pos (keywordEach [] X.env))) := by rfl) :
    PE X (.Call (.Attribute o m apos) [] [] pos) (tMD (fun C sp => Mc X.prog X.w X.K X.mg X.base C m k sp) m ta tNil) := by
  intro pins s σ H Q I h
  refine PySem.W.methodCall_KW (pl := pl) (thn (ho pins s σ H _ I h) fun u s1 ⟨x, H1, I1, rx, a, C, dx, fs, sp, ex, ea, l, M, q⟩ => ?_) ht
  subst ex
  obtain rfl : u = Value.ref a := rx
  obtain ⟨f, fd, ps, c, hm, hb, F⟩ := M.ex
  refine getmeth_ok I1 ea c hm l ?_
  exact PySem.W.callWith_K0 (first := [.ref a]) I1.kIn hm.kp (run_fn (us := [.ref a]) (vs := [.ref a]) (dvs := []) F (hr.mono hk) hb .nil pass0 I1 (.cons rfl .nil) q)
theorem pe_mk (F : Kc X.prog X.w X.K X.mg X.base x C k dvs sp) (hr : Room k' X.A) (ha : PA X (e :: es) t) (hk : k + 1 ≤ k' := by decide) (hg : Gl X x := by rfl)
    (hdb : (x == ("__debug__" : Str)) = false := by decide) (he : starEach (e :: es) X.env = (false, eval e X.env) :: starEach es X.env := by rfl) (hpl : (backTo pos (starEach es X.env)).any (·.1) = false := by rfl) :
    PE X (.Call (.Name x p) (e :: es) [] pos) (tMake C sp dvs E0 t) := by
  obtain ⟨f, fd, ps, ds, hm, M, hd, hb, G⟩ := F.ex
  exact pe_make M G (hr.mono hk) hg hm hb hd pass0 ha hdb he hpl
structure Dc (P : Program) (w : World) (K : PySem.W.Frag) (mg : Str → Option Value) (base : Heap) (x m : Str) (k : Nat) (sp : Sp) : Prop where
  ex : ∃ C f fd ps, mg x = some (.ref C) ∧ PySem.W.specialIn K (.ref C) "__getattribute__" = some (some (.builtin "type.__getattribute__")) ∧ PySem.W.readsIn K C (.type "type") = true ∧ PySem.W.findCls K (.ref C) (.type "type") m = some (.val (.ref f)) ∧
    PySem.W.keepIn K (.ref f) = true ∧ Binds K fd ps [] ∧ FnOk P w K mg base CX0 k f fd ps sp
theorem pe_dm {pl : Sem Bool} (F : Dc X.prog X.w X.K X.mg X.base x m k sp) (hr : Room k' X.A) (ha : PA X (e :: es) t) (hk : k ≤ k' := by decide) (hg : Gl X x := by rfl) (hdb : (x == ("__debug__" : Str)) = false := by decide)
    (hst : starEach (e :: es) X.env = (false, eval e X.env) :: starEach es X.env := by rfl) (hpl : (backTo pos (starEach es X.env)).any (·.1) = false := by rfl)
    (ht : eval (.Call (.Attribute (.Name x p) m apos) (e :: es) [] pos) X.env = (do
      let ov ← eval (.Name x p) X.env
      standAt apos.atName
      let (f, first) ← holding [ov] (getMethod ov m pl)
      callWith pos f first (backTo pos (starEach (e :: es) X.env)) (backToKw pos (keywordEach [] X.env))) := by rfl) :
    PE X (.Call (.Attribute (.Name x p) m apos) (e :: es) [] pos) (tCall sp [] E0 t) := by
  intro pins s σ H Q I h
  obtain ⟨C, f, fd, ps, hm, hga, hrd, hfc, kp, hb, G⟩ := F.ex
  refine PySem.W.methodCall_KW (pl := pl) (ld_glob I hg hm ?_ hdb) ht
  refine PySem.W.method_cls I.kIn hga (PySem.W.cls_value I.kIn hrd hfc (handed_of (v := .ref f) rfl) ?_)
  have I1 := I.tok (s.toks + 1)
  refine PySem.W.callWith_K (first := []) (h₀ := X.base) I.ok.mod.kin kp (thn (ha pos pins _ σ H _ I1 h) fun us s2 ⟨vs, H2, I2, r, q2⟩ => ⟨I2.kIn, ?_⟩) hst hpl
  exact run_fn G (hr.mono hk) hb .nil pass0 I2 r q2
end
end L2
namespace L2
open PySem PySem.Spec PyProof.Rows
def rAddS : R2 := fun x y H Q => ∃ i j, x = .str i ∧ y = .str j ∧ i.length + j.length ≤ sizeLine ∧ Q (.str (i ++ j)) H
def rIsN : R2 := fun x y H Q => y = .non ∧ Q (.bl (decide (x = .non))) H
def rNotN : R2 := fun x y H Q => y = .non ∧ Q (.bl (!decide (x = .non))) H
def rLeS : R2 := fun x y H Q => ∃ i j, x = .str i ∧ y = .str j ∧ Q (.bl (!decide (j.cps.toList < i.cps.toList))) H
def rIsi (K : PySem.W.Frag) : List V → Hp → VK → Prop := fun xs H Q => ∃ x c t u b, xs = [x, c] ∧ TyOf K H x t ∧ RelV c u ∧ PySem.W.kitOne K t u = some b ∧ Q (.bl b) H
def rAll (K : PySem.W.Frag) : List V → Hp → VK → Prop := fun xs H Q => ∃ (p : Addr) (bs : List Bool), xs = [.ref p] ∧ SqL K H p (bs.map V.bl) ∧ Q (.bl (bs.all id)) H
def rLenS : List V → Hp → VK → Prop := fun xs H Q => ∃ z, xs = [.str z] ∧ z.length ≤ sizeLine ∧ Q (.int z.length) H
def rLenL (K : PySem.W.Frag) : List V → Hp → VK → Prop := fun xs H Q => ∃ p ys, xs = [.ref p] ∧ (SqL K H p ys ∨ SqT K H p ys) ∧ Q (.int ys.length) H
def rMin2 : List V → Hp → VK → Prop := fun xs H Q => ∃ i j, xs = [.int i, .int j] ∧ Q (.int (if j < i then j else i)) H
section
variable {X : Cx}
theorem op_addS : OpR X (binaryOp .Add) rAddS := op_add_str
theorem op_isn : OpR X (compareOp .Is) rIsN := op_isN
theorem op_notn : OpR X (compareOp .IsNot) rNotN := op_notN
theorem op_leS : OpR X (compareOp .LtE) rLeS := op_le_str
theorem call_isi : CallR X (.builtin "isinstance") (rIsi X.K) := call_isinst
theorem call_all (hc : X.calm = true) : CallR X (.builtin "all") (rAll X.K) := call_all_bools hc
theorem call_lenS : CallR X (.builtin "len") rLenS := call_len_str
theorem call_lenL : CallR X (.builtin "len") (rLenL X.K) := call_len_seq
theorem call_minI (hc : X.calm = true) : CallR X (.builtin "min") rMin2 := call_min2 hc
theorem pe_powc {i j : Int} (n : Int) {k1 k2 p1 p2 pos} (h : i ^ j.toNat = n) (c : CPow i j) : PE X (.BinOp (.Constant (.int i) k1 p1) .Pow (.Constant (.int j) k2 p2) pos) (tC (.int n)) := by
  subst h
  intro pins s σ H Q I q
  exact pe_op op_pow pe_int pe_int pins s σ H Q I ⟨i, j, rfl, rfl, c, q⟩
end
def BoolP (P : Bool → Hp → Prop) : VK := fun x H => ∃ k, x = .bl k ∧ P k H
def IntP (O : Option Int → Hp → Prop) : VK := fun x H => ∃ i, x = .int i ∧ O (some i) H
def NewL (Q : VK) : List V → Hp → Prop := fun xs H => xs.length ≤ sizeLine ∧ ∀ p, H p = none → Q (.ref p) (upd H p (.lst xs))
def NewT (Q : VK) : List V → Hp → Prop := fun xs H => xs.length ≤ sizeLine ∧ ∀ p, H p = none → Q (.ref p) (upd H p (.tup xs))
def NewF (Q : VK) : List V → Hp → Prop := fun ys H => ∀ p, H p = none → Q (.ref p) (upd H p (.lst ys))
def FldP (K : PySem.W.Frag) (f : Str) (Q : VK) : VK := fun x H => ∃ a C dx fs v, x = .ref a ∧ H a = some (.ins C dx fs) ∧ Cls K C ∧ NoAttr K C f ∧ fs.lookup f = some v ∧ Q v H
def SFldP (K : PySem.W.Frag) (f : Str) (y : V) (q : Hp → Prop) : VK := fun x H => ∃ a C dx fs, x = .ref a ∧ H a = some (.ins C dx fs) ∧ Cls K C ∧ NoAttr K C f ∧ fs.length < 1000 ∧ q (upd H a (.ins C dx (putF f y fs)))
def MdP (M : Addr → Sp → Prop) (m : Str) (t : TA) (σ : St) (Q : VK) : VK := fun x H => ∃ a C dx fs sp, x = .ref a ∧ H a = some (.ins C dx fs) ∧ fs.lookup m = none ∧ M C sp ∧ t σ H fun vs H2 => sp (x :: vs) H2 Q E0
def MakeP (C : Addr) (sp : Sp) (dvs : List V) (E : XK) (Q : VK) : List V → Hp → Prop := fun vs H1 => ∀ x dx, H1 x = none → H1 dx = none → dx ≠ x →
  sp (.ref x :: (vs ++ dvs)) (upd (upd H1 dx (.own x)) x (.ins C dx [])) (fun v H2 => v = .non ∧ Q (.ref x) H2) E
def BmP (K : PySem.W.Frag) (T : String) (r : V → List V → Hp → VK → Prop) (t : TA) (σ : St) (Q : VK) : VK := fun x H1 => tyV K T x H1 ∧ t σ H1 fun xs H2 => r x xs H2 Q
def Bm0P (K : PySem.W.Frag) (T : String) (r : V → List V → Hp → VK → Prop) (Q : VK) : VK := fun x H1 => tyV K T x H1 ∧ r x [] H1 Q
def ItLP (K : PySem.W.Frag) (R : It → Hp → Prop) : VK := fun x H1 => ∃ a, x = .ref a ∧ (∃ xs, SqL K H1 a xs) ∧ R (Itl K a) H1
def It1P (R : It → Hp → Prop) : List V → Hp → Prop := fun vs H1 => ∃ j : Int, vs = [.int j] ∧ -(2 ^ 62) ≤ j ∧ j < 2 ^ 62 ∧ R (Itr 0 j.toNat) H1
def It2P (R : It → Hp → Prop) : List V → Hp → Prop := fun vs H1 => ∃ i j : Int, vs = [.int i, .int j] ∧ (-(2 ^ 62) ≤ i ∧ i < 2 ^ 62 ∧ -(2 ^ 62) ≤ j ∧ j < 2 ^ 62) ∧ R (Itr i (j - i).toNat) H1
section
variable {nx bk ct : St → Hp → Prop} {rt : VK} {σ : St} {H : Hp} {Q : VK} {t u : TS} {te ta tb tc : TE} {g : TG} {c d : TT} {v : V} {K : PySem.W.Frag} {E : XK}
theorem rd_seq (h : t ⟨u ⟨nx, rt, bk, ct⟩, rt, bk, ct⟩ σ H) : tSeq t u ⟨nx, rt, bk, ct⟩ σ H := h
theorem rd_seqR (R : St → Hp → Prop) (h2 : ∀ σ' H', R σ' H' → u ⟨nx, rt, bk, ct⟩ σ' H') (h1 : ∀ nx' : St → Hp → Prop, (∀ σ' H', R σ' H' → nx' σ' H') → t ⟨nx', rt, bk, ct⟩ σ H) : tSeq t u ⟨nx, rt, bk, ct⟩ σ H := h1 _ h2
theorem rd_seqIf {v : TS} (h : tSeq (tIfS c t u) v ⟨nx, rt, bk, ct⟩ σ H) : tSeq (tIfS c t u) v ⟨nx, rt, bk, ct⟩ σ H := h
theorem rd_next (h : nx σ H) : tNext ⟨nx, rt, bk, ct⟩ σ H := h
theorem rd_asg (h : te σ H fun x H1 => g x σ H1 nx) : tAsg te g ⟨nx, rt, bk, ct⟩ σ H := h
theorem rd_ret (h : te σ H rt) : tRet te ⟨nx, rt, bk, ct⟩ σ H := h
theorem rd_drop (h : te σ H fun _ H1 => nx σ H1) : tDrop te ⟨nx, rt, bk, ct⟩ σ H := h
theorem rd_if (h : c σ H fun b H1 => if b = true then t ⟨nx, rt, bk, ct⟩ σ H1 else u ⟨nx, rt, bk, ct⟩ σ H1) : tIfS c t u ⟨nx, rt, bk, ct⟩ σ H := h
theorem rd_aug {i : Nat} {ti : TIp} (h : tVar i σ H fun x H0 => te σ H0 fun y H1 => ti x y H1 fun z H2 => gName i z σ H2 nx) : tAug i te ti ⟨nx, rt, bk, ct⟩ σ H := by
  obtain ⟨x, e, q⟩ := h
  exact ⟨x, e, q⟩
def ForP (J : It) (g : TG) (tb : TS) (D : Ends) (σ : St) (H : Hp) : Prop :=
  ∃ W : Nat → Nat → St → Hp → Prop, (∃ m, W 0 m σ H) ∧ ∀ i m σ H, W i m σ H →
    (J.stop i H ∧ D.nx σ H) ∨ (J.go i H ∧ ∃ N : St → Hp → Prop, (∀ σ' H', N σ' H' → ∃ m', m' < m ∧ W (i + 1) m' σ' H') ∧ ∀ x H', J.yld i H x H' → g x σ H' fun σ2 H2 => tb { D with nx := N, ct := N, bk := D.nx } σ2 H2)
theorem rd_for {wi : TI} {tb : TS} (h : wi σ H fun J H1 => ForP J g tb ⟨nx, rt, bk, ct⟩ σ H1) : tFor wi g tb ⟨nx, rt, bk, ct⟩ σ H := h
theorem rd_v0 {l : St} (h : Q v H) : tVar 0 (some v :: l) H Q := ⟨v, rfl, h⟩
theorem rd_v1 {a0} {l : St} (h : Q v H) : tVar 1 (a0 :: some v :: l) H Q := ⟨v, rfl, h⟩
theorem rd_v2 {a0 a1} {l : St} (h : Q v H) : tVar 2 (a0 :: a1 :: some v :: l) H Q := ⟨v, rfl, h⟩
theorem rd_v3 {a0 a1 a2} {l : St} (h : Q v H) : tVar 3 (a0 :: a1 :: a2 :: some v :: l) H Q := ⟨v, rfl, h⟩
theorem rd_v4 {a0 a1 a2 a3} {l : St} (h : Q v H) : tVar 4 (a0 :: a1 :: a2 :: a3 :: some v :: l) H Q := ⟨v, rfl, h⟩
theorem rd_v5 {a0 a1 a2 a3 a4} {l : St} (h : Q v H) : tVar 5 (a0 :: a1 :: a2 :: a3 :: a4 :: some v :: l) H Q := ⟨v, rfl, h⟩
theorem rd_v6 {a0 a1 a2 a3 a4 a5} {l : St} (h : Q v H) : tVar 6 (a0 :: a1 :: a2 :: a3 :: a4 :: a5 :: some v :: l) H Q := ⟨v, rfl, h⟩
theorem rd_v7 {a0 a1 a2 a3 a4 a5 a6} {l : St} (h : Q v H) : tVar 7 (a0 :: a1 :: a2 :: a3 :: a4 :: a5 :: a6 :: some v :: l) H Q := ⟨v, rfl, h⟩
theorem rd_v8 {a0 a1 a2 a3 a4 a5 a6 a7} {l : St} (h : Q v H) : tVar 8 (a0 :: a1 :: a2 :: a3 :: a4 :: a5 :: a6 :: a7 :: some v :: l) H Q := ⟨v, rfl, h⟩
theorem rd_v9 {a0 a1 a2 a3 a4 a5 a6 a7 a8} {l : St} (h : Q v H) : tVar 9 (a0 :: a1 :: a2 :: a3 :: a4 :: a5 :: a6 :: a7 :: a8 :: some v :: l) H Q := ⟨v, rfl, h⟩
theorem rd_v10 {a0 a1 a2 a3 a4 a5 a6 a7 a8 a9} {l : St} (h : Q v H) : tVar 10 (a0 :: a1 :: a2 :: a3 :: a4 :: a5 :: a6 :: a7 :: a8 :: a9 :: some v :: l) H Q := ⟨v, rfl, h⟩
theorem rd_v11 {a0 a1 a2 a3 a4 a5 a6 a7 a8 a9 a10} {l : St} (h : Q v H) : tVar 11 (a0 :: a1 :: a2 :: a3 :: a4 :: a5 :: a6 :: a7 :: a8 :: a9 :: a10 :: some v :: l) H Q := ⟨v, rfl, h⟩
theorem rd_v12 {a0 a1 a2 a3 a4 a5 a6 a7 a8 a9 a10 a11} {l : St} (h : Q v H) : tVar 12 (a0 :: a1 :: a2 :: a3 :: a4 :: a5 :: a6 :: a7 :: a8 :: a9 :: a10 :: a11 :: some v :: l) H Q := ⟨v, rfl, h⟩
variable {q : St → Hp → Prop}
theorem rd_s0 {a} {l : St} (h : q (some v :: l) H) : gName 0 v (a :: l) H q := h
theorem rd_s1 {a0 a} {l : St} (h : q (a0 :: some v :: l) H) : gName 1 v (a0 :: a :: l) H q := h
theorem rd_s2 {a0 a1 a} {l : St} (h : q (a0 :: a1 :: some v :: l) H) : gName 2 v (a0 :: a1 :: a :: l) H q := h
theorem rd_s3 {a0 a1 a2 a} {l : St} (h : q (a0 :: a1 :: a2 :: some v :: l) H) : gName 3 v (a0 :: a1 :: a2 :: a :: l) H q := h
theorem rd_s4 {a0 a1 a2 a3 a} {l : St} (h : q (a0 :: a1 :: a2 :: a3 :: some v :: l) H) : gName 4 v (a0 :: a1 :: a2 :: a3 :: a :: l) H q := h
theorem rd_s5 {a0 a1 a2 a3 a4 a} {l : St} (h : q (a0 :: a1 :: a2 :: a3 :: a4 :: some v :: l) H) : gName 5 v (a0 :: a1 :: a2 :: a3 :: a4 :: a :: l) H q := h
theorem rd_s6 {a0 a1 a2 a3 a4 a5 a} {l : St} (h : q (a0 :: a1 :: a2 :: a3 :: a4 :: a5 :: some v :: l) H) : gName 6 v (a0 :: a1 :: a2 :: a3 :: a4 :: a5 :: a :: l) H q := h
theorem rd_s7 {a0 a1 a2 a3 a4 a5 a6 a} {l : St} (h : q (a0 :: a1 :: a2 :: a3 :: a4 :: a5 :: a6 :: some v :: l) H) : gName 7 v (a0 :: a1 :: a2 :: a3 :: a4 :: a5 :: a6 :: a :: l) H q := h
theorem rd_s8 {a0 a1 a2 a3 a4 a5 a6 a7 a} {l : St} (h : q (a0 :: a1 :: a2 :: a3 :: a4 :: a5 :: a6 :: a7 :: some v :: l) H) : gName 8 v (a0 :: a1 :: a2 :: a3 :: a4 :: a5 :: a6 :: a7 :: a :: l) H q := h
theorem rd_s9 {a0 a1 a2 a3 a4 a5 a6 a7 a8 a} {l : St} (h : q (a0 :: a1 :: a2 :: a3 :: a4 :: a5 :: a6 :: a7 :: a8 :: some v :: l) H) : gName 9 v (a0 :: a1 :: a2 :: a3 :: a4 :: a5 :: a6 :: a7 :: a8 :: a :: l) H q := h
theorem rd_s10 {a0 a1 a2 a3 a4 a5 a6 a7 a8 a9 a} {l : St} (h : q (a0 :: a1 :: a2 :: a3 :: a4 :: a5 :: a6 :: a7 :: a8 :: a9 :: some v :: l) H) : gName 10 v (a0 :: a1 :: a2 :: a3 :: a4 :: a5 :: a6 :: a7 :: a8 :: a9 :: a :: l) H q := h
theorem rd_s11 {a0 a1 a2 a3 a4 a5 a6 a7 a8 a9 a10 a} {l : St} (h : q (a0 :: a1 :: a2 :: a3 :: a4 :: a5 :: a6 :: a7 :: a8 :: a9 :: a10 :: some v :: l) H) : gName 11 v (a0 :: a1 :: a2 :: a3 :: a4 :: a5 :: a6 :: a7 :: a8 :: a9 :: a10 :: a :: l) H q := h
theorem rd_s12 {a0 a1 a2 a3 a4 a5 a6 a7 a8 a9 a10 a11 a} {l : St} (h : q (a0 :: a1 :: a2 :: a3 :: a4 :: a5 :: a6 :: a7 :: a8 :: a9 :: a10 :: a11 :: some v :: l) H) : gName 12 v (a0 :: a1 :: a2 :: a3 :: a4 :: a5 :: a6 :: a7 :: a8 :: a9 :: a10 :: a11 :: a :: l) H q := h
theorem rd_C (h : Q v H) : tC v σ H Q := h
theorem rd_op {r : R2} (h : ta σ H fun x H1 => tb σ H1 fun y H2 => r x y H2 Q) : tOp r ta tb σ H Q := h
theorem rd_I0 {f : Int → Int → V} {i j : Int} (h : Q (f i j) H) : rI0 f (.int i) (.int j) H Q := ⟨i, j, rfl, rfl, h⟩
theorem rd_div {f : Int → Int → V} {i j : Int} (h0 : 0 < j) (h1 : j < 1073741824) (h : Q (f i j) H) : rI CDiv f (.int i) (.int j) H Q := ⟨i, j, rfl, rfl, ⟨h0, h1⟩, h⟩
theorem rd_mod {f : Int → Int → V} {i j : Int} (h0 : 0 < j) (h : Q (f i j) H) : rI (fun _ j => 0 < j) f (.int i) (.int j) H Q := ⟨i, j, rfl, rfl, h0, h⟩
theorem rd_mulL {f : Int → Int → V} {i j : Int} (h0 : -18446744073709551616 < i) (h1 : i < 18446744073709551616) (h : Q (f i j) H) : rI CMul f (.int i) (.int j) H Q := ⟨i, j, rfl, rfl, .inl ⟨by omega, by omega⟩, h⟩
theorem rd_mulR {f : Int → Int → V} {i j : Int} (h0 : -18446744073709551616 < j) (h1 : j < 18446744073709551616) (h : Q (f i j) H) : rI CMul f (.int i) (.int j) H Q := ⟨i, j, rfl, rfl, .inr ⟨by omega, by omega⟩, h⟩
theorem rd_nonneg {f : Int → Int → V} {i j : Int} (h0 : 0 ≤ j) (h : Q (f i j) H) : rI (fun _ j => 0 ≤ j) f (.int i) (.int j) H Q := ⟨i, j, rfl, rfl, h0, h⟩
theorem dec_i {i j : Int} : decide (V.int i = V.int j) = decide (i = j) := by simp
theorem dec_s {i j : Str} : decide (V.str i = V.str j) = decide (i = j) := by simp
theorem rd_eqI {i j : Int} (h : Q (.bl (decide (i = j))) H) : rEq (.int i) (.int j) H Q := ⟨rfl, by rw [dec_i]; exact h⟩
theorem rd_eqS {i j : Str} (h : Q (.bl (decide (i = j))) H) : rEq (.str i) (.str j) H Q := ⟨rfl, by rw [dec_s]; exact h⟩
theorem rd_eqNS {i : Str} (h : Q (.bl false) H) : rEq .non (.str i) H Q := ⟨rfl, by rw [decide_eq_false (fun z => by cases z)]; exact h⟩
theorem rd_isNV (h : Q (.bl (decide (v = .non))) H) : rIsN v .non H Q := ⟨rfl, h⟩
theorem rd_ntNN (h : Q (.bl false) H) : rNotN .non .non H Q := ⟨rfl, h⟩
theorem rd_ntNS {i : Str} (h : Q (.bl true) H) : rNotN (.str i) .non H Q := ⟨rfl, by rw [decide_eq_false (fun z => by cases z)]; exact h⟩
theorem rd_addS {i j : Str} (hl : i.length + j.length ≤ sizeLine) (h : Q (.str (i ++ j)) H) : rAddS (.str i) (.str j) H Q := ⟨i, j, rfl, rfl, hl, h⟩
theorem rd_ifE (h : c σ H fun k H1 => if k = true then ta σ H1 Q else tb σ H1 Q) : tIf c ta tb σ H Q := h
theorem rd_call {sp : Sp} {t : TA} (h : t σ H fun vs H1 => sp vs H1 Q E) : tCall sp [] E t σ H Q := by
  unfold tCall
  simp only [List.append_nil]
  exact h
theorem rd_cb {r : List V → Hp → VK → Prop} {t : TA} (h : t σ H fun vs H1 => r vs H1 Q) : tCB r t σ H Q := h
theorem rd_lst {t : TA} (h : t σ H (NewL Q)) : tLst t σ H Q := h
theorem rd_tup {t : TA} (h : t σ H (NewT Q)) : tTup t σ H Q := h
theorem rd_new' {o : HO} {R : V → Hp → Prop} (h : ∀ p H', H p = none → Same H H' → H' p = some o → R (.ref p) H') : ∀ p, H p = none → R (.ref p) (upd H p o) :=
  fun p hp => h p _ hp (fun b u e => by rw [upd_ne (ne_of_none e hp)]; exact e) upd_same
theorem rd_newL {xs : List V} (hn : xs.length ≤ sizeLine) (h : ∀ p H', H p = none → Same H H' → H' p = some (.lst xs) → Q (.ref p) H') : NewL Q xs H := ⟨hn, rd_new' h⟩
theorem rd_newT {xs : List V} (hn : xs.length ≤ sizeLine) (h : ∀ p H', H p = none → Same H H' → H' p = some (.tup xs) → Q (.ref p) H') : NewT Q xs H := ⟨hn, rd_new' h⟩
theorem rd_newF {xs : List V} (h : ∀ p H', H p = none → Same H H' → H' p = some (.lst xs) → Q (.ref p) H') : NewF Q xs H := rd_new' h
theorem rd_fld {f : Str} (h : ta σ H (FldP K f Q)) : tFld K ta f σ H Q := h
theorem rd_fldV {a C dx : Addr} {fs : List (Str × V)} {f : Str} (e : H a = some (.ins C dx fs)) (cl : Cls K C) (na : NoAttr K C f) (l : fs.lookup f = some v) (h : Q v H) : FldP K f Q (.ref a) H := ⟨a, C, dx, fs, v, rfl, e, cl, na, l, h⟩
theorem rd_sfld {f : Str} (h : ta σ H fun y H1 => tb σ H1 (SFldP K f y (nx σ))) : sFld K tb ta f ⟨nx, rt, bk, ct⟩ σ H := h
theorem rd_sfldV {a C dx : Addr} {fs : List (Str × V)} {f : Str} {y : V} {w : Hp → Prop} (e : H a = some (.ins C dx fs)) (cl : Cls K C) (na : NoAttr K C f) (l : decide (fs.length < 1000) = true)
    (h : ∀ H', (∀ b o, H b = some o → b ≠ a → H' b = some o) → H' a = some (.ins C dx (putF f y fs)) → w H') : SFldP K f y w (.ref a) H :=
  ⟨a, C, dx, fs, rfl, e, cl, na, of_decide_eq_true l, h _ (fun b o q hb => by rw [upd_ne hb]; exact q) upd_same⟩
theorem rd_md {M : Addr → Sp → Prop} {m : Str} {t : TA} (h : ta σ H (MdP M m t σ Q)) : tMD M m ta t σ H Q := h
theorem rd_mdV {M : Addr → Sp → Prop} {m : Str} {t : TA} {a C dx : Addr} {fs : List (Str × V)} {sp : Sp} (e : H a = some (.ins C dx fs)) (l : fs.lookup m = none) (F : M C sp) (h : t σ H fun vs H2 => sp (.ref a :: vs) H2 Q E0) : MdP M m t σ Q (.ref a) H :=
  ⟨a, C, dx, fs, sp, rfl, e, l, F, h⟩
theorem rd_make {C : Addr} {sp : Sp} {dvs : List V} {t : TA} (h : t σ H (MakeP C sp dvs E Q)) : tMake C sp dvs E t σ H Q := h
theorem rd_makeV {C : Addr} {sp : Sp} {dvs vs : List V} {fs : List (Str × V)}
    (hsp : ∀ p dx H0 (Q' : VK), H0 p = some (.ins C dx []) → (∀ H', (∀ b o, H0 b = some o → b ≠ p → H' b = some o) → H' p = some (.ins C dx fs) → Q' .non H') → Same H H0 → sp (.ref p :: (vs ++ dvs)) H0 Q' E)
    (k : ∀ p dx H', H p = none → Same H H' → H' p = some (.ins C dx fs) → Q (.ref p) H') : MakeP C sp dvs E Q vs H := by
  intro x dx nx nd ne
  have s0 : Same H (upd (upd H dx (.own x)) x (.ins C dx [])) := fun b o e => by
    rw [upd_ne (ne_of_none e nx), upd_ne (ne_of_none e nd)]; exact e
  exact hsp x dx _ _ upd_same (fun H' sb e => ⟨rfl, k x dx H' nx (fun b o q => sb b o (s0 b o q) (ne_of_none q nx)) e⟩) s0
theorem rd_comp {wi : TI} {nl : Nat} {ci : List Nat} {ti : TT} (h : wi σ H fun J H1 => tCompW J g ti te (capSt nl ci σ) (NewF Q) H1) : tComp wi nl ci g ti te σ H Q := h
theorem rd_sl {r : V → Option Int → Option Int → Hp → VK → Prop} {tl th : TO} (h : te σ H fun x H1 => tl σ H1 fun l H2 => th σ H2 fun u H3 => r x l u H3 Q) : tSl r te tl th σ H Q := h
theorem rd_ixL {p : Addr} {xs : List V} {i : Int} (e : SqL K H p xs) (l : atI xs i = some v) (h : Q v H) : rIxL K (.ref p) (.int i) H Q := ⟨p, xs, i, v, rfl, rfl, e, l, h⟩
theorem rd_ix2i {p : Addr} {a b i : Int} (e : SqL K H p [.int a, .int b]) (h0 : 0 ≤ i) (h1 : i < 2) (h : ∀ v, (i = 0 ∧ v = a) ∨ (i = 1 ∧ v = b) → Q (.int v) H) : rIxL K (.ref p) (.int i) H Q := by
  have : i = 0 ∨ i = 1 := by omega
  rcases this with rfl | rfl
  · exact ⟨p, _, 0, _, rfl, rfl, e, rfl, h a (.inl ⟨rfl, rfl⟩)⟩
  · exact ⟨p, _, 1, _, rfl, rfl, e, rfl, h b (.inr ⟨rfl, rfl⟩)⟩
theorem rd_setLm {p : Addr} {xs : List V} {k : Int} {j : Nat} {R : Hp → Prop} (e : H p = some (.lst xs)) (l : ixN xs.length k = some j) (h : ∀ H', (∀ b o, H b = some o → b ≠ p → H' b = some o) → H' p = some (.lst (xs.set j v)) → R H') : rSetL (.ref p) (.int k) v H R :=
  ⟨p, xs, k, j, rfl, rfl, e, l, h _ (fun b o q hb => by rw [upd_ne hb]; exact q) upd_same⟩
theorem rd_catL {l b : Addr} {xs zs : List V} (e : H l = some (.lst xs)) (e2 : H b = some (.lst zs)) (hn : xs.length + zs.length ≤ sizeLine) (h : ∀ p H', H p = none → Same H H' → H' p = some (.lst (xs ++ zs)) → Q (.ref p) H') : rCat (.ref l) (.ref b) H Q :=
  ⟨l, b, xs, zs, rfl, rfl, e, e2, hn, rd_new' h⟩
theorem rd_bm {T : String} {r : V → List V → Hp → VK → Prop} {to : TE} {t : TA} (h : to σ H (BmP K T r t σ Q)) : tBM K T r to t σ H Q := h
theorem rd_bm0 {T : String} {r : V → List V → Hp → VK → Prop} {to : TE} (h : to σ H (Bm0P K T r Q)) : tBM0 K T r to σ H Q := h
theorem rd_bmL {r : V → List V → Hp → VK → Prop} {t : TA} {p : Addr} {xs : List V} (e : SqL K H p xs) (h : t σ H fun xs H2 => r (.ref p) xs H2 Q) : BmP K "list" r t σ Q (.ref p) H := ⟨.inl ⟨rfl, xs, e⟩, h⟩
theorem rd_bm0I {r : V → List V → Hp → VK → Prop} {i : Int} (h : r (.int i) [] H Q) : Bm0P K "int" r Q (.int i) H := ⟨rfl, h⟩
structure ICls (K : PySem.W.Frag) (C : Addr) : Prop where
  cl : Cls K C
  ha : PySem.W.findIn K (.ref C) "__class__" = some (some (.builtin "object.__class__"))
  hn : PySem.W.specialIn K (.builtin "object.__class__") "__get__" = some (some (.builtin "getset_descriptor.__get__"))
  tk : PySem.W.takesIn K (.builtin "object.__class__") = some true
  hm : PySem.W.mroIn K C (.type "object") = some true
theorem rd_lenL {p : Addr} {ys : List V} (e : SqL K H p ys) (h : Q (.int ys.length) H) : rLenL K [.ref p] H Q := ⟨p, ys, rfl, .inl e, h⟩
theorem rd_min2 {i j : Int} (h : Q (.int (min i j)) H) : rMin2 [.int i, .int j] H Q := ⟨i, j, rfl, by
  have e : (if j < i then j else i) = min i j := by omega
  rw [e]; exact h⟩
variable {B : Bool → Hp → Prop}
theorem rd_test (h : te σ H (BoolP B)) : tTest te σ H B := h
theorem rd_tB (h : te σ H (BoolP B)) : tB te σ H B := h
theorem rd_and (h : c σ H fun k H1 => if k = true then d σ H1 B else B false H1) : tAnd c d σ H B := h
theorem rd_or (h : c σ H fun k H1 => if k = true then B true H1 else d σ H1 B) : tOr c d σ H B := h
theorem rd_not (h : c σ H fun k H1 => B (!k) H1) : tNot c σ H B := h
theorem rd_exb {b : Bool} {P : Bool → Hp → Prop} (h : P b H) : BoolP P (.bl b) H := ⟨b, rfl, h⟩
theorem rd_ifT {A B : Prop} (h : A) : if true = true then A else B := by rw [if_pos rfl]; exact h
theorem rd_ifF {A B : Prop} (h : B) : if false = true then A else B := by rw [if_neg Bool.false_ne_true]; exact h
theorem rd_ifnT {A B : Prop} (h : B) : if (!true) = true then A else B := rd_ifF h
theorem rd_ifnF {A B : Prop} (h : A) : if (!false) = true then A else B := rd_ifT h
theorem rd_ifP {p A B : Prop} [Decidable p] (hp : p) (h : A) : if decide p = true then A else B := by rw [if_pos (decide_eq_true hp)]; exact h
theorem rd_ifN {p A B : Prop} [Decidable p] (hp : ¬ p) (h : B) : if decide p = true then A else B := by rw [if_neg (by rw [decide_eq_false hp]; exact Bool.false_ne_true)]; exact h
theorem rd_if2 {p A B : Prop} [Decidable p] (h1 : p → A) (h2 : ¬ p → B) : if decide p = true then A else B := ite2 (fun h => h1 (of_decide_eq_true h)) fun h => h2 fun z => h (decide_eq_true z)
variable {L : List V → Hp → Prop} {O : Option Int → Hp → Prop} {tr : TA}
theorem rd_nil (h : L [] H) : tNil σ H L := h
theorem rd_cons (h : te σ H fun x H1 => tr σ H1 fun xs H2 => L (x :: xs) H2) : tCons te tr σ H L := h
theorem rd_noPart (h : O none H) : tNoPart σ H O := h
theorem rd_part (h : te σ H (IntP O)) : tPart te σ H O := h
theorem rd_exi {i : Int} (h : O (some i) H) : IntP O (.int i) H := ⟨i, rfl, h⟩
variable {vs : List V} {gs : TGs}
theorem rd_gsub {to ti : TE} {ts : TSet} (h : to σ H fun o H1 => ti σ H1 fun i H2 => ts o i v H2 fun H3 => q σ H3) : gSub to ti ts v σ H q := h
theorem rd_gnil (h : q σ H) : gNil [] σ H q := ⟨rfl, h⟩
theorem rd_gcons (h : g v σ H fun σ' H' => gs vs σ' H' q) : gCons g gs (v :: vs) σ H q := ⟨v, vs, rfl, h⟩
theorem rd_gtup {a : Addr} {n : Nat} (e : SqT K H a vs) (hl : vs.length = n) (h : gs vs σ H q) : gTup K n gs (.ref a) σ H q := ⟨a, vs, rfl, e, hl, h⟩
variable {R : It → Hp → Prop}
theorem rd_iList (h : te σ H (ItLP K R)) : iList K te σ H R := h
theorem rd_iListV {a : Addr} {xs : List V} (e : SqL K H a xs) (h : R (Itl K a) H) : ItLP K R (.ref a) H := ⟨a, rfl, ⟨xs, e⟩, h⟩
theorem rd_iRng1 (h : tr σ H (It1P R)) : iRng1 tr σ H R := h
theorem rd_iRng1V {j : Int} (h0 : -4611686018427387904 ≤ j) (h1 : j < 4611686018427387904) (h : R (Itr 0 j.toNat) H) : It1P R [.int j] H := ⟨j, rfl, by omega, by omega, h⟩
theorem rd_iRng2 (h : tr σ H (It2P R)) : iRng2 tr σ H R := h
theorem rd_iRng2V {i j : Int} (h0 : -4611686018427387904 ≤ i) (h1 : i < 4611686018427387904) (h2 : -4611686018427387904 ≤ j) (h3 : j < 4611686018427387904) (h : R (Itr i (j - i).toNat) H) : It2P R [.int i, .int j] H := ⟨i, j, rfl, ⟨by omega, by omega, by omega, by omega⟩, h⟩
theorem rd_forL {a : Addr} {tb : TS} (xs : List V) (Pv : Nat → St → Hp → Prop) (h0 : Pv 0 σ H) (hl : ∀ i σ H, i ≤ xs.length → Pv i σ H → SqL K H a xs)
    (hs : ∀ i x σ H, xs[i]? = some x → Pv i σ H → g x σ H fun σ2 H2 => tb ⟨Pv (i + 1), rt, nx, Pv (i + 1)⟩ σ2 H2) (hd : ∀ σ H, Pv xs.length σ H → nx σ H) : ForP (Itl K a) g tb ⟨nx, rt, bk, ct⟩ σ H :=
  for_list (D := ⟨nx, rt, bk, ct⟩) Pv h0 hl hs hd
theorem rd_forR {lo : Int} {n : Nat} {tb : TS} (Pv : Nat → St → Hp → Prop) (h0 : Pv 0 σ H)
    (hs : ∀ i σ H, i < n → Pv i σ H → g (.int (lo + i)) σ H fun σ2 H2 => tb ⟨Pv (i + 1), rt, nx, Pv (i + 1)⟩ σ2 H2) (hd : ∀ σ H, Pv n σ H → nx σ H) : ForP (Itr lo n) g tb ⟨nx, rt, bk, ct⟩ σ H :=
  for_range (D := ⟨nx, rt, bk, ct⟩) Pv h0 hs hd
end
section
variable {K : PySem.W.Frag} {te : TE} {σ : St} {ci : List Nat} {rest : St} {fin : List V → Hp → Prop} {H : Hp} {a : Addr}
theorem capSt1 (hr : ci.map (fun i => (σ[i]?).join) = rest) : capSt 1 ci σ = none :: rest := by
  unfold capSt
  rw [hr]; rfl
theorem comp_rangeP {lo : Int} {n : Nat} (P : Nat → V → Prop) (hn : n ≤ sizeLine) (hr : ci.map (fun i => (σ[i]?).join) = rest)
    (hs : ∀ i H1, i < n → Same H H1 → ∀ R : VK, (∀ y H2, P i y → Same H1 H2 → R y H2) → te (some (.int (lo + i)) :: rest) H1 R)
    (hf : ∀ ys H1, Same H H1 → ys.length = n → (∀ i y, ys[i]? = some y → P i y) → fin ys H1) : tCompW (Itr lo n) (gName 0) tAll te (capSt 1 ci σ) fin H := by
  rw [capSt1 hr]
  refine comp_range (fun i ys H1 => Same H H1 ∧ ys.length = i ∧ ∀ j y, ys[j]? = some y → P j y) hn rfl ⟨Same.refl _, rfl, fun j y h => by simp at h⟩ (fun i ys H1 ok => Nat.le_of_eq ok.2.1) (fun ys H1 ok => hf ys H1 ok.1 ok.2.1 ok.2.2) ?_
  intro i ys H1 hi ⟨s1, hl, hp⟩ R hR
  refine hs i H1 hi s1 R fun y H2 hy s2 => hR y H2 ⟨s1.trans s2, by simp [hl], fun j z hz => ?_⟩
  by_cases hj : j < ys.length
  · rw [List.getElem?_append_left hj] at hz
    exact hp j z hz
  · rw [List.getElem?_append_right (by omega)] at hz
    have hj0 : j - ys.length = 0 := by
      cases e : j - ys.length with
      | zero => rfl
      | succ k => rw [e] at hz; simp at hz
    rw [hj0] at hz
    have : z = y := by simpa using hz.symm
    subst this
    have : j = i := by omega
    subst this
    exact hy
end
section
variable {K : PySem.W.Frag} {te : TE} {σ : St} {ci : List Nat} {rest : St} {fin : List V → Hp → Prop} {H : Hp} {a : Addr}
theorem map_of_get {α β : Type} {xs : List α} {ys : List β} {f : α → β} (hl : ys.length = xs.length) (h : ∀ (i : Nat) y, ys[i]? = some y → ∃ x, xs[i]? = some x ∧ y = f x) : ys = xs.map f := by
  apply List.ext_getElem?
  intro i
  rw [List.getElem?_map]
  cases e : ys[i]? with
  | none =>
    have : xs[i]? = none := by
      rw [List.getElem?_eq_none_iff] at e ⊢
      omega
    rw [this]; rfl
  | some y =>
    obtain ⟨x, hx, rfl⟩ := h i y e
    rw [hx]; rfl
theorem comp_rng {lo : Int} {n : Nat} (f : Nat → V) (hn : n ≤ sizeLine) (hr : ci.map (fun i => (σ[i]?).join) = rest)
    (hs : ∀ i H1, i < n → Same H H1 → ∀ R : VK, (∀ H2, Same H1 H2 → R (f i) H2) → te (some (.int (lo + i)) :: rest) H1 R)
    (hf : ∀ H1, Same H H1 → fin ((List.range n).map f) H1) : tCompW (Itr lo n) (gName 0) tAll te (capSt 1 ci σ) fin H := by
  refine comp_rangeP (fun i y => y = f i) hn hr (fun i H1 hi s1 R hR => hs i H1 hi s1 R fun H2 s2 => hR _ H2 rfl s2) ?_
  intro ys H1 s1 hl hp
  have e : ys = (List.range n).map f := by
    refine map_of_get (by rw [hl, List.length_range]) fun i y hy => ?_
    have hi : i < n := by
      rw [← hl]
      exact (List.getElem?_eq_some_iff.mp hy).1
    exact ⟨i, by simp [hi], hp i y hy⟩
  rw [e]
  exact hf H1 s1
end
theorem Same.at {H H' : Hp} {b : Addr} {o : HO} (s : Same H H') (h : H b = some o) : H' b = some o := s b o h
def SameBut (p : Addr) (H H' : Hp) : Prop := ∀ b o, H b = some o → b ≠ p → H' b = some o
theorem SameBut.upd {p : Addr} {H : Hp} {o : HO} : SameBut p H (upd H p o) := fun b u e hb => by rw [upd_ne hb]; exact e
theorem SameBut.trans {p : Addr} {H H1 H2 : Hp} (a : SameBut p H H1) (b : SameBut p H1 H2) : SameBut p H H2 := fun c o h hc => b c o (a c o h hc) hc
theorem Same.but {p : Addr} {H H' : Hp} (s : Same H H') : SameBut p H H' := fun b o e _ => s b o e
theorem SameBut.same {p : Addr} {H H0 H' : Hp} (n : H0 p = none) (s : Same H0 H) (b : SameBut p H H') : Same H0 H' := fun c o e => b c o (s c o e) (ne_of_none e n)
theorem rd_start {t : TS} {D : Ends} {N : List Str} {vs : List V} {σ : St} {H : Hp} (e : start N vs = σ) (h : t D σ H) : t D (start N vs) H := e ▸ h
theorem SameBut.refl {p : Addr} {H : Hp} : SameBut p H H := fun _ _ e _ => e
theorem SameBut.snoc {p : Addr} {H H1 H2 : Hp} (b : ∀ c o, H1 c = some o → c ≠ p → H2 c = some o) (a : SameBut p H H1) : SameBut p H H2 := fun c o h hc => b c o (a c o h hc) hc
theorem SameBut.snocS {p : Addr} {H H1 H2 : Hp} (b : Same H1 H2) (a : SameBut p H H1) : SameBut p H H2 := fun c o h hc => b c o (a c o h hc)
theorem Same.snoc {H H1 H2 : Hp} (b : Same H1 H2) (a : Same H H1) : Same H H2 := a.trans b
theorem lk_same {f : Str} {v : V} {fs : List (Str × V)} : (putF f v fs).lookup f = some v := by rw [lookup_putF, if_pos rfl]
theorem lk_ne {f g : Str} {v : V} {o : Option V} {fs : List (Str × V)} (h : decide (g = f) = false) (l : fs.lookup g = o) : (putF f v fs).lookup g = o := by rw [lookup_putF, if_neg (of_decide_eq_false h)]; exact l
theorem lk_nil {f : Str} : ([] : List (Str × V)).lookup f = none := rfl
section
variable {K : PySem.W.Frag} {x qual : Str} {st : Stmt} {kV doc pm cdv ct : Value} {an : Option Addr} {ps : List Str}
theorem binds_n (h : ∀ us : List Value, us.length = ps.length → bindArgs (PySem.W.fnOf x qual (defArgs st) (defBody st) (defScope st) .none kV doc pm an cdv ct) ⟨us, []⟩ = pure (ps.zip us)) :
    Binds K (PySem.W.fnOf x qual (defArgs st) (defBody st) (defScope st) .none kV doc pm an cdv ct) ps [] := .all h
theorem binds_d (k : Nat) {T : Addr} {ds : List Value} {oc : Value} {od : Option Addr} {sl : Array (Option Value)} {items : Array Value} {n : Nat} (lt : K.lookup T = some ⟨oc, od, .seq items n, sl⟩)
    (h : ∀ us : List Value, us.length = k → ∃ k, bindArgs (PySem.W.fnOf x qual (defArgs st) (defBody st) (defScope st) (.ref T) kV doc pm an cdv ct) ⟨us, []⟩ = seqItems? (.ref T) >>= k ∧ k (some items) = pure (ps.zip (us ++ ds))) (hk : k + ds.length = ps.length := by rfl) :
    Binds K (PySem.W.fnOf x qual (defArgs st) (defBody st) (defScope st) (.ref T) kV doc pm an cdv ct) ps ds := fun s us hK hl => by
  obtain ⟨k, h1, h2⟩ := h us (by rw [List.length_append] at hl; omega)
  exact .of_defaults (T := T) (items := items) (n := n) rfl (hK T _ lt) rfl h1 h2
end
theorem lit_len (s : String) : (Str.ofString s).length = s.length := by
  rw [Str.ofString_eq_toList]
  show (s.toList.map Char.toNat).toArray.size = _
  rw [List.size_toArray, List.length_map, String.length_toList]
def sgB (c : Nat) : Bool := decide (97 ≤ c) && decide (c ≤ 122)
def lowB (z : Str) : Bool := z.cps.toList.all sgB
def nameB (z : Str) : Bool := decide (1 ≤ (z.length : Int)) && decide ((z.length : Int) ≤ 8) && lowB z
theorem nameB_len {z : Str} (h : nameB z = true) : z.length ≤ 8 := by
  unfold nameB at h
  simp only [Bool.and_eq_true, decide_eq_true_eq] at h
  omega
theorem nameB_of {z : Str} (h0 : 1 ≤ z.length) (h1 : z.length ≤ 8) (h2 : lowB z = true) : nameB z = true := by
  unfold nameB
  simp only [Bool.and_eq_true, decide_eq_true_eq]
  exact ⟨⟨by omega, by omega⟩, h2⟩
theorem str_app_cps (x y : Str) : (x ++ y).cps.toList = x.cps.toList ++ y.cps.toList := by
  show (x.cps ++ y.cps).toList = _
  simp
theorem str_app_len (x y : Str) : (x ++ y).length = x.length + y.length := by
  show (x.cps ++ y.cps).size = _
  rw [Array.size_append]; rfl
theorem one_len (c : Nat) : (⟨#[c]⟩ : Str).length = 1 := rfl
theorem str_ext {x y : Str} (h : x.cps.toList = y.cps.toList) : x = y := by
  cases x; cases y
  have : _ = _ := Array.ext' h
  cases this; rfl
end L2
namespace L2
open PySem PySem.Spec PyProof.Rows
section
variable {prog : Program} {w : World} {A : Around} {E : Value → Shared → Prop} {s : Shared}
theorem isList_ext {h h' : Heap} {it l : Addr} {items : Array Value} (hl : h.IsList l items) (x : Heap.ExtBut it h h') (hne : l ≠ it) : h'.IsList l items := by
  obtain ⟨o, ho, r⟩ := hl
  exact ⟨o, x l o hne ho, r⟩
theorem draw_list {it t : Addr} {items : Array Value} (hne : t ≠ it) : ∀ (n i : Nat) (s : Shared) (Q : List Value → Shared → Prop), s.heap.IsListIter it t i → s.heap.IsList t items → i + n ≤ items.size →
    (∀ h' : Heap, h'.IsListIter it t (i + n) → Heap.SameBut it s.heap h' → Q ((items.toList.drop i).take n) { s with heap := h' }) → wpAny (model prog w) A (draw (.ref it) n) Q E s
  | 0, i, s, Q, hit, _, _, hQ => by
    show wpAny _ _ (pure []) Q E s
    exact wpAny_pure (by simpa using hQ s.heap hit (Heap.SameBut.refl ..))
  | n + 1, i, s, Q, hit, ht, hle, hQ => by
    have hlt : i < items.size := by omega
    show wpAny _ _ (pyNext (.ref it) >>= _) Q E s
    refine wpAny_bind (wpAny_pyNext_list_item hit ht (x := items[i]) (by simp [hlt]) fun h₁ hit₁ hs₁ => ?_)
    refine wpAny_bind (wpAny_holding (draw_list hne n (i + 1) _ _ hit₁ (isList_ext ht hs₁.extBut hne) (by omega) fun h₂ hit₂ hs₂ => wpAny_pure ?_))
    have hd : items.toList.drop i = items[i] :: items.toList.drop (i + 1) := by simp [List.drop_eq_getElem_cons, hlt]
    have := hQ h₂ (by rw [show i + (n + 1) = i + 1 + n by omega]; exact hit₂) (hs₁.trans hs₂)
    rw [hd, List.take_succ_cons] at this
    exact this
theorem unpackItems_list {t : Addr} {items : Array Value} {Q : List Value → Shared → Prop} (hh : A.handled = none) (ht : s.heap.IsList t items)
    (hQ : ∀ h', Heap.ExtBut s.heap.objs.size s.heap h' → Q items.toList { s with heap := h' }) : wpAny (model prog w) A (unpackItems (.ref t) items.size none) Q E s := by
  have hlt : t ≠ s.heap.objs.size := by obtain ⟨o, ho, _⟩ := ht; exact Nat.ne_of_lt (Heap.lt_size ho)
  unfold unpackItems
  refine wpAny_bind ?_
  · unfold notIterableAtAll
    refine wpAny_bind (wpAny_specialOf ht.typeIs slot_list_iter.lookup ?_)
    refine wpAny_pure ?_
    simp only [Bool.false_eq_true, if_false]
    refine wpAny_bind (wpAny_holding (wpAny_pyIter_list ht ?_))
    refine wpAny_bind (wpAny_holding (draw_list hlt items.size 0 _ _ ⟨_, Heap.get?_push_size _ rfl, rfl, rfl⟩ (ht.push _) (by omega) fun h₁ hit₁ hs₁ => ?_))
    have hall : List.take items.size (List.drop 0 items.toList) = items.toList := by
      rw [List.drop_zero]; exact List.take_of_length_le (by simp)
    rw [hall]
    rw [if_neg (by simp)]
    have ht₁ : h₁.IsList t items := isList_ext (ht.push _) hs₁.extBut hlt
    refine wpAny_bind (wpAny_holding (wpAny_pyNext_list_end hh hit₁ ht₁ (by simp) fun h₂ he₂ => ?_))
    simp only [Option.isSome_none, Bool.false_eq_true, if_false]
    refine wpAny_pure (hQ h₂ fun b o hb e => he₂ b o hb (hs₁.extBut b o hb (Heap.get?_push_of_some _ e)))
theorem assign_Tuple_list {env : Env} {elts : List Expr} {x1} {pos : Pos} {t : Addr} {items : Array Value} {Q : Unit → Shared → Prop} (hh : A.handled = none) (ht : s.heap.IsList t items)
    (hn : (assignEach elts env).length = items.size) (hstar : (assignEach elts env).findIdx? (·.1) = none)
    (h : ∀ h', Heap.ExtBut s.heap.objs.size s.heap h' → wpAny (model prog w) A (assignInOrder ((assignEach elts env).map (·.2)) items.toList) Q E { s with heap := h' }) :
    wpAny (model prog w) A (assign (.Tuple elts x1 pos) env (.ref t)) Q E s := by
  rw [assign_Tuple]
  refine wpAny_bind (wpAny_standAt ?_)
  unfold unpack
  rw [hn, hstar]
  exact wpAny_bind (wpAny_holding (unpackItems_list hh ht h))
end
section
variable {X : Cx} {pos : Pos}
def gTupL (K : PySem.W.Frag) (n : Nat) (t : TGs) : TG := fun v σ H Q => ∃ a xs, v = .ref a ∧ SqL K H a xs ∧ xs.length = n ∧ t xs σ H Q
theorem pg_tupL {es : List Expr} {k : Nat} {t : TGs} {n : Nat} (hc : X.calm = true) (h : PGs X es t)
    (hn : (assignEach es X.env).length = n := by rfl) (hst : (assignEach es X.env).findIdx? (·.1) = none := by rfl) : PG X (.Tuple es k pos) (gTupL X.K n t) := by
  intro pins s σ H v u Q I r hw
  obtain ⟨a, xs, e1, hq, hl, hw⟩ := hw
  subst e1
  cases r
  obtain ⟨its, rv, ht, hz⟩ := I.list hq
  refine assign_Tuple_list (I.ok.hd hc) ht.isList (by simp [hn, ← hl, rv.length]) hst fun h' hx => ?_
  have I1 : Inv X pins σ H { s with heap := h' } := I.kept (t' := s.toks) fun b o e => hx b o (Nat.ne_of_lt (Heap.lt_size e)) e
  exact h pins _ σ H xs _ Q I1 (by simpa using rv) hw
end
theorem rd_gtupL {K : PySem.W.Frag} {H : Hp} {σ : St} {q : St → Hp → Prop} {gs : TGs} {vs : List V} {a : Addr} {n : Nat} (e : SqL K H a vs) (hl : vs.length = n) (h : gs vs σ H q) : gTupL K n gs (.ref a) σ H q := ⟨a, vs, rfl, e, hl, h⟩
section
variable {nx bk ct : St → Hp → Prop} {rt : VK} {σ : St} {H : Hp} {g : TG} {K : PySem.W.Frag} {a : Addr} {tb : TS} {xs : List V}
end
theorem rd_modF {H : Hp} {Q : VK} {i j : Int} (h0 : 0 < j) (h : 0 ≤ i % j → i % j < j → Q (.int (i % j)) H) : rI (fun _ j => 0 < j) (fun i j => .int (i % j)) (.int i) (.int j) H Q := ⟨i, j, rfl, rfl, h0, h (Int.emod_nonneg _ (by omega)) (Int.emod_lt_of_pos _ h0)⟩
end L2
namespace L2
open PySem PySem.Spec PyProof.Rows PySem.W
section
variable {prog : Program} {w : World} {A : Around} {E : Value → Shared → Prop} {h : Heap} {g : Array GenState} {d : Drawn} {t : Nat} {os : OsState} {a C : Addr} {o : Obj} {vs : Array Value} {K : Frag}
end
end L2
namespace L2
open PySem PySem.Spec PyProof.Rows PySem.W
section
variable {P : Program} {w : World} {H H' : Hp} {h h' : Heap} {a : Addr} {o : HO}
end
section
variable {X : Cx} {pins : List (Addr × Obj)} {σ : St} {H H1 : Hp} {s s1 : Shared} {h2 B : Heap}
end
end L2
namespace L2
open PySem PySem.Spec PyProof.Rows PySem.W
section
variable {X : Cx} {E : XK} {x : Str} {C : Addr} {np cpos pos : Pos} {e : Expr} {es : List Expr} {t : TA}
end
section
variable {X : Cx} {k k' : Nat} {sp : Sp} {x m : Str} {p pos apos : Pos} {e o : Expr} {es : List Expr} {ta : TE} {t : TA} {C : Addr} {dvs : List V} {E : XK} {ps : List Str}
end
section
variable {P : Program} {w : World} {K : PySem.W.Frag} {mg : Str → Option Value} {base : Heap}
end
end L2
namespace L2
open PySem PySem.Spec PyProof.Rows PySem.W
section
variable {X : Cx} {pins : List (Addr × Obj)} {σ : St} {H : Hp} {s : Shared} {ea : Addr}
end
section
variable {X : Cx} {k k' : Nat} {sp : Sp} {x m : Str} {p pos apos : Pos} {e o : Expr} {es : List Expr} {ta : TE} {t : TA} {C f : Addr} {dvs : List V} {ds : List Value} {R : XK} {ps : List Str} {fd : FuncData}
end
section
variable {X : Cx} {i : Nat} {n x : Str} {T : Addr} {np hpos pos epos : Pos} {e : Expr} {tc : XK → TE} {b₀ : Stmt} {suite : List Stmt} {ts : TS}
end
end L2
namespace L2
open PySem PySem.Spec PyProof.Rows PySem.W
section
variable {X : Cx} {x : Str} {j : Nat} {p pos : Pos} {e v1 v2 : Expr} {es : List Expr} {te : TE} {t : TJ}
end
end L2
namespace L2
open PySem PySem.W
section
variable {K : Frag} {C D : Addr} {cd : ClassData} {b : Bool}
end
variable {K : Frag} {H : Hp} {Q : VK}
end L2
namespace L2
open PySem PySem.W
end L2
set_option maxHeartbeats 4000000
namespace L2
open PySem PySem.Spec PyProof.Rows
abbrev kn (o : Obj) : HO := .frz o (.ext fun _ => True)
theorem kn_ok {P : Program} {w : World} {H : Hp} {h : Heap} {a : Addr} {o : Obj} (e : h.get? a = some o) : ObjOk P w H h a (kn o) := ⟨e, trivial, ⟨o, e⟩, fun _ _ _ _ => trivial⟩
theorem kn_get {P : Program} {w : World} {H : Hp} {h : Heap} {a : Addr} {o : Obj} (x : HOk P w H h) (e : H a = some (kn o)) : h.get? a = some o := (x a _ e).1
section
variable {X : Cx} {pins : List (Addr × Obj)} {σ : St} {H : Hp} {s : Shared}
end
section
variable {X : Cx} {CX : CXT} {k k' : Nat} {sp : Sp} {E : XK} {x y : Str} {p pos : Pos} {e : Expr} {es : List Expr} {t : TA} {i : Nat} {c : Addr}
end
def cxL (CX : CXT) (P : Program) (w : World) (K : PySem.W.Frag) (mg : Str → Option Value) (base : Heap) (N : List Str) (qual : Str) (scope : Scope) (f : Addr) (cd : Value) (cl : List (Str × Addr)) (A : Around) (outer : List Env) (s : Shared) (H : Hp) (E : XK) : Cx where
  prog := P
  w := w
  K := K
  mg := mg
  base := base
  A := A.deeper (PySem.W.envX qual scope s.heap.objs.size f cd cl)
  N := N
  s₀ := s
  H₀ := H
  env := PySem.W.envX qual scope s.heap.objs.size f cd cl
  outer := outer
  stack := PySem.W.envX qual scope s.heap.objs.size f cd cl :: outer
  ex := []
  calm := true
  fn := fun _ => false
  pn := []
  xe := fun e s' => wpAny (model P w) (A.deeper (PySem.W.envX qual scope s.heap.objs.size f cd cl)) (leaving (PySem.W.envX qual scope s.heap.objs.size f cd cl) e) (fun _ s'' => CX outer H s E e s'') (fun e' s'' => CX outer H s E e' s'') s'
def LamAt (H : Hp) (F : Addr) (fd : FuncData) (qual : Str) (args : Arguments) (body : Expr) (sc : Scope) (y : Str) (c : Addr) : Prop :=
  ∃ (c' : Addr) (pm ctv : Value) (oc : Obj) (fv : Array Value) (t : Tok), fd = PySem.W.kla_fn "<lambda>" qual args body sc [(y, c)] pm (.ref c') ctv ∧
    H F = some (kn (PySem.W.kla_obj "<lambda>" qual args body sc [(y, c)] pm c' ctv)) ∧ H c' = some (kn oc) ∧ oc.data = .fields fv ∧ fv[1]? = some (.str qual t)
theorem LamAt.same {H H' : Hp} {F : Addr} {fd : FuncData} {qual : Str} {args : Arguments} {body : Expr} {sc : Scope} {y : Str} {c : Addr} (x : LamAt H F fd qual args body sc y c) (s : Same H H') : LamAt H' F fd qual args body sc y c :=
  let ⟨c', pm, ctv, oc, fv, t, e1, e2, e3, r⟩ := x; ⟨c', pm, ctv, oc, fv, t, e1, s _ _ e2, s _ _ e3, r⟩
section
variable {P : Program} {w : World} {K : PySem.W.Frag} {mg : Str → Option Value} {base : Heap}
end
section
variable {X : Cx} {k k' : Nat} {x : Str} {p pos : Pos} {e : Expr} {es : List Expr} {t : TA}
def tCallV (F : Addr → FuncData → List Str → Sp → Prop) (K : PySem.W.Frag) (i : Nat) (t : TA) : TE := fun σ H Q => ∃ f o fd, σ[i]? = some (some (.ref f)) ∧ H f = some (kn o) ∧ o.data = .func fd ∧
  t σ H fun vs H1 => ∃ ps sp, H1 f = some (kn o) ∧ Binds K fd ps [] ∧ F f fd ps sp ∧ sp vs H1 Q E0
theorem fnAt_of {h : Heap} {f : Addr} {o : Obj} {fd : FuncData} (e : h.get? f = some o) (d : o.data = .func fd) : PySem.W.FnAt f h := by
  obtain ⟨oc, od, dt, sl⟩ := o
  have d' : dt = .func fd := d
  subst d'
  exact ⟨oc, od, fd, sl, e⟩
theorem pe_callV (k : Nat) (i : Nat) (hr : Room k' X.A) (ha : PA X (e :: es) t) (hk : k ≤ k' := by decide) (hN : X.N[i]? = some x := by rfl) (hv : Vis X.env.scope x := by first | exact Or.inl rfl | exact Or.inr (Or.inl rfl) | exact Or.inr (Or.inr rfl))
    (hdb : (x == ("__debug__" : Str)) = false := by decide) (hcd : (x == ("__classdict__" : Str)) = false := by decide) (he : starEach (e :: es) X.env = (false, eval e X.env) :: starEach es X.env := by rfl) (hpl : (backTo pos (starEach es X.env)).any (·.1) = false := by rfl) :
    PE X (.Call (.Name x p) (e :: es) [] pos) (tCallV (fun f fd ps sp => FnOk X.prog X.w X.K X.mg X.base CX0 k f fd ps sp) X.K i t) := by
  intro pins s σ H Q I h
  obtain ⟨f, o, fd, hi, hf, hd, h⟩ := h
  refine wpAny_Call_Name_kw (thn (pe_var (i := i) hN hv hdb hcd pins s σ H (fun v' H' => v' = .ref f ∧ H' f = some (kn o) ∧ t σ H' fun vs H1 => ∃ ps sp, H1 f = some (kn o) ∧ Binds X.K fd ps [] ∧ FnOk X.prog X.w X.K X.mg X.base CX0 k f fd ps sp ∧ sp vs H1 Q E0) I ⟨_, hi, rfl, hf, h⟩) fun u s1 ⟨v1, H1, I1, rv, e1, hf1, q1⟩ => ?_)
  subst e1
  obtain rfl : u = Value.ref f := rv
  refine PySem.W.callWith_F (fnAt_of (kn_get I1.hok hf1) hd) (thn (ha pos pins s1 σ H1 _ I1 q1) fun us s2 ⟨vs, H2, I2, r, ps, sp, hf2, hb, F, q⟩ => ⟨fnAt_of (kn_get I2.hok hf2) hd, ?_⟩) he hpl
  have q' : sp (vs ++ []) H2 Q E0 := by rw [List.append_nil]; exact q
  exact run_fn (us := us) (vs := vs) F (hr.mono hk) hb .nil pass0 I2 r q'
end
section
variable {X : Cx} {args : Arguments} {body : Expr} {lsc : Scope} {pos : Pos} {y : Str} {c cL PL : Addr}
end
end L2
namespace L2
open PySem PySem.Spec PyProof.Rows
section
variable {P : Program} {w : World} {K : PySem.W.Frag} {mg : Str → Option Value} {base : Heap}
end
theorem law_callT {P : Program} {w : World} {K : PySem.W.Frag} {mg mb : Str → Option Value} {CX : CXT} {k : Nat} {fa a cL PL : Addr} {fd : FuncData} {x : Str} {sp : Sp} {s₁ : Shared} {vs : List Value} {ns : List Int}
    (KX : K.In s₁.heap) (hns : s₁.heap.Ns mainGlobals mg) (hb : s₁.heap.Ns builtinsNs mb) (hbb : ∀ x : Str, x ≠ "__name__" → mb x = bootBuiltins x) (hlim : s₁.heap.NoLimit) (hg : s₁.gens = #[])
    (C : PySem.W.CodeHd s₁.heap cL PL) (hP : s₁.heap.get? PL = some (PySem.W.tabObj #[])) (hKP : K.lookup PL = none)
    (hbm : ∃ bm ob, mg "__builtins__" = some (.ref bm) ∧ bm ≠ builtinsNs ∧ s₁.heap.get? bm = some ob ∧ ob.cls = .type "module" ∧ ob.dict = some builtinsNs ∧ ob.data = .plain)
    (ha : s₁.heap.get? a = some { cls := .type "list", data := .seq vs.toArray }) (hi : IntsAre vs ns) (hl : ns.length ≤ sizeLine) (hr : Room k callerA)
    (F : ∀ base : Heap, PySem.W.CodeHd base cL PL → base.BuiltinsAt mg PL → FnOk P w K mg base CX k fa fd [x] sp) (hbind : ∀ (s : Shared) (u : Value), BindsTo s fd ⟨[u], []⟩ [(x, u)])
    (hsp : ∀ H : Hp, SqL K H a (ns.map V.int) → H PL = some (.tbl #[]) → sp [.ref a] H (fun v _ => v = .bl true) fun _ _ _ => False)
    (hCX : ∀ H e s', CX [] H s₁ (fun _ _ _ => False) e s' → False) :
    codeAny (model P w) callerA (.call (.ref fa) ⟨[.ref a], []⟩) (fun r s' => r = .ok (.ret (.bool true)) ∧ OldK s₁.heap s'.heap ∧ s'.os = s₁.os ∧ AllBare s'.gens) s₁ := by
  have rv := vals_ints hi
  have lenV := hi.length
  have naP : a ≠ PL := fun z => by rw [z, hP] at ha; cases ha
  have core : ∀ H : Hp, H PL = some (.tbl #[]) → SqL K H a (ns.map V.int) → HOk P w H s₁.heap → (∀ b, H b ≠ none → b = a ∨ b = PL) → (H a ≠ none → K.lookup a = none) → (∀ u, H a = some u → ∃ o xs, u = .frz o (.lst xs)) →
      codeAny (model P w) callerA (.call (.ref fa) ⟨[.ref a], []⟩) (fun r s' => r = .ok (.ret (.bool true)) ∧ OldK s₁.heap s'.heap ∧ s'.os = s₁.os ∧ AllBare s'.gens) s₁ := by
    intro H hHP hS hok hA hK hfz
    have base_of : ∀ {b : Addr} {o : Obj}, s₁.heap.get? b = some o → H b = none → (hidT s₁.heap H).get? b = some o := fun e n => hidT_get e n
    have noT : ∀ {b : Addr} {o : Obj}, s₁.heap.get? b = some o → o.cls ≠ .none → o.cls ≠ .type "list" → H b = none := fun {b o} e n1 n2 => by
      cases q : H b with
      | none => rfl
      | some u =>
        rcases hA b (by rw [q]; simp) with z | z
        · rw [z, ha] at e; cases e; exact absurd rfl n2
        · rw [z, hP] at e; cases e; exact absurd rfl n1
    have noA : ∀ {b : Addr} {o : Obj} {es : Array DictEntry} {ep : Nat}, s₁.heap.get? b = some o → o.data = .dict es ep → H b = none := fun {b o es ep} e d => by
      cases q : H b with
      | none => rfl
      | some u =>
        rcases hA b (by rw [q]; simp) with z | z
        · rw [z, ha] at e; cases e
          have d' : Data.seq vs.toArray _ = Data.dict es ep := d
          cases d'
        · rw [z, hP] at e; cases e
          have d' : Data.fields #[] = Data.dict es ep := d
          cases d'
    have nsK : ∀ {b : Addr} {m : Str → Option Value}, s₁.heap.Ns b m → (hidT s₁.heap H).Ns b m := fun {b m} ⟨o, es, ep, e, d, r⟩ => ⟨o, es, ep, base_of e (noA e d), d, r⟩
    have hKb : K.In (hidT s₁.heap H) := fun b o e => base_of (KX b o e) (by
      cases q : H b with
      | none => rfl
      | some u =>
        rcases hA b (by rw [q]; simp) with z | z
        · subst z
          rw [hK (by rw [q]; simp)] at e; cases e
        · rw [z, hKP] at e; cases e)
    have hM : Mod K mg (hidT s₁.heap H) := ⟨hKb, nsK hns, ⟨mb, nsK hb, hbb⟩, let ⟨mc, h1, h2⟩ := hlim; ⟨mc, nsK h1, h2⟩⟩
    have e0 : Env0 P w K mg (hidT s₁.heap H) callerA [] s₁ H := ⟨rfl, hM, fun b o e => of_hidT e, Nat.le_of_eq (hidT_size _ _), trivial, fun b hb => absurd (show b ∈ ([] : List Addr) from hb) (by simp), hok, .of_eq hg⟩
    have hC : PySem.W.CodeHd (hidT s₁.heap H) cL PL := by
      obtain ⟨o, fv, file, tf, flags, tg, inF, text, tt, e1, e2, r⟩ := C
      exact ⟨o, fv, file, tf, flags, tg, inF, text, tt, base_of e1 (noT e1 (by rw [e2]; intro z; cases z) (by rw [e2]; decide)), e2, r⟩
    have hB : (hidT s₁.heap H).BuiltinsAt mg PL := by
      obtain ⟨bm, ob, b1, b2, b3, b4, b5, b6⟩ := hbm
      refine ⟨bm, ob, b1, b2, fun z => ?_, fun z => ?_, base_of b3 (noT b3 (by rw [b4]; intro z; cases z) (by rw [b4]; decide)), b4, b5, b6⟩
      · obtain ⟨o, es, ep, e, hd, _⟩ := hns
        rw [z, e] at b3; cases b3; rw [hd] at b6; cases b6
      · rw [z, hP] at b3; cases b3; cases b4
    refine codeAny_mono ((F _ hC hB).run callerA [] s₁ H ⟨[.ref a], []⟩ [.ref a] [.ref a] _ _ hr e0 (hbind s₁ (.ref a)) (.cons rfl .nil) (hsp H hS hHP)) fun r s' h => ?_
    cases r with
    | error e => exact (hCX H e s' h).elim
    | ok fl =>
      cases fl with
      | next => exact False.elim h
      | brk => exact False.elim h
      | cont => exact False.elim h
      | ret u =>
        obtain ⟨v, H', os, bare, un, hok', r', q⟩ := h
        have q' : v = .bl true := q
        subst q'
        obtain rfl : u = Value.bool true := r'
        have kept : ∀ b o, b ≠ PL → s₁.heap.get? b = some o → s'.heap.get? b = some o := fun b o nb e => by
          cases q : H b with
          | none => exact un.keep b o e q (by intro z; exact absurd (show b ∈ ([] : List Addr) from z) (by simp)) (by simp)
          | some u =>
            rcases hA b (by rw [q]; simp) with z | z
            · subst z
              obtain ⟨ob, xs, rfl⟩ := hfz u q
              have z2 := un.frzs b ob _ q
              obtain ⟨e1, _⟩ := hok b _ q
              obtain ⟨e2, _⟩ := hok' b _ z2
              rw [e] at e1; cases e1
              exact e2
            · exact absurd z nb
        obtain ⟨more, hm⟩ := un.tbls PL #[] hHP
        have gP' : s'.heap.get? PL = some (PySem.W.tabObj (#[] ++ more)) := hok' PL _ hm
        refine ⟨rfl, ⟨fun b o e => ?_, fun b o e => ?_⟩, os, bare⟩
        · by_cases hb : b = PL
          · subst hb
            rw [hP] at e; cases e
            exact .inr (.inl ⟨(C.tab hP).isCodeTable, rfl, #[], more, rfl, gP'⟩)
          · exact .inl (kept b o hb e)
        · by_cases hb : b = PL
          · subst hb; exact ⟨_, gP'⟩
          · exact ⟨o, kept b o hb e⟩
  cases hk : K.lookup a with
  | some o =>
    have e := KX a o hk
    rw [ha] at e
    cases e
    refine core (fun b => if b = PL then some (.tbl #[]) else none) (if_pos rfl) (.inr ⟨_, vs.toArray, _, hk, rfl, rfl, rfl, by rw [List.size_toArray, lenV]; exact hl, by simpa using rv⟩) (fun b u z => ?_) (fun b z => ?_) (fun z => absurd (if_neg naP) z) (fun u z => ?_)
    · by_cases hb : b = PL
      · have z' := (if_pos hb).symm.trans z
        cases z'
        subst hb
        exact hP
      · have z' := (if_neg hb).symm.trans z
        cases z'
    · by_cases hb : b = PL
      · exact .inr hb
      · exact absurd (if_neg hb) z
    · have z' := (if_neg naP).symm.trans z
      cases z'
  | none =>
    have eP : (if PL = a then some (HO.frz { cls := .type "list", data := .seq vs.toArray } (.lst (ns.map V.int))) else if PL = PL then some (.tbl #[]) else none) = some (.tbl #[]) := by rw [if_neg (Ne.symm naP), if_pos rfl]
    refine core (fun b => if b = a then some (.frz { cls := .type "list", data := .seq vs.toArray } (.lst (ns.map V.int))) else if b = PL then some (.tbl #[]) else none) eP (.inl (.inr ⟨{ cls := .type "list", data := .seq vs.toArray }, if_pos rfl⟩)) (fun b u z => ?_) (fun b z => ?_) (fun _ => hk) (fun u z => ?_)
    · by_cases hb : b = a
      · have z' := (if_pos hb).symm.trans z
        cases z'
        subst hb
        exact ⟨ha, by rw [List.length_map]; exact hl, vs, _, rv, ha⟩
      · have z1 := (if_neg hb).symm.trans z
        by_cases hb2 : b = PL
        · have z' := (if_pos hb2).symm.trans z1
          cases z'
          subst hb2
          exact hP
        · have z' := (if_neg hb2).symm.trans z1
          cases z'
    · by_cases hb : b = a
      · exact .inl hb
      · by_cases hb2 : b = PL
        · exact .inr hb2
        · exact absurd ((if_neg hb).trans (if_neg hb2)) z
    · have z' := (if_pos rfl).symm.trans z
      cases z'
      exact ⟨_, _, rfl⟩
section
variable {X : Cx} {o : Expr} {to : TE} {ap pos : Pos}
def CDivB (i j : Int) : Prop := 0 < j ∧ j < 2 ^ 100
theorem op_fdivB : OpR X (binaryOp .FloorDiv) (rI CDivB fun i j => .int (i / j)) := opI fun i j _ _ _ _ _ hc q => by
  have h1 : (0 : Int) < j := hc.1
  have h2 : j < 2 ^ 100 := hc.2
  refine floordiv_int (by omega) (by rw [Int.fdiv_eq_ediv_of_nonneg i (by omega)]; exact q) (.inl (PyProof.noPylong_of_log2 ?_))
  have h3 : j.natAbs < 2 ^ 100 := by omega
  have h4 := Nat.log2_lt (n := j.natAbs) (k := 100) (by omega)
  omega
def rBL : V → List V → Hp → VK → Prop := fun x xs H Q => ∃ i, x = .int i ∧ xs = [] ∧ Q (.int (Builtin.Int.intBits i)) H
theorem mt_bitlen : MtR X "int.bit_length" rBL := by
  intro pins s σ H x xs v us Q I rx rs h
  obtain ⟨i, rfl, rfl, q⟩ := h
  obtain ⟨t, rfl⟩ := rx
  cases rs
  exact call_int_bit_length ⟨.int (Builtin.Int.intBits i), H, I.tok _, ⟨_, rfl⟩, q⟩
theorem bits_none {b t : Int} (hb : 0 ≤ b) (h : (Builtin.Int.intBits b : Int) ≤ t) : b / 2 ^ t.toNat % 2 = 0 := by
  have ht : Builtin.Int.intBits b ≤ t.toNat := by omega
  have hlt : b < 2 ^ t.toNat := by
    unfold Builtin.Int.intBits at ht
    by_cases h0 : b = 0
    · subst h0; exact Int.pow_pos (by decide)
    · rw [if_neg (by simpa using h0)] at ht
      have h1 : b.natAbs < 2 ^ (b.natAbs.log2 + 1) := Nat.lt_log2_self
      have h2 : 2 ^ (b.natAbs.log2 + 1) ≤ 2 ^ t.toNat := Nat.pow_le_pow_right (by decide) ht
      have h3 : ((2 ^ t.toNat : Nat) : Int) = (2 : Int) ^ t.toNat := by simp
      omega
  rw [Int.ediv_eq_zero_of_lt hb hlt]; rfl
theorem rd_bitlen {H : Hp} {Q : VK} {i : Int} (h : Q (.int (Builtin.Int.intBits i)) H) : rBL (.int i) [] H Q := ⟨i, rfl, rfl, h⟩
theorem rd_divB {H : Hp} {Q : VK} {f : Int → Int → V} {i j : Int} (h0 : 0 < j) (h1 : j < 2 ^ 100) (h : Q (f i j) H) : rI CDivB f (.int i) (.int j) H Q := ⟨i, j, rfl, rfl, ⟨h0, h1⟩, h⟩
theorem vals_get : ∀ {xs : List V} {us : List Value}, xs.length = us.length → (∀ (i : Nat) x u, xs[i]? = some x → us[i]? = some u → RelV x u) → Vals xs us
  | [], [], _, _ => .nil
  | [], _ :: _, h, _ => by simp at h
  | _ :: _, [], h, _ => by simp at h
  | x :: xs, u :: us, h, k => .cons (k 0 x u rfl rfl) (vals_get (by simpa using h) fun i y w e1 e2 => k (i + 1) y w (by simpa using e1) (by simpa using e2))
end
structure DcD (P : Program) (w : World) (K : PySem.W.Frag) (mg : Str → Option Value) (base : Heap) (x m : Str) (k : Nat) (dvs : List V) (sp : Sp) : Prop where
  ex : ∃ C f fd ps ds, mg x = some (.ref C) ∧ PySem.W.specialIn K (.ref C) "__getattribute__" = some (some (.builtin "type.__getattribute__")) ∧ PySem.W.readsIn K C (.type "type") = true ∧ PySem.W.findCls K (.ref C) (.type "type") m = some (.val (.ref f)) ∧
    PySem.W.keepIn K (.ref f) = true ∧ Vals dvs ds ∧ Binds K fd ps ds ∧ FnOk P w K mg base CX0 k f fd ps sp
section
variable {X : Cx} {k k' : Nat} {sp : Sp} {x m : Str} {p pos apos : Pos} {e : Expr} {es : List Expr} {t : TA} {dvs : List V}
theorem pe_dmD {pl : Sem Bool} (F : DcD X.prog X.w X.K X.mg X.base x m k dvs sp) (hr : Room k' X.A) (ha : PA X (e :: es) t) (hk : k ≤ k' := by decide) (hg : Gl X x := by rfl) (hdb : (x == ("__debug__" : Str)) = false := by decide)
    (hst : starEach (e :: es) X.env = (false, eval e X.env) :: starEach es X.env := by rfl) (hpl : (backTo pos (starEach es X.env)).any (·.1) = false := by rfl)
    (ht : eval (.Call (.Attribute (.Name x p) m apos) (e :: es) [] pos) X.env = (do
      let ov ← eval (.Name x p) X.env
      standAt apos.atName
      let (f, first) ← holding [ov] (getMethod ov m pl)
      callWith pos f first (backTo pos (starEach (e :: es) X.env)) (backToKw pos (keywordEach [] X.env))) := by rfl) :
    PE X (.Call (.Attribute (.Name x p) m apos) (e :: es) [] pos) (tCall sp dvs E0 t) := by
  intro pins s σ H Q I h
  obtain ⟨C, f, fd, ps, ds, hm, hga, hrd, hfc, kp, hd, hb, G⟩ := F.ex
  refine PySem.W.methodCall_KW (pl := pl) (ld_glob I hg hm ?_ hdb) ht
  refine PySem.W.method_cls I.kIn hga (PySem.W.cls_value I.kIn hrd hfc (handed_of (v := .ref f) rfl) ?_)
  have I1 := I.tok (s.toks + 1)
  refine PySem.W.callWith_K (first := []) (h₀ := X.base) I.ok.mod.kin kp (thn (ha pos pins _ σ H _ I1 h) fun us s2 ⟨vs, H2, I2, r, q2⟩ => ⟨I2.kIn, ?_⟩) hst hpl
  exact run_fn G (hr.mono hk) hb hd pass0 I2 r q2
theorem rd_callD {E : XK} {σ : St} {H : Hp} {Q : VK} (h : t σ H fun vs H1 => sp (vs ++ dvs) H1 Q E) : tCall sp dvs E t σ H Q := h
end
end L2
namespace L2
open PySem PySem.Spec PyProof.Rows
def KCell (H : Hp) (c : Addr) (v : V) : Prop := ∃ o u, H c = some (kn o) ∧ o.data = .cell (some u) ∧ RelV v u
def off (H : Hp) (c : Addr) : Hp := fun b => if b = c then none else H b
theorem off_same {H : Hp} {c : Addr} : off H c c = none := by unfold off; rw [if_pos rfl]
theorem off_ne {H : Hp} {c b : Addr} (h : b ≠ c) : off H c b = H b := by unfold off; rw [if_neg h]
theorem off_some {H : Hp} {c b : Addr} {u : HO} (h : off H c b = some u) : b ≠ c ∧ H b = some u := by
  by_cases hb : b = c
  · subst hb; rw [off_same] at h; cases h
  · rw [off_ne hb] at h; exact ⟨hb, h⟩
theorem off_back {H : Hp} {c : Addr} {u : HO} (h : H c = some u) : upd (off H c) c u = H := by
  funext b
  by_cases hb : b = c
  · subst hb; rw [upd_same, h]
  · rw [upd_ne hb, off_ne hb]
section
variable {P : Program} {w : World}
theorem hok_off {H : Hp} {h : Heap} {c : Addr} {o : Obj} (x : HOk P w H h) (e : H c = some (kn o)) : HOk P w (off H c) h := fun b u q => by
  obtain ⟨hb, q'⟩ := off_some q
  refine (x b u q').stay (fun _ _ _ z => z) (fun d z => ?_) fun d xs z => ?_
  · rw [off_ne (by rintro rfl; rw [e] at z; cases z)]; exact z
  · rw [off_ne (by rintro rfl; rw [e] at z; cases z)]; exact z
theorem hok_on {H : Hp} {h : Heap} {c : Addr} {o : Obj} (x : HOk P w H h) (n : H c = none) (g : h.get? c = some o) : HOk P w (upd H c (kn o)) h := fun b u q => by
  by_cases hb : b = c
  · subst hb
    rw [upd_same] at q; cases q
    exact kn_ok g
  · rw [upd_ne hb] at q
    exact (x b u q).stay (fun _ _ _ z => z) (fun d z => by rw [upd_ne (ne_of_none z n)]; exact z) fun d xs z => by rw [upd_ne (ne_of_none z n)]; exact z
theorem un_off {fs : List Addr} {H H' : Hp} {h h' : Heap} {c : Addr} {o : Obj} (e : H c = some (kn o)) (g : h.get? c = some o) (hf : c ∉ fs) (x : Un fs [] (off H c) H' h h') : Un fs [] H (upd H' c (kn o)) h h' where
  keep := fun b ob q n hb hx => x.keep b ob q (by rw [off_ne (by rintro rfl; rw [e] at n; cases n)]; exact n) hb hx
  slot := fun b ob q n hb hx => x.slot b ob q (by rw [off_ne (by rintro rfl; rw [e] at n; cases n)]; exact n) hb hx
  free := fun b ob q n hx => by
    have hb : b ≠ c := by rintro rfl; rw [e] at n; cases n
    rw [upd_ne hb]
    exact x.free b ob q (by rw [off_ne hb]; exact n) hx
  there := x.there
  tups := fun b xs q => by
    have hb : b ≠ c := by rintro rfl; rw [e] at q; cases q
    rw [upd_ne hb]
    exact x.tups b xs (by rw [off_ne hb]; exact q)
  frzs := fun b ob u q => by
    by_cases hb : b = c
    · subst hb
      rw [e] at q; cases q
      exact upd_same
    · rw [upd_ne hb]
      exact x.frzs b ob u (by rw [off_ne hb]; exact q)
  tbls := fun b ps q => by
    have hb : b ≠ c := by rintro rfl; rw [e] at q; cases q
    obtain ⟨m, z⟩ := x.tbls b ps (by rw [off_ne hb]; exact q)
    exact ⟨m, by rw [upd_ne hb]; exact z⟩
end
section
variable {P : Program} {w : World} {K : PySem.W.Frag} {mg : Str → Option Value} {base : Heap}
theorem fn_lamT {k : Nat} {f c : Addr} {fd : FuncData} {qual : Str} {args : Arguments} {body : Expr} {sc : Scope} {x y : Str} {v : V} {sp : Sp}
    (hk : sc.kind = .function) (hco : sc.isCoroutine = false) (hgen : sc.isGenerator = false) (hcell : ∀ z ∈ sc.names, z.2 ≠ .cell) (hx : sc.names.lookup x = some .local) (hfree : ∀ z, sc.names.lookup z = some .free → z = y) (hy : sc.names.lookup y = some .free)
    (len : ∀ vs H Q E, sp vs H Q E → ∃ a, vs = [a] ∧ LamAt H f fd qual args body sc y c ∧ KCell H c v)
    (hbody : ∀ (cdv : Value) (A : Around) (outer : List Env) (s : Shared) (H : Hp) (a : V) (Q : VK) (E : XK), Room k (A.deeper (PySem.W.envX qual sc s.heap.objs.size f cdv [(y, c)])) → sp [a] H Q E →
      ∃ t, PE (cxL CX0 P w K mg base [x, y] qual sc f cdv [(y, c)] A outer s (off H c) E).nox body t ∧ ∀ o, H c = some (kn o) → t [some a, some v] (off H c) (fun r H' => Q r (upd H' c (kn o)))) :
    FnOk P w K mg base CX0 (k + 1) f fd [x] sp := by
  refine ⟨fun vs H Q E h => ?_, fun A outer s H ar us vs Q E hr e0 hb r hsp => ?_⟩
  · obtain ⟨a, rfl, _⟩ := len vs H Q E h
    rfl
  obtain ⟨a, rfl, ⟨c', pm, ctv, oc, fv, tt, rfl, hF, hc', hd, hv⟩, oC, uv, eC, hdC, rv⟩ := len vs H Q E hsp
  obtain ⟨u, rfl, ra⟩ : ∃ u, us = [u] ∧ RelV a u := by
    cases r with
    | cons r1 r2 => cases r2; exact ⟨_, rfl, r1⟩
  obtain ⟨t, ht, hq⟩ := hbody (.ref c') A outer s H a Q E (hr.deeper _) hsp
  have hq := hq oC eC
  have gC := kn_get e0.hok eC
  have lim : s.heap.NoLimit := e0.mod.nolimit.keeps fun b o e => (e0.bs b o e).1
  refine PySem.W.kla_callFunE hr.depth (kn_get e0.hok hF) rfl hco hgen rfl ⟨c', oc, fv, tt, rfl, kn_get e0.hok hc', hd, hv⟩ (hb _ _ _ _ ?_)
  refine wpAny_newFunctionEnv hcell (fun z hz => by
    have hz' : z ∈ [(x, u)] := hz
    rw [List.mem_singleton] at hz'
    rw [hz']; exact hx) (fun h₁ hns hsb => ⟨lim.fresh _ hsb, ?_⟩) hk
  have hk₁ : ∀ b o, s.heap.get? b = some o → h₁.get? b = some o := fun b o e => hsb.extBut b o (Nat.ne_of_lt (Heap.lt_size e)) (Heap.get?_push_of_some _ e)
  have lkY : ∀ z (d : Addr), ([(y, c)] : List (Str × Addr)).lookup z = some d → z = y ∧ d = c := fun z d e => by
    rw [List.lookup_cons] at e
    cases q : z == y with
    | true => rw [q] at e; cases e; exact ⟨eq_of_beq q, rfl⟩
    | false => rw [q] at e; cases e
  have lkC : ([(y, c)] : List (Str × Addr)).lookup y = some c := by rw [List.lookup_cons, beq_self_eq_true]
  have nc : ∀ b o, base.get? b = some o → b ≠ c := fun b o e z => by
    have := (e0.bs b o e).2
    rw [z, eC] at this; cases this
  have ncf : c ∉ frs outer := fun z => by rw [e0.frf c z] at eC; cases eC
  show codeAny (model P w) A (.expr body (PySem.W.envX qual sc s.heap.objs.size f (.ref c') [(y, c)])) _ _
  have hokO := hok_off e0.hok eC
  have I : Inv (cxL CX0 P w K mg base [x, y] qual sc f (.ref c') [(y, c)] A outer s (off H c) E) [] [some a, some v] (off H c) { s with heap := h₁, toks := s.toks + ([x].zip [u]).length } := by
    have noA : ∀ b : Addr, b ∉ (cxL CX0 P w K mg base [x, y] qual sc f (.ref c') [(y, c)] A outer s (off H c) E).ex := fun b z => absurd (show b ∈ ([] : List Addr) from z) (by simp)
    refine ⟨⟨e0.mod, hk, rfl, rfl, Nat.le_refl _, fun z1 z2 d h1 h2 => ?_, fun z hz => ?_, fun z d hf _ => absurd (show false = true from hf) Bool.false_ne_true, fun _ => hr.hd, Around.frames_deeper e0.frames, .inr ⟨rfl, rfl⟩, fun b z => absurd z (noA b), fun b o e => ⟨(e0.bs b o e).1, by show off H c b = none; rw [off_ne (nc b o e)]; exact (e0.bs b o e).2⟩, e0.bsz, fun b _ _ => noA b, fun b z => absurd z (noA b), e0.funs, fun b hb => ?_⟩,
      rfl, e0.bare, Un.kept hk₁, ⟨_, hns, fun i z v' h1 h2 h3 => ?_⟩, fun z d h => ?_, hokO.fresh (Nat.le_refl _), fun z d h => ?_, fun p hp => absurd (show p ∈ ([] : List (Addr × Obj)) from hp) (by simp), hokO.kept hk₁, rfl⟩
    · exact (lkY z1 d h1).1.trans (lkY z2 d h2).1.symm
    · have hz : sc.names.lookup z = some .cell ∨ sc.names.lookup z = some .free := hz
      rcases hz with hz | hz
      · exact absurd rfl (hcell _ (PySem.mem_of_lookup hz))
      · rw [hfree z hz]; exact ⟨c, lkC⟩
    · show off H c b = none
      by_cases hbc : b = c
      · rw [hbc]; exact off_same
      · rw [off_ne hbc]; exact e0.frf b hb
    · match i, h1, h2 with
      | 0, h1, h2 =>
        cases h1; cases h2
        refine ⟨u, ra, .inl ⟨hx, ?_⟩⟩
        show ([(x, u)].reverse).lookup x = some u
        rw [List.reverse_singleton, List.lookup_cons, beq_self_eq_true]
      | 1, h1, h2 =>
        cases h1; cases h2
        exact ⟨uv, rv, .inr ⟨.inr hy, c, lkC, oC, hk₁ _ _ gC, hdC⟩⟩
      | i + 2, h1, h2 => cases h1
    · rw [(lkY z d h).2]; exact ⟨_, oC, hk₁ _ _ gC, hdC⟩
    · rw [(lkY z d h).2]; exact off_same
  refine PySem.W.kla_codeExpr (wpAny_mono (PE.nox ht [] _ [some a, some v] (off H c) _ I hq) (fun u' s' ⟨v', H', J, rv', q⟩ => ?_) fun e s' hs => ?_)
  · have Jb : Un (frs outer) [] (off H c) H' s.heap s'.heap := J.base
    have gC' : s'.heap.get? c = some oC := Jb.keep c oC gC off_same ncf (by simp)
    have nC' : H' c = none := Jb.free c oC gC off_same (by simp)
    exact ⟨v', upd H' c (kn oC), J.os, J.bare, un_off eC gC ncf Jb, hok_on J.hok nC' gC', rv', q⟩
  · exact wpAny_mono hs (fun _ s'' z => z.elim) fun _ s'' z => z.elim
end
def SPr (X : Cx) (pins : List (Addr × Obj)) (D : Ends) (R : St → V → Hp → Prop) (f : Flow) (s' : Shared) : Prop :=
  match f with
  | .ret u => ∃ v σ' H', Inv X pins σ' H' s' ∧ RelV v u ∧ (D.rt v H' ∨ R σ' v H')
  | f => SP X pins D f s'
def PRs (X : Cx) (st : List Stmt) (t : Ends → (St → V → Hp → Prop) → St → Hp → Prop) : Prop :=
  ∀ (pins : List (Addr × Obj)) (s : Shared) (σ : St) (H : Hp) (D : Ends) (R : St → V → Hp → Prop), Inv X pins σ H s → t D R σ H → wpAny (model X.prog X.w) X.A (execs st X.env) (SPr X pins D R) X.xe s
section
variable {X : Cx} {st : Stmt} {rest : List Stmt} {t : TS} {u : Ends → (St → V → Hp → Prop) → St → Hp → Prop} {e : Expr} {te : TE} {pos : Pos}
def tSeqR (t : TS) (u : Ends → (St → V → Hp → Prop) → St → Hp → Prop) : Ends → (St → V → Hp → Prop) → St → Hp → Prop := fun D R => t { D with nx := u D R }
def tRetR (te : TE) : Ends → (St → V → Hp → Prop) → St → Hp → Prop := fun _ R σ H => te σ H (R σ)
theorem rd_seqC {nx bk ct : St → Hp → Prop} {rt : VK} {R : St → V → Hp → Prop} {σ : St} {H : Hp} (h : t ⟨u ⟨nx, rt, bk, ct⟩ R, rt, bk, ct⟩ σ H) : tSeqR t u ⟨nx, rt, bk, ct⟩ R σ H := h
theorem rd_retC {D : Ends} {R : St → V → Hp → Prop} {σ : St} {H : Hp} (h : te σ H (R σ)) : tRetR te D R σ H := h
theorem prs_cons (h1 : PS X st t) (h2 : PRs X rest u) : PRs X (st :: rest) (tSeqR t u) := by
  intro pins s σ H D R I h
  refine wpAny_execs_cons (thn (h1 pins s σ H { D with nx := u D R } I h) fun f s1 q => ?_)
  cases f with
  | next =>
    obtain ⟨σ', H', I', q⟩ := q
    exact h2 pins s1 σ' H' D R I' q
  | ret v => obtain ⟨v, σ', H', I, r, q⟩ := q; exact ⟨v, σ', H', I, r, .inl q⟩
  | brk => exact q
  | cont => exact q
theorem prs_ret (he : PE X e te) : PRs X [.Return (some e) pos] (tRetR te) := by
  intro pins s σ H D R I h
  refine wpAny_execs_cons ?_
  exact wpAny_Return_some (thn (he pins s σ H _ I h) fun v s1 ⟨x, H1, I1, r1, q1⟩ => ⟨x, σ, H1, I1, r1, .inr q1⟩)
end
theorem un_on {fs : List Addr} {H H' : Hp} {h h' : Heap} {c : Addr} {u : HO} (n : H' c = none) (hc : h.objs.size ≤ c) (x : Un fs [] H H' h h') : Un fs [] H (upd H' c u) h h' where
  keep := x.keep
  slot := x.slot
  free := fun b ob q n' hx => by
    rw [upd_ne (Nat.ne_of_lt (Nat.lt_of_lt_of_le (Heap.lt_size q) hc))]
    exact x.free b ob q n' hx
  there := x.there
  tups := fun b xs q => by rw [upd_ne (ne_of_none (x.tups b xs q) n)]; exact x.tups b xs q
  frzs := fun b ob u' q => by rw [upd_ne (ne_of_none (x.frzs b ob u' q) n)]; exact x.frzs b ob u' q
  tbls := fun b ps q => by
    obtain ⟨m, z⟩ := x.tbls b ps q
    exact ⟨m, by rw [upd_ne (ne_of_none z n)]; exact z⟩
section
variable {P : Program} {w : World} {K : PySem.W.Frag} {mg : Str → Option Value} {base : Heap}
def RetC (i : Nat) (c : Addr) (Q : VK) : St → V → Hp → Prop := fun σ v H' => ∃ cv, σ[i]? = some (some cv) ∧ ∀ H2, Same H' H2 → H' c = none → KCell H2 c cv → Q v H2
theorem FunV.okR {x qual : Str} {st : Stmt} {f : Addr} {fd : FuncData} {N ps : List Str} {k i : Nat} {y : Str} {sp : Sp} (F : FunV K x qual st f fd) (S : FnScope N ps (defScope st)) (hi : N[i]? = some y) (hyc : (defScope st).names.lookup y = some .cell) (len : ∀ vs H Q E, sp vs H Q E → vs.length = ps.length)
    (hbody : ∀ (cdv : Value) (A : Around) (outer : List Env) (s : Shared) (H : Hp) (vs : List V) (Q : VK) (E : XK) (c : Addr), fd.code = cdv → (cellsFrom (s.heap.objs.size + 1) (defScope st).names []).lookup y = some c → Room k (A.deeper (envOfC qual (defScope st) s.heap.objs.size f cdv)) → sp vs H Q E →
      ∃ t, PRs (cxOf CX0 P w K mg base N qual (defScope st) f cdv A outer s H E).nox (defBody st) t ∧ t { nx := fun _ H' => Q .non H', rt := Q } (RetC i c Q) (start N vs) H) : FnOk P w K mg base CX0 (k + 1) f fd ps sp := by
  obtain ⟨oc, od, dV, kV, doc, pm, an, cdv, ct, osl, rfl, lk, hcd⟩ := F.ex
  refine ⟨len, fun A outer s H args us vs Q E hr e0 hb r hsp => ?_⟩
  have hl := len _ _ _ _ hsp
  have KX : K.In s.heap := e0.mod.kin.keeps fun b o e => (e0.bs b o e).1
  have lim : s.heap.NoLimit := e0.mod.nolimit.keeps fun b o e => (e0.bs b o e).1
  have hkind : ∀ y ∈ ps.zip us, (defScope st).names.lookup y.1 = some .local ∨ ((defScope st).names.lookup y.1 = some .cell ∧ ((cellsFrom (s.heap.objs.size + 1) (defScope st).names []).lookup y.1).isSome = true) := fun ⟨n, v⟩ hy => by
    rcases S.par n (List.of_mem_zip hy).1 with q | q
    · exact .inl q
    · exact .inr ⟨q, PySem.W.cellsFrom_some _ _ _ (.inl q)⟩
  refine codeAny_call_function hr.depth (KX _ _ lk) rfl S.co S.gen rfl (PySem.W.codeRec_of KX hcd) (hb _ _ _ _ ?_)
  refine wpAny_newFunctionEnv_cells S.kind hkind fun env he s1 x => ?_
  subst he
  refine ⟨lim.keeps x.toInCall.keep, codeAny_func ?_⟩
  obtain ⟨c, hc⟩ := cell_has (n := s.heap.objs.size + 1) hyc
  obtain ⟨t, ht, hq⟩ := hbody cdv A outer s H vs Q E c rfl hc (hr.deeper _) hsp
  have I : Inv (cxOf CX0 P w K mg base N qual (defScope st) f cdv A outer s H E) [] (start N vs) H s1 := inv_start S hr.hd e0 hl r x
  refine wpAny_mono (ht [] s1 (start N vs) H _ _ (I.wish _) hq) (fun fl s' hs => ?_) fun e s' hs => False.elim hs
  have fin : ∀ {σ' : St} {H' : Hp} {v : V} {u : Value}, Inv (cxOf CX0 P w K mg base N qual (defScope st) f cdv A outer s H E).nox [] σ' H' s' → RelV v u → Q v H' → CE outer P w H s Q u s' :=
    fun {σ' H' v u} J rv q => ⟨v, H', J.os, J.bare, J.base, J.hok, rv, q⟩
  cases fl with
  | ret u =>
    obtain ⟨v, σ', H', J, rv, q⟩ := hs
    rcases q with q | ⟨cv, hi', q⟩
    · exact fin J rv q
    · obtain ⟨m, hn, hl'⟩ := J.loc
      obtain ⟨u', ru, lk'⟩ := hl' i y cv hi hi' (.inr (.inl hyc))
      have hcell : s'.heap.IsCell c (some u') := by
        rcases lk' with ⟨z, _⟩ | ⟨_, c2, e1, e2⟩
        · have z' : (defScope st).names.lookup y = some .local := z
          rw [hyc] at z'; cases z'
        · have e1' : (cellsFrom (s.heap.objs.size + 1) (defScope st).names []).lookup y = some c2 := e1
          rw [hc] at e1'; cases e1'; exact e2
      obtain ⟨oC, hoC, hdC⟩ := hcell
      have nC : H' c = none := J.freeC y c hc
      have cs : s.heap.objs.size ≤ c := J.ok.cab y c rfl hc
      exact ⟨v, upd H' c (kn oC), J.os, J.bare, un_on nC cs J.base, hok_on J.hok nC hoC, rv, q _ (fun b o e => by rw [upd_ne (ne_of_none e nC)]; exact e) nC ⟨oC, u', upd_same, hdC, ru⟩⟩
  | next =>
    obtain ⟨σ', H', J, q⟩ := hs
    exact fin (v := V.non) (u := Value.none) J rfl q
  | brk =>
    obtain ⟨_, _, _, q⟩ := hs
    exact False.elim q
  | cont =>
    obtain ⟨_, _, _, q⟩ := hs
    exact False.elim q
end
section
open PySem.W
variable {X : Cx} {i j : Nat} {n x y : Str} {T : Addr} {np yp hpos pos epos : Pos} {e : Expr} {tc : XK → TE} {b₀ : Stmt} {suite : List Stmt} {ts : TS}
end
end L2
namespace L2
open PySem PySem.Spec PyProof.Rows
theorem rd_startR {t : Ends → (St → V → Hp → Prop) → St → Hp → Prop} {D : Ends} {R : St → V → Hp → Prop} {N : List Str} {vs : List V} {σ : St} {H : Hp} (e : start N vs = σ) (h : t D R σ H) : t D R (start N vs) H := e ▸ h
theorem walk_ofT2 {l : PySem.W.OpenLaw} {n k : Nat} {q : Program} {loose : List Str} {XP : (Str → Option Value) → Heap → Prop} {YP : World → Heap → Prop} {d d2 : DefRec} {K : Params → PySem.W.Frag} {CX : World → CXT} {sp : World → Addr → Sp} {x : Str}
    (hn : l.most = some n) (hn2 : n ≤ sizeLine) (hdf : d.params.defaults = []) (hr : Room k callerA) (hrec : d2 ∈ recsOf q) (hnt : ∀ w : World, PySem.W.noTabs (K w.params) = true)
    (hY : ∀ (w : World) (h : Heap), YP w h → (K w.params).In h)
    (F : ∀ (w : World) (mg : Str → Option Value) (fa : Addr) (h : Heap), (K w.params).In h → h.Ns mainGlobals mg → mg d.name = some (.ref fa) →
      ∃ (fd : FuncData) (f2 : Addr) (fd2 : FuncData), mg d2.name = some (.ref f2) ∧ (∃ oc od osl, (K w.params).lookup f2 = some ⟨oc, od, .func fd2, osl⟩) ∧ (∀ (s : Shared) (u : Value), BindsTo s fd ⟨[u], []⟩ [(x, u)]) ∧
        ∀ (base : Heap) (cL PL : Addr), fd2.code = .ref cL → PySem.W.CodeHd base cL PL → base.BuiltinsAt mg PL → FnOk l.prog w (K w.params) mg base (CX w) k fa fd [x] (sp w PL))
    (hsp : ∀ (w : World) (PL : Addr) (H : Hp) (a : Addr) (ns : List Int), ns.length ≤ n → SqL (K w.params) H a (ns.map V.int) → H PL = some (.tbl #[]) → sp w PL [.ref a] H (fun v _ => v = .bl true) fun _ _ _ => False)
    (hCX : ∀ (w : World) (H : Hp) (s : Shared) (e : Value) (s' : Shared), CX w [] H s (fun _ _ _ => False) e s' → False) :
    PySem.W.WalkO q loose XP YP l.row.toRowW d [] (fun f vs => PySem.call f vs) := by
  refine Att.attach_call hn hdf fun w s₀ s₁ mg mb fa o pm cd doc a vs ns G Y ho hd hcd hmg hobj hints hlen hg => ?_
  have KX := hY w _ Y
  obtain ⟨fd, f2, fd2, hm2, ⟨oc, od, osl, lk⟩, hb, hF⟩ := F w mg fa _ KX G.T.g hmg
  obtain ⟨a', o', fd', c, PL, h1, h2, h3, h4, h5, h6⟩ := G.T.tab d2 hrec
  rw [hm2] at h1
  cases h1
  have e1 := KX _ _ lk
  rw [h2] at e1
  cases e1
  have h3' : fd2 = fd' := by injection h3
  subst h3'
  have C := PySem.W.CodeHd.of h5 h6
  have hKP : (K w.params).lookup PL = none := by
    cases q : (K w.params).lookup PL with
    | none => rfl
    | some o2 =>
      have e2 := KX _ _ q
      rw [h6.2] at e2
      cases e2
      have z := List.all_eq_true.mp (hnt w) (PL, _) (PySem.W.mem_of_lookupK q)
      exact absurd (show false = true from z) Bool.false_ne_true
  exact law_callT KX G.T.g G.T.b G.T.builtins G.T.nolimit hg C h6.2 hKP G.T.bmain hobj hints (Nat.le_trans hlen hn2) hr (fun base hc hB => hF base c PL h4 hc hB) hb (fun H hS hP => hsp w PL H a ns hlen hS hP) fun H e s' => hCX w H s₁ e s'
end L2
namespace L2
open PySem PySem.Spec PyProof.Rows
section
variable {X : Cx}
end
end L2
namespace L2
open PySem PySem.Spec PyProof.Rows
section
variable {κ : Type} [DecidableEq κ]
def valV (kvs : List (κ × V)) (k : κ) : Option V := (kvs.find? fun kv => decide (kv.1 = k)).map (·.2)
def putK (kvs : List (κ × V)) (k : κ) (v : V) : List (κ × V) :=
  if (kvs.any fun kv => decide (kv.1 = k)) = true then kvs.map (fun kv => if kv.1 = k then (kv.1, v) else kv) else kvs ++ [(k, v)]
theorem valV_pos {p : κ × V} {r : List (κ × V)} {k : κ} (e : p.1 = k) : valV (p :: r) k = some p.2 := by simp [valV, List.find?_cons, e]
theorem valV_neg {p : κ × V} {r : List (κ × V)} {k : κ} (e : ¬ p.1 = k) : valV (p :: r) k = valV r k := by simp [valV, List.find?_cons, e]
theorem valV_any (k : κ) : ∀ kvs : List (κ × V), (kvs.any fun kv => decide (kv.1 = k)) = (valV kvs k).isSome
  | [] => rfl
  | p :: r => by
    rw [List.any_cons]
    by_cases e : p.1 = k
    · simp only [valV_pos e, decide_eq_true e, Bool.true_or, Option.isSome_some]
    · rw [valV_neg e, decide_eq_false e, Bool.false_or]; exact valV_any k r
theorem valV_map (k j : κ) (y : V) : ∀ kvs : List (κ × V), valV (kvs.map fun kv => if kv.1 = k then (kv.1, y) else kv) j = (valV kvs j).map fun x => if j = k then y else x
  | [] => rfl
  | p :: r => by
    have ih := valV_map k j y r
    rw [List.map_cons]
    by_cases h : p.1 = k
    · rw [if_pos h]
      by_cases e : p.1 = j
      · rw [valV_pos (p := (p.1, y)) e, valV_pos e, Option.map_some, if_pos (e.symm.trans h)]
      · rw [valV_neg (p := (p.1, y)) e, valV_neg e, ih]
    · rw [if_neg h]
      by_cases e : p.1 = j
      · rw [valV_pos (p := p) e, valV_pos e, Option.map_some, if_neg (fun z => h (e.trans z))]
      · rw [valV_neg (p := p) e, valV_neg e, ih]
theorem valV_snoc (k j : κ) (y : V) : ∀ kvs : List (κ × V), valV kvs k = none → valV (kvs ++ [(k, y)]) j = if j = k then some y else valV kvs j
  | [], _ => by
    by_cases e : k = j
    · rw [if_pos e.symm]; exact valV_pos (p := (k, y)) e
    · rw [if_neg (fun z => e z.symm)]; exact valV_neg (p := (k, y)) e
  | p :: r, hn => by
    rw [List.cons_append]
    have hk : ¬ p.1 = k := fun z => by rw [valV_pos z] at hn; cases hn
    rw [valV_neg hk] at hn
    have ih := valV_snoc k j y r hn
    by_cases e : p.1 = j
    · rw [valV_pos e, valV_pos e, if_neg (fun z => hk (e.trans z))]
    · rw [valV_neg e, valV_neg e, ih]
theorem valV_put (kvs : List (κ × V)) (k j : κ) (y : V) : valV (putK kvs k y) j = if j = k then some y else valV kvs j := by
  unfold putK
  by_cases a : (kvs.any fun kv => decide (kv.1 = k)) = true
  · rw [if_pos a, valV_map]
    rw [valV_any] at a
    by_cases e : j = k
    · obtain ⟨x, hx⟩ := Option.isSome_iff_exists.mp a
      rw [if_pos e, e, hx, Option.map_some, if_pos rfl]
    · rw [if_neg e]
      cases valV kvs j with
      | none => rfl
      | some x => rw [Option.map_some, if_neg e]
  · rw [if_neg a]
    refine valV_snoc k j y kvs ?_
    rw [valV_any] at a
    cases q : valV kvs k with
    | none => rfl
    | some x => rw [q] at a; exact (a rfl).elim
theorem length_putK (kvs : List (κ × V)) (k : κ) (v : V) : (putK kvs k v).length ≤ kvs.length + 1 := by
  unfold putK
  split
  · rw [List.length_map]; omega
  · rw [List.length_append, List.length_cons, List.length_nil]; omega
theorem putK_new {kvs : List (κ × V)} {k : κ} (v : V) (h : valV kvs k = none) : putK kvs k v = kvs ++ [(k, v)] := by
  unfold putK
  rw [valV_any, h]
  exact if_neg (by decide)
theorem RelO.isSome_eq {o : Option V} {u : Option Value} (r : RelO o u) : o.isSome = u.isSome := by
  cases o with
  | none => cases u with
    | none => rfl
    | some _ => exact (show False from r).elim
  | some _ => cases u with
    | none => exact (show False from r).elim
    | some _ => rfl
theorem KV.val {kvs : List (κ × V)} {vs : List (κ × Value)} (r : KV kvs vs) (k : κ) : RelO (valV kvs k) (valueAt vs k) := by
  unfold KV at r
  induction r with
  | nil => exact True.intro
  | @cons p q ps qs h t ih =>
    obtain ⟨h1, h2⟩ := h
    by_cases e : p.1 = k
    · have e' : q.1 = k := h1.symm.trans e
      have b : valueAt (q :: qs) k = some q.2 := by simp [valueAt, List.find?_cons, e']
      rw [valV_pos e, b]; exact h2
    · have e' : ¬ q.1 = k := fun z => e (h1.trans z)
      have b : valueAt (q :: qs) k = valueAt qs k := by simp [valueAt, List.find?_cons, e']
      rw [valV_neg e, b]; exact ih
theorem KV.any {kvs : List (κ × V)} {vs : List (κ × Value)} (r : KV kvs vs) (k : κ) : (kvs.any fun kv => decide (kv.1 = k)) = vs.any fun kv => decide (kv.1 = k) := by
  unfold KV at r
  induction r with
  | nil => rfl
  | cons h t ih => rw [List.any_cons, List.any_cons, ih, h.1]
theorem KV.repl {kvs : List (κ × V)} {vs : List (κ × Value)} (r : KV kvs vs) (k : κ) {y : V} {u : Value} (ry : RelV y u) :
    KV (kvs.map fun kv => if kv.1 = k then (kv.1, y) else kv) (vs.map fun kv => if kv.1 = k then (kv.1, u) else kv) := by
  unfold KV at r ⊢
  induction r with
  | nil => exact .nil
  | @cons p q ps qs h t ih =>
    rw [List.map_cons, List.map_cons]
    refine .cons ?_ ih
    obtain ⟨h1, h2⟩ := h
    by_cases e : p.1 = k
    · rw [if_pos e, if_pos (h1.symm.trans e)]; exact ⟨h1, ry⟩
    · rw [if_neg e, if_neg (fun z => e (h1.trans z))]; exact ⟨h1, h2⟩
theorem KV.put {kvs : List (κ × V)} {vs : List (κ × Value)} (r : KV kvs vs) (k : κ) {y : V} {u : Value} (ry : RelV y u) : KV (putK kvs k y) (stored vs k u) := by
  unfold putK stored
  rw [r.any k]
  by_cases e : (vs.any fun kv => decide (kv.1 = k)) = true
  · rw [if_pos e, if_pos e]; exact r.repl k ry
  · rw [if_neg e, if_neg e]; exact Paired.snoc r ⟨rfl, ry⟩
theorem KV.length {kvs : List (κ × V)} {vs : List (κ × Value)} (r : KV kvs vs) : kvs.length = vs.length := Paired.length r
end
theorem kV_is {P : Program} {w : World} {k : Key} {u : Value} (r : RelV (kV k) u) : (mixKind P w).is k u = true := by
  cases k with
  | inl i => obtain ⟨t, e⟩ := (show ∃ t, u = Value.int i t from r); subst e; exact mixKind_int P w i t
  | inr x => obtain ⟨t, e⟩ := (show ∃ t, u = Value.str x t from r); subst e; exact mixKind_str P w x t
theorem items_are {P : Program} {w : World} : ∀ {ks : List Key} {us : List Value}, Vals (ks.map kV) us → ItemsAre (mixKind P w) ks us
  | [], _, r => by rw [List.map_nil] at r; cases r; exact .nil
  | k :: ks, _, r => by
    rw [List.map_cons] at r
    cases r with
    | cons h t => exact .cons (kV_is h) (items_are t)
abbrev KT (H : Hp) : List (List Key × V) → List (List Key × Addr × Value) → Prop := Paired fun p q => p.1 = q.1 ∧ H q.2.1 = some (.tup (p.1.map kV)) ∧ RelV p.2 q.2.2
theorem KT.val {H : Hp} {kvs : List (List Key × V)} {xs : List (List Key × Addr × Value)} (r : KT H kvs xs) (k : List Key) : RelO (valV kvs k) ((atKey xs k).map (·.2)) := by
  induction r with
  | nil => exact True.intro
  | @cons p q ps qs h t ih =>
    obtain ⟨h1, _, h2⟩ := h
    by_cases e : p.1 = k
    · have e' : q.1 = k := h1.symm.trans e
      have b : atKey (q :: qs) k = some q.2 := by simp [atKey, List.find?_cons, e']
      rw [valV_pos e, b]; exact h2
    · have e' : ¬ q.1 = k := fun z => e (h1.trans z)
      have b : atKey (q :: qs) k = atKey qs k := by simp [atKey, List.find?_cons, e']
      rw [valV_neg e, b]; exact ih
theorem KT.repl {H : Hp} {kvs : List (List Key × V)} {xs : List (List Key × Addr × Value)} (r : KT H kvs xs) (k : List Key) {y : V} {u : Value} (ry : RelV y u) :
    KT H (kvs.map fun kv => if kv.1 = k then (kv.1, y) else kv) (xs.map (putAt k u)) := by
  induction r with
  | nil => exact .nil
  | @cons p q ps qs h t ih =>
    rw [List.map_cons, List.map_cons]
    refine .cons ?_ ih
    obtain ⟨h1, h2, h3⟩ := h
    unfold putAt
    by_cases e : p.1 = k
    · rw [if_pos e, if_pos (h1.symm.trans e)]; exact ⟨h1, h2, ry⟩
    · rw [if_neg e, if_neg (fun z => e (h1.trans z))]; exact ⟨h1, h2, h3⟩
theorem KT.put {H : Hp} {kvs : List (List Key × V)} {xs : List (List Key × Addr × Value)} (r : KT H kvs xs) (k : List Key) {b : Addr} {y : V} {u : Value} (hb : H b = some (.tup (k.map kV))) (ry : RelV y u) :
    KT H (putK kvs k y) (storedH xs k b u) := by
  have e : (kvs.any fun kv => decide (kv.1 = k)) = (atKey xs k).isSome := by
    rw [valV_any, (r.val k).isSome_eq, Option.isSome_map]
  unfold putK storedH
  rw [e]
  by_cases q : (atKey xs k).isSome = true
  · rw [if_pos q, if_pos q]; exact r.repl k ry
  · rw [if_neg q, if_neg q]; exact Paired.snoc r ⟨rfl, hb, ry⟩
theorem KT.keeps {H H' : Hp} {kvs : List (List Key × V)} {xs : List (List Key × Addr × Value)} (r : KT H kvs xs) (ht : ∀ b ys, H b = some (.tup ys) → H' b = some (.tup ys)) : KT H' kvs xs :=
  Paired.mapP r fun _ _ z => ⟨z.1, ht _ _ z.2.1, z.2.2⟩
section
variable {P : Program} {w : World} {H : Hp} {h : Heap} {a : Addr}
theorem rd_of {u : HO} (ok : HOk P w H h) (e : Rd H a u) : ObjOk P w H h a u := e.ok ok
theorem dk_rd {kvs : List (Key × V)} (ok : HOk P w H h) (e : Rd H a (.dK kvs)) : kvs.length ≤ sizeLine ∧ (a == sysModules) = false ∧ ∃ vs, KV kvs vs ∧ h.DictOf (mixKind P w) a vs :=
  show ObjOk P w H h a (.dK kvs) from rd_of ok e
theorem dk_of {kvs : List (Key × V)} (ok : HOk P w H h) (e : H a = some (.dK kvs)) : kvs.length ≤ sizeLine ∧ (a == sysModules) = false ∧ ∃ vs, KV kvs vs ∧ h.DictOf (mixKind P w) a vs := dk_rd ok (.inl e)
theorem key_of {ks : List Key} (ok : HOk P w H h) (e : H a = some (.tup (ks.map kV))) : (tupleKind (mixKind P w)).is h ks a := by
  obtain ⟨_, its, r, o, h1, h2, n, h3⟩ := (show ObjOk P w H h a (.tup (ks.map kV)) from ok a _ e)
  exact ⟨o, its.toArray, n, h1, h2, h3, by simpa using items_are r⟩
theorem dt_rd {kvs : List (List Key × V)} (ok : HOk P w H h) (e : Rd H a (.dT kvs)) : kvs.length ≤ sizeLine ∧ (a == sysModules) = false ∧
    ∃ xs, KT H kvs xs ∧ h.DictOfH (tupleKind (mixKind P w)) a xs := by
  obtain ⟨z, y, xs, r, o, es, ep, h1, h2, h3, h4, h5⟩ := (show ObjOk P w H h a (.dT kvs) from rd_of ok e)
  refine ⟨z, y, xs, r, o, es, ep, h1, h2, h3, h4, fun x hx => ?_, h5⟩
  have all : ∀ {l : List (List Key × V)} {m : List (List Key × Addr × Value)}, KT H l m → ∀ x ∈ m, (tupleKind (mixKind P w)).is h x.1 x.2.1 := by
    intro l m q
    induction q with
    | nil => intro x hx; exact nomatch hx
    | @cons p q ps qs hq t ih =>
      intro x hx
      rcases List.mem_cons.mp hx with e | hx
      · subst e
        exact key_of ok (by rw [← hq.1]; exact hq.2.1)
      · exact ih x hx
  exact all r x hx
theorem dt_of {kvs : List (List Key × V)} (ok : HOk P w H h) (e : H a = some (.dT kvs)) : kvs.length ≤ sizeLine ∧ (a == sysModules) = false ∧
    ∃ xs, KT H kvs xs ∧ h.DictOfH (tupleKind (mixKind P w)) a xs := dt_rd ok (.inl e)
end
def DGet (H : Hp) (a : Addr) (y : V) (r : Option V) : Prop :=
  (∃ kvs k, Rd H a (.dK kvs) ∧ y = kV k ∧ r = valV kvs k) ∨ ∃ kvs k b, Rd H a (.dT kvs) ∧ y = .ref b ∧ H b = some (.tup (k.map kV)) ∧ r = valV kvs k
def DPut (H : Hp) (a : Addr) (y v : V) (H' : Hp) : Prop :=
  (∃ kvs k, H a = some (.dK kvs) ∧ y = kV k ∧ kvs.length < sizeLine ∧ H' = upd H a (.dK (putK kvs k v))) ∨
  ∃ kvs k b, H a = some (.dT kvs) ∧ y = .ref b ∧ H b = some (.tup (k.map kV)) ∧ kvs.length < sizeLine ∧ H' = upd H a (.dT (putK kvs k v))
theorem DGet.t {H : Hp} {a b : Addr} {kvs : List (List Key × V)} {k : List Key} (e : H a = some (.dT kvs)) (eb : H b = some (.tup (k.map kV))) : DGet H a (.ref b) (valV kvs k) := .inr ⟨kvs, k, b, .inl e, rfl, eb, rfl⟩
theorem DPut.k {H : Hp} {a : Addr} {kvs : List (Key × V)} {k : Key} {v : V} (e : H a = some (.dK kvs)) (hl : kvs.length < sizeLine) : DPut H a (kV k) v (upd H a (.dK (putK kvs k v))) := .inl ⟨kvs, k, e, rfl, hl, rfl⟩
theorem DPut.t {H : Hp} {a b : Addr} {kvs : List (List Key × V)} {k : List Key} {v : V} (e : H a = some (.dT kvs)) (eb : H b = some (.tup (k.map kV))) (hl : kvs.length < sizeLine) :
    DPut H a (.ref b) v (upd H a (.dT (putK kvs k v))) := .inr ⟨kvs, k, b, e, rfl, eb, hl, rfl⟩
section
variable {X : Cx} {pins : List (Addr × Obj)} {σ : St} {H : Hp} {s : Shared} {a : Addr} {y v : V} {u r : Value} {o : Option V} {A : Around} {E : Value → Shared → Prop}
theorem Inv.big (I : Inv X pins σ H s) : sysModules < s.heap.objs.size := by
  have h : mainGlobals < s.heap.objs.size := (I.mod.glob.keeps I.bk).lt
  exact Nat.lt_trans (by decide) h
theorem d_getItem {Q : Value → Shared → Prop} (hu : A.units + 1 < cLine) (I : Inv X pins σ H s) (g : DGet H a y (some v)) (ry : RelV y u) (h : ∀ w' s', Inv X pins σ H s' → RelV v w' → Q w' s') :
    wpAny (model X.prog X.w) A (getItem (.ref a) u) Q E s := by
  rcases g with ⟨kvs, k, e, ey, l⟩ | ⟨kvs, k, b, e, ey, eb, l⟩
  · subst ey
    obtain ⟨z, hd, vs, rel, dd⟩ := dk_rd I.hok e
    obtain ⟨w', hw, rw'⟩ := RelO.some_of (v := v) (o := valueAt vs k) (by rw [l]; exact rel.val k)
    exact wpAny_getItem_of (kV_is ry) dd.mapOf hw (h w' _ (I.tok _) rw')
  · subst ey
    cases (show u = Value.ref b from ry)
    obtain ⟨z, hd, xs, rel, dd⟩ := dt_rd I.hok e
    obtain ⟨w', hw, rw'⟩ := RelO.some_of (v := v) (o := (atKey xs k).map (·.2)) (by rw [l]; exact rel.val k)
    obtain ⟨p, hp, hp2⟩ := Option.map_eq_some_iff.mp hw
    refine wpAny_getItem_heap (tupleKind_room_in1 hu) (key_of I.hok eb) dd hp ?_
    rw [hp2]
    exact h w' _ (I.tok _) rw'
theorem d_in {Q : Value → Shared → Prop} (hu : A.units + 1 < cLine) (I : Inv X pins σ H s) (g : DGet H a y o) (ry : RelV y u) (h : ∀ s', Inv X pins σ H s' → Q (.bool o.isSome) s') :
    wpAny (model X.prog X.w) A (compareOp .In u (.ref a)) Q E s := by
  rcases g with ⟨kvs, k, e, ey, l⟩ | ⟨kvs, k, b, e, ey, eb, l⟩
  · subst ey
    obtain ⟨z, hd, vs, rel, dd⟩ := dk_rd I.hok e
    refine wpAny_in_of (kV_is ry) hd dd.mapOf ?_
    rw [← (rel.val k).isSome_eq, ← l]
    exact h _ (I.tok _)
  · subst ey
    cases (show u = Value.ref b from ry)
    obtain ⟨z, hd, xs, rel, dd⟩ := dt_rd I.hok e
    refine wpAny_in_heap (tupleKind_room_in1 hu) (key_of I.hok eb) hd dd ?_
    have q := (rel.val k).isSome_eq
    rw [Option.isSome_map] at q
    rw [← q, ← l]
    exact h _ (I.tok _)
theorem d_notIn {Q : Value → Shared → Prop} (hu : A.units + 1 < cLine) (I : Inv X pins σ H s) (g : DGet H a y o) (ry : RelV y u) (h : ∀ s', Inv X pins σ H s' → Q (.bool (!o.isSome)) s') :
    wpAny (model X.prog X.w) A (compareOp .NotIn u (.ref a)) Q E s := by
  rcases g with ⟨kvs, k, e, ey, l⟩ | ⟨kvs, k, b, e, ey, eb, l⟩
  · subst ey
    obtain ⟨z, hd, vs, rel, dd⟩ := dk_rd I.hok e
    refine wpAny_notIn_of (kV_is ry) hd dd.mapOf ?_
    rw [← (rel.val k).isSome_eq, ← l]
    exact h _ (I.tok _)
  · subst ey
    cases (show u = Value.ref b from ry)
    obtain ⟨z, hd, xs, rel, dd⟩ := dt_rd I.hok e
    refine wpAny_notIn_heap (tupleKind_room_in1 hu) (key_of I.hok eb) hd dd ?_
    have q := (rel.val k).isSome_eq
    rw [Option.isSome_map] at q
    rw [← q, ← l]
    exact h _ (I.tok _)
theorem d_write {h' : Heap} {t' : Nat} {ob : HO} (I : Inv X pins σ H s) (mu : Mut (H a)) (hs : Heap.SameBut a s.heap h') (he : ∃ q, h'.get? a = some q) (new : ObjOk X.prog X.w (upd H a ob) h' a ob) :
    Inv X pins σ (upd H a ob) { s with heap := h', toks := t' } :=
  I.write (x := a) (e := a) mu (.inl rfl) (fun b q hb z => (hs.2 b hb).trans z) he new
theorem dk_new {P : Program} {w : World} {H' : Hp} {h' : Heap} {kvs : List (Key × V)} {vs : List (Key × Value)} (z : kvs.length ≤ sizeLine) (hd : (a == sysModules) = false) (rel : KV kvs vs) (dd : h'.DictOf (mixKind P w) a vs) :
    ObjOk P w H' h' a (.dK kvs) := ⟨z, hd, vs, rel, dd⟩
theorem d_setItem {H' : Hp} {Q : Unit → Shared → Prop} (hu : A.units + 1 < cLine) (I : Inv X pins σ H s) (g : DPut H a y v H') (ry : RelV y u) (rv : RelV v r) (h : ∀ s', Inv X pins σ H' s' → Q () s') :
    wpAny (model X.prog X.w) A (setItem (.ref a) u r) Q E s := by
  rcases g with ⟨kvs, k, e, ey, l, eH⟩ | ⟨kvs, k, b, e, ey, eb, l, eH⟩
  · subst ey eH
    obtain ⟨z, hd, vs, rel, dd⟩ := dk_of I.hok e
    have hz : vs.length ≤ sizeLine := by rw [← rel.length]; exact z
    have hl : (putK kvs k v).length ≤ sizeLine := by have := length_putK kvs k v; omega
    refine wpAny_setItem_pairs (hsz := hz) (kV_is ry) dd fun h' dd' hs => h _ ?_
    have he : ∃ q, h'.get? a = some q := let ⟨q, _, _, hq, _⟩ := dd'; ⟨q, hq⟩
    exact d_write I (by rw [e]; exact True.intro) hs he (dk_new hl hd (rel.put k rv) dd')
  · subst ey eH
    cases (show u = Value.ref b from ry)
    obtain ⟨z, hd, xs, rel, dd⟩ := dt_of I.hok e
    have hz : xs.length ≤ sizeLine := by rw [← Paired.length rel]; exact z
    have hl : (putK kvs k v).length ≤ sizeLine := by have := length_putK kvs k v; omega
    refine wpAny_setItem_heap (hsz := hz) (tupleKind_room_in1 hu) (key_of I.hok eb) dd fun h' dd' hs => h _ ?_
    obtain ⟨q, es, ep, hq, h2, h3, h4, _, h5⟩ := dd'
    refine d_write I (by rw [e]; exact True.intro) hs ⟨q, hq⟩ ⟨hl, hd, _, (rel.put k eb rv).keeps fun c ys ec => ?_, q, es, ep, hq, h2, h3, h4, h5⟩
    rw [upd_ne (ne_of ec e (fun z => nomatch z))]
    exact ec
end
section
variable {X : Cx} {pins : List (Addr × Obj)} {σ : St} {H : Hp} {s : Shared} {a : Addr} {kvs : List (Key × V)} {k : Key} {u : Value} {A : Around} {E : Value → Shared → Prop}
end
def NoSl (i : Expr) : Prop := ∀ ov iv, subscripted i false ov iv = operate [ov, iv] (getItem ov iv)
theorem subD_of {prog : Program} {w : World} {A : Around} {E : Value → Shared → Prop} {s : Shared} {env : Env} {value slice : Expr} {pos : Pos} {T id : String} {Q : Value → Shared → Prop}
    (hl : typeLookup (.type T) "__getitem__" = pure (some (.builtin id))) (hs : NoSl slice)
    (h : wpAny (model prog w) A (eval value env) (fun o s₁ => wpAny (model prog w) A (eval slice env) (fun i s₂ => s₂.TypeIs o T ∧ wpAny (model prog w) A (getItem o i) Q E s₂) E s₁) E s) :
    wpAny (model prog w) A (eval (.Subscript value slice pos) env) Q E s := by
  refine Subscript_ (wpAny_mono h (fun o s₁ h₁ => wpAny_mono h₁ (fun i s₂ h₂ => ?_) fun _ _ x => x) fun _ _ x => x)
  obtain ⟨hT, h₂⟩ := h₂
  unfold subscriptTail
  refine wpAny_bind ?_
  rw [getitemInPython_of_ne hT.not_modules]
  refine wpAny_bind (wpAny_specialOf hT hl ?_)
  have fin : wpAny (model prog w) A (subscripted slice false o i) (fun r s₃ => wpAny (model prog w) A (letTemporaryGo value o r >>= fun _ => pure r) Q E s₃) E s₂ := by
    rw [hs o i]
    exact wpAny_operating (wpAny_mono h₂ (fun r s₃ h₃ => wpAny_bind (wpAny_letTemporaryGo (wpAny_pure h₃))) fun _ _ x => x)
  first
    | exact wpAny_pure (wpAny_bind fin)
    | exact wpAny_bind (wpAny_pure (wpAny_bind fin))
    | exact wpAny_bind fin
theorem dict_typeIs {X : Cx} {pins : List (Addr × Obj)} {σ : St} {H : Hp} {s : Shared} {a : Addr} {y : V} {o : Option V} (I : Inv X pins σ H s) (g : DGet H a y o) : s.TypeIs (.ref a) "dict" := by
  rcases g with ⟨kvs, k, e, _, _⟩ | ⟨kvs, k, b, e, _, _, _⟩
  · obtain ⟨_, _, vs, _, dd⟩ := dk_rd I.hok e
    exact dd.typeIs
  · obtain ⟨_, _, xs, _, dd⟩ := dt_rd I.hok e
    exact dd.typeIs
def tDGet (td ty : TE) : TE := fun σ H Q => td σ H fun x H1 => ty σ H1 fun y H2 => ∃ a v, x = .ref a ∧ DGet H2 a y (some v) ∧ Q v H2
def tDIn (ty td : TE) : TE := fun σ H Q => ty σ H fun y H1 => td σ H1 fun x H2 => ∃ a o, x = .ref a ∧ DGet H2 a y o ∧ Q (.bl o.isSome) H2
def tDNotIn (ty td : TE) : TE := fun σ H Q => ty σ H fun y H1 => td σ H1 fun x H2 => ∃ a o, x = .ref a ∧ DGet H2 a y o ∧ Q (.bl (!o.isSome)) H2
def sDPut (td ty tv : TE) : TS := fun D σ H => tv σ H fun v H1 => td σ H1 fun x H2 => ty σ H2 fun y H3 => ∃ a H4, x = .ref a ∧ DPut H3 a y v H4 ∧ D.nx σ H4
def sDAug (td ty tv : TE) (rd : V → V → Hp → VK → Prop) : TS := fun D σ H => td σ H fun x H1 => ty σ H1 fun y H2 => ∃ a v, x = .ref a ∧ DGet H2 a y (some v) ∧
  tv σ H2 fun y2 H3 => rd v y2 H3 fun z H4 => ∃ H5, DPut H4 a y z H5 ∧ D.nx σ H5
section
variable {X : Cx} {o i e value : Expr} {pos pos' tpos : Pos} {td ty tv : TE}
theorem pe_dget (hu : X.A.units + 1 < cLine) (ho : PE X o td) (hi : PE X i ty) (hs : NoSl i) : PE X (.Subscript o i pos) (tDGet td ty) := by
  intro pins s σ H Q I h
  refine subD_of PySem.F.slot_dict_getitem.lookup hs (thn (ho pins s σ H _ I h) fun u s1 ⟨x, H1, I1, rx, q1⟩ => thn (hi pins s1 σ H1 _ I1 q1) fun iv s2 ⟨y, H2, I2, ry, a, v, ex, g, q2⟩ => ?_)
  subst ex
  obtain rfl : u = Value.ref a := rx
  exact ⟨dict_typeIs I2 g, d_getItem hu I2 g ry fun w' s3 I3 rw' => ⟨v, H2, I3, rw', q2⟩⟩
theorem pc_din (hu : X.A.units + 1 < cLine) (hi : PE X i ty) (ho : PE X o td) : PC X .In i o (tDIn ty td) := by
  intro pins s σ H Q I h
  refine thn (hi pins s σ H _ I h) fun iv s1 ⟨y, H1, I1, ry, q1⟩ => thn (ho pins s1 σ H1 _ I1 q1) fun u s2 ⟨x, H2, I2, rx, a, ov, ex, g, q2⟩ => ?_
  subst ex
  obtain rfl : u = Value.ref a := rx
  exact d_in hu I2 g ry fun s3 I3 => ⟨.bl ov.isSome, H2, I3, rfl, q2⟩
theorem pc_dnotin (hu : X.A.units + 1 < cLine) (hi : PE X i ty) (ho : PE X o td) : PC X .NotIn i o (tDNotIn ty td) := by
  intro pins s σ H Q I h
  refine thn (hi pins s σ H _ I h) fun iv s1 ⟨y, H1, I1, ry, q1⟩ => thn (ho pins s1 σ H1 _ I1 q1) fun u s2 ⟨x, H2, I2, rx, a, ov, ex, g, q2⟩ => ?_
  subst ex
  obtain rfl : u = Value.ref a := rx
  exact d_notIn hu I2 g ry fun s3 I3 => ⟨.bl (!ov.isSome), H2, I3, rfl, q2⟩
theorem ps_dput (hu : X.A.units + 1 < cLine) (ho : PE X o td) (hi : PE X i ty) (hv : PE X value tv) (hs : swapsWith value (some (.Subscript o i pos')) pos.line X.env = pure false) :
    PS X (.Assign [.Subscript o i pos'] value pos) (sDPut td ty tv) := by
  intro pins s σ H D I h
  refine wpAny_Assign_Subscript (thn (hv pins s σ H _ I h) fun r s1 ⟨v, H1, I1, rv, q1⟩ => thn (ho pins s1 σ H1 _ I1 q1) fun u s2 ⟨x, H2, I2, rx, q2⟩ => thn (hi pins s2 σ H2 _ I2 q2) fun iv s3 ⟨y, H3, I3, ry, a, H4, ex, g, q3⟩ => ?_) hs
  subst ex
  obtain rfl : u = Value.ref a := rx
  exact d_setItem hu I3 g ry rv fun s4 I4 => ⟨σ, H4, I4, q3⟩
theorem ps_daug {op : Operator} {rd : V → V → Hp → VK → Prop} (hu : X.A.units + 1 < cLine) (ho : PE X o td) (hi : PE X i ty) (hv : PE X value tv) (hop : InOp X op rd)
    (ha : ∀ ov iv new, augStore i ov iv new = (do holding [new, ov, iv] (setItem ov iv new); release [new, ov, iv] []; pure .next)) : PS X (.AugAssign (.Subscript o i tpos) op value pos) (sDAug td ty tv rd) := by
  intro pins s σ H D I h
  refine wpAny_AugAssign_SubscriptAny (thn (ho pins s σ H _ I h) fun u s1 ⟨x, H1, I1, rx, q1⟩ => thn (hi pins s1 σ H1 _ I1 q1) fun iv s2 ⟨y, H2, I2, ry, a, v, ex, g, q2⟩ => ?_) ha
  subst ex
  obtain rfl : u = Value.ref a := rx
  refine d_getItem hu I2 g ry fun w' s3 I3 rw' => thn (hv pins s3 σ H2 _ I3 q2) fun w2 s4 ⟨y2, H3, I4, ry2, q3⟩ => thn (hop pins s4 σ H3 v y2 w' w2 _ I4 rw' ry2 q3) fun w3 s5 ⟨z, H4, I5, rz, H5, g5, q4⟩ => ?_
  exact d_setItem hu I5 g5 ry rz fun s6 I6 => ⟨σ, H5, I6, q4⟩
end
theorem dk_empty {P : Program} {w : World} {H : Hp} (h : Heap) (hb : sysModules < h.objs.size) : ObjOk P w H (h.push { cls := .type "dict", data := .dict #[] }) h.objs.size (.dK []) :=
  ⟨Nat.zero_le _, beq_eq_false_iff_ne.mpr (Ne.symm (Nat.ne_of_lt hb)), [], .nil, Heap.DictOf.new h⟩
theorem dt_empty {P : Program} {w : World} {H : Hp} (h : Heap) (hb : sysModules < h.objs.size) : ObjOk P w H (h.push { cls := .type "dict", data := .dict #[] }) h.objs.size (.dT []) :=
  ⟨Nat.zero_le _, beq_eq_false_iff_ne.mpr (Ne.symm (Nat.ne_of_lt hb)), [], .nil, _, #[], 0, Heap.get?_push_size _ rfl, ⟨rfl, rfl, rfl⟩, rfl, rfl, List.nodup_nil⟩
def tDNewK : TE := fun _ H Q => ∀ p, H p = none → Q (.ref p) (upd H p (.dK []))
def tDNewT : TE := fun _ H Q => ∀ p, H p = none → Q (.ref p) (upd H p (.dT []))
section
variable {X : Cx} {pos : Pos}
theorem pe_dnewK : PE X (.Dict [] [] pos) tDNewK := fun pins s σ H Q I h =>
  wpAny_Dict_empty ⟨.ref s.heap.objs.size, _, I.laid (a := s.heap.objs.size) (o := .dK []) (t' := s.toks) (fun _ _ q => Heap.get?_push_of_some _ q) (Nat.le_refl _) (dk_empty s.heap I.big), rfl, h _ (I.hok.fresh (Nat.le_refl _))⟩
theorem pe_dnewT : PE X (.Dict [] [] pos) tDNewT := fun pins s σ H Q I h =>
  wpAny_Dict_empty ⟨.ref s.heap.objs.size, _, I.laid (a := s.heap.objs.size) (o := .dT []) (t' := s.toks) (fun _ _ q => Heap.get?_push_of_some _ q) (Nat.le_refl _) (dt_empty s.heap I.big), rfl, h _ (I.hok.fresh (Nat.le_refl _))⟩
end
def mergeK (kvs more : List (Key × V)) : List (Key × V) := more.foldl (fun acc kv => putK acc kv.1 kv.2) kvs
theorem KV.merge : ∀ {more : List (Key × V)} {rs : List (Key × Value)} {kvs : List (Key × V)} {vs : List (Key × Value)}, KV more rs → KV kvs vs → KV (mergeK kvs more) (merged vs rs) := by
  intro more rs kvs vs r
  unfold KV at r
  induction r generalizing kvs vs with
  | nil => intro q; exact q
  | @cons p q ps qs h t ih =>
    intro r0
    have e : KV (putK kvs p.1 p.2) (stored vs q.1 q.2) := by
      have := r0.put p.1 h.2
      rw [← h.1]; exact this
    exact ih e
theorem length_mergeK : ∀ (more kvs : List (Key × V)), (mergeK kvs more).length ≤ kvs.length + more.length
  | [], kvs => by show kvs.length ≤ kvs.length + 0; omega
  | p :: r, kvs => by
    have h1 := length_mergeK r (putK kvs p.1 p.2)
    have h2 := length_putK kvs p.1 p.2
    show (mergeK (putK kvs p.1 p.2) r).length ≤ _
    rw [List.length_cons]; omega
def IsD (H : Hp) (a : Addr) : Prop := (∃ kvs, Rd H a (.dK kvs)) ∨ ∃ kvs, Rd H a (.dT kvs)
theorem isD_at {X : Cx} {pins : List (Addr × Obj)} {σ : St} {H : Hp} {s : Shared} {a : Addr} (I : Inv X pins σ H s) (d : IsD H a) :
    s.TypeIs (.ref a) "dict" ∧ (∀ b, Value.ref a = .ref b → ∃ ob, s.heap.get? b = some ob ∧ ob.dict = none) ∧ (a == sysModules) = false := by
  rcases d with ⟨kvs, e⟩ | ⟨kvs, e⟩
  · obtain ⟨_, hd, vs, _, dd⟩ := dk_rd I.hok e
    refine ⟨dd.typeIs, fun b q => ?_, hd⟩
    cases q
    obtain ⟨ob, _, _, h1, h2, _⟩ := dd
    exact ⟨ob, h1, h2.2.1⟩
  · obtain ⟨_, hd, xs, _, dd⟩ := dt_rd I.hok e
    refine ⟨dd.typeIs, fun b q => ?_, hd⟩
    cases q
    obtain ⟨ob, _, _, h1, h2, _⟩ := dd
    exact ⟨ob, h1, h2.2.1⟩
section
variable {X : Cx} {pins : List (Addr × Obj)} {σ : St} {H : Hp} {s : Shared} {a : Addr} {y d : V} {u r : Value} {o : Option V} {A : Around} {E : Value → Shared → Prop}
end
section
variable {X : Cx} {o e f : Expr} {apos cpos : Pos} {td ty tx : TE}
end
section
variable {X : Cx} {pins : List (Addr × Obj)} {σ : St} {H : Hp} {s : Shared} {a : Addr} {kvs : List (Key × V)} {A : Around} {E : Value → Shared → Prop}
end
section
variable {X : Cx} {pins : List (Addr × Obj)} {σ : St} {H : Hp} {s : Shared} {a : Addr} {y : V} {u : Value} {A : Around} {E : Value → Shared → Prop}
end
end L2
namespace L2
open PySem PySem.Spec PyProof.Rows
section
variable {κ : Type} [DecidableEq κ]
end
end L2
namespace L2
open PySem PySem.W PyProof.Rows
end L2
namespace L2
open PySem PySem.W PyProof.Rows PySem.Calls
section
variable {prog : Program} {w : World} {A : Around} {E : Value → Shared → Prop} {s : Shared}
end
end L2
namespace L2
open PySem PySem.W PyProof.Rows
section
variable {prog : Program} {w : World} {A : Around} {s : Shared}
end
section
variable {X : Cx} {pins : List (Addr × Obj)} {σ : St} {H : Hp} {s : Shared}
end
end L2
namespace L2
open PySem PySem.W PyProof.Rows
section
variable {prog : Program} {w : World} {A : Around} {E : Value → Shared → Prop} {s : Shared} {d it : Addr} {o : Obj} {es : Array DictEntry} {ep i : Nat}
theorem iter_raw {Q : Value → Shared → Prop} (hd : (d == sysModules) = false) (ho : s.heap.get? d = some o) (hc : o.ExactDict) (hq : o.data = .dict es ep)
    (k : Q (.ref s.heap.objs.size) { s with heap := s.heap.push { cls := .type "dict_keyiterator", data := .fields #[.ref d, .int 0 0, .int es.size 0, .int ep 0] } }) : wpAny (model prog w) A (pyIter (.ref d)) Q E s := by
  have T : s.TypeIs (.ref d) "dict" := ⟨o, ho, hc.1⟩
  refine wpAny_pyIter_slot T F.slot_dict_iter (wpAny_call_entry F.slot_dict_iter T F.entry_dict_iter ?_ (F.args_dict_iter_1 _))
  unfold Builtin.«dict.__iter__» Builtin.Dict.dictSlotNone
  refine wpAny_bind (wpAny_bind (wpAny_notOrdered_dict T (wpAny_pure ?_)))
  show wpAny _ A.in1 (Builtin.Dict.showsAll d >>= _) _ _ s
  unfold Builtin.Dict.showsAll
  rw [if_neg (fun z => by rw [hd] at z; cases z)]
  refine wpAny_bind (wpAny_pure (wpAny_bind (wpAny_dictEntries ho hq (wpAny_bind (wpAny_dictEpoch ho hq ?_)))))
  exact wpAny_bind (wpAny_newObj_type (wpAny_pure ⟨_, rfl, "dict_keyiterator", _, ⟨_, Heap.get?_push_size _ rfl, rfl⟩, F.slot_dict_keyiterator_next.lookup, k⟩))
theorem next_raw {Q : Option Value → Shared → Prop} {e : DictEntry} (hit : s.heap.IsKeyIter it d i es.size ep) (ho : s.heap.get? d = some o) (hq : o.data = .dict es ep) (hx : es[i]? = some e)
    (k : ∀ h', h'.IsKeyIter it d (i + 1) es.size ep → Heap.SameBut it s.heap h' → Q (some e.key) { s with heap := h' }) : wpAny (model prog w) A (pyNext (.ref it)) Q E s := by
  obtain ⟨oi, hi, ci, di⟩ := id hit
  have T := hit.typeIs
  unfold pyNext
  refine wpAny_bind (wpAny_attempt (wpAny_callSpecial?_slot (name := Str.ofString "__next__") T F.slot_dict_keyiterator_next (wpAny_call_entry F.slot_dict_keyiterator_next T F.entry_dict_keyiterator_next ?_ (F.args_dict_keyiterator_next_1 _))))
  refine wpAny_bind (wpAny_pure (wpAny_bind (wpAny_bind ?_)))
  first | refine wpAny_bind (wpAny_typeNameOfWhole_keyiter T (wpAny_pure (wpAny_bind (wpAny_fieldsOf hi di ?_)))) | refine wpAny_bind (wpAny_typeNameOf_keyiter T (wpAny_pure (wpAny_bind (wpAny_fieldsOf hi di ?_))))
  simp only [show Builtin.Dict_items.ownsTuple "dict_keyiterator" = false by decide, Bool.false_eq_true, if_false]
  show wpAny _ A.in1 (if (Value.ref d == Value.none) = true then _ else _) _ _ s
  rw [if_neg (show ¬ (Value.ref d == Value.none) = true from Bool.false_ne_true)]
  refine wpAny_bind (wpAny_pure (wpAny_bind (wpAny_dictEntries ho hq ?_)))
  rw [if_neg (by simp)]
  refine wpAny_bind (wpAny_pure (wpAny_bind (wpAny_dictEpoch ho hq ?_)))
  rw [if_neg (by simp)]
  refine wpAny_pure ?_
  simp only [show ¬ ((i : Int) < 0) from by omega, if_false, Int.toNat_natCast, hx]
  refine wpAny_bind ?_
  first | refine wpAny_bind (wpAny_typeNameOfWhole_keyiter T (wpAny_pure (wpAny_bind (wpAny_isOneOf_keyiter T ?_)))) | refine wpAny_bind (wpAny_typeNameOf_keyiter T (wpAny_pure (wpAny_bind (wpAny_isOneOf_keyiter T ?_))))
  show wpAny _ A.in1 (setField (.ref it) 1 (rawInt ((i : Int) + 1)) >>= _) _ _ s
  refine wpAny_bind (wpAny_setField hi di (by simp) ?_)
  have H2 : (s.heap.update it (Obj.mapFields (·.setIfInBounds 1 (rawInt ((i : Int) + 1))))).IsKeyIter it d (i + 1) es.size ep :=
    ⟨_, Heap.get?_update_self _ hi (Obj.isFreed_of_fields (Obj.data_mapFields di _)), (Obj.cls_mapFields ..).trans ci, (Obj.data_mapFields di _).trans (by simp [rawInt])⟩
  refine wpAny_bind (wpAny_holding (wpAny_bind (wpAny_isOneOf_keyiter (s := { s with heap := s.heap.update it (Obj.mapFields (·.setIfInBounds 1 (rawInt ((i : Int) + 1)))) }) H2.typeIs ?_)))
  show wpAny _ A.in1 (pure e.key) _ _ _
  exact wpAny_pure (wpAny_pure ⟨_, rfl, wpAny_pure (k _ H2 (Heap.SameBut.update ..))⟩)
theorem end_raw {Q : Option Value → Shared → Prop} (hh : A.handled = none) (hit : s.heap.IsKeyIter it d i es.size ep) (ho : s.heap.get? d = some o) (hq : o.data = .dict es ep) (hx : es.size ≤ i)
    (k : ∀ h', Heap.ExtBut it s.heap h' → Q none { s with heap := h' }) : wpAny (model prog w) A (pyNext (.ref it)) Q E s := by
  obtain ⟨oi, hi, ci, di⟩ := id hit
  have T := hit.typeIs
  unfold pyNext
  refine wpAny_bind (wpAny_attempt (wpAny_callSpecial?_slot (name := Str.ofString "__next__") T F.slot_dict_keyiterator_next (wpAny_call_entry F.slot_dict_keyiterator_next T F.entry_dict_keyiterator_next ?_ (F.args_dict_keyiterator_next_1 _))))
  refine wpAny_bind (wpAny_pure (wpAny_bind (wpAny_bind ?_)))
  first | refine wpAny_bind (wpAny_typeNameOfWhole_keyiter T (wpAny_pure (wpAny_bind (wpAny_fieldsOf hi di ?_)))) | refine wpAny_bind (wpAny_typeNameOf_keyiter T (wpAny_pure (wpAny_bind (wpAny_fieldsOf hi di ?_))))
  simp only [show Builtin.Dict_items.ownsTuple "dict_keyiterator" = false by decide, Bool.false_eq_true, if_false]
  show wpAny _ A.in1 (if (Value.ref d == Value.none) = true then _ else _) _ _ s
  rw [if_neg (show ¬ (Value.ref d == Value.none) = true from Bool.false_ne_true)]
  refine wpAny_bind (wpAny_pure (wpAny_bind (wpAny_dictEntries ho hq ?_)))
  rw [if_neg (by simp)]
  refine wpAny_bind (wpAny_pure (wpAny_bind (wpAny_dictEpoch ho hq ?_)))
  rw [if_neg (by simp)]
  refine wpAny_pure ?_
  simp only [show ¬ ((i : Int) < 0) from by omega, if_false, Int.toNat_natCast, Array.getElem?_eq_none hx]
  refine wpAny_bind ?_
  first | refine wpAny_bind (wpAny_typeNameOfWhole_keyiter T (wpAny_pure ?_)) | refine wpAny_bind (wpAny_typeNameOf_keyiter T (wpAny_pure ?_))
  show wpAny _ A.in1 (setField (.ref it) 0 .none >>= _) _ _ s
  refine wpAny_bind (wpAny_setField hi di (by simp) ?_)
  show wpAny _ A.in1 (newExc (.type "StopIteration") [] >>= _) _ _ _
  refine wpAny_bind ?_
  simp only [newExc, newTuple]
  refine wpAny_bind (wpAny_newObj_type (wpAny_bind (m := firstArgMember _ _) (wpAny_of_eq (a := Value.none) (by first | rfl | (simp only [firstArgMember]; rfl)) (wpAny_newObj_type ?_ (by size_fits)))) (by size_fits))
  simp only [raiseNew]
  refine wpAny_bind (wpAny_handled ?_)
  rw [show A.in1.handled = none from hh]
  refine wpAny_bind (wpAny_pure (wpAny_throw ?_))
  refine wpAny_bind (wpAny_isInstance (b := true) (T := "StopIteration") ⟨_, Heap.get?_push_size _ rfl, rfl⟩ isSubtype_stop ?_)
  exact wpAny_pure (k _ (((Heap.SameBut.update ..).extBut.push _).push _))
end
end L2
namespace L2
open PySem PySem.W PyProof.Rows
def Itk (a : Addr) (o : Obj) (kvs : List (Key × V)) : It :=
  ⟨fun i H => H a = some (.frz o (.dK kvs)) ∧ i < kvs.length, fun i H x H' => H' = H ∧ ∃ k v, kvs[i]? = some (k, v) ∧ x = kV k, fun i H => H a = some (.frz o (.dK kvs)) ∧ kvs.length ≤ i⟩
section
variable {X : Cx} {tg : Expr}
theorem Inv.freeze {pins : List (Addr × Obj)} {σ : St} {H : Hp} {s : Shared} {a : Addr} {u : HO} {o : Obj} (I : Inv X pins σ H s) (mu : Mut (some u)) (e : H a = some u) (ho : s.heap.get? a = some o) (new : ObjOk X.prog X.w (upd H a (.frz o u)) s.heap a (.frz o u)) : Inv X pins σ (upd H a (.frz o u)) s :=
  I.write (t' := s.toks) (h' := s.heap) (by rw [e]; exact mu) (.inl rfl) (fun b u _ z => z) ⟨_, ho⟩ new
end
end L2
namespace L2
open PySem PySem.W PyProof.Rows
section
variable {X : Cx} {e c : Expr} {te : TE} {lo hi : Option Expr} {tl th ts : TO} {pos p2 : Pos}
end
section
variable {X : Cx}
end
section
variable {X : Cx} {pins : List (Addr × Obj)} {σ : St} {H : Hp} {s : Shared}
end
section
variable {X : Cx}
end
end L2
namespace L2
open PySem PySem.W PyProof.Rows
section
variable {K : PySem.W.Frag} {ti : TT} {te : TE} {σ : St} {ci : List Nat} {rest : St} {fin : List V → Hp → Prop} {H : Hp} {a : Addr}
end
end L2
namespace L2
open PySem PySem.W PyProof.Rows
theorem Room.units1 {k : Nat} {A : Around} (r : Room k A) : A.units + 1 < cLine := by have := r.un; omega
section
variable {K : PySem.W.Frag} {H : Hp} {Q : VK}
end
section
variable {H : Hp} {Q : VK} {σ : St}
theorem rd_dnewT (h : ∀ p H', H p = none → Same H H' → H' p = some (.dT []) → Q (.ref p) H') : tDNewT σ H Q := rd_new' h
end
end L2
namespace L2
open PySem PySem.W PyProof.Rows
section
variable {X : Cx} {K : PySem.W.Frag}
theorem pg_tupK {es : List Expr} {k : Nat} {t : TGs} {n : Nat} {pos : Pos} (hc : X.calm = true) (h : PGs X es t) (hK : X.K = K := by rfl)
    (hn : (assignEach es X.env).length = n := by rfl) (hst : (assignEach es X.env).findIdx? (·.1) = none := by rfl) : PG X (.Tuple es k pos) (gTup K n t) := by
  subst hK
  exact pg_tup hc h hn hst
theorem ix_tupK (hK : X.K = K := by rfl) : IxR X (rIxT K) := by
  subst hK
  exact ix_tup
end
def DPutP (nx : St → Hp → Prop) (σ : St) (x v : V) : VK := fun y H3 => ∃ a H4, x = .ref a ∧ DPut H3 a y v H4 ∧ nx σ H4
def DGetP (Q : VK) (x : V) : VK := fun y H2 => ∃ a v, x = .ref a ∧ DGet H2 a y (some v) ∧ Q v H2
section
variable {K : PySem.W.Frag} {H : Hp} {Q : VK} {σ : St} {nx rt bk ct : St → Hp → Prop}
theorem rd_dput {td ty tv : TE} {nx : St → Hp → Prop} {rt : VK} {bk ct : St → Hp → Prop} (h : tv σ H fun v H1 => td σ H1 fun x H2 => ty σ H2 (DPutP nx σ x v)) : sDPut td ty tv ⟨nx, rt, bk, ct⟩ σ H := h
theorem rd_dputT {p b : Addr} {v : V} {kvs : List (List Key × V)} (k : List Key) (e : H p = some (.dT kvs)) (eb : H b = some (.tup (k.map kV))) (hl : kvs.length < sizeLine)
    (h : ∀ H', SameBut p H H' → H' p = some (.dT (putK kvs k v)) → nx σ H') : DPutP nx σ (.ref p) v (.ref b) H :=
  ⟨p, _, rfl, DPut.t e eb hl, h _ SameBut.upd upd_same⟩
theorem rd_dget {td ty : TE} (h : td σ H fun x H1 => ty σ H1 (DGetP Q x)) : tDGet td ty σ H Q := h
theorem rd_ixM {p : Addr} {xs : List V} {i : Int} (e : SqL K H p xs) (h0 : 0 ≤ i) (h1 : i < xs.length) (h : ∀ v ∈ xs, Q v H) : rIxL K (.ref p) (.int i) H Q := by
  have hl : i.toNat < xs.length := by omega
  have e1 := atI_nat (xs := xs) (j := i.toNat) (v := xs[i.toNat]) (List.getElem?_eq_getElem hl)
  rw [show ((i.toNat : Nat) : Int) = i by omega] at e1
  exact ⟨p, xs, i, _, rfl, rfl, e, e1, h _ (List.getElem_mem hl)⟩
end
end L2
namespace L2
open PySem PySem.W PyProof.Rows
theorem entry_itemiter_iter : entryFor table "dict_itemiterator.__iter__" = some Builtin.«dict_keyiterator.__iter__» := entryFor_alias (id' := "dict_keyiterator.__iter__") (by kernel_rfl) rfl (by decide +kernel) (by kernel_rfl)
theorem key_rel {P : Program} {w : World} {k : Key} {u : Value} (h : (mixKind P w).is k u = true) : RelV (kV k) u := by
  rcases keyIs_shape h with ⟨i, t, rfl, rfl⟩ | ⟨x, t, rfl, rfl⟩
  · exact ⟨t, rfl⟩
  · exact ⟨t, rfl⟩
theorem kv_get {κ : Type} : ∀ {kvs : List (κ × V)} {vs : List (κ × Value)} {i : Nat}, KV kvs vs → i < kvs.length → ∃ k v u, kvs[i]? = some (k, v) ∧ vs[i]? = some (k, u) ∧ RelV v u
  | (k, v) :: _, (k', u) :: _, 0, .cons h _, _ => ⟨k, v, u, rfl, by obtain ⟨e, _⟩ := h; cases e; rfl, h.2⟩
  | _, _, i + 1, .cons _ t, hi => by
    obtain ⟨k, v, u, e1, e2, e3⟩ := kv_get (i := i) t (by simpa using hi)
    exact ⟨k, v, u, by simpa using e1, by simpa using e2, e3⟩
  | _, _, _, .nil, hi => by simp at hi
theorem pairs_get {P : Program} {w : World} {κ : Type} [DecidableEq κ] {knd : KeyKind P w κ} : ∀ {es : List DictEntry} {kvs : List (κ × Value)} {i : Nat} {k : κ} {u : Value}, Pairs knd es kvs → kvs[i]? = some (k, u) → ∃ e, es[i]? = some e ∧ knd.is k e.key = true ∧ e.val = u
  | _, _, 0, _, _, .cons h1 h2 _, z => by cases z; exact ⟨_, rfl, h1, h2⟩
  | _, _, i + 1, _, _, .cons _ _ t, z => by
    obtain ⟨e, e1, e2⟩ := pairs_get (i := i) t (by simpa using z)
    exact ⟨e, by simpa using e1, e2⟩
  | _, _, _, _, _, .nil, z => by simp at z
theorem turn_keysK {P : Program} {w : World} {K : PySem.W.Frag} {tg : Expr} (a it : Addr) {o : Obj} {es : Array DictEntry} {ep : Nat} (kvs : List (Key × V)) (hd : o.data = .dict es ep) (hz : es.size = kvs.length) :
    Turn P w K tg (Itk a o kvs) [it] it (fun i h => h.IsKeyIter it a i es.size ep) where
  mem := by simp
  obj := fun i h st b hb => by
    have e : b = it := by simpa using hb
    subst e
    obtain ⟨ob, e, c, d⟩ := st
    exact ⟨ob, e, fun v z => by rw [d] at z; cases z⟩
  keep := fun i h h' st k => st.at fun ob e => k it (by simp) ob e
  item := by
    intro X hP hw hK hc i pins s σ H E I hf st hg
    subst hP hw hK
    obtain ⟨ha, hi⟩ := hg
    obtain ⟨ho, z, y, vs, r, o', es', ep', h1, h2, h3, h4, h5, h6⟩ := (show ObjOk X.prog X.w H s.heap a (.frz o (.dK kvs)) from I.hok a _ ha)
    rw [ho] at h1; cases h1
    rw [hd] at h3; cases h3
    obtain ⟨k, v, u, e1, e2, e3⟩ := kv_get r hi
    obtain ⟨e, f6, f7, f8⟩ := pairs_get h5 e2
    obtain ⟨f0, f1, f2, f3, f4, f5⟩ := hf it (by simp)
    refine next_raw st ho hd (e := e) (by simpa using f6) fun h' st' sb => ?_
    have I1 : Inv X pins σ H { s with heap := h' } := I.turned (t' := s.toks) (fun b o hb e => (sb.2 b hb).trans e) f0 f1 f3 f4 f5
    exact ⟨_, rfl, letGo_keyiter (s' := { s with heap := h' }) st' ⟨kV k, H, I1, key_rel f7, ⟨rfl, k, v, e1, rfl⟩, st', fun b hb => (hf b hb).1⟩⟩
  done := by
    intro X hP hw hK hc i pins s σ H E I hf st hg
    subst hP hw hK
    obtain ⟨ha, hi⟩ := hg
    obtain ⟨ho, hok⟩ := (show ObjOk X.prog X.w H s.heap a (.frz o (.dK kvs)) from I.hok a _ ha)
    obtain ⟨f0, f1, f2, f3, f4, f5⟩ := hf it (by simp)
    exact end_raw (I.ok.hd hc) st ho hd (by omega) fun h' eb => ⟨rfl, I.turned (t' := s.toks) (fun b o hb e => eb b o hb e) f0 f1 f3 f4 f5⟩
  self := fun _ _ _ _ _ st h => wpAny_pyIter_keyiter st h
def iKeysK (td : TE) : TI := fun σ H R => td σ H fun x H1 => ∃ a kvs, x = .ref a ∧ H1 a = some (.dK kvs) ∧ ∀ o, R (Itk a o kvs) (upd H1 a (.frz o (.dK kvs)))
section
variable {X : Cx} {tg : Expr}
theorem pi_keysK {l : Expr} {td : TE} (hl : PE X l td) : PI X tg l (iKeysK td) := by
  intro pins s σ H R I h
  refine thn (hl pins s σ H _ I h) fun v s1 ⟨x, H1, I1, r1, q1⟩ => ?_
  obtain ⟨a, kvs, rfl, hq, q⟩ := q1
  cases r1
  obtain ⟨z, y, vs, r, o, es, ep, h1, h2, h3, h4, h5, h6⟩ := (show ObjOk X.prog X.w H1 s1.heap a (.dK kvs) from I1.hok a _ hq)
  have hz : es.size = kvs.length := by rw [r.length, ← h5.length]; simp
  have new : ObjOk X.prog X.w (upd H1 a (.frz o (.dK kvs))) s1.heap a (.frz o (.dK kvs)) := ⟨h1, z, y, vs, r, o, es, ep, h1, h2, h3, h4, h5, h6⟩
  have I2 : Inv X pins σ (upd H1 a (.frz o (.dK kvs))) s1 := I1.freeze trivial hq h1 new
  refine iter_raw y h1 h2 h3 ?_
  refine ⟨s1.heap.objs.size, [s1.heap.objs.size], _, _, upd H1 a (.frz o (.dK kvs)), rfl, I2.kept (t' := s1.toks) fun b o e => Heap.get?_push_of_some _ e, turn_keysK a _ kvs h3 hz, ⟨_, Heap.get?_push_size _ rfl, rfl, rfl⟩, fun b hb => ?_, q o⟩
  have e : b = s1.heap.objs.size := by simpa using hb
  subst e
  exact I2.fpOk (Nat.le_refl _) (I2.hok.fresh (Nat.le_refl _))
end
def Iti (a : Addr) (o : Obj) (kvs : List (Key × V)) : It :=
  ⟨fun i H => H a = some (.frz o (.dK kvs)) ∧ i < kvs.length, fun i H x H' => ∃ k v q, kvs[i]? = some (k, v) ∧ x = .ref q ∧ H q = none ∧ H' = upd H q (.tup [kV k, v]), fun i H => H a = some (.frz o (.dK kvs)) ∧ kvs.length ≤ i⟩
theorem turn_itemsK {P : Program} {w : World} {K : PySem.W.Frag} {elts : List Expr} {x1 : Nat} {tpos : Pos} (a it : Addr) {o : Obj} {es : Array DictEntry} {ep : Nat} (kvs : List (Key × V)) (hd : o.data = .dict es ep) :
    Turn P w K (.Tuple elts x1 tpos) (Iti a o kvs) [it] it (fun i h => ∃ ok ov, IsItemIter h it a i kvs.length ep ok ov) where
  mem := by simp
  obj := fun i h st b hb => by
    have e : b = it := by simpa using hb
    subst e
    obtain ⟨ok, ov, e⟩ := st
    exact ⟨_, e, fun v z => by cases z⟩
  keep := fun i h h' st k => let ⟨ok, ov, e⟩ := st; ⟨ok, ov, k it (by simp) _ e⟩
  item := by
    intro X hP hw hK hc i pins s σ H E I hf st hg
    subst hP hw hK
    obtain ⟨ha, hi⟩ := hg
    obtain ⟨ok, ov, st⟩ := st
    obtain ⟨ho, z, y, vs, r, o', es', ep', h1, h2, h3, h4, h5, h6⟩ := (show ObjOk X.prog X.w H s.heap a (.frz o (.dK kvs)) from I.hok a _ ha)
    rw [ho] at h1; cases h1
    rw [hd] at h3; cases h3
    obtain ⟨k, v, u, e1, e2, e3⟩ := kv_get r hi
    obtain ⟨f0, f1, f2, f3, f4, f5⟩ := hf it (by simp)
    have hl := r.length
    refine wpAny_pyNext_items_item (knd := mixKind X.prog X.w) (kvs := vs) (by rw [← hl]; exact st) ⟨o, es, ho, h2, hd, h4, h5, h6⟩ e2 fun key h' kk st' ht hs kp => ?_
    refine ⟨_, rfl, ?_⟩
    refine wpAny_letOwnedTupleGo_items (s := { s with heap := h' }) st' fun h'' st'' sb => ?_
    have hq : H s.heap.objs.size = none := I.hok.fresh (Nat.le_refl _)
    have hne : s.heap.objs.size ≠ it := fun z => by
      have := Heap.lt_size (show s.heap.get? it = some _ from st)
      rw [z] at this
      exact Nat.lt_irrefl _ this
    have tup : Vals [kV k, v] [key, u] := .cons (key_rel kk) (.cons e3 .nil)
    have I1 : Inv X pins σ (upd H s.heap.objs.size (.tup [kV k, v])) { s with heap := s.heap.push { cls := .type "tuple", data := .seq #[key, u] } } :=
      I.laid (t' := s.toks) (fun b u e => Heap.get?_push_of_some _ e) (Nat.le_refl _) ⟨(show 2 ≤ sizeLine by rw [sizeLine_eq]; decide), [key, u], tup, ⟨_, Heap.get?_push_size _ rfl, rfl, 0, rfl⟩⟩
    have n0 : upd H s.heap.objs.size (.tup [kV k, v]) it = none := by rw [upd_ne (Ne.symm hne)]; exact f0
    have I2 : Inv X pins σ (upd H s.heap.objs.size (.tup [kV k, v])) { s with heap := h'' } := Inv.turned (s := { s with heap := s.heap.push { cls := .type "tuple", data := .seq #[key, u] } }) (h' := h'') (t' := s.toks) (it := it) I1 (fun b o hb e => by
      rcases Heap.get?_push_cases e with ⟨rfl, rfl⟩ | e
      · exact (sb.2 _ hb).trans ht
      · exact (sb.2 b hb).trans (kp b o hb e)) n0 f1 f3 f4 f5
    exact ⟨.ref s.heap.objs.size, _, I2, rfl, ⟨k, v, _, e1, rfl, hq, rfl⟩, ⟨key, u, by rw [hl]; exact st''⟩, fun b hb => by
      have e : b = it := by simpa using hb
      rw [e]; exact n0⟩
  done := by
    intro X hP hw hK hc i pins s σ H E I hf st hg
    subst hP hw hK
    obtain ⟨ha, hi⟩ := hg
    obtain ⟨ok, ov, st⟩ := st
    obtain ⟨ho, z, y, vs, r, o', es', ep', h1, h2, h3, h4, h5, h6⟩ := (show ObjOk X.prog X.w H s.heap a (.frz o (.dK kvs)) from I.hok a _ ha)
    rw [ho] at h1; cases h1
    rw [hd] at h3; cases h3
    have hl := r.length
    obtain ⟨f0, f1, f2, f3, f4, f5⟩ := hf it (by simp)
    exact wpAny_pyNext_items_end (knd := mixKind X.prog X.w) (kvs := vs) (I.ok.hd hc) (by rw [← hl]; exact st) ⟨o, es, ho, h2, hd, h4, h5, h6⟩ (List.getElem?_eq_none (by omega)) fun h' eb => ⟨rfl, I.turned (t' := s.toks) (fun b o hb e => eb b o hb e) f0 f1 f3 f4 f5⟩
  self := fun A i s Q E st h => by
    obtain ⟨ok, ov, st⟩ := st
    have T : s.TypeIs (.ref it) "dict_itemiterator" := ⟨_, st, rfl⟩
    refine wpAny_pyIter_slot T F.slot_dict_itemiterator_iter (wpAny_call_entry F.slot_dict_itemiterator_iter T entry_itemiter_iter ?_ (F.args_dict_itemiterator_iter_1 _))
    show wpAny _ _ (ret (.ref it)) _ _ s
    exact wpAny_pure ⟨_, rfl, "dict_itemiterator", _, T, F.slot_dict_itemiterator_next.lookup, h⟩
def iItemsK (td : TE) : TI := fun σ H R => td σ H fun x H1 => ∃ a kvs, x = .ref a ∧ H1 a = some (.dK kvs) ∧ ∀ o, R (Iti a o kvs) (upd H1 a (.frz o (.dK kvs)))
section
variable {X : Cx}
theorem pi_itemsK {l : Expr} {td : TE} {elts : List Expr} {x1 : Nat} {tpos apos cpos : Pos} (hl : PE X l td) (hbase : attributeBase l "items" X.env (eval l X.env) = eval l X.env := by rfl) (hline : (apos.endLine == cpos.line) = true := by rfl) :
    PI X (.Tuple elts x1 tpos) (.Call (.Attribute l "items" apos) [] [] cpos) (iItemsK td) := by
  intro pins s σ H R I h
  refine wpAny_Call_method0_late hbase hline (thn (hl pins s σ H _ I h) fun v s1 ⟨x, H1, I1, r1, q1⟩ => ?_)
  obtain ⟨a, kvs, rfl, hq, q⟩ := q1
  cases r1
  obtain ⟨t1, t2, _⟩ := isD_at I1 (.inl ⟨kvs, .inl hq⟩)
  refine ⟨"dict", "dict.items", F.plainAttrs_dict, F.slot_dict_items, F.type_dict_items, t1, t2, Calls.callWith_builtin rfl (PySem.evalArgs_none ?_)⟩
  obtain ⟨z, y, vs, r, o, es, ep, h1, h2, h3, h4, h5, h6⟩ := (show ObjOk X.prog X.w H1 s1.heap a (.dK kvs) from I1.hok a _ hq)
  have hL := r.length
  refine call_meetsIn F.slot_dict_items t1 F.entry_dict_items (F.args_dict_items_1 _) (meets_dict_items (mixKind X.prog X.w) a y) ⟨⟨vs, o, es, ep, h1, h2, h3, h4, h5, h6⟩, ?_⟩
  have new : ObjOk X.prog X.w (upd H1 a (.frz o (.dK kvs))) s1.heap a (.frz o (.dK kvs)) := ⟨h1, z, y, vs, r, o, es, ep, h1, h2, h3, h4, h5, h6⟩
  have I2 : Inv X pins σ (upd H1 a (.frz o (.dK kvs))) s1 := I1.freeze trivial hq h1 new
  have I3 : Inv X pins σ (upd H1 a (.frz o (.dK kvs))) { s1 with heap := s1.heap.push { cls := .type "dict_items", data := .fields #[.ref a] } } := I2.kept (t' := s1.toks) fun b o e => Heap.get?_push_of_some _ e
  refine wpAny_pyIter_items (knd := mixKind X.prog X.w) (kvs := vs) (ep := ep) ⟨_, Heap.get?_push_size _ rfl, rfl, rfl⟩ ⟨o, es, Heap.get?_push_of_some _ h1, h2, h3, h4, h5, h6⟩ ?_
  refine ⟨_, [_], _, _, upd H1 a (.frz o (.dK kvs)), rfl, I3.kept (t' := s1.toks) fun b o e => Heap.get?_push_of_some _ e, turn_itemsK a _ kvs h3, ⟨.none, .none, by rw [hL]; exact Heap.get?_push_size _ rfl⟩, fun b hb => ?_, q o⟩
  obtain rfl := List.mem_singleton.mp hb
  exact I3.fpOk (Nat.le_refl _) (I3.hok.fresh (Nat.le_refl _))
end
end L2
namespace L2
open PySem PySem.W PyProof.Rows
section
variable {X : Cx} {pins : List (Addr × Obj)} {σ : St} {H : Hp} {s : Shared} {a : Addr} {o : Obj} {u : HO}
theorem Inv.thaw (I : Inv X pins σ H s) (h0 : ∀ o u, X.H₀ a ≠ some (.frz o u)) (e : H a = some (.frz o u)) : Inv X pins σ (upd H a u) s := by
  have nn : ∀ b, H b = none → b ≠ a := fun b n z => by rw [z, e] at n; cases n
  have no : ∀ b c, H b = some (.own c) → b ≠ a := fun b c n z => by rw [z, e] at n; cases n
  have nt : ∀ b xs, H b = some (.tup xs) → b ≠ a := fun b c n z => by rw [z, e] at n; cases n
  refine ⟨I.ok, I.os, I.bare, ⟨I.base.keep, I.base.slot, fun b ob q n hx => ?_, I.base.there, fun b xs q => ?_, fun b ob xs q => ?_, fun b ps q => ?_⟩, I.loc, I.cell, ?_, fun x c ec => ?_, fun p hp => ?_, fun b v q => ?_, I.len⟩
  · have z := I.base.free b ob q n hx
    rw [upd_ne (nn b z)]; exact z
  · have z := I.base.tups b xs q
    rw [upd_ne (nt b xs z)]; exact z
  · have z := I.base.frzs b ob xs q
    have hb : b ≠ a := fun y => h0 ob xs (by rw [← y]; exact q)
    rw [upd_ne hb]; exact z
  · obtain ⟨more, z⟩ := I.base.tbls b ps q
    refine ⟨more, ?_⟩
    rw [upd_ne (fun y => by rw [y, e] at z; cases z)]; exact z
  · rw [upd_ne (nn _ I.free)]; exact I.free
  · rw [upd_ne (nn _ (I.freeC x c ec))]; exact I.freeC x c ec
  · obtain ⟨p1, p2, p3⟩ := I.pin p hp
    exact ⟨p1, by rw [upd_ne (nn _ p2)]; exact p2, p3⟩
  · have so : ∀ b c, H b = some (.own c) → upd H a u b = some (.own c) := fun b c z => by rw [upd_ne (no b c z)]; exact z
    have st : ∀ b xs, H b = some (.tup xs) → upd H a u b = some (.tup xs) := fun b c z => by rw [upd_ne (nt b c z)]; exact z
    by_cases hb : b = a
    · subst hb
      rw [upd_same] at q; cases q
      obtain ⟨_, z⟩ := (show ObjOk X.prog X.w H s.heap b (.frz o u) from I.hok b _ e)
      exact z.stay (fun _ _ _ q => q) (fun c z => so c b z) st
    · rw [upd_ne hb] at q
      exact (I.hok b v q).stay (fun _ _ _ q => q) (fun c z => so c b z) st
theorem Inv.wasFree (I : Inv X pins σ H s) (h : ∀ o u, H a ≠ some (.frz o u)) : ∀ o u, X.H₀ a ≠ some (.frz o u) := fun o u z => h o u (I.base.frzs a o u z)
end
def Thawed (a : Addr) (R : Hp → Prop) : Hp → Prop := fun H => ∃ o u, H a = some (.frz o u) ∧ R (upd H a u)
def tThaw (te : TE) : TE := fun σ H Q => ∃ a, (∀ o u, H a ≠ some (.frz o u)) ∧ te σ H fun x => Thawed a (Q x)
def sThaw (ts : TS) : TS := fun D σ H => ∃ a, (∀ o u, H a ≠ some (.frz o u)) ∧ ts ⟨fun σ' => Thawed a (D.nx σ'), fun v => Thawed a (D.rt v), fun σ' => Thawed a (D.bk σ'), fun σ' => Thawed a (D.ct σ')⟩ σ H
section
variable {X : Cx}
theorem pe_thaw {e : Expr} {te : TE} (he : PE X e te) : PE X e (tThaw te) := by
  intro pins s σ H Q I h
  obtain ⟨a, h0, h⟩ := h
  refine thn (he pins s σ H _ I h) fun v s1 ⟨x, H1, I1, r1, o, u, e, q⟩ => ?_
  exact ⟨x, _, I1.thaw (I.wasFree h0) e, r1, q⟩
theorem ps_thaw {st : Stmt} {ts : TS} (he : PS X st ts) : PS X st (sThaw ts) := by
  intro pins s σ H D I h
  obtain ⟨a, h0, h⟩ := h
  refine thn (he pins s σ H _ I h) fun f s1 z => ?_
  cases f with
  | next => obtain ⟨σ1, H1, I1, o, u, e, q⟩ := z; exact ⟨σ1, _, I1.thaw (I.wasFree h0) e, q⟩
  | brk => obtain ⟨σ1, H1, I1, o, u, e, q⟩ := z; exact ⟨σ1, _, I1.thaw (I.wasFree h0) e, q⟩
  | cont => obtain ⟨σ1, H1, I1, o, u, e, q⟩ := z; exact ⟨σ1, _, I1.thaw (I.wasFree h0) e, q⟩
  | ret v => obtain ⟨x, σ1, H1, I1, r, o, u, e, q⟩ := z; exact ⟨x, σ1, _, I1.thaw (I.wasFree h0) e, r, q⟩
end
end L2
namespace L2
open PySem PySem.W PyProof.Rows
theorem any_getD : ∀ bs : List Bool, ((List.range bs.length).any fun i => bs.getD i false) = bs.any id
  | [] => rfl
  | b :: bs => by
    rw [List.length_cons, List.range_succ_eq_map, List.any_cons, List.any_map, List.any_cons, ← any_getD bs]
    rfl
theorem vals_intsT : ∀ {ns : List Int} {us : List Value}, Vals (ns.map V.int) us → ∃ xs : List (Int × Tok), us = xs.map (fun p => Value.int p.1 p.2) ∧ ns = xs.map (·.1)
  | [], _, .nil => ⟨[], rfl, rfl⟩
  | n :: ns, _, .cons r t => by
    obtain ⟨xs, rfl, rfl⟩ := vals_intsT t
    obtain ⟨tk, rfl⟩ := r
    exact ⟨(n, tk) :: xs, rfl, rfl⟩
section
variable {X : Cx}
def rAny (K : PySem.W.Frag) : List V → Hp → VK → Prop := fun xs H Q => ∃ (p : Addr) (bs : List Bool), xs = [.ref p] ∧ SqL K H p (bs.map V.bl) ∧ Q (.bl (bs.any id)) H
theorem call_anyB (hc : X.calm = true) : CallR X (.builtin "any") (rAny X.K) := by
  intro pins s σ H xs us Q I r h
  obtain ⟨p, bs, rfl, hq, q⟩ := h
  obtain ⟨u, rfl, rx⟩ := vals1 r
  cases rx
  obtain ⟨its, r', pl, hz⟩ := I.list hq
  have hl := pl.isList
  have hlt : p < s.heap.objs.size := by obtain ⟨_, e, _⟩ := hl; exact Heap.lt_size e
  have hlen : bs.length = its.length := by have := r'.length; rw [List.length_map] at this; exact this
  refine call_any_walk (wpAny_pyIter_list hl ?_)
  refine ⟨s.heap.objs.size, _, _, its.toArray.size, _, _, fun i => bs.getD i false, rfl, Walks.list (show X.A.in1.handled = none from I.ok.hd hc) s.heap.objs.size p (Nat.ne_of_lt hlt) its.toArray, ⟨⟨_, Heap.get?_push_size _ rfl, rfl, rfl⟩, hl.push _⟩, ?_, ?_⟩
  · intro i v s' Q' E' hi hQ
    have hi' : its[i]? = some v := by simpa using hi
    have hib : i < bs.length := by rw [hlen]; exact (List.getElem?_eq_some_iff.mp hi').1
    obtain ⟨u, hu, ru⟩ := r'.get (i := i) (x := V.bl bs[i]) (by rw [List.getElem?_map, List.getElem?_eq_getElem hib]; rfl)
    rw [hi'] at hu; cases hu
    have : v = Value.bool bs[i] := ru
    subst this
    refine wpAny_truthy_bool ?_
    have eb : bs.getD i false = bs[i] := by rw [List.getD_eq_getElem?_getD, List.getElem?_eq_getElem hib]; rfl
    have hQ' : Q' (bs.getD i false) s' := hQ
    rw [eb] at hQ'
    exact hQ'
  · intro h' tk hk
    have eany : (List.range its.toArray.size).any (fun i => bs.getD i false) = bs.any id := by
      rw [List.size_toArray, ← hlen]
      exact any_getD bs
    rw [eany]
    refine ⟨.bl (bs.any id), H, ?_, rfl, q⟩
    have I1 : Inv X pins σ H { s with heap := s.heap.push { cls := .type "list_iterator", data := .fields #[.ref p, .int 0 0] }, toks := s.toks } := I.kept fun b u e => Heap.get?_push_of_some _ e
    obtain ⟨f0, f1, f2, f3, f4, f5⟩ := I.fpOk (Nat.le_refl _) (I.hok.fresh (Nat.le_refl _))
    exact I1.turned (fun b o hb e => hk b o (by simpa using hb) e) f0 f1 f3 f4 f5
def rSum (K : PySem.W.Frag) : List V → Hp → VK → Prop := fun xs H Q => ∃ (p : Addr) (ns : List Int), xs = [.ref p] ∧ SqL K H p (ns.map V.int) ∧ Q (.int ns.sum) H
theorem call_sumI (hc : X.calm = true) : CallR X (.builtin "sum") (rSum X.K) := by
  intro pins s σ H xs us Q I r h
  obtain ⟨p, ns, rfl, hq, q⟩ := h
  obtain ⟨u, rfl, rx⟩ := vals1 r
  cases rx
  obtain ⟨its, r', pl, hz⟩ := I.list hq
  obtain ⟨zs, rfl, rfl⟩ := vals_intsT r'
  have hl : s.heap.IsList p (intItems zs.toArray) := by
    have := pl.isList
    simpa [intItems] using this
  refine sum_intListG (I.ok.hd hc) hl fun h' tk t' hk => ?_
  have e2 : preSum (numAt zs.toArray) zs.toArray.size = (zs.map (·.1)).sum := by
    rw [preSum_eq, List.take_of_length_le (by simp)]
  rw [e2]
  exact ⟨.int (zs.map (·.1)).sum, H, I.kept hk, ⟨t', rfl⟩, q⟩
end
section
variable {K : PySem.W.Frag} {H : Hp} {Q : VK}
theorem rd_any {p : Addr} {bs : List Bool} (e : SqL K H p (bs.map V.bl)) (h : Q (.bl (bs.any id)) H) : rAny K [.ref p] H Q := ⟨p, bs, rfl, e, h⟩
theorem rd_sum {p : Addr} {ns : List Int} (e : SqL K H p (ns.map V.int)) (h : Q (.int ns.sum) H) : rSum K [.ref p] H Q := ⟨p, ns, rfl, e, h⟩
end
theorem bt_any : bootBuiltins "any" = some (.builtin "any") := by decide +kernel
theorem bt_sum : bootBuiltins "sum" = some (.builtin "sum") := by decide +kernel
end L2
namespace L2
open PySem PySem.W PyProof.Rows
theorem lk_keys : typeLookup (.type "list") "keys" = pure none := by rw [typeLookup_type, builtinLookup_eq_fast]; kernel_rfl
theorem lk_hook : typeLookup (.type "list") "__getattr__" = pure none := by rw [typeLookup_type, builtinLookup_eq_fast]; kernel_rfl
theorem sub_ae : isSubtype (.type "AttributeError") (.type "AttributeError") = pure true := by rw [isSubtype_type]; kernel_rfl
theorem first_ae : ((Manifest.find? "AttributeError").elim false fun t => t.mro.contains "StopIteration" || t.mro.contains "SystemExit") = false := by decide +kernel
section
variable {prog : Program} {w : World} {A : Around} {E : Value → Shared → Prop} {s : Shared}
theorem attr_exc {α : Type} {v : Value} {a : Addr} {Q : α → Shared → Prop} (hh : A.handled = none)
    (k : ∀ e h' tk' o, h'.get? e = some o → o.cls = .type "AttributeError" → (∀ b o, s.heap.get? b = some o → h'.get? b = some o) → E (.ref e) { s with heap := h', toks := tk' }) :
    wpAny (model prog w) A (do
      let e ← newExc (.type "AttributeError") [v]
      let l ← mkText "keys"
      noteAttr e (.ref a) l
      raiseNew e) Q E s := by
  unfold newExc newTuple
  refine wpAny_bind (wpAny_bind (wpAny_newObj_type (wpAny_bind (m := firstArgMember _ _) (wpAny_of_eq (a := Value.none) (by simp only [firstArgMember, first_ae]; rfl) (wpAny_newObj_type ?_ (by size_fits)))) (by size_fits)))
  refine wpAny_bind (wpAny_mkText ?_)
  refine wpAny_bind ?_
  unfold noteAttr
  refine wpAny_bind ?_
  unfold lacksNameAndObj
  have e1 : (#[Value.ref s.heap.objs.size, .none, .none, .none, .bool false, .none] ++ ownMembersOf (.type "AttributeError") [v] : Array Value) = #[Value.ref s.heap.objs.size, .none, .none, .none, .bool false, .none, unsetMember, unsetMember] := rfl
  rw [e1]
  generalize hs : s.heap.push { cls := Value.type "tuple", data := Data.seq #[v] } = h1
  have ho : (h1.push { cls := .type "AttributeError", data := .fields #[Value.ref s.heap.objs.size, .none, .none, .none, .bool false, .none, unsetMember, unsetMember] }).get? h1.objs.size = some { cls := .type "AttributeError", data := .fields #[Value.ref s.heap.objs.size, .none, .none, .none, .bool false, .none, unsetMember, unsetMember] } := Heap.get?_push_size _ rfl
  refine wpAny_bind (wpAny_isInstance (b := true) (T := "AttributeError") ⟨_, ho, rfl⟩ sub_ae ?_)
  refine wpAny_bind (wpAny_load ho ?_)
  refine wpAny_pure ?_
  refine wpAny_bind (wpAny_rule ?_)
  refine wpAny_bind (wpAny_typeOf (T := "AttributeError") ⟨_, ho, rfl⟩ ?_)
  unfold layMembers
  refine wpAny_bind (wpAny_load ho ?_)
  refine wpAny_update ho ?_
  simp only [raiseNew]
  refine wpAny_bind (wpAny_handled ?_)
  rw [hh]
  refine wpAny_bind (wpAny_pure (wpAny_throw ?_))
  refine k h1.objs.size _ _ _ (Heap.get?_update_self _ ho (Obj.isFreed_of_fields (Obj.data_mapFields rfl _))) (Obj.cls_mapFields ..) fun b o e => ?_
  have hb : b ≠ h1.objs.size := fun z => by
    have h2 : h1.objs.size = s.heap.objs.size + 1 := by rw [← hs]; simp [Heap.push]
    have h3 := Heap.lt_size e
    rw [z, h2] at h3
    exact absurd h3 (Nat.not_lt.mpr (Nat.le_succ _))
  exact (Heap.get?_update_other _ _ (Ne.symm hb)).trans (Heap.get?_push_of_some _ (by rw [← hs]; exact Heap.get?_push_of_some _ e))
theorem keys_entry {a : Addr} {its : Array Value} {n : Nat} {tk : Tok} {Q : Fin → Shared → Prop} (hh : A.handled = none) (hx : s.heap.get? a = some { cls := .type "list", data := .seq its n })
    (k : ∀ e h' tk' o, h'.get? e = some o → o.cls = .type "AttributeError" → (∀ b o, s.heap.get? b = some o → h'.get? b = some o) → E (.ref e) { s with heap := h', toks := tk' }) :
    wpAny (model prog w) A (Builtin.«object.__getattribute__» ⟨[.ref a, .str "keys" tk], []⟩) Q E s := by
  obtain ⟨h, g, d, t, os⟩ := s
  have hT : (⟨h, g, d, t, os⟩ : Shared).TypeIs (.ref a) "list" := ⟨_, hx, rfl⟩
  have f4 := lk_keys
  repeat (any_goals (first | assumption | wp_step))
  refine wpAny_bind (wpAny_mkStr ?_ (by rw [sizeLine_eq]; decide +kernel))
  exact attr_exc hh fun e h' tk' o e1 e2 e3 => k e h' tk' o e1 e2 e3
theorem keys_call {a : Addr} {its : Array Value} {n : Nat} {tk : Tok} {R : Result → Shared → Prop} (hh : A.handled = none) (hx : s.heap.get? a = some { cls := .type "list", data := .seq its n })
    (k : ∀ e h' tk' o, h'.get? e = some o → o.cls = .type "AttributeError" → (∀ b o, s.heap.get? b = some o → h'.get? b = some o) → R (.error (.ref e)) { s with heap := h', toks := tk' }) :
    codeAny (model prog w) A (.call (.builtin "list.__getattribute__") ⟨[.ref a, .str "keys" tk], []⟩) R s := by
  obtain ⟨h, g, d, t, os⟩ := s
  exact codeAny_call_builtin F.slot_list_getattribute.plain F.entry_list_ga (F.slot_list_getattribute.check _ _ _ _ _ _ _ _ (show (⟨h, g, d, t, os⟩ : Shared).TypeIs (.ref a) "list" from ⟨_, hx, rfl⟩) (F.args_list_getattribute_2 _ _) (keys_entry hh hx k))
theorem no_keys {a : Addr} {its : Array Value} {n : Nat} {Q : Option Value → Shared → Prop} (hh : A.handled = none) (hx : s.heap.get? a = some { cls := .type "list", data := .seq its n })
    (k : ∀ h' tk', (∀ b o, s.heap.get? b = some o → h'.get? b = some o) → Q none { s with heap := h', toks := tk' }) : wpAny (model prog w) A (getAttr? (.ref a) "keys") Q E s := by
  obtain ⟨h, g, d, t, os⟩ := s
  have hT : (⟨h, g, d, t, os⟩ : Shared).TypeIs (.ref a) "list" := ⟨_, hx, rfl⟩
  have f2 := F.slot_list_getattribute.lookup
  have f3 := F.slot_list_getattribute.bind (.ref a)
  unfold getAttr? getAttrBy?
  repeat (any_goals (first | assumption | wp_step))
  refine keys_call hh hx fun e h' tk' o e1 e2 e3 => ?_
  have hE : (⟨h', g, d, tk', os⟩ : Shared).TypeIs (.ref e) "AttributeError" := ⟨_, e1, e2⟩
  show wpAny (model prog w) A (getattributeRaised (Value.ref a) (Value.str (Str.ofString "keys") t) (.type "list") (.ref e) none false false) _ _ (⟨h', g, d, tk', os⟩ : Shared)
  unfold getattributeRaised
  refine wpAny_bind (wpAny_isInstance (b := true) hE sub_ae ?_)
  show wpAny (model prog w) A (typeLookup (.type "list") "__getattr__" >>= fun x => hookOrError (Value.ref a) (Value.str (Str.ofString "keys") t) (.ref e) false false x) _ _ (⟨h', g, d, tk', os⟩ : Shared)
  rw [lk_hook]
  refine wpAny_bind (wpAny_pure ?_)
  refine wpAny_throw ?_
  refine wpAny_bind (wpAny_isInstance (b := true) hE sub_ae ?_)
  exact wpAny_pure (k h' tk' e3)
end
end L2
namespace L2
open PySem PySem.W PyProof.Rows
theorem entry_upd_loop : entryFor table "dict.update.loop" = some Builtin.«dict.update.loop» := entryFor_of_tree (by kernel_rfl)
theorem plain_upd_loop : plainId "dict.update.loop" = true := by decide +kernel
def putAll {κ : Type} [DecidableEq κ] (kvs ps : List (κ × Value)) : List (κ × Value) := ps.foldl (fun acc p => stored acc p.1 p.2) kvs
theorem stored_len {κ : Type} [DecidableEq κ] (kvs : List (κ × Value)) (k : κ) (v : Value) : (stored kvs k v).length ≤ kvs.length + 1 := by
  unfold stored
  split
  · rw [List.length_map]; exact Nat.le_succ _
  · rw [List.length_append]; exact Nat.le_refl _
section
variable {prog : Program} {w : World} {A : Around} {E : Value → Shared → Prop} {κ : Type} [DecidableEq κ] {knd : KeyKind prog w κ} {I d : Addr} {fp wr : List Addr} {n : Nat} {P : Nat → Value → Prop} {St : Nat → Heap → Prop} {R : Result → Shared → Prop}
def RowAt (knd : KeyKind prog w κ) (d : Addr) (wr : List Addr) (P : Nat → Value → Prop) (ps : List (κ × Value)) (h : Heap) : Prop :=
  ∀ i v, P i v → ∃ (q : Addr) (o : Obj) (key : Value) (k : κ) (u : Value) (c : Nat), v = .ref q ∧ q ∉ wr ∧ q ≠ d ∧ h.get? q = some o ∧ o.cls = .type "tuple" ∧ o.data = .seq #[key, u] c ∧ knd.is k key = true ∧ ps[i]? = some (k, u)
theorem upd_loop (W : Walks prog w A.in1 I fp wr n P St) (hdf : d ∉ fp) (ps : List (κ × Value)) (hn : ps.length = n) (hsz : n ≤ sizeLine) :
    ∀ (k i : Nat) (s : Shared) (kvs : List (κ × Value)), n - i = k → i ≤ n → St i s.heap → kvs.length ≤ i → s.heap.DictOf knd d kvs → RowAt knd d wr P ps s.heap →
    (∀ h' tk, h'.DictOf knd d (putAll kvs (ps.drop i)) → (∀ b o, b ∉ wr → b ≠ d → s.heap.get? b = some o → h'.get? b = some o) → R (.ok (.ret .none)) { s with heap := h', toks := tk }) →
    codeAny (model prog w) A (.builtin "dict.update.loop" ⟨[.ref d, .ref I, rawInt i, .none], []⟩) R s := by
  have hdw : d ∉ wr := fun h => hdf (W.sub _ h)
  intro k
  induction k with
  | zero =>
    intro i s kvs hk hi hst hl hd hrow hR
    have hin : i = n := by omega
    subst hin
    refine codeAny_builtin entry_upd_loop ?_
    rw [Around.under_plainId plain_upd_loop _]
    show wpAny _ A.in1 (pyNext (.ref I) >>= _) _ _ s
    refine wpAny_bind (W.done s _ _ hst fun h' tk hk' => ?_)
    show wpAny _ _ (Builtin.Dict.addKeywords d [] >>= _) _ _ _
    refine wpAny_bind (wpAny_pure (wpAny_pure (hR h' tk ?_ fun b o hb _ e => hk' b o hb e)))
    rw [List.drop_of_length_le (by omega)]
    exact hd.at fun o e => hk' d o hdw e
  | succ k ih =>
    intro i s kvs hk hi hst hl hd hrow hR
    have hlt : i < n := by omega
    refine codeAny_builtin entry_upd_loop ?_
    rw [Around.under_plainId plain_upd_loop _]
    show wpAny _ A.in1 (pyNext (.ref I) >>= _) _ _ s
    refine wpAny_bind (W.item i s _ _ hlt hst fun v h' tk hP hst' hk' => ?_)
    obtain ⟨q, o, key, kk, u, c, rfl, hqw, hqd, ho, hc, hdt, his, hps⟩ := hrow i v hP
    have ho' := hk' q o hqw ho
    refine wpAny_bind (wpAny_holding (wpAny_bind (wpAny_tryCatch ?_)))
    unfold Builtin.Dict.pairItems
    refine wpAny_bind (wpAny_typeOf (T := "tuple") ⟨o, ho', hc⟩ ?_)
    rw [if_pos (by rfl)]
    refine wpAny_bind (wpAny_seqItems ho' hdt (wpAny_pure ?_))
    have hd' : h'.DictOf knd d kvs := hd.at fun o e => hk' d o hdw e
    refine wpAny_holding (wpAny_dictSet_pairs his hd' (fun h2 hd2 sb => ?_) (by omega))
    have keep : ∀ b o, b ∉ wr → b ≠ d → s.heap.get? b = some o → h2.get? b = some o := fun b o hb hbd e => (sb.2 b hbd).trans (hk' b o hb e)
    refine wpAny_pure ⟨plainId_quiet plain_upd_loop _, ih (i + 1) _ (stored kvs kk u) (by omega) hlt (W.frame _ _ _ hst' fun b hb o e => (sb.2 b (fun z => hdf (z ▸ hb))).trans e) (Nat.le_trans (stored_len ..) (by omega)) hd2 (fun j v hj => ?_) fun h3 tk3 hd3 hk3 => ?_⟩
    · obtain ⟨q, o, key, kk, u, c, e1, e2, e3, e4, e5⟩ := hrow j v hj
      exact ⟨q, o, key, kk, u, c, e1, e2, e3, keep q o e2 e3 e4, e5⟩
    · refine hR h3 tk3 ?_ fun b o hb hbd e => hk3 b o hb hbd (keep b o hb hbd e)
      have ed : ps.drop i = (kk, u) :: ps.drop (i + 1) := by
        have hi2 : i < ps.length := by omega
        rw [List.drop_eq_getElem_cons hi2]
        have := (List.getElem?_eq_some_iff.mp hps).2
        rw [this]
      rw [ed]
      exact hd3
end
end L2
namespace L2
open PySem PySem.W PyProof.Rows
section
variable {prog : Program} {w : World} {A : Around} {E : Value → Shared → Prop} {κ : Type} [DecidableEq κ] {knd : KeyKind prog w κ} {s : Shared} {l : Addr} {its : Array Value} {c : Nat}
theorem dict_rows {ps : List (κ × Value)} {Q : Value → Shared → Prop} (hh : A.handled = none) (hl : s.heap.get? l = some { cls := .type "list", data := .seq its c }) (hsz : its.size ≤ sizeLine) (hlen : ps.length = its.size)
    (hrow : ∀ (i : Nat) (v : Value), its[i]? = some v → ∃ (q : Addr) (o : Obj) (key : Value) (k : κ) (u : Value) (c : Nat), v = .ref q ∧ s.heap.get? q = some o ∧ o.cls = .type "tuple" ∧ o.data = .seq #[key, u] c ∧ knd.is k key = true ∧ ps[i]? = some (k, u))
    (h : ∀ h' tk, h'.DictOf knd s.heap.objs.size (putAll [] ps) → (∀ b o, s.heap.get? b = some o → h'.get? b = some o) → Q (.ref s.heap.objs.size) { s with heap := h', toks := tk }) :
    wpAny (model prog w) A (call (.type "dict") [.ref l]) Q E s := by
  refine callType_codes (Q₁ := fun obj s₁ => obj = .ref s.heap.objs.size ∧ s₁ = { s with heap := s.heap.push { cls := .type "dict", data := .dict #[] } }) F.kt_called_dict (F.kt_typeCall_dict_1 _) F.entry_dict_init (kt_code_dict_new _ ⟨rfl, rfl⟩) ?_
  rintro obj s₁ ⟨rfl, rfl⟩
  have hnew : (s.heap.push { cls := .type "dict", data := .dict #[] }).DictOf knd s.heap.objs.size [] := Heap.DictOf.new s.heap
  have hl' : (s.heap.push { cls := .type "dict", data := .dict #[] }).get? l = some { cls := .type "list", data := .seq its c } := Heap.get?_push_of_some _ hl
  refine ⟨hnew.typeIs, F.args_dict_init_2 _ _, ?_⟩
  unfold Builtin.«dict.__init__»
  refine wpAny_bind ?_
  unfold Builtin.Dict.selfAndRest
  refine wpAny_bind (wpAny_notOrdered_dict hnew.typeIs ?_)
  show wpAny _ _ (pure (s.heap.objs.size, [Value.ref l])) _ _ _
  refine wpAny_pure ?_
  show wpAny _ _ (Builtin.Dict.updateFrom "dict.__init__" s.heap.objs.size (.ref l) [] .none) _ _ _
  unfold Builtin.Dict.updateFrom
  refine wpAny_bind (wpAny_typeOf (T := "list") ⟨_, hl', rfl⟩ ?_)
  rw [if_pos (by decide)]
  refine wpAny_bind (no_keys hh hl' fun h1 t1 kp1 => ?_)
  rw [if_pos (show (none : Option Value).isNone = true from rfl)]
  refine wpAny_bind (wpAny_rule ?_)
  have hl1 := kp1 _ _ hl'
  have isl : h1.IsList l its := ⟨_, hl1, rfl, _, rfl⟩
  have lt1 : ∀ b o, s.heap.get? b = some o → b ≠ h1.objs.size := fun b o e z => by
    have := Heap.lt_size (kp1 b o (Heap.get?_push_of_some _ e))
    rw [z] at this; exact Nat.lt_irrefl _ this
  have hdI : s.heap.objs.size ≠ h1.objs.size := fun z => by
    have := Heap.lt_size (kp1 _ _ (Heap.get?_push_size s.heap (o := { cls := .type "dict", data := .dict #[] }) rfl))
    rw [z] at this; exact Nat.lt_irrefl _ this
  have hdl : ∀ b o, s.heap.get? b = some o → b ≠ s.heap.objs.size := fun b o e z => by
    have := Heap.lt_size e
    rw [z] at this; exact Nat.lt_irrefl _ this
  refine wpAny_bind (wpAny_pyIter_list isl ?_)
  refine wpAny_pure ⟨plainId_quiet plain_upd_loop _, ?_⟩
  have W := Walks.list (prog := prog) (w := w) (A := A.in1.in1) hh h1.objs.size l (lt1 _ _ hl) its
  refine upd_loop (knd := knd) W (by simp only [List.mem_cons, List.not_mem_nil, or_false, not_or]; exact ⟨hdI, Ne.symm (hdl _ _ hl)⟩) ps hlen hsz its.size 0 _ [] (Nat.sub_zero _) (Nat.zero_le _) ⟨⟨_, Heap.get?_push_size _ rfl, rfl, rfl⟩, isl.push _⟩ (Nat.le_refl _) ((hnew.at fun o e => kp1 _ o e).push _) (fun i v hi => ?_) fun h' tk hd hk => ?_
  · obtain ⟨q, o, key, k, u, c', e1, e2, e3, e4, e5, e6⟩ := hrow i v hi
    refine ⟨q, o, key, k, u, c', e1, ?_, hdl _ _ e2, Heap.get?_push_of_some _ (kp1 _ _ (Heap.get?_push_of_some _ e2)), e3, e4, e5, e6⟩
    simp only [List.mem_cons, List.not_mem_nil, or_false]
    exact lt1 _ _ e2
  · refine ⟨rfl, h h' tk hd fun b o e => hk b o ?_ (hdl _ _ e) (Heap.get?_push_of_some _ (kp1 _ _ (Heap.get?_push_of_some _ e)))⟩
    simp only [List.mem_cons, List.not_mem_nil, or_false]
    exact lt1 _ _ e
end
end L2
namespace L2
open PySem PySem.W PyProof.Rows
abbrev PRows (H : Hp) : List V → List (Key × V) → Prop := Paired fun v p => ∃ q, v = .ref q ∧ H q = some (.tup [kV p.1, p.2])
section
variable {X : Cx} {pins : List (Addr × Obj)} {σ : St} {H : Hp} {s : Shared}
theorem pair_obj (I : Inv X pins σ H s) {q : Addr} {k : Key} {x : V} (e : H q = some (.tup [kV k, x])) : ∃ (o : Obj) (key u : Value) (n : Nat), s.heap.get? q = some o ∧ o.cls = .type "tuple" ∧ o.data = .seq #[key, u] n ∧ (mixKind X.prog X.w).is k key = true ∧ RelV x u := by
  obtain ⟨_, us, r, o, h1, h2, n, h3⟩ := (show ObjOk X.prog X.w H s.heap q (.tup [kV k, x]) from I.hok q _ e)
  match us, r with
  | [key, u], .cons r1 (.cons r2 .nil) => exact ⟨o, key, u, n, h1, h2, h3, kV_is r1, r2⟩
theorem prows_vals (I : Inv X pins σ H s) : ∀ {vs : List V} {ps : List (Key × V)} {us : List Value}, PRows H vs ps → Vals vs us →
    ∃ rs : List (Key × Value), KV ps rs ∧ rs.length = us.length ∧ ∀ (i : Nat) (v : Value), us[i]? = some v → ∃ (q : Addr) (o : Obj) (key : Value) (k : Key) (u : Value) (c : Nat), v = .ref q ∧ s.heap.get? q = some o ∧ o.cls = .type "tuple" ∧ o.data = .seq #[key, u] c ∧ (mixKind X.prog X.w).is k key = true ∧ rs[i]? = some (k, u)
  | _, _, _, .nil, .nil => ⟨[], .nil, rfl, fun i v z => by simp at z⟩
  | _ :: _, (k, x) :: _, _ :: us, .cons ⟨q, e, hq⟩ t, .cons r rt => by
    obtain ⟨rs, h1, h2, h3⟩ := prows_vals I t rt
    obtain ⟨o, key, u, n, o1, o2, o3, o4, o5⟩ := pair_obj I hq
    subst e
    cases r
    refine ⟨(k, u) :: rs, .cons ⟨rfl, o5⟩ h1, by simp [h2], fun i v z => ?_⟩
    cases i with
    | zero => cases z; exact ⟨q, o, key, k, u, n, rfl, o1, o2, o3, o4, rfl⟩
    | succ i =>
      obtain ⟨q, o, key, k, u, c, w1⟩ := h3 i v (by simpa using z)
      exact ⟨q, o, key, k, u, c, by simpa using w1⟩
def rDictL : List V → Hp → VK → Prop := fun xs H Q => ∃ p vs ps, xs = [.ref p] ∧ Rd H p (.lst vs) ∧ PRows H vs ps ∧ ∀ l, H l = none → Q (.ref l) (upd H l (.dK (mergeK [] ps)))
theorem call_dictL (hc : X.calm = true) : CallR X (.type "dict") rDictL := by
  intro pins s σ H xs us Q I r h
  obtain ⟨p, vs, ps, rfl, hq, pr, q⟩ := h
  obtain ⟨u, rfl, rx⟩ := vals1 r
  cases rx
  obtain ⟨z, its, n, rv, e⟩ := (show ObjOk X.prog X.w H s.heap p (.lst vs) from hq.ok I.hok)
  obtain ⟨rs, h1, h2, h3⟩ := prows_vals I pr rv
  have hl := rv.length
  have hlp := h1.length
  refine dict_rows (knd := mixKind X.prog X.w) (ps := rs) (I.ok.hd hc) e (by rw [List.size_toArray]; omega) (by rw [List.size_toArray]; exact h2) (fun i v hv => h3 i v (by simpa using hv)) fun h' tk hd kp => ?_
  have lm : (mergeK [] ps).length ≤ sizeLine := Nat.le_trans (length_mergeK ps []) (by simp; omega)
  have nm : (s.heap.objs.size == sysModules) = false := by
    have := I.big
    simp only [beq_eq_false_iff_ne]
    exact fun z => by rw [z] at this; exact Nat.lt_irrefl _ this
  exact ⟨.ref _, _, I.laid (t' := tk) kp (Nat.le_refl _) (dk_new lm nm (KV.merge h1 .nil) hd), rfl, q _ (I.hok.fresh (Nat.le_refl _))⟩
end
end L2
namespace L2
open PySem PySem.W PyProof.Rows
section
variable {prog : Program} {w : World} {A : Around} {E : Value → Shared → Prop} {s : Shared} {d it : Addr} {o : Obj} {es : Array DictEntry} {ep i : Nat} {k0 v0 : Value}
end
end L2
namespace L2
open PySem PySem.W PyProof.Rows
section
variable {prog : Program} {w : World} {A : Around} {E : Value → Shared → Prop} {s : Shared} {d it : Addr} {o : Obj} {es : Array DictEntry} {ep i : Nat}
end
section
variable {X : Cx}
end
end L2
namespace L2
open PySem PySem.W PyProof.Rows
section
variable (r : Nat → Int)
variable {r} {p : Array Nat}
end
end L2
namespace L2
open PySem PySem.W PyProof.Rows
section
variable {r : Nat → Int} {p : Array Nat}
end
end L2
namespace L2
open PySem PySem.W PyProof.Rows
section
variable {α : Type} {lt : α → α → Bool} {l : List α} {d : α}
end
end L2
namespace L2
open PySem PySem.W PyProof.Rows
section
variable {X : Cx}
end
end L2
namespace L2
open PySem PySem.W PyProof.Rows
section
variable {X : Cx} {pins : List (Addr × Obj)} {σ : St} {H : Hp} {s : Shared}
end
end L2
namespace L2
open PySem PySem.W PyProof.Rows
section
variable {X : Cx}
end
end L2
namespace L2
open PySem PySem.W PyProof.Rows
theorem Paired.snoc {α β : Type} {F : α → β → Prop} : ∀ {l : List α} {m : List β} {a : α} {b : β}, Paired F l m → F a b → Paired F (l ++ [a]) (m ++ [b])
  | _, _, _, _, .nil, h => .cons h .nil
  | _, _, _, _, .cons r t, h => .cons r (Paired.snoc t h)
theorem Paired.at2 {α β : Type} {F : α → β → Prop} : ∀ {l : List α} {m : List β} {i : Nat} {a : α} {b : β}, Paired F l m → l[i]? = some a → m[i]? = some b → F a b
  | _, _, 0, _, _, .cons r _, h1, h2 => by cases h1; cases h2; exact r
  | _, _, i + 1, _, _, .cons _ t, h1, h2 => Paired.at2 (i := i) t (by simpa using h1) (by simpa using h2)
  | _, _, _, _, _, .nil, h1, _ => by simp at h1
theorem comp_gen {α : Type} {J : It} {g : TG} {ti : TT} {te : TE} {σ0 : St} {fin : List V → Hp → Prop} {H : Hp} (xs : List α) (c : α → Bool) (P : α → V → Hp → Prop) (hm : ∀ x y H1 H2, P x y H1 → Same H1 H2 → P x y H2) (hn : xs.length ≤ sizeLine)
    (hgo : ∀ i H1, Same H H1 → i < xs.length → J.go i H1) (hst : ∀ H1, Same H H1 → J.stop xs.length H1)
    (hb : ∀ i x H1, xs[i]? = some x → Same H H1 → ∀ v H', J.yld i H1 v H' → Same H1 H' ∧ ∃ σ2 : St, σ2.length = σ0.length ∧ (∀ (j : Nat) v, σ0[j]? = some (some v) → σ2[j]? = some (some v)) ∧ (∀ R : St → Hp → Prop, R σ2 H' → g v σ0 H' R) ∧
      (∀ R : Bool → Hp → Prop, (∀ H2, Same H' H2 → R (c x) H2) → ti σ2 H' R) ∧ (c x = true → ∀ H2, Same H' H2 → ∀ R : VK, (∀ y H3, P x y H3 → Same H2 H3 → R y H3) → te σ2 H2 R))
    (hf : ∀ ys H1, Same H H1 → Paired (fun x y => P x y H1) (xs.filter c) ys → fin ys H1) : tCompW J g ti te σ0 fin H := by
  refine ⟨fun i m ys H1 => i + m = xs.length ∧ Same H H1 ∧ Paired (fun x y => P x y H1) ((xs.take i).filter c) ys, ⟨xs.length, by omega, Same.refl _, .nil⟩, ?_⟩
  rintro i m ys H1 ⟨e1, s1, pr⟩
  cases m with
  | zero =>
    have ei : i = xs.length := by omega
    subst ei
    rw [List.take_length] at pr
    exact .inl ⟨hst H1 s1, hf ys H1 s1 pr⟩
  | succ m =>
    have hi : i < xs.length := by omega
    refine .inr ⟨hgo i H1 s1 hi, fun v H' y => ?_⟩
    have ex : xs[i]? = some xs[i] := List.getElem?_eq_getElem hi
    have etake : xs.take (i + 1) = xs.take i ++ [xs[i]] := by rw [List.take_succ, ex]; rfl
    have hlen : ys.length ≤ i := by
      rw [← Paired.length pr]
      exact Nat.le_trans (List.length_filter_le _ _) (by rw [List.length_take]; omega)
    obtain ⟨s2, σ2, l2, c2, hg, ht, he⟩ := hb i xs[i] H1 ex s1 v H' y
    refine hg _ ⟨⟨l2, c2⟩, ht _ fun H2 s3 => ?_⟩
    cases hc : c xs[i] with
    | true =>
      show te σ2 H2 _
      refine he hc H2 s3 _ fun y H3 py s4 => ⟨by omega, m, by omega, by omega, ((s1.trans s2).trans s3).trans s4, ?_⟩
      rw [etake, List.filter_append, List.filter_cons_of_pos hc]
      exact Paired.snoc (Paired.imp' (fun a b h => hm a b _ _ h ((s2.trans s3).trans s4)) pr) py
    | false =>
      show ∃ m', _
      refine ⟨m, by omega, by omega, (s1.trans s2).trans s3, ?_⟩
      rw [etake, List.filter_append, List.filter_cons_of_neg (by rw [hc]; exact Bool.false_ne_true), List.filter_nil, List.append_nil]
      exact Paired.imp' (fun a b h => hm a b _ _ h (s2.trans s3)) pr
section
variable {K : PySem.W.Frag} {ti : TT} {te : TE} {σ : St} {ci : List Nat} {rest : St} {fin : List V → Hp → Prop} {H : Hp} {a : Addr}
theorem cap1 {n : Nat} (hr : ci.map (fun i => (σ[i]?).join) = rest) : capSt n ci σ = List.replicate n none ++ rest := by unfold capSt; rw [hr]
theorem comp_L2 {α : Type} {vs : List V} {xs : List α} (f1 f2 : α → V) (c : α → Bool) (P : α → V → Hp → Prop) (hm : ∀ x y H1 H2, P x y H1 → Same H1 H2 → P x y H2) (hn : xs.length ≤ sizeLine) (hr : ci.map (fun i => (σ[i]?).join) = rest) (hl : SqL K H a vs)
    (hv : Paired (fun v x => ∃ q, v = .ref q ∧ H q = some (.tup [f1 x, f2 x])) vs xs)
    (ht : ∀ x H1, x ∈ xs → Same H H1 → ∀ R : Bool → Hp → Prop, (∀ H2, Same H1 H2 → R (c x) H2) → ti (some (f1 x) :: some (f2 x) :: rest) H1 R)
    (he : ∀ x H1, x ∈ xs → c x = true → Same H H1 → ∀ R : VK, (∀ y H2, P x y H2 → Same H1 H2 → R y H2) → te (some (f1 x) :: some (f2 x) :: rest) H1 R)
    (hf : ∀ ys H1, Same H H1 → Paired (fun x y => P x y H1) (xs.filter c) ys → fin ys H1) : tCompW (Itl K a) (gTup K 2 (gCons (gName 0) (gCons (gName 1) gNil))) ti te (capSt 2 ci σ) fin H := by
  have e0 : capSt 2 ci σ = none :: none :: rest := cap1 hr
  rw [e0]
  have hlen : vs.length = xs.length := Paired.length hv
  refine comp_gen xs c P hm hn (fun i H1 s hi => ⟨vs, vs[i], s.seq hl, List.getElem?_eq_getElem (by omega)⟩) (fun H1 s => ⟨vs, s.seq hl, by omega⟩) (fun i x H1 hx s1 v H' y => ?_) hf
  obtain ⟨rfl, e2⟩ := y
  have ev := e2 vs (s1.seq hl)
  obtain ⟨q, rfl, hq⟩ : ∃ q, v = .ref q ∧ H q = some (.tup [f1 x, f2 x]) := Paired.at2 hv ev hx
  have hmem := List.mem_of_getElem? hx
  refine ⟨Same.refl _, some (f1 x) :: some (f2 x) :: rest, rfl, fun j v hv => ?_, fun R h => ⟨q, [f1 x, f2 x], rfl, .inl (.inl (s1 _ _ hq)), rfl, f1 x, [f2 x], rfl, f2 x, [], rfl, rfl, h⟩, fun R h => ht x _ hmem s1 R h, fun hc H2 s2 R h => he x H2 hmem hc (s1.trans s2) R h⟩
  match j, hv with
  | 0, hv => cases hv
  | 1, hv => cases hv
  | j + 2, hv => exact hv
end
end L2
namespace L2
open PySem PySem.W PyProof.Rows
section
variable {K : PySem.W.Frag} {ti : TT} {te : TE} {σ : St} {ci : List Nat} {rest : St} {fin : List V → Hp → Prop} {H : Hp} {a : Addr}
theorem same_upd {H : Hp} {q : Addr} {o : HO} (h : H q = none) : Same H (upd H q o) := fun b u e => by
  have : b ≠ q := fun z => by rw [z, h] at e; cases e
  rw [upd_ne this]; exact e
theorem comp_K {kvs : List (Key × V)} {o : Obj} (c : Key × V → Bool) (P : Key × V → V → Hp → Prop) (hm : ∀ x y H1 H2, P x y H1 → Same H1 H2 → P x y H2) (hn : kvs.length ≤ sizeLine) (hr : ci.map (fun i => (σ[i]?).join) = rest) (h0 : H a = some (.frz o (.dK kvs)))
    (ht : ∀ x H1, x ∈ kvs → Same H H1 → ∀ R : Bool → Hp → Prop, (∀ H2, Same H1 H2 → R (c x) H2) → ti (some (kV x.1) :: rest) H1 R)
    (he : ∀ x H1, x ∈ kvs → c x = true → Same H H1 → ∀ R : VK, (∀ y H2, P x y H2 → Same H1 H2 → R y H2) → te (some (kV x.1) :: rest) H1 R)
    (hf : ∀ ys H1, Same H H1 → Paired (fun x y => P x y H1) (kvs.filter c) ys → fin ys H1) : tCompW (Itk a o kvs) (gName 0) ti te (capSt 1 ci σ) fin H := by
  rw [capSt1 hr]
  refine comp_gen kvs c P hm hn (fun i H1 s hi => ⟨s _ _ h0, hi⟩) (fun H1 s => ⟨s _ _ h0, Nat.le_refl _⟩) (fun i x H1 hx s1 v H' y => ?_) hf
  obtain ⟨rfl, k, u, e2, rfl⟩ := y
  rw [hx] at e2; cases e2
  have hmem := List.mem_of_getElem? hx
  refine ⟨Same.refl _, some (kV k) :: rest, rfl, fun j v hv => ?_, fun R h => h, fun R h => ht _ _ hmem s1 R h, fun hc H2 s2 R h => he _ H2 hmem hc (s1.trans s2) R h⟩
  cases j with
  | zero => cases hv
  | succ j => exact hv
end
section
variable {σ : St} {H : Hp} {g : TG} {tb : TS} {nx bk ct : St → Hp → Prop} {rt : VK}
theorem rd_forKs {p : Addr} {o : Obj} (kvs : List (Key × V)) (Pv : Nat → St → Hp → Prop) (h0 : Pv 0 σ H) (hl : ∀ i σ H, Pv i σ H → H p = some (.frz o (.dK kvs)))
    (hs : ∀ i k v σ H, kvs[i]? = some (k, v) → Pv i σ H → g (kV k) σ H fun σ2 H2 => tb ⟨Pv (i + 1), rt, nx, Pv (i + 1)⟩ σ2 H2) (hd : ∀ σ H, Pv kvs.length σ H → nx σ H) : ForP (Itk p o kvs) g tb ⟨nx, rt, bk, ct⟩ σ H := by
  refine ⟨fun i m σ H => m = kvs.length - i ∧ i ≤ kvs.length ∧ Pv i σ H, ⟨kvs.length, by simp, Nat.zero_le _, h0⟩, ?_⟩
  rintro i m σ H ⟨rfl, hi, q⟩
  by_cases hlt : i < kvs.length
  · refine .inr ⟨⟨hl i σ H q, hlt⟩, Pv (i + 1), fun σ' H' p' => ⟨kvs.length - (i + 1), by omega, rfl, hlt, p'⟩, fun x H' y => ?_⟩
    obtain ⟨rfl, k, v, e, rfl⟩ := y
    exact hs i k v σ _ e q
  · have e : i = kvs.length := by omega
    subst e
    exact .inl ⟨⟨hl _ σ H q, Nat.le_refl _⟩, hd σ H q⟩
end
def KeysKP (R : It → Hp → Prop) : VK := fun x H1 => ∃ a kvs, x = .ref a ∧ H1 a = some (.dK kvs) ∧ ∀ o, R (Itk a o kvs) (upd H1 a (.frz o (.dK kvs)))
def ItemsKP (R : It → Hp → Prop) : VK := fun x H1 => ∃ a kvs, x = .ref a ∧ H1 a = some (.dK kvs) ∧ ∀ o, R (Iti a o kvs) (upd H1 a (.frz o (.dK kvs)))
def DInP (Q : VK) (y : V) : VK := fun x H2 => ∃ a o, x = .ref a ∧ DGet H2 a y o ∧ Q (.bl o.isSome) H2
def DNotInP (Q : VK) (y : V) : VK := fun x H2 => ∃ a o, x = .ref a ∧ DGet H2 a y o ∧ Q (.bl (!o.isSome)) H2
section
variable {K : PySem.W.Frag} {H : Hp} {Q : VK} {σ : St} {nx : St → Hp → Prop} {R : It → Hp → Prop} {td ty tx : TE}
theorem rd_iKeysK (h : td σ H (KeysKP R)) : iKeysK td σ H R := h
theorem rd_iItemsK (h : td σ H (ItemsKP R)) : iItemsK td σ H R := h
theorem rd_keysK {p : Addr} {kvs : List (Key × V)} (e : H p = some (.dK kvs)) (h : ∀ o H', SameBut p H H' → H' p = some (.frz o (.dK kvs)) → R (Itk p o kvs) H') : KeysKP R (.ref p) H := ⟨p, kvs, rfl, e, fun o => h o _ SameBut.upd upd_same⟩
theorem rd_itemsK {p : Addr} {kvs : List (Key × V)} (e : H p = some (.dK kvs)) (h : ∀ o H', SameBut p H H' → H' p = some (.frz o (.dK kvs)) → R (Iti p o kvs) H') : ItemsKP R (.ref p) H := ⟨p, kvs, rfl, e, fun o => h o _ SameBut.upd upd_same⟩
theorem rd_din (h : ty σ H fun y H1 => td σ H1 (DInP Q y)) : tDIn ty td σ H Q := h
theorem rd_dnotin (h : ty σ H fun y H1 => td σ H1 (DNotInP Q y)) : tDNotIn ty td σ H Q := h
theorem rd_dinS {p : Addr} {z : Str} {kvs : List (Key × V)} (e : Rd H p (.dK kvs)) (h : Q (.bl (valV kvs (.inr z)).isSome) H) : DInP Q (.str z) (.ref p) H := ⟨p, _, rfl, .inl ⟨kvs, .inr z, e, rfl, rfl⟩, h⟩
theorem rd_dnotinS {p : Addr} {z : Str} {kvs : List (Key × V)} (e : Rd H p (.dK kvs)) (h : Q (.bl (!(valV kvs (.inr z)).isSome)) H) : DNotInP Q (.str z) (.ref p) H := ⟨p, _, rfl, .inl ⟨kvs, .inr z, e, rfl, rfl⟩, h⟩
theorem rd_dputS {p : Addr} {v : V} {z : Str} {kvs : List (Key × V)} (e : H p = some (.dK kvs)) (hl : kvs.length < sizeLine) (h : ∀ H', SameBut p H H' → H' p = some (.dK (putK kvs (.inr z) v)) → nx σ H') : DPutP nx σ (.ref p) v (.str z) H :=
  ⟨p, _, rfl, DPut.k (k := .inr z) e hl, h _ SameBut.upd upd_same⟩
theorem rd_dgetS {p : Addr} {v : V} {z : Str} {kvs : List (Key × V)} (e : Rd H p (.dK kvs)) (hv : valV kvs (.inr z) = some v) (h : Q v H) : DGetP Q (.ref p) (.str z) H := ⟨p, v, rfl, .inl ⟨kvs, .inr z, e, rfl, hv.symm⟩, h⟩
theorem rd_dnewK (h : ∀ p H', H p = none → Same H H' → H' p = some (.dK []) → Q (.ref p) H') : tDNewK σ H Q := rd_new' h
theorem rd_dictL {p : Addr} {vs : List V} {ps : List (Key × V)} (e : H p = some (.lst vs)) (r : PRows H vs ps) (h : ∀ l H', H l = none → Same H H' → H' l = some (.dK (mergeK [] ps)) → Q (.ref l) H') : rDictL [.ref p] H Q := ⟨p, vs, ps, rfl, .inl e, r, rd_new' h⟩
theorem rd_tThaw {te : TE} {p : Addr} {u : HO} (e : H p = some u) (nf : ∀ o x, u ≠ .frz o x) (h : te σ H fun x => Thawed p (Q x)) : tThaw te σ H Q := ⟨p, fun o x z => nf o x (by rw [e] at z; exact Option.some.inj z), h⟩
theorem rd_sThaw {ts : TS} {bk ct : St → Hp → Prop} {rt : VK} {p : Addr} {u : HO} (e : H p = some u) (nf : ∀ o x, u ≠ .frz o x) (h : ts ⟨fun σ' => Thawed p (nx σ'), fun v => Thawed p (rt v), fun σ' => Thawed p (bk σ'), fun σ' => Thawed p (ct σ')⟩ σ H) : sThaw ts ⟨nx, rt, bk, ct⟩ σ H :=
  ⟨p, fun o x z => nf o x (by rw [e] at z; exact Option.some.inj z), h⟩
theorem rd_thawed {p : Addr} {o : Obj} {u : HO} {R : Hp → Prop} (e : H p = some (.frz o u)) (h : ∀ H', SameBut p H H' → H' p = some u → R H') : Thawed p R H := ⟨o, u, e, h _ SameBut.upd upd_same⟩
theorem thaw_same {H Hf H1 H2 : Hp} {p : Addr} {u : HO} (e : H p = some u) (a : SameBut p H Hf) (b : SameBut p Hf H1) (c : SameBut p H1 H2) (e2 : H2 p = some u) : Same H H2 := fun x o z => by
  by_cases hx : x = p
  · subst hx; rw [e] at z; cases z; exact e2
  · exact c x o (b x o (a x o z hx) hx) hx
end
section
variable {X : Cx} {K : PySem.W.Frag}
theorem pe_fldK {e : Expr} {ta : TE} {f : Str} {pos : Pos} (he : PE X e ta) (hb : attributeBase e f X.env (eval e X.env) = eval e X.env) (hK : X.K = K := by rfl) : PE X (.Attribute e f pos) (tFld K ta f) := by
  subst hK
  exact pe_fld he hb
end
end L2
namespace L2
open PySem PySem.W PyProof.Rows
section
variable {K : PySem.W.Frag} {ti : TT} {te : TE} {σ : St} {ci : List Nat} {rest : St} {fin : List V → Hp → Prop} {H : Hp} {a : Addr} {α : Type}
theorem comp_LA {vs : List V} {xs : List α} (F : V → α → Prop) (c : α → Bool) (P : α → V → Hp → Prop) (hm : ∀ x y H1 H2, P x y H1 → Same H1 H2 → P x y H2) (hn : xs.length ≤ sizeLine) (hr : ci.map (fun i => (σ[i]?).join) = rest) (hl : SqL K H a vs) (hv : Paired F vs xs)
    (ht : ∀ v x H1, F v x → x ∈ xs → Same H H1 → ∀ R : Bool → Hp → Prop, (∀ H2, Same H1 H2 → R (c x) H2) → ti (some v :: rest) H1 R)
    (he : ∀ v x H1, F v x → x ∈ xs → c x = true → Same H H1 → ∀ R : VK, (∀ y H2, P x y H2 → Same H1 H2 → R y H2) → te (some v :: rest) H1 R)
    (hf : ∀ ys H1, Same H H1 → Paired (fun x y => P x y H1) (xs.filter c) ys → fin ys H1) : tCompW (Itl K a) (gName 0) ti te (capSt 1 ci σ) fin H := by
  rw [capSt1 hr]
  have hlen : vs.length = xs.length := Paired.length hv
  refine comp_gen xs c P hm hn (fun i H1 s hi => ⟨vs, vs[i], s.seq hl, List.getElem?_eq_getElem (by omega)⟩) (fun H1 s => ⟨vs, s.seq hl, by omega⟩) (fun i x H1 hx s1 v H' y => ?_) hf
  obtain ⟨rfl, e2⟩ := y
  have ev := e2 vs (s1.seq hl)
  have hF := Paired.at2 hv ev hx
  have hmem := List.mem_of_getElem? hx
  refine ⟨Same.refl _, some v :: rest, rfl, fun j v hv => ?_, fun R h => h, fun R h => ht v x _ hF hmem s1 R h, fun hc H2 s2 R h => he v x H2 hF hmem hc (s1.trans s2) R h⟩
  cases j with
  | zero => cases hv
  | succ j => exact hv
theorem comp_IA {kvs : List (Key × V)} {o : Obj} {xs : List α} (F : Key × V → α → Prop) (c : α → Bool) (P : α → V → Hp → Prop) (hm : ∀ x y H1 H2, P x y H1 → Same H1 H2 → P x y H2) (hn : xs.length ≤ sizeLine) (hr : ci.map (fun i => (σ[i]?).join) = rest) (h0 : H a = some (.frz o (.dK kvs))) (hv : Paired F kvs xs)
    (ht : ∀ e x H1, F e x → x ∈ xs → Same H H1 → ∀ R : Bool → Hp → Prop, (∀ H2, Same H1 H2 → R (c x) H2) → ti (some (kV e.1) :: some e.2 :: rest) H1 R)
    (he : ∀ e x H1, F e x → x ∈ xs → c x = true → Same H H1 → ∀ R : VK, (∀ y H2, P x y H2 → Same H1 H2 → R y H2) → te (some (kV e.1) :: some e.2 :: rest) H1 R)
    (hf : ∀ ys H1, Same H H1 → Paired (fun x y => P x y H1) (xs.filter c) ys → fin ys H1) : tCompW (Iti a o kvs) (gTup K 2 (gCons (gName 0) (gCons (gName 1) gNil))) ti te (capSt 2 ci σ) fin H := by
  have e0 : capSt 2 ci σ = none :: none :: rest := cap1 hr
  rw [e0]
  have hlen : kvs.length = xs.length := Paired.length hv
  refine comp_gen xs c P hm hn (fun i H1 s hi => ⟨s _ _ h0, by omega⟩) (fun H1 s => ⟨s _ _ h0, by omega⟩) (fun i x H1 hx s1 v H' y => ?_) hf
  obtain ⟨k, u, q, e2, rfl, hq, rfl⟩ := y
  have hF := Paired.at2 hv e2 hx
  have hmem := List.mem_of_getElem? hx
  have sq : Same H1 (upd H1 q (.tup [kV k, u])) := same_upd hq
  refine ⟨sq, some (kV k) :: some u :: rest, rfl, fun j v hv => ?_, fun R h => ⟨q, [kV k, u], rfl, .inl (.inl upd_same), rfl, kV k, [u], rfl, u, [], rfl, rfl, h⟩, fun R h => ht _ x _ hF hmem (s1.trans sq) R h, fun hc H2 s2 R h => he _ x H2 hF hmem hc ((s1.trans sq).trans s2) R h⟩
  match j, hv with
  | 0, hv => cases hv
  | 1, hv => cases hv
  | j + 2, hv => exact hv
end
theorem paired_eq {α : Type} {f : α → V} : ∀ {l : List α} {ys : List V}, Paired (fun x y => y = f x) l ys → ys = l.map f
  | _, _, .nil => rfl
  | _, _, .cons h t => by rw [h, paired_eq t]; rfl
theorem filt_all {α : Type} (l : List α) : l.filter (fun _ => true) = l := by simp
end L2
namespace L2
open PySem PySem.W PyProof.Rows
theorem valV_at {κ : Type} [DecidableEq κ] : ∀ {kvs : List (κ × V)} {e : κ × V}, (kvs.map (·.1)).Nodup → e ∈ kvs → valV kvs e.1 = some e.2
  | a :: l, e, nd, h => by
    have nd' := List.pairwise_cons.mp nd
    rcases List.mem_cons.mp h with rfl | h
    · exact valV_pos rfl
    · rw [valV_neg (nd'.1 e.1 (List.mem_map.mpr ⟨e, h, rfl⟩))]
      exact valV_at nd'.2 h
end L2
namespace L2
open PySem PySem.W PyProof.Rows
theorem lk_dlen : typeLookup (.type "dict") "__len__" = pure (some (.builtin "dict.__len__")) := by rw [typeLookup_type, builtinLookup_eq_fast]; kernel_rfl
section
variable {prog : Program} {w : World} {A : Around} {E : Value → Shared → Prop} {s : Shared} {d : Addr} {κ : Type} [DecidableEq κ] {knd : KeyKind prog w κ} {ps : List (κ × Value)} {ep : Nat}
theorem hint_dict (T : s.TypeIs (.ref d) "dict") {Q : Bool → Shared → Prop} (h : Q false s) : wpAny (model prog w) A (Builtin.List.listLengthHint (.ref d)) Q E s := by
  unfold Builtin.List.listLengthHint; refine wpAny_bind (wpAny_specialOf T lk_dlen ?_)
  generalize q : ("dict.__len__" : String) = i0
  wp_delta
  rw [show splitId i0 = some ("dict", "__len__") from by subst q; decide +kernel]; subst q
  refine wpAny_bind (wpAny_isInstance (T := "dict") (b := true) T (by rw [isSubtype_type]; kernel_rfl) (wpAny_ite_split (fun z => absurd z (by decide)) (fun _ => wpAny_ite_split (fun _ => ?_) (fun z => absurd (by decide +kernel) z))))
  exact wpAny_bind (wpAny_typeOf T (wpAny_pure h))
theorem extend_dict {R : Result → Shared → Prop} (hh : A.handled = none) (hm : s.heap.DictAt knd d ps ep) (hd0 : (d == sysModules) = false) (S : Addr) (hSd : S ≠ d) (c0 : Nat) (hS : s.heap.get? S = some { cls := .type "list", data := .seq #[] c0 }) (hn : ps.length ≤ sizeLine)
    (k : ∀ h' tk acc c, (∀ b o, b ≠ S → s.heap.get? b = some o → h'.get? b = some o) → h'.get? S = some { cls := .type "list", dict := none, data := .seq acc c, slots := #[] } → ItemsOf (fun i v => ∃ k x, ps[i]? = some (k, x) ∧ knd.is k v = true) acc ps.length → R (.ok (.ret .none)) { s with heap := h', toks := tk }) :
    wpAny (model prog w) A.in1 (Builtin.List.listExtendWith (.ref S) (.ref d) .none) (fun fin s' => match fin with | .done f => R (.ok f) s' | .again c' => c'.quiet = true ∧ codeAny (model prog w) A c' R s') (fun e s' => R (.error e) s') s := by
  obtain ⟨o, es, ho, hc, hq, hk, hp, hnd⟩ := id hm
  have T : s.TypeIs (.ref d) "dict" := ⟨o, ho, hc.1⟩
  have lS : S < s.heap.objs.size := Heap.lt_size hS
  have ld : d < s.heap.objs.size := Heap.lt_size ho
  have hsz : es.size = ps.length := by rw [← hp.length]; simp
  have W := (Walks.dictKeys (prog := prog) (w := w) (knd := knd) (A := A.in1) hh s.heap.objs.size d (Nat.ne_of_lt ld) ps ep).toS
  have run : ∀ (h : Heap) (c1 tk : Nat), h.IsKeyIter s.heap.objs.size d 0 ps.length ep → (∀ b u, b ≠ S → s.heap.get? b = some u → h.get? b = some u) → h.get? S = some { cls := .type "list", data := .seq #[] c1 } →
      codeAny (model prog w) A (.builtin "list.extend.loop" ⟨[.ref S, .ref s.heap.objs.size, .none], []⟩) R { s with heap := h, toks := tk } := by
    intro h c1 tk hit kp hS1
    refine codeAny_extend_loopS W hn S (by simp only [List.mem_cons, List.not_mem_nil, or_false, not_or]; exact ⟨Nat.ne_of_lt lS, hSd⟩) .none ps.length 0 _ #[] c1 rfl (Nat.zero_le _) ⟨hit, o, es, kp d o (Ne.symm hSd) ho, hc, hq, hk, hp, hnd⟩ hS1 (ItemsOf.nil _) fun s' acc c' mv hS2 hacc => ?_
    rw [Moved.eq_with mv]
    refine k s'.heap s'.toks acc c' (fun b u hb e => mv.heap b u (fun z => ?_) (kp b u hb e)) hS2 hacc
    rcases List.mem_cons.mp z with z | z
    · exact hb z
    · have := Heap.lt_size e
      rw [List.mem_singleton.mp z] at this
      exact Nat.lt_irrefl _ this
  unfold Builtin.List.listExtendWith
  refine wpAny_bind (wpAny_typeOf (T := "dict") T ?_)
  simp only [show Builtin.List.listSameRef (.ref S) (.ref d) = false by simp [Builtin.List.listSameRef, hSd], show (Value.type "dict" == Value.type "list") = false by decide, show (Value.type "dict" == Value.type "tuple") = false by decide, Bool.or_false, Bool.false_eq_true, if_false]
  refine wpAny_bind (iter_raw hd0 ho hc hq ?_)
  have hS1 := Heap.get?_push_of_some { cls := .type "dict_keyiterator", data := .fields #[.ref d, .int 0 0, .int es.size 0, .int ep 0] } hS
  refine wpAny_bind (wpAny_holding (hint_dict ⟨o, Heap.get?_push_of_some _ ho, hc.1⟩ ?_))
  have hit : (s.heap.push { cls := .type "dict_keyiterator", data := .fields #[.ref d, .int 0 0, .int es.size 0, .int ep 0] }).IsKeyIter s.heap.objs.size d 0 ps.length ep := ⟨_, Heap.get?_push_size _ rfl, rfl, by rw [hsz]; rfl⟩
  refine wpAny_ite_split (fun z => ?_) (fun _ => wpAny_pure ⟨plainId_quiet F.plain_extend_loop _, run _ c0 _ hit (fun b u _ e => Heap.get?_push_of_some _ e) hS1⟩)
  refine wpAny_bind (wpAny_rule (wpAny_bind ?_))
  show wpAny _ A.in1 (updateSeq S (·.push .none) >>= fun _ => updateSeq S (·.pop)) _ _ _
  have u1 := Heap.get?_update_self (Obj.mapSeq (·.push Value.none)) hS1 rfl
  have u2 := Heap.get?_update_self (Obj.mapSeq (·.pop)) u1 rfl
  refine wpAny_bind (wpAny_updateSeq hS1 rfl (wpAny_updateSeq (hz := by seq_fits) u1 rfl (wpAny_pure ⟨plainId_quiet F.plain_extend_loop _, run _ _ _ ?_ (fun b u hb e => ?_) u2⟩)))
  · exact hit.at fun u e => (Heap.get?_update_other _ _ (Nat.ne_of_lt lS)).trans ((Heap.get?_update_other _ _ (Nat.ne_of_lt lS)).trans e)
  · exact (Heap.get?_update_other _ _ (Ne.symm hb)).trans ((Heap.get?_update_other _ _ (Ne.symm hb)).trans (Heap.get?_push_of_some _ e))
theorem list_dict {Q : Value → Shared → Prop} (hh : A.handled = none) (hm : s.heap.DictAt knd d ps ep) (hd0 : (d == sysModules) = false) (hn : ps.length ≤ sizeLine)
    (k : ∀ h' tk acc c, (∀ b o, s.heap.get? b = some o → h'.get? b = some o) → h'.get? s.heap.objs.size = some { cls := .type "list", dict := none, data := .seq acc c, slots := #[] } → ItemsOf (fun i v => ∃ k x, ps[i]? = some (k, x) ∧ knd.is k v = true) acc ps.length → Q (.ref s.heap.objs.size) { s with heap := h', toks := tk }) :
    wpAny (model prog w) A (call (.type "list") [.ref d]) Q E s := by
  refine callType_codes (Q₁ := fun x s1 => x = .ref s.heap.objs.size ∧ s1 = { s with heap := s.heap.push { cls := .type "list", data := .seq #[] } }) F.called_list (F.typeCall_list_1 _) F.entry_list_init (code_list_new _ ⟨rfl, rfl⟩) ?_
  rintro x s1 ⟨rfl, rfl⟩
  have hS : (s.heap.push { cls := .type "list", data := .seq #[] }).get? s.heap.objs.size = some { cls := .type "list", data := .seq #[] } := Heap.get?_push_size _ rfl
  have hm1 : (s.heap.push { cls := .type "list", data := .seq #[] }).DictAt knd d ps ep := hm.at' fun o e => Heap.get?_push_of_some _ e
  have hdS : s.heap.objs.size ≠ d := fun z => by
    obtain ⟨o, _, ho, _⟩ := hm
    have := Heap.lt_size ho
    rw [← z] at this; exact Nat.lt_irrefl _ this
  refine ⟨⟨_, hS, rfl⟩, F.args_list_init_2 _ _, ?_⟩
  show wpAny _ A.in1.in1 (Builtin.List.listItems (.ref s.heap.objs.size) >>= fun old => Builtin.List.listUpdate (.ref s.heap.objs.size) (fun _ => #[]) >>= fun _ => letGo old.toList.reverse >>= fun _ => Builtin.List.listExtendWith (.ref s.heap.objs.size) (.ref d) .none) _ _ _
  refine wpAny_bind ?_
  unfold Builtin.List.listItems
  refine wpAny_bind (wpAny_seqItems hS rfl (wpAny_pure ?_))
  show wpAny _ A.in1.in1 (updateSeq s.heap.objs.size (fun _ => #[]) >>= fun _ => letGo (#[] : Array Value).toList.reverse >>= fun _ => Builtin.List.listExtendWith (.ref s.heap.objs.size) (.ref d) .none) _ _ _
  have u1 := Heap.get?_update_self (Obj.mapSeq (fun _ => (#[] : Array Value))) hS rfl
  have kp : ∀ b o, b ≠ s.heap.objs.size → (s.heap.push { cls := .type "list", data := .seq #[] }).get? b = some o → ((s.heap.push { cls := .type "list", data := .seq #[] }).update s.heap.objs.size (Obj.mapSeq (fun _ => (#[] : Array Value)))).get? b = some o := fun b o hb e => (Heap.get?_update_other _ _ (Ne.symm hb)).trans e
  refine wpAny_bind (wpAny_updateSeq hS rfl (wpAny_bind (wpAny_letGo ?_)))
  refine extend_dict (A := A.in1) hh (hm1.at' fun o e => kp d o (Ne.symm hdS) e) hd0 _ hdS _ u1 hn fun h' tk acc c kk hS' hacc => ?_
  exact ⟨rfl, k h' tk acc c (fun b o e => kk b o (Nat.ne_of_lt (Heap.lt_size e)) (kp b o (Nat.ne_of_lt (Heap.lt_size e)) (Heap.get?_push_of_some _ e))) hS' hacc⟩
end
section
variable {X : Cx}
def rListD : List V → Hp → VK → Prop := fun xs H Q => ∃ p kvs, xs = [.ref p] ∧ Rd H p (.dK kvs) ∧ ∀ l, H l = none → Q (.ref l) (upd H l (.lst (kvs.map fun e => kV e.1)))
theorem vals_of_items {P : Program} {w : World} {kvs : List (Key × V)} {rs : List (Key × Value)} (r : KV kvs rs) {acc : Array Value} (h : ItemsOf (fun i v => ∃ k x, rs[i]? = some (k, x) ∧ (mixKind P w).is k v = true) acc rs.length) : Vals (kvs.map fun e => kV e.1) acc.toList := by
  have e0 : acc.toList.length = rs.length := by rw [Array.length_toList]; exact h.1
  refine vals_get (by rw [List.length_map, e0]; exact r.length) fun i x u h1 h2 => ?_
  obtain ⟨k, y, e1, e2⟩ := h.2 i u (by simpa using h2)
  rw [List.getElem?_map] at h1
  obtain ⟨e, he, rfl⟩ := Option.map_eq_some_iff.mp h1
  have hi : i < kvs.length := (List.getElem?_eq_some_iff.mp he).1
  obtain ⟨k', v', u', f1, f2, f3⟩ := kv_get r hi
  rw [he] at f1; cases f1
  rw [e1] at f2; cases f2
  exact key_rel e2
theorem call_listD (hc : X.calm = true) : CallR X (.type "list") rListD := by
  intro pins s σ H xs us Q I r h
  obtain ⟨p, kvs, rfl, hq, q⟩ := h
  obtain ⟨u, rfl, rx⟩ := vals1 r
  cases rx
  obtain ⟨z, y, rs, kv, o, es, ep, h1, h2, h3, h4, h5, h6⟩ := dk_rd I.hok hq
  have hl := kv.length
  refine list_dict (knd := mixKind X.prog X.w) (ps := rs) (ep := ep) (I.ok.hd hc) ⟨o, es, h1, h2, h3, h4, h5, h6⟩ y (by omega) fun h' tk acc c kp hS hacc => ?_
  exact ⟨.ref _, _, I.laid (t' := tk) kp (Nat.le_refl _) (show ObjOk X.prog X.w _ h' _ (.lst (kvs.map fun e => kV e.1)) from ⟨by rw [List.length_map]; exact z, acc.toList, c, vals_of_items kv hacc, by rw [Array.toArray_toList]; exact hS⟩), rfl, q _ (I.hok.fresh (Nat.le_refl _))⟩
end
end L2
namespace L2
open PySem PySem.W PyProof.Rows
section
variable {X : Cx}
end
end L2
namespace L2
open PySem PySem.W PyProof.Rows
section
variable {X : Cx} {pins : List (Addr × Obj)} {σ : St} {H : Hp} {s : Shared} {h' : Heap}
end
section
variable {X : Cx}
end
end L2
namespace L2
open PySem PySem.W PyProof.Rows
def AugP (σ : St) (tv : TE) (rd : V → V → Hp → VK → Prop) (nx : St → Hp → Prop) (x : V) : VK := fun y H2 => ∃ a v, x = .ref a ∧ DGet H2 a y (some v) ∧ tv σ H2 fun y2 H3 => rd v y2 H3 fun z H4 => ∃ H5, DPut H4 a y z H5 ∧ nx σ H5
def AugQ (σ : St) (p : Addr) (k : V) (nx : St → Hp → Prop) : VK := fun z H4 => ∃ H5, DPut H4 p k z H5 ∧ nx σ H5
section
variable {K : PySem.W.Frag} {H : Hp} {Q : VK} {σ : St} {nx : St → Hp → Prop} {td ty tv : TE} {rd : V → V → Hp → VK → Prop} {rt : VK} {bk ct : St → Hp → Prop} {R : It → Hp → Prop}
theorem rd_daug (h : td σ H fun x H1 => ty σ H1 (AugP σ tv rd nx x)) : sDAug td ty tv rd ⟨nx, rt, bk, ct⟩ σ H := h
theorem rd_daugS {p : Addr} {z : Str} {kvs : List (Key × V)} {v : V} (e : Rd H p (.dK kvs)) (hv : valV kvs (.inr z) = some v) (h : tv σ H fun y2 H3 => rd v y2 H3 (AugQ σ p (.str z) nx)) : AugP σ tv rd nx (.ref p) (.str z) H := ⟨p, v, rfl, .inl ⟨kvs, .inr z, e, rfl, hv.symm⟩, h⟩
theorem rd_augS {p : Addr} {z : Str} {kvs : List (Key × V)} {v : V} (e : H p = some (.dK kvs)) (hl : kvs.length < sizeLine) (h : ∀ H', SameBut p H H' → H' p = some (.dK (putK kvs (.inr z) v)) → nx σ H') : AugQ σ p (.str z) nx v H := ⟨_, DPut.k (k := .inr z) e hl, h _ SameBut.upd upd_same⟩
theorem rd_listD {p : Addr} {kvs : List (Key × V)} (e : Rd H p (.dK kvs)) (h : ∀ l H', H l = none → Same H H' → H' l = some (.lst (kvs.map fun e => kV e.1)) → Q (.ref l) H') : rListD [.ref p] H Q := ⟨p, kvs, rfl, e, rd_new' h⟩
end
def psum (ps : List (Str × Int)) (z : Str) : Int := ((ps.filter fun p => decide (p.1 = z)).map (·.2)).sum
theorem psum_snoc (ps : List (Str × Int)) (p : Str × Int) (z : Str) : psum (ps ++ [p]) z = psum ps z + if p.1 = z then p.2 else 0 := by
  unfold psum
  rw [List.filter_append, List.map_append, List.sum_append]
  congr 1
  by_cases h : p.1 = z
  · rw [if_pos h]; simp [h]
  · rw [if_neg h]; simp [h]
end L2
namespace L2
open PySem PySem.W PyProof.Rows
theorem comp_R {te : TE} {σ : St} {ci : List Nat} {rest : St} {fin : List V → Hp → Prop} {H : Hp} {lo : Int} {n : Nat} (P : Nat → V → Hp → Prop) (hm : ∀ x y H1 H2, P x y H1 → Same H1 H2 → P x y H2) (hn : n ≤ sizeLine) (hr : ci.map (fun i => (σ[i]?).join) = rest)
    (he : ∀ (i : Nat) H1, i < n → Same H H1 → ∀ R : VK, (∀ y H2, P i y H2 → Same H1 H2 → R y H2) → te (some (.int (lo + i)) :: rest) H1 R)
    (hf : ∀ ys H1, Same H H1 → Paired (fun x y => P x y H1) (List.range n) ys → fin ys H1) : tCompW (Itr lo n) (gName 0) tAll te (capSt 1 ci σ) fin H := by
  rw [capSt1 hr]
  refine comp_gen (List.range n) (fun _ => true) P hm (by rw [List.length_range]; exact hn) (fun i H1 s hi => by rw [List.length_range] at hi; exact hi) (fun H1 s => by rw [List.length_range]; exact Nat.le_refl _) (fun i x H1 hx s1 v H' y => ?_) (fun ys H1 s1 h => hf ys H1 s1 (by rw [filt_all] at h; exact h))
  obtain ⟨rfl, rfl⟩ := y
  obtain ⟨hi, e⟩ := List.getElem?_eq_some_iff.mp hx
  rw [List.length_range] at hi
  rw [List.getElem_range] at e
  subst e
  refine ⟨Same.refl _, some (.int (lo + (i : Nat))) :: rest, rfl, fun j v hv => ?_, fun R h => h, fun R h => h _ (Same.refl _), fun hc H2 s2 R h => he i H2 hi (s1.trans s2) R h⟩
  cases j with
  | zero => cases hv
  | succ j => exact hv
end L2
namespace L2
open PySem PySem.W PyProof.Rows PySem.Calls
section
variable {prog : Program} {w : World} {A : Around} {E : Value → Shared → Prop} {s : Shared} {d v : Addr} {o : Obj} {es : Array DictEntry} {ep : Nat}
end
section
variable {X : Cx}
theorem ix_listK {K : PySem.W.Frag} (h : X.K = K := by rfl) : IxR X (rIxL K) := by subst h; exact ix_list
end
section
variable {K : PySem.W.Frag} {H : Hp} {Q : VK} {σ : St} {td : TE}
end
end L2
namespace L2
open PySem PySem.W PyProof.Rows
section
variable {X : Cx}
end
section
variable {X : Cx} {P : Program} {w : World} {K : PySem.W.Frag} {mg : Str → Option Value} {base : Heap} {k' : Nat} {o e : Expr} {es : List Expr} {m : Str} {ta : TE} {t : TA} {apos pos : Pos}
theorem pe_mdK (k : Nat) {pl : Sem Bool} (hr : Room k' X.A) (ho : PE X o ta) (ha : PA X (e :: es) t) (hk : k ≤ k' := by decide) (hst : starEach (e :: es) X.env = (false, eval e X.env) :: starEach es X.env := by rfl) (hpl : (backTo pos (starEach es X.env)).any (·.1) = false := by rfl)
    (ht : eval (.Call (.Attribute o m apos) (e :: es) [] pos) X.env = (do let ov ← eval o X.env; standAt apos.atName; let (f, first) ← holding [ov] (getMethod ov m pl); callWith pos f first (backTo pos (starEach (e :: es) X.env)) (backToKw pos (keywordEach [] X.env))) := by rfl)
    (h1 : X.prog = P := by rfl) (h2 : X.w = w := by rfl) (h3 : X.K = K := by rfl) (h4 : X.mg = mg := by rfl) (h5 : X.base = base := by rfl) : PE X (.Call (.Attribute o m apos) (e :: es) [] pos) (tMD (fun C sp => Mc P w K mg base C m k sp) m ta t) := by
  subst h1 h2 h3 h4 h5
  exact pe_md k hr ho ha hk hst hpl ht
theorem pe_md0K (k : Nat) {pl : Sem Bool} (hr : Room k' X.A) (ho : PE X o ta) (hk : k ≤ k' := by decide)
    (ht : eval (.Call (.Attribute o m apos) [] [] pos) X.env = (do let ov ← eval o X.env; standAt apos.atName; let (f, first) ← holding [ov] (getMethod ov m pl); callWith pos f first (backTo pos (starEach [] X.env)) (backToKw pos (keywordEach [] X.env))) := by rfl)
    (h1 : X.prog = P := by rfl) (h2 : X.w = w := by rfl) (h3 : X.K = K := by rfl) (h4 : X.mg = mg := by rfl) (h5 : X.base = base := by rfl) : PE X (.Call (.Attribute o m apos) [] [] pos) (tMD (fun C sp => Mc P w K mg base C m k sp) m ta tNil) := by
  subst h1 h2 h3 h4 h5
  exact pe_md0 k hr ho hk ht
end
theorem rd_v13 {v : V} {H : Hp} {Q : VK} {a0 a1 a2 a3 a4 a5 a6 a7 a8 a9 a10 a11 a12 : Option V} {l : St} (h : Q v H) : tVar 13 (a0 :: a1 :: a2 :: a3 :: a4 :: a5 :: a6 :: a7 :: a8 :: a9 :: a10 :: a11 :: a12 :: some v :: l) H Q := ⟨v, rfl, h⟩
theorem rd_s13 {v : V} {H : Hp} {q : St → Hp → Prop} {a0 a1 a2 a3 a4 a5 a6 a7 a8 a9 a10 a11 a12 a : Option V} {l : St} (h : q (a0 :: a1 :: a2 :: a3 :: a4 :: a5 :: a6 :: a7 :: a8 :: a9 :: a10 :: a11 :: a12 :: some v :: l) H) : gName 13 v (a0 :: a1 :: a2 :: a3 :: a4 :: a5 :: a6 :: a7 :: a8 :: a9 :: a10 :: a11 :: a12 :: a :: l) H q := h
end L2
namespace L2
open PySem PySem.W PyProof.Rows
theorem Room.units9 {k : Nat} {A : Around} (r : Room k A) : A.units + 9 < cLine := by have := r.un; have : cLine = 9900 := rfl; omega
section
variable {X : Cx} {pins : List (Addr × Obj)} {σ : St} {H : Hp} {s : Shared}
end
section
variable {X : Cx}
end
section
variable {K : PySem.W.Frag} {H H' : Hp} {Q : VK}
end
section
variable {H : Hp} {Q : VK} {σ : St} {ty tx : TE}
end
end L2
namespace L2
open PySem PySem.W PyProof.Rows
section
variable {H : Hp} {Q : VK}
theorem rd_dinT {p b : Addr} {kvs : List (List Key × V)} (k : List Key) (e : H p = some (.dT kvs)) (eb : H b = some (.tup (k.map kV))) (h : Q (.bl (valV kvs k).isSome) H) : DInP Q (.ref b) (.ref p) H := ⟨p, _, rfl, DGet.t e eb, h⟩
theorem rd_dnotinT {p b : Addr} {kvs : List (List Key × V)} (k : List Key) (e : H p = some (.dT kvs)) (eb : H b = some (.tup (k.map kV))) (h : Q (.bl (!(valV kvs k).isSome)) H) : DNotInP Q (.ref b) (.ref p) H := ⟨p, _, rfl, DGet.t e eb, h⟩
theorem rd_ipI {f : Int → Int → Int} {i j : Int} (h : Q (.int (f i j)) H) : ipI f (.int i) (.int j) H Q := ⟨i, j, rfl, rfl, h⟩
end
end L2
namespace L2
open PySem PySem.Spec PyProof.Rows
def SameT (H H' : Hp) : Prop := ∀ b u, H b = some u → (∀ ps, u ≠ .tbl ps) → H' b = some u
theorem SameT.refl (H : Hp) : SameT H H := fun _ _ e _ => e
theorem Same.t {H H' : Hp} (s : Same H H') : SameT H H' := fun b u e _ => s b u e
theorem SameT.trans {H H1 H2 : Hp} (s : SameT H H1) (t : SameT H1 H2) : SameT H H2 := fun b u e n => t b u (s b u e n) n
theorem SameT.snoc {H H1 H2 : Hp} (s : SameT H H1) (a : Same H1 H2) : SameT H H2 := fun b u e n => a b u (s b u e n)
theorem SameT.seq {K : PySem.W.Frag} {H H' : Hp} {a : Addr} {xs : List V} (T : SameT H H') (h : SqL K H a xs) : SqL K H' a xs := by
  rcases h with (h | ⟨o, h⟩) | h
  · exact .inl (.inl (T _ _ h fun ps z => by cases z))
  · exact .inl (.inr ⟨o, T _ _ h fun ps z => by cases z⟩)
  · exact .inr h
theorem SameT.tup {H H' : Hp} {a : Addr} {xs : List V} (T : SameT H H') (h : H a = some (.tup xs)) : H' a = some (.tup xs) := T _ _ h fun ps z => by cases z
theorem SameT.lst {H H' : Hp} {a : Addr} {xs : List V} (T : SameT H H') (h : H a = some (.lst xs)) : H' a = some (.lst xs) := T _ _ h fun ps z => by cases z
def TabS (H : Hp) (PL : Addr) (pos : Pos) (qual : Str) : Prop := H PL = some (.tbl #[]) ∨ ∃ (c' : Addr) (oc : Obj) (fv : Array Value) (t : Tok), H PL = some (.tbl #[rawInt pos.line, rawInt pos.col, .ref c']) ∧ H c' = some (kn oc) ∧ oc.data = .fields fv ∧ fv[1]? = some (.str qual t)
theorem TabS.same {H H' : Hp} {PL : Addr} {pos : Pos} {qual : Str} (x : TabS H PL pos qual) (s : Same H H') : TabS H' PL pos qual := by
  rcases x with h | ⟨c', oc, fv, t, h1, h2, h3⟩
  · exact .inl (s _ _ h)
  · exact .inr ⟨c', oc, fv, t, s _ _ h1, s _ _ h2, h3⟩
section
variable {X : Cx} {args : Arguments} {body : Expr} {lsc : Scope} {pos : Pos} {y : Str} {c cL PL : Addr}
def tLam2 (qual : Str) (args : Arguments) (body : Expr) (lsc : Scope) (y : Str) (c PL : Addr) (pos : Pos) : TE := fun _ H Q => TabS H PL pos qual ∧
  ∀ F fd H', H F = none → LamAt H' F fd qual args body lsc y c → SameT H H' → TabS H' PL pos qual → Q (.ref F) H'
theorem pe_lam2 (hcode : X.env.code = .ref cL) (C : PySem.W.CodeHd X.base cL PL) (B : X.base.BuiltinsAt X.mg PL) (hcl : closureFor lsc X.env = pure [(y, c)]) (hdef : defaultsOf args X.env = ([], []) := by rfl) :
    PE X (.Lambda args body lsc pos) (tLam2 (X.env.qual ++ "<lambda>") args body lsc y c PL pos) := by
  intro pins s σ H Q I h
  obtain ⟨hT, h⟩ := h
  refine PySem.W.kla_eval hdef ?_
  have hg : s.heap.Ns mainGlobals X.mg := I.mod.glob.keeps I.bk
  obtain ⟨bm, ob, b1, b2, b3, b4, b5, b6⟩ := B
  rcases hT with hP | ⟨c', oc, fv, t, hP, hc', hd, hv⟩
  · have gP : s.heap.get? PL = some (PySem.W.tabObj #[]) := I.hok PL _ hP
    have hgP : mainGlobals ≠ PL := fun q => by
      obtain ⟨o, es, ep, e, hd, _⟩ := hg
      rw [q, gP] at e; cases e; cases hd
    refine PySem.W.kla_makeFunction (mg := X.mg) (ps := #[]) hcl I.ok.glob hg hcode (C.keeps I.bk) gP trivial rfl hgP ⟨bm, ob, b1, b2, b3, b4, I.bk _ _ b5, b6⟩ fun c' ctv h' tk hx hge hlt hrec htb => ?_
    obtain ⟨c₂, oc, fv, t, e2, hoc, hd, hv⟩ := hrec
    cases e2
    have hps : (#[] ++ #[rawInt pos.line, rawInt pos.col, Value.ref c'] : Array Value) = #[rawInt pos.line, rawInt pos.col, Value.ref c'] := Array.empty_append
    rw [hps] at htb
    generalize hps2 : (#[rawInt pos.line, rawInt pos.col, Value.ref c'] : Array Value) = ps' at htb
    generalize hoF : PySem.W.kla_obj "<lambda>" (X.env.qual ++ "<lambda>") args body lsc [(y, c)] ((X.mg "__name__").getD .none) c' ctv = oF
    have pu : ∀ b o, h'.get? b = some o → (h'.push oF).get? b = some o := fun b o e => Heap.get?_push_of_some _ e
    have gF : (h'.push oF).get? h'.objs.size = some oF := Heap.get?_push_size _ (by subst hoF; rfl)
    have nPc : PL ≠ c' := Nat.ne_of_lt (Nat.lt_of_lt_of_le (Heap.lt_size gP) hge)
    have ncF : c' ≠ h'.objs.size := Nat.ne_of_lt hlt
    have nPF : PL ≠ h'.objs.size := Nat.ne_of_lt (Heap.lt_size htb)
    have ltc : ∀ b u, H b = some u → b ≠ c' := fun b u e => Nat.ne_of_lt (Nat.lt_of_lt_of_le (I.hok.lt e) hge)
    have ltF : ∀ b u, H b = some u → b ≠ h'.objs.size := fun b u e => Nat.ne_of_lt (Nat.lt_trans (Nat.lt_of_lt_of_le (I.hok.lt e) hge) hlt)
    have at0 : ∀ b, b ≠ PL → b ≠ c' → b ≠ h'.objs.size → upd (upd (upd H PL (.tbl ps')) c' (kn oc)) h'.objs.size (kn oF) b = H b := fun b n1 n2 n3 => by rw [upd_ne n3, upd_ne n2, upd_ne n1]
    have atP : upd (upd (upd H PL (.tbl ps')) c' (kn oc)) h'.objs.size (kn oF) PL = some (.tbl ps') := by rw [upd_ne nPF, upd_ne nPc, upd_same]
    have atc : upd (upd (upd H PL (.tbl ps')) c' (kn oc)) h'.objs.size (kn oF) c' = some (kn oc) := by rw [upd_ne ncF, upd_same]
    have atF : upd (upd (upd H PL (.tbl ps')) c' (kn oc)) h'.objs.size (kn oF) h'.objs.size = some (kn oF) := upd_same
    generalize upd (upd (upd H PL (.tbl ps')) c' (kn oc)) h'.objs.size (kn oF) = H3 at at0 atP atc atF
    have keepH : ∀ b u, H b = some u → (∀ ps, u ≠ .tbl ps) → H3 b = some u := fun b u e nt => by
      rw [at0 b (fun z => by rw [z, hP] at e; cases e; exact nt _ rfl) (ltc b u e) (ltF b u e)]; exact e
    have sz : ∀ b o, s.heap.get? b = some o → b ≠ c' ∧ b ≠ h'.objs.size := fun b o e =>
      ⟨Nat.ne_of_lt (Nat.lt_of_lt_of_le (Heap.lt_size e) hge), Nat.ne_of_lt (Nat.lt_trans (Nat.lt_of_lt_of_le (Heap.lt_size e) hge) hlt)⟩
    have nP : ∀ b, H b = none → b ≠ PL := fun b n z => by rw [z, hP] at n; cases n
    have I' : Inv X pins σ H3 { s with heap := h'.push oF, toks := tk } := by
      refine I.un ⟨fun b o e n _ _ => pu b o (hx b o (nP b n) e), fun b o e n _ _ => ⟨o.slots, pu b o (hx b o (nP b n) e)⟩, fun b o e n _ => ?_, fun b o e _ => ?_, fun b xs e => keepH b _ e (fun ps z => by cases z), fun b o u e => keepH b _ e (fun ps z => by cases z), fun b ps e => ?_⟩ fun b o e => ?_
      · rw [at0 b (nP b n) (sz b o e).1 (sz b o e).2]; exact n
      · by_cases hb : b = PL
        · subst hb; exact ⟨_, pu _ _ htb⟩
        · exact ⟨o, pu b o (hx b o hb e)⟩
      · by_cases hb : b = PL
        · subst hb
          rw [hP] at e
          cases e
          exact ⟨ps', by rw [atP, Array.empty_append]⟩
        · refine ⟨#[], ?_⟩
          rw [at0 b hb (ltc b _ e) (ltF b _ e), e, Array.append_empty]
      · by_cases hF : b = h'.objs.size
        · subst hF
          rw [atF] at e; cases e
          exact kn_ok gF
        by_cases hc' : b = c'
        · subst hc'
          rw [atc] at e; cases e
          exact kn_ok (pu _ _ hoc)
        by_cases hb : b = PL
        · subst hb
          rw [atP] at e; cases e
          exact pu _ _ htb
        rw [at0 b hb hc' hF] at e
        refine (I.hok b o e).stay (fun d u hd' q => pu d u (hx d u ?_ q)) (fun d q => keepH d _ q fun ps z => by cases z) fun d xs q => keepH d _ q fun ps z => by cases z
        rcases hd' with z | z
        · rw [z]; exact hb
        · intro z2; rw [z2, hP] at z; cases z
    refine ⟨.ref h'.objs.size, H3, I', rfl, h _ _ H3 ?_ ⟨c', _, ctv, oc, fv, t, rfl, by rw [hoF]; exact atF, atc, hd, hv⟩ keepH (.inr ⟨c', oc, fv, t, by rw [atP, hps2], atc, hd, hv⟩)⟩
    exact I.hok.fresh (Nat.le_trans hge (Nat.le_of_lt hlt))
  · have gP : s.heap.get? PL = some (PySem.W.tabObj #[rawInt pos.line, rawInt pos.col, .ref c']) := I.hok PL _ hP
    refine PySem.W.kla_makeFunctionHit (mg := X.mg) (ps := #[rawInt pos.line, rawInt pos.col, .ref c']) (cv := .ref c') hcl I.ok.glob hg hcode (C.keeps I.bk) gP (by simp [TriplesOk, rawInt]) (by simp [codeAmong, rawInt]) ⟨bm, ob, b1, b2, b3, b4, I.bk _ _ b5, b6⟩ fun ctv h' tk hx hge => ?_
    generalize hoF : PySem.W.kla_obj "<lambda>" (X.env.qual ++ "<lambda>") args body lsc [(y, c)] ((X.mg "__name__").getD .none) c' ctv = oF
    have hoF' := hoF
    unfold PySem.W.kla_obj at hoF'
    rw [hoF']
    have pu : ∀ b o, h'.get? b = some o → (h'.push oF).get? b = some o := fun b o e => Heap.get?_push_of_some _ e
    have gF : (h'.push oF).get? h'.objs.size = some oF := Heap.get?_push_size _ (by subst hoF; rfl)
    have ltF : ∀ b u, H b = some u → b ≠ h'.objs.size := fun b u e => Nat.ne_of_lt (Nat.lt_of_lt_of_le (I.hok.lt e) hge)
    have sF : Same H (upd H h'.objs.size (kn oF)) := fun b u e => by rw [upd_ne (ltF b u e)]; exact e
    have I' : Inv X pins σ (upd H h'.objs.size (kn oF)) { s with heap := h'.push oF, toks := tk } := by
      refine I.un ⟨fun b o e n _ _ => pu b o (hx b o e), fun b o e n _ _ => ⟨o.slots, pu b o (hx b o e)⟩, fun b o e n _ => ?_, fun b o e _ => ⟨o, pu b o (hx b o e)⟩, fun b xs e => sF _ _ e, fun b o u e => sF _ _ e, fun b ps e => ⟨#[], by rw [Array.append_empty]; exact sF _ _ e⟩⟩ fun b o e => ?_
      · rw [upd_ne (Nat.ne_of_lt (Nat.lt_of_lt_of_le (Heap.lt_size e) hge))]; exact n
      · by_cases hF : b = h'.objs.size
        · subst hF; rw [upd_same] at e; cases e; exact kn_ok gF
        · rw [upd_ne hF] at e
          exact (I.hok b o e).stay (fun d u hd' q => pu d u (hx d u q)) (fun d q => sF _ _ q) fun d xs q => sF _ _ q
    refine ⟨.ref h'.objs.size, _, I', rfl, h _ _ _ (I.hok.fresh hge) ⟨c', _, ctv, oc, fv, t, rfl, by rw [hoF]; exact upd_same, sF _ _ hc', hd, hv⟩ (Same.t sF) (.inr ⟨c', oc, fv, t, sF _ _ hP, sF _ _ hc', hd, hv⟩)⟩
end
theorem comp_genR {α : Type} {J : It} {g : TG} {ti : TT} {te : TE} {σ0 : St} {fin : List V → Hp → Prop} {H : Hp} (S : Hp → Hp → Prop) (sr : ∀ H, S H H) (st : ∀ H1 H2 H3, S H1 H2 → S H2 H3 → S H1 H3) (xs : List α) (c : α → Bool) (P : α → V → Hp → Prop) (hm : ∀ x y H1 H2, P x y H1 → S H1 H2 → P x y H2) (hn : xs.length ≤ sizeLine)
    (hgo : ∀ i H1, S H H1 → i < xs.length → J.go i H1) (hst : ∀ H1, S H H1 → J.stop xs.length H1)
    (hb : ∀ i x H1, xs[i]? = some x → S H H1 → ∀ v H', J.yld i H1 v H' → S H1 H' ∧ ∃ σ2 : St, σ2.length = σ0.length ∧ (∀ (j : Nat) v, σ0[j]? = some (some v) → σ2[j]? = some (some v)) ∧ (∀ R : St → Hp → Prop, R σ2 H' → g v σ0 H' R) ∧
      (∀ R : Bool → Hp → Prop, (∀ H2, S H' H2 → R (c x) H2) → ti σ2 H' R) ∧ (c x = true → ∀ H2, S H' H2 → ∀ R : VK, (∀ y H3, P x y H3 → S H2 H3 → R y H3) → te σ2 H2 R))
    (hf : ∀ ys H1, S H H1 → Paired (fun x y => P x y H1) (xs.filter c) ys → fin ys H1) : tCompW J g ti te σ0 fin H := by
  refine ⟨fun i m ys H1 => i + m = xs.length ∧ S H H1 ∧ Paired (fun x y => P x y H1) ((xs.take i).filter c) ys, ⟨xs.length, by omega, sr _, .nil⟩, ?_⟩
  rintro i m ys H1 ⟨e1, s1, pr⟩
  cases m with
  | zero =>
    have ei : i = xs.length := by omega
    subst ei
    rw [List.take_length] at pr
    exact .inl ⟨hst H1 s1, hf ys H1 s1 pr⟩
  | succ m =>
    have hi : i < xs.length := by omega
    refine .inr ⟨hgo i H1 s1 hi, fun v H' y => ?_⟩
    have ex : xs[i]? = some xs[i] := List.getElem?_eq_getElem hi
    have etake : xs.take (i + 1) = xs.take i ++ [xs[i]] := by rw [List.take_succ, ex]; rfl
    have hlen : ys.length ≤ i := by
      rw [← Paired.length pr]
      exact Nat.le_trans (List.length_filter_le _ _) (by rw [List.length_take]; omega)
    obtain ⟨s2, σ2, l2, c2, hg, ht, he⟩ := hb i xs[i] H1 ex s1 v H' y
    refine hg _ ⟨⟨l2, c2⟩, ht _ fun H2 s3 => ?_⟩
    have s13 := st _ _ _ s2 s3
    cases hc : c xs[i] with
    | true =>
      show te σ2 H2 _
      refine he hc H2 s3 _ fun y H3 py s4 => ⟨by omega, m, by omega, by omega, st _ _ _ s1 (st _ _ _ s13 s4), ?_⟩
      rw [etake, List.filter_append, List.filter_cons_of_pos hc]
      exact Paired.snoc (Paired.imp' (fun a b h => hm a b _ _ h (st _ _ _ s13 s4)) pr) py
    | false =>
      show ∃ m', _
      refine ⟨m, by omega, by omega, st _ _ _ s1 s13, ?_⟩
      rw [etake, List.filter_append, List.filter_cons_of_neg (by rw [hc]; exact Bool.false_ne_true), List.filter_nil, List.append_nil]
      exact Paired.imp' (fun a b h => hm a b _ _ h s13) pr
section
variable {K : PySem.W.Frag} {ti : TT} {te : TE} {σ : St} {ci : List Nat} {rest : St} {fin : List V → Hp → Prop} {H : Hp} {a : Addr} {α : Type}
theorem comp_LR {vs : List V} {xs : List α} (S : Hp → Hp → Prop) (sr : ∀ H, S H H) (st : ∀ H1 H2 H3, S H1 H2 → S H2 H3 → S H1 H3) (F : V → α → Prop) (P : α → V → Hp → Prop) (hm : ∀ x y H1 H2, P x y H1 → S H1 H2 → P x y H2) (hn : xs.length ≤ sizeLine) (hr : ci.map (fun i => (σ[i]?).join) = rest) (hl : ∀ H1, S H H1 → SqL K H1 a vs) (hv : Paired F vs xs)
    (ht : ∀ v x H1, F v x → x ∈ xs → S H H1 → ∀ R : Bool → Hp → Prop, (∀ H2, S H1 H2 → R true H2) → ti (some v :: rest) H1 R)
    (he : ∀ v x H1, F v x → x ∈ xs → S H H1 → ∀ R : VK, (∀ y H2, P x y H2 → S H1 H2 → R y H2) → te (some v :: rest) H1 R)
    (hf : ∀ ys H1, S H H1 → Paired (fun x y => P x y H1) xs ys → fin ys H1) : tCompW (Itl K a) (gName 0) ti te (capSt 1 ci σ) fin H := by
  rw [capSt1 hr]
  have hlen : vs.length = xs.length := Paired.length hv
  refine comp_genR S sr st xs (fun _ => true) P hm hn (fun i H1 s hi => ⟨vs, vs[i], hl _ s, List.getElem?_eq_getElem (by omega)⟩) (fun H1 s => ⟨vs, hl _ s, by omega⟩) (fun i x H1 hx s1 v H' y => ?_) (fun ys H1 s h => hf ys H1 s (by rw [filt_all] at h; exact h))
  obtain ⟨rfl, e2⟩ := y
  have ev := e2 vs (hl _ s1)
  have hF := Paired.at2 hv ev hx
  have hmem := List.mem_of_getElem? hx
  refine ⟨sr _, some v :: rest, rfl, fun j v hv => ?_, fun R h => h, fun R h => ht v x _ hF hmem s1 R h, fun hc H2 s2 R h => he v x H2 hF hmem (st _ _ _ s1 s2) R h⟩
  cases j with
  | zero => cases hv
  | succ j => exact hv
end
end L2
namespace L2
open PySem PySem.W PyProof.Rows
section
variable {X : Cx} {pins : List (Addr × Obj)} {σ : St} {H : Hp} {s : Shared}
end
open Classical in
section
variable {X : Cx} {K : PySem.W.Frag}
open Classical in
open Classical in
open Classical in
end
end L2
namespace L2
def allN {α : Type} : Nat → (List α → Prop) → Prop
  | 0, p => p []
  | n + 1, p => ∀ a, allN n (fun l => p (a :: l))
theorem of_allN {α : Type} : ∀ (n : Nat) (p : List α → Prop), allN n p → ∀ us : List α, us.length = n → p us
  | 0, _, h, [], _ => h
  | n + 1, _, h, a :: us, e => of_allN n _ (h a) us (by simpa using e)
  | 0, _, _, _ :: _, e => by simp at e
  | _ + 1, _, _, [], e => by simp at e
end L2
namespace Prf
open PySem L2
def top (i : Nat) : Stmt := PySem.Challenge.pw_firstout_k35_bounds_grow.main.body.getD i (.Pass ⟨0, 0, 0, 0⟩)
abbrev s__wall : Stmt := top 0
abbrev s_found_beyond : Stmt := top 2
theorem sc_found_beyond : FnScope ["house", "kept"] ["house", "kept"] (defScope s_found_beyond) := ⟨rfl, rfl, rfl, by decide +kernel, rfl, by decide +kernel, by decide +kernel⟩
abbrev s_let_in : Stmt := top 3
theorem sc_let_in : FnScope ["house", "kept", "room", "turn", "starts"] ["house", "kept", "room", "turn"] (defScope s_let_in) := ⟨rfl, rfl, rfl, by decide +kernel, rfl, by decide +kernel, by decide +kernel⟩
abbrev s_going_beyond : Stmt := top 4
theorem sc_going_beyond : FnScope ["house", "kept", "room", "turn"] ["house", "kept", "room", "turn"] (defScope s_going_beyond) := ⟨rfl, rfl, rfl, by decide +kernel, rfl, by decide +kernel, by decide +kernel⟩
abbrev s_let_out : Stmt := top 5
theorem sc_let_out : FnScope ["house", "kept", "turn", "doors", "exits"] ["house", "kept", "turn"] (defScope s_let_out) := ⟨rfl, rfl, rfl, by decide +kernel, rfl, by decide +kernel, by decide +kernel⟩
abbrev s_bound : Stmt := top 6
theorem sc_bound : FnScope ["house", "cut", "turn", "kept", "room", "at", "number"] ["house", "cut", "turn"] (defScope s_bound) := ⟨rfl, rfl, rfl, by decide +kernel, rfl, by decide +kernel, by decide +kernel⟩
abbrev s_is_whole : Stmt := top 16
theorem sc_is_whole : FnScope ["thing"] ["thing"] (defScope s_is_whole) := ⟨rfl, rfl, rfl, by decide +kernel, rfl, by decide +kernel, by decide +kernel⟩
abbrev s_is_name : Stmt := top 19
theorem sc_is_name : FnScope ["thing"] ["thing"] (defScope s_is_name) := ⟨rfl, rfl, rfl, by decide +kernel, rfl, by decide +kernel, by decide +kernel⟩
abbrev s_need_name : Stmt := top 20
theorem sc_need_name : FnScope ["part", "thing"] ["part", "thing"] (defScope s_need_name) := ⟨rfl, rfl, rfl, by decide +kernel, rfl, by decide +kernel, by decide +kernel⟩
abbrev s_need_whole : Stmt := top 21
theorem sc_need_whole : FnScope ["part", "thing", "least"] ["part", "thing", "least"] (defScope s_need_whole) := ⟨rfl, rfl, rfl, by decide +kernel, rfl, by decide +kernel, by decide +kernel⟩
abbrev s_Door___init__ : Stmt := inClass (top 22) 0
theorem sc_Door___init__ : FnScope ["self", "name", "start", "end", "wide"] ["self", "name", "start", "end", "wide"] (defScope s_Door___init__) := ⟨rfl, rfl, rfl, by decide +kernel, rfl, by decide +kernel, by decide +kernel⟩
abbrev s_Door_lets : Stmt := inClass (top 22) 1
theorem sc_Door_lets : FnScope ["self", "turn"] ["self", "turn"] (defScope s_Door_lets) := ⟨rfl, rfl, rfl, by decide +kernel, rfl, by decide +kernel, by decide +kernel⟩
abbrev s_Door_is_exit : Stmt := inClass (top 22) 2
theorem sc_Door_is_exit : FnScope ["self"] ["self"] (defScope s_Door_is_exit) := ⟨rfl, rfl, rfl, by decide +kernel, rfl, by decide +kernel, by decide +kernel⟩
abbrev s_Door_words : Stmt := inClass (top 22) 3
abbrev s_Since___init__ : Stmt := inClass (top 23) 0
theorem sc_Since___init__ : FnScope ["self", "name", "start", "end", "wide", "since"] ["self", "name", "start", "end", "wide", "since"] (defScope s_Since___init__) := ⟨rfl, rfl, rfl, by decide +kernel, rfl, by decide +kernel, by decide +kernel⟩
abbrev s_Since_lets : Stmt := inClass (top 23) 1
theorem sc_Since_lets : FnScope ["self", "turn"] ["self", "turn"] (defScope s_Since_lets) := ⟨rfl, rfl, rfl, by decide +kernel, rfl, by decide +kernel, by decide +kernel⟩
abbrev s_Since_words : Stmt := inClass (top 23) 2
abbrev s_Until___init__ : Stmt := inClass (top 24) 0
theorem sc_Until___init__ : FnScope ["self", "name", "start", "end", "wide", "until"] ["self", "name", "start", "end", "wide", "until"] (defScope s_Until___init__) := ⟨rfl, rfl, rfl, by decide +kernel, rfl, by decide +kernel, by decide +kernel⟩
abbrev s_Until_lets : Stmt := inClass (top 24) 1
theorem sc_Until_lets : FnScope ["self", "turn"] ["self", "turn"] (defScope s_Until_lets) := ⟨rfl, rfl, rfl, by decide +kernel, rfl, by decide +kernel, by decide +kernel⟩
abbrev s_Until_words : Stmt := inClass (top 24) 2
abbrev s_Beat___init__ : Stmt := inClass (top 25) 0
theorem sc_Beat___init__ : FnScope ["self", "name", "start", "end", "wide", "every", "since"] ["self", "name", "start", "end", "wide", "every", "since"] (defScope s_Beat___init__) := ⟨rfl, rfl, rfl, by decide +kernel, rfl, by decide +kernel, by decide +kernel⟩
abbrev s_Beat_lets : Stmt := inClass (top 25) 1
theorem sc_Beat_lets : FnScope ["self", "turn", "waited"] ["self", "turn"] (defScope s_Beat_lets) := ⟨rfl, rfl, rfl, by decide +kernel, rfl, by decide +kernel, by decide +kernel⟩
abbrev s_Beat_words : Stmt := inClass (top 25) 2
abbrev s_Marked___init__ : Stmt := inClass (top 26) 0
theorem sc_Marked___init__ : FnScope ["self", "name", "start", "end", "wide", "bits"] ["self", "name", "start", "end", "wide", "bits"] (defScope s_Marked___init__) := ⟨rfl, rfl, rfl, by decide +kernel, rfl, by decide +kernel, by decide +kernel⟩
abbrev s_Marked_lets : Stmt := inClass (top 26) 1
theorem sc_Marked_lets : FnScope ["self", "turn"] ["self", "turn"] (defScope s_Marked_lets) := ⟨rfl, rfl, rfl, by decide +kernel, rfl, by decide +kernel, by decide +kernel⟩
abbrev s_Marked_words : Stmt := inClass (top 26) 2
abbrev s_Told___init__ : Stmt := inClass (top 27) 0
theorem sc_Told___init__ : FnScope ["self", "name", "start", "end", "letting"] ["self", "name", "start", "end", "letting"] (defScope s_Told___init__) := ⟨rfl, rfl, rfl, by decide +kernel, rfl, by decide +kernel, by decide +kernel⟩
abbrev s_Told_lets : Stmt := inClass (top 27) 1
theorem sc_Told_lets : FnScope ["self", "turn", "letting"] ["self", "turn"] (defScope s_Told_lets) := ⟨rfl, rfl, rfl, by decide +kernel, rfl, by decide +kernel, by decide +kernel⟩
abbrev s_Told_words : Stmt := inClass (top 27) 2
abbrev s_Wider___init__ : Stmt := inClass (top 28) 0
theorem sc_Wider___init__ : FnScope ["self", "door", "turn", "more"] ["self", "door", "turn", "more"] (defScope s_Wider___init__) := ⟨rfl, rfl, rfl, by decide +kernel, rfl, by decide +kernel, by decide +kernel⟩
abbrev s_Wider_lets : Stmt := inClass (top 28) 1
theorem sc_Wider_lets : FnScope ["self", "turn", "number"] ["self", "turn"] (defScope s_Wider_lets) := ⟨rfl, rfl, rfl, by decide +kernel, rfl, by decide +kernel, by decide +kernel⟩
abbrev s_Wider_words : Stmt := inClass (top 28) 2
abbrev s_need_turns : Stmt := top 30
theorem sc_need_turns : FnScope ["first", "last"] ["first", "last"] (defScope s_need_turns) := ⟨rfl, rfl, rfl, by decide +kernel, rfl, by decide +kernel, by decide +kernel⟩
abbrev s_need_each_once : Stmt := top 31
theorem sc_need_each_once : FnScope ["names", "seen", "name"] ["names"] (defScope s_need_each_once) := ⟨rfl, rfl, rfl, by decide +kernel, rfl, by decide +kernel, by decide +kernel⟩
abbrev s_rooms_spoken_of : Stmt := top 32
theorem sc_rooms_spoken_of : FnScope ["doors", "people", "names", "door"] ["doors", "people"] (defScope s_rooms_spoken_of) := ⟨rfl, rfl, rfl, by decide +kernel, rfl, by decide +kernel, by decide +kernel⟩
abbrev s_need_rooms : Stmt := top 33
theorem sc_need_rooms : FnScope ["names", "sizes", "name"] ["names", "sizes"] (defScope s_need_rooms) := ⟨rfl, rfl, rfl, by decide +kernel, rfl, by decide +kernel, by decide +kernel⟩
abbrev s_added_people : Stmt := top 34
theorem sc_added_people : FnScope ["sizes", "people", "inside", "room", "number"] ["sizes", "people"] (defScope s_added_people) := ⟨rfl, rfl, rfl, by decide +kernel, rfl, by decide +kernel, by decide +kernel⟩
abbrev s_need_space : Stmt := top 35
theorem sc_need_space : FnScope ["sizes", "people", "inside"] ["sizes", "people"] (defScope s_need_space) := ⟨rfl, rfl, rfl, by decide +kernel, rfl, by decide +kernel, by decide +kernel⟩
abbrev s_House___init__ : Stmt := inClass (top 36) 0
theorem sc_House___init__ : FnScope ["self", "rooms", "doors", "people", "last", "first", "sizes", "door"] ["self", "rooms", "doors", "people", "last", "first"] (defScope s_House___init__) := ⟨rfl, rfl, rfl, by decide +kernel, rfl, by decide +kernel, by decide +kernel⟩
abbrev s_House_rooms : Stmt := inClass (top 36) 1
theorem sc_House_rooms : FnScope ["self"] ["self"] (defScope s_House_rooms) := ⟨rfl, rfl, rfl, by decide +kernel, rfl, by decide +kernel, by decide +kernel⟩
abbrev s_House_doors : Stmt := inClass (top 36) 2
theorem sc_House_doors : FnScope ["self"] ["self"] (defScope s_House_doors) := ⟨rfl, rfl, rfl, by decide +kernel, rfl, by decide +kernel, by decide +kernel⟩
abbrev s_House_need_room : Stmt := inClass (top 36) 3
theorem sc_House_need_room : FnScope ["self", "room"] ["self", "room"] (defScope s_House_need_room) := ⟨rfl, rfl, rfl, by decide +kernel, rfl, by decide +kernel, by decide +kernel⟩
abbrev s_House_holds : Stmt := inClass (top 36) 4
theorem sc_House_holds : FnScope ["self", "room"] ["self", "room"] (defScope s_House_holds) := ⟨rfl, rfl, rfl, by decide +kernel, rfl, by decide +kernel, by decide +kernel⟩
abbrev s_House_found : Stmt := inClass (top 36) 5
theorem sc_House_found : FnScope ["self", "room"] ["self", "room"] (defScope s_House_found) := ⟨rfl, rfl, rfl, by decide +kernel, rfl, by decide +kernel, by decide +kernel⟩
abbrev s_House_into : Stmt := inClass (top 36) 6
theorem sc_House_into : FnScope ["self", "room"] ["self", "room"] (defScope s_House_into) := ⟨rfl, rfl, rfl, by decide +kernel, rfl, by decide +kernel, by decide +kernel⟩
abbrev s_House_from_room : Stmt := inClass (top 36) 7
abbrev s_House_door : Stmt := inClass (top 36) 8
theorem sc_House_door : FnScope ["self", "name"] ["self", "name"] (defScope s_House_door) := ⟨rfl, rfl, rfl, by decide +kernel, rfl, by decide +kernel, by decide +kernel⟩
abbrev s_House_lets : Stmt := inClass (top 36) 9
theorem sc_House_lets : FnScope ["self", "name", "turn", "door"] ["self", "name", "turn"] (defScope s_House_lets) := ⟨rfl, rfl, rfl, by decide +kernel, rfl, by decide +kernel, by decide +kernel⟩
abbrev s_House_total : Stmt := inClass (top 36) 10
abbrev s_House_pairs : Stmt := inClass (top 36) 11
abbrev s__law_cell_at : Stmt := top 38
theorem sc__law_cell_at : FnScope ["_law_script", "_law_k"] ["_law_script", "_law_k"] (defScope s__law_cell_at) := ⟨rfl, rfl, rfl, by decide +kernel, rfl, by decide +kernel, by decide +kernel⟩
abbrev s__law_mixed : Stmt := top 39
theorem sc__law_mixed : FnScope ["_law_cell", "_law_k", "_law_number"] ["_law_cell", "_law_k"] (defScope s__law_mixed) := ⟨rfl, rfl, rfl, by decide +kernel, rfl, by decide +kernel, by decide +kernel⟩
abbrev s__law_name : Stmt := top 40
theorem sc__law_name : FnScope ["_law_cell", "_law_k", "_law_number", "_law_word"] ["_law_cell", "_law_k"] (defScope s__law_name) := ⟨rfl, rfl, rfl, by decide +kernel, rfl, by decide +kernel, by decide +kernel⟩
abbrev s__law_rooms : Stmt := top 41
theorem sc__law_rooms : FnScope ["_law_cells", "_law_rooms_here", "_law_k", "_law_number", "_law_holds", "_law_found"] ["_law_cells"] (defScope s__law_rooms) := ⟨rfl, rfl, rfl, by decide +kernel, rfl, by decide +kernel, by decide +kernel⟩
abbrev s__law_spec : Stmt := top 42
theorem sc__law_spec : FnScope ["_law_cell", "_law_k", "_law_rooms_here", "_law_turns", "_law_number", "_law_wide", "_law_start", "_law_end", "_law_kind", "_law_first", "_law_more"] ["_law_cell", "_law_k", "_law_rooms_here", "_law_turns"] (defScope s__law_spec) := ⟨rfl, rfl, rfl, by decide +kernel, rfl, by decide +kernel, by decide +kernel⟩
abbrev s__law_lets : Stmt := top 43
theorem sc__law_lets : FnScope ["_law_spec_here", "_law_turn", "_law_kind", "_law_wide", "_law_first", "_law_more"] ["_law_spec_here", "_law_turn"] (defScope s__law_lets) := ⟨rfl, rfl, rfl, by decide +kernel, rfl, by decide +kernel, by decide +kernel⟩
abbrev s__law_door : Stmt := top 44
theorem sc__law_door : FnScope ["_law_spec_here", "_law_name_here", "_law_start", "_law_end", "_law_kind", "_law_wide", "_law_first", "_law_more"] ["_law_spec_here"] (defScope s__law_door) := ⟨rfl, rfl, rfl, by decide +kernel, rfl, by decide +kernel, by decide +kernel⟩
abbrev s__law_digits : Stmt := top 45
theorem sc__law_digits : FnScope ["_law_cell", "_law_bases", "_law_found", "_law_base"] ["_law_cell", "_law_bases"] (defScope s__law_digits) := ⟨rfl, rfl, rfl, by decide +kernel, rfl, by decide +kernel, by decide +kernel⟩
abbrev s__law_rooms_told : Stmt := top 46
theorem sc__law_rooms_told : FnScope ["_law_cells", "_law_numbers", "_law_rooms_here", "_law_k"] ["_law_cells"] (defScope s__law_rooms_told) := ⟨rfl, rfl, rfl, by decide +kernel, rfl, by decide +kernel, by decide +kernel⟩
abbrev s__law_spec_told : Stmt := top 47
theorem sc__law_spec_told : FnScope ["_law_cell", "_law_k", "_law_rooms_here", "_law_turns", "_law_many", "_law_kind", "_law_start", "_law_end", "_law_wide", "_law_first", "_law_more", "_law_into"] ["_law_cell", "_law_k", "_law_rooms_here", "_law_turns"] (defScope s__law_spec_told) := ⟨rfl, rfl, rfl, by decide +kernel, rfl, by decide +kernel, by decide +kernel⟩
abbrev s__law_drawn_told : Stmt := top 48
theorem sc__law_drawn_told : FnScope ["_law_script", "_law_cells", "_law_rooms_here", "_law_more", "_law_first", "_law_turns", "_law_specs"] ["_law_script"] (defScope s__law_drawn_told) := ⟨rfl, rfl, rfl, by decide +kernel, rfl, by decide +kernel, by decide +kernel⟩
abbrev s__law_drawn : Stmt := top 49
theorem sc__law_drawn : FnScope ["_law_script", "_law_cells", "_law_rooms_here", "_law_first", "_law_turns", "_law_specs"] ["_law_script"] (defScope s__law_drawn) := ⟨rfl, rfl, rfl, by decide +kernel, rfl, by decide +kernel, by decide +kernel⟩
abbrev s__law_house : Stmt := top 50
theorem sc__law_house : FnScope ["_law_rooms_here", "_law_specs", "_law_turns", "_law_people", "_law_doors"] ["_law_rooms_here", "_law_specs", "_law_turns"] (defScope s__law_house) := ⟨rfl, rfl, rfl, by decide +kernel, rfl, by decide +kernel, by decide +kernel⟩
abbrev s__law_cut : Stmt := top 51
theorem sc__law_cut : FnScope ["_law_cell", "_law_rooms_here", "_law_turns", "_law_cut_here", "_law_bits", "_law_turn", "_law_k", "_law_chosen"] ["_law_cell", "_law_rooms_here", "_law_turns"] (defScope s__law_cut) := ⟨rfl, rfl, rfl, by decide +kernel, rfl, by decide +kernel, by decide +kernel⟩
abbrev s__law_widened : Stmt := top 52
theorem sc__law_widened : FnScope ["_law_rooms_here", "_law_specs", "_law_turns", "_law_at", "_law_more", "_law_doors", "_law_people"] ["_law_rooms_here", "_law_specs", "_law_turns", "_law_at", "_law_more"] (defScope s__law_widened) := ⟨rfl, rfl, rfl, by decide +kernel, rfl, by decide +kernel, by decide +kernel⟩
abbrev s_law : Stmt := top 53
theorem sc_law : FnScope ["_law_script", "_law_rooms_here", "_law_specs", "_law_turns", "_law_house_here", "_law_cell", "_law_more", "_law_wider", "_law_cut_here", "_law_before", "_law_room", "_law_turn", "_law_found", "_law_great"] ["_law_script"] (defScope s_law) := ⟨rfl, rfl, rfl, by decide +kernel, rfl, by decide +kernel, by decide +kernel⟩
theorem ll_0 : ("" : Str).length = 0 := by rw [lit_len]; rfl
theorem ll_1 : ("name" : Str).length = 4 := by rw [lit_len]; rfl
theorem ll_2 : ("start" : Str).length = 5 := by rw [lit_len]; rfl
theorem ll_3 : ("wide" : Str).length = 4 := by rw [lit_len]; rfl
theorem ll_4 : ("since" : Str).length = 5 := by rw [lit_len]; rfl
theorem ll_5 : ("until" : Str).length = 5 := by rw [lit_len]; rfl
theorem ll_6 : ("every" : Str).length = 5 := by rw [lit_len]; rfl
theorem ll_7 : ("bits" : Str).length = 4 := by rw [lit_len]; rfl
theorem ll_8 : ("turn" : Str).length = 4 := by rw [lit_len]; rfl
theorem ll_9 : ("more" : Str).length = 4 := by rw [lit_len]; rfl
theorem ll_10 : ("the first turn is below 0" : Str).length = 25 := by rw [lit_len]; rfl
theorem ll_11 : ("the last turn is below the first one" : Str).length = 36 := by rw [lit_len]; rfl
theorem ll_12 : ("a row of people is below 0" : Str).length = 26 := by rw [lit_len]; rfl
theorem ll_13 : ("more are in a room than it holds" : Str).length = 32 := by rw [lit_len]; rfl
theorem ll_14 : (" is no name" : Str).length = 11 := by rw [lit_len]; rfl
theorem ll_15 : (" is no whole number from " : Str).length = 25 := by rw [lit_len]; rfl
theorem ll_16 : (" on" : Str).length = 3 := by rw [lit_len]; rfl
theorem ll_17 : ("end" : Str).length = 3 := by rw [lit_len]; rfl
theorem ll_18 : ("abcdefghijklmnopqrstuvwxyz" : Str).length = 26 := by rw [lit_len]; rfl
theorem ll_19 : ("a" : Str).length = 1 := by rw [lit_len]; rfl
theorem ll_20 : ("z" : Str).length = 1 := by rw [lit_len]; rfl
structure DCls (K : W.Frag) (C : Addr) : Prop where
  ic : ICls K C
  n_name : NoAttr K C "name"
  n_start : NoAttr K C "start"
  n_end : NoAttr K C "end"
  n_wide : NoAttr K C "wide"
  n_since : NoAttr K C "since"
  n_until : NoAttr K C "until"
  n_every : NoAttr K C "every"
  n_bits : NoAttr K C "bits"
  n_letting : NoAttr K C "letting"
  n_inner : NoAttr K C "inner"
  n_turn : NoAttr K C "turn"
  n_more : NoAttr K C "more"
  n_first : NoAttr K C "first"
  n_last : NoAttr K C "last"
  n_sizes : NoAttr K C "sizes"
  n_people : NoAttr K C "people"
  n_named_doors : NoAttr K C "named_doors"
set_option genInjectivity false in
set_option genSizeOfSpec false in
structure M (K : W.Frag) (mg : Str → Option Value) where
  a__wall : Addr
  d__wall : FuncData
  F__wall : FunV K "_wall" "_wall" s__wall a__wall d__wall
  b__wall : Binds K d__wall ["k"] []
  a_found_beyond : Addr
  d_found_beyond : FuncData
  F_found_beyond : FunV K "found_beyond" "found_beyond" s_found_beyond a_found_beyond d_found_beyond
  b_found_beyond : Binds K d_found_beyond ["house", "kept"] []
  a_let_in : Addr
  d_let_in : FuncData
  F_let_in : FunV K "let_in" "let_in" s_let_in a_let_in d_let_in
  b_let_in : Binds K d_let_in ["house", "kept", "room", "turn"] []
  a_going_beyond : Addr
  d_going_beyond : FuncData
  F_going_beyond : FunV K "going_beyond" "going_beyond" s_going_beyond a_going_beyond d_going_beyond
  b_going_beyond : Binds K d_going_beyond ["house", "kept", "room", "turn"] []
  a_let_out : Addr
  d_let_out : FuncData
  F_let_out : FunV K "let_out" "let_out" s_let_out a_let_out d_let_out
  b_let_out : Binds K d_let_out ["house", "kept", "turn"] []
  a_bound : Addr
  d_bound : FuncData
  F_bound : FunV K "bound" "bound" s_bound a_bound d_bound
  b_bound : Binds K d_bound ["house", "cut", "turn"] []
  a_is_whole : Addr
  d_is_whole : FuncData
  F_is_whole : FunV K "is_whole" "is_whole" s_is_whole a_is_whole d_is_whole
  b_is_whole : Binds K d_is_whole ["thing"] []
  a_is_name : Addr
  d_is_name : FuncData
  F_is_name : FunV K "is_name" "is_name" s_is_name a_is_name d_is_name
  b_is_name : Binds K d_is_name ["thing"] []
  a_need_name : Addr
  d_need_name : FuncData
  F_need_name : FunV K "need_name" "need_name" s_need_name a_need_name d_need_name
  b_need_name : Binds K d_need_name ["part", "thing"] []
  a_need_whole : Addr
  d_need_whole : FuncData
  F_need_whole : FunV K "need_whole" "need_whole" s_need_whole a_need_whole d_need_whole
  b_need_whole : Binds K d_need_whole ["part", "thing", "least"] []
  a_need_turns : Addr
  d_need_turns : FuncData
  F_need_turns : FunV K "need_turns" "need_turns" s_need_turns a_need_turns d_need_turns
  b_need_turns : Binds K d_need_turns ["first", "last"] []
  a_need_each_once : Addr
  d_need_each_once : FuncData
  F_need_each_once : FunV K "need_each_once" "need_each_once" s_need_each_once a_need_each_once d_need_each_once
  b_need_each_once : Binds K d_need_each_once ["names"] []
  a_rooms_spoken_of : Addr
  d_rooms_spoken_of : FuncData
  F_rooms_spoken_of : FunV K "rooms_spoken_of" "rooms_spoken_of" s_rooms_spoken_of a_rooms_spoken_of d_rooms_spoken_of
  b_rooms_spoken_of : Binds K d_rooms_spoken_of ["doors", "people"] []
  a_need_rooms : Addr
  d_need_rooms : FuncData
  F_need_rooms : FunV K "need_rooms" "need_rooms" s_need_rooms a_need_rooms d_need_rooms
  b_need_rooms : Binds K d_need_rooms ["names", "sizes"] []
  a_added_people : Addr
  d_added_people : FuncData
  F_added_people : FunV K "added_people" "added_people" s_added_people a_added_people d_added_people
  b_added_people : Binds K d_added_people ["sizes", "people"] []
  a_need_space : Addr
  d_need_space : FuncData
  F_need_space : FunV K "need_space" "need_space" s_need_space a_need_space d_need_space
  b_need_space : Binds K d_need_space ["sizes", "people"] []
  a__law_cell_at : Addr
  d__law_cell_at : FuncData
  F__law_cell_at : FunV K "_law_cell_at" "_law_cell_at" s__law_cell_at a__law_cell_at d__law_cell_at
  b__law_cell_at : Binds K d__law_cell_at ["_law_script", "_law_k"] []
  a__law_mixed : Addr
  d__law_mixed : FuncData
  F__law_mixed : FunV K "_law_mixed" "_law_mixed" s__law_mixed a__law_mixed d__law_mixed
  b__law_mixed : Binds K d__law_mixed ["_law_cell", "_law_k"] []
  a__law_name : Addr
  d__law_name : FuncData
  F__law_name : FunV K "_law_name" "_law_name" s__law_name a__law_name d__law_name
  b__law_name : Binds K d__law_name ["_law_cell", "_law_k"] []
  a__law_rooms : Addr
  d__law_rooms : FuncData
  F__law_rooms : FunV K "_law_rooms" "_law_rooms" s__law_rooms a__law_rooms d__law_rooms
  b__law_rooms : Binds K d__law_rooms ["_law_cells"] []
  a__law_spec : Addr
  d__law_spec : FuncData
  F__law_spec : FunV K "_law_spec" "_law_spec" s__law_spec a__law_spec d__law_spec
  b__law_spec : Binds K d__law_spec ["_law_cell", "_law_k", "_law_rooms_here", "_law_turns"] []
  a__law_lets : Addr
  d__law_lets : FuncData
  F__law_lets : FunV K "_law_lets" "_law_lets" s__law_lets a__law_lets d__law_lets
  b__law_lets : Binds K d__law_lets ["_law_spec_here", "_law_turn"] []
  a__law_door : Addr
  d__law_door : FuncData
  F__law_door : FunV K "_law_door" "_law_door" s__law_door a__law_door d__law_door
  b__law_door : Binds K d__law_door ["_law_spec_here"] []
  a__law_digits : Addr
  d__law_digits : FuncData
  F__law_digits : FunV K "_law_digits" "_law_digits" s__law_digits a__law_digits d__law_digits
  b__law_digits : Binds K d__law_digits ["_law_cell", "_law_bases"] []
  a__law_rooms_told : Addr
  d__law_rooms_told : FuncData
  F__law_rooms_told : FunV K "_law_rooms_told" "_law_rooms_told" s__law_rooms_told a__law_rooms_told d__law_rooms_told
  b__law_rooms_told : Binds K d__law_rooms_told ["_law_cells"] []
  a__law_spec_told : Addr
  d__law_spec_told : FuncData
  F__law_spec_told : FunV K "_law_spec_told" "_law_spec_told" s__law_spec_told a__law_spec_told d__law_spec_told
  b__law_spec_told : Binds K d__law_spec_told ["_law_cell", "_law_k", "_law_rooms_here", "_law_turns"] []
  a__law_drawn_told : Addr
  d__law_drawn_told : FuncData
  F__law_drawn_told : FunV K "_law_drawn_told" "_law_drawn_told" s__law_drawn_told a__law_drawn_told d__law_drawn_told
  b__law_drawn_told : Binds K d__law_drawn_told ["_law_script"] []
  a__law_drawn : Addr
  d__law_drawn : FuncData
  F__law_drawn : FunV K "_law_drawn" "_law_drawn" s__law_drawn a__law_drawn d__law_drawn
  b__law_drawn : Binds K d__law_drawn ["_law_script"] []
  a__law_house : Addr
  d__law_house : FuncData
  F__law_house : FunV K "_law_house" "_law_house" s__law_house a__law_house d__law_house
  b__law_house : Binds K d__law_house ["_law_rooms_here", "_law_specs", "_law_turns"] []
  a__law_cut : Addr
  d__law_cut : FuncData
  F__law_cut : FunV K "_law_cut" "_law_cut" s__law_cut a__law_cut d__law_cut
  b__law_cut : Binds K d__law_cut ["_law_cell", "_law_rooms_here", "_law_turns"] []
  a__law_widened : Addr
  d__law_widened : FuncData
  F__law_widened : FunV K "_law_widened" "_law_widened" s__law_widened a__law_widened d__law_widened
  b__law_widened : Binds K d__law_widened ["_law_rooms_here", "_law_specs", "_law_turns", "_law_at", "_law_more"] []
  a_law : Addr
  d_law : FuncData
  F_law : FunV K "law" "law" s_law a_law d_law
  b_law : Binds K d_law ["_law_script"] []
  a_Door___init__ : Addr
  d_Door___init__ : FuncData
  F_Door___init__ : FunV K "__init__" "Door.__init__" s_Door___init__ a_Door___init__ d_Door___init__
  b_Door___init__ : Binds K d_Door___init__ ["self", "name", "start", "end", "wide"] []
  a_Door_lets : Addr
  d_Door_lets : FuncData
  F_Door_lets : FunV K "lets" "Door.lets" s_Door_lets a_Door_lets d_Door_lets
  b_Door_lets : Binds K d_Door_lets ["self", "turn"] []
  a_Door_is_exit : Addr
  d_Door_is_exit : FuncData
  F_Door_is_exit : FunV K "is_exit" "Door.is_exit" s_Door_is_exit a_Door_is_exit d_Door_is_exit
  b_Door_is_exit : Binds K d_Door_is_exit ["self"] []
  a_Door_words : Addr
  d_Door_words : FuncData
  F_Door_words : FunV K "words" "Door.words" s_Door_words a_Door_words d_Door_words
  b_Door_words : Binds K d_Door_words ["self"] []
  a_Since___init__ : Addr
  d_Since___init__ : FuncData
  F_Since___init__ : FunV K "__init__" "Since.__init__" s_Since___init__ a_Since___init__ d_Since___init__
  b_Since___init__ : Binds K d_Since___init__ ["self", "name", "start", "end", "wide", "since"] []
  a_Since_lets : Addr
  d_Since_lets : FuncData
  F_Since_lets : FunV K "lets" "Since.lets" s_Since_lets a_Since_lets d_Since_lets
  b_Since_lets : Binds K d_Since_lets ["self", "turn"] []
  a_Since_words : Addr
  d_Since_words : FuncData
  F_Since_words : FunV K "words" "Since.words" s_Since_words a_Since_words d_Since_words
  b_Since_words : Binds K d_Since_words ["self"] []
  a_Until___init__ : Addr
  d_Until___init__ : FuncData
  F_Until___init__ : FunV K "__init__" "Until.__init__" s_Until___init__ a_Until___init__ d_Until___init__
  b_Until___init__ : Binds K d_Until___init__ ["self", "name", "start", "end", "wide", "until"] []
  a_Until_lets : Addr
  d_Until_lets : FuncData
  F_Until_lets : FunV K "lets" "Until.lets" s_Until_lets a_Until_lets d_Until_lets
  b_Until_lets : Binds K d_Until_lets ["self", "turn"] []
  a_Until_words : Addr
  d_Until_words : FuncData
  F_Until_words : FunV K "words" "Until.words" s_Until_words a_Until_words d_Until_words
  b_Until_words : Binds K d_Until_words ["self"] []
  a_Beat___init__ : Addr
  d_Beat___init__ : FuncData
  F_Beat___init__ : FunV K "__init__" "Beat.__init__" s_Beat___init__ a_Beat___init__ d_Beat___init__
  b_Beat___init__ : Binds K d_Beat___init__ ["self", "name", "start", "end", "wide", "every", "since"] []
  a_Beat_lets : Addr
  d_Beat_lets : FuncData
  F_Beat_lets : FunV K "lets" "Beat.lets" s_Beat_lets a_Beat_lets d_Beat_lets
  b_Beat_lets : Binds K d_Beat_lets ["self", "turn"] []
  a_Beat_words : Addr
  d_Beat_words : FuncData
  F_Beat_words : FunV K "words" "Beat.words" s_Beat_words a_Beat_words d_Beat_words
  b_Beat_words : Binds K d_Beat_words ["self"] []
  a_Marked___init__ : Addr
  d_Marked___init__ : FuncData
  F_Marked___init__ : FunV K "__init__" "Marked.__init__" s_Marked___init__ a_Marked___init__ d_Marked___init__
  b_Marked___init__ : Binds K d_Marked___init__ ["self", "name", "start", "end", "wide", "bits"] []
  a_Marked_lets : Addr
  d_Marked_lets : FuncData
  F_Marked_lets : FunV K "lets" "Marked.lets" s_Marked_lets a_Marked_lets d_Marked_lets
  b_Marked_lets : Binds K d_Marked_lets ["self", "turn"] []
  a_Marked_words : Addr
  d_Marked_words : FuncData
  F_Marked_words : FunV K "words" "Marked.words" s_Marked_words a_Marked_words d_Marked_words
  b_Marked_words : Binds K d_Marked_words ["self"] []
  a_Told___init__ : Addr
  d_Told___init__ : FuncData
  F_Told___init__ : FunV K "__init__" "Told.__init__" s_Told___init__ a_Told___init__ d_Told___init__
  b_Told___init__ : Binds K d_Told___init__ ["self", "name", "start", "end", "letting"] []
  a_Told_lets : Addr
  d_Told_lets : FuncData
  F_Told_lets : FunV K "lets" "Told.lets" s_Told_lets a_Told_lets d_Told_lets
  b_Told_lets : Binds K d_Told_lets ["self", "turn"] []
  a_Told_words : Addr
  d_Told_words : FuncData
  F_Told_words : FunV K "words" "Told.words" s_Told_words a_Told_words d_Told_words
  b_Told_words : Binds K d_Told_words ["self"] []
  a_Wider___init__ : Addr
  d_Wider___init__ : FuncData
  F_Wider___init__ : FunV K "__init__" "Wider.__init__" s_Wider___init__ a_Wider___init__ d_Wider___init__
  b_Wider___init__ : Binds K d_Wider___init__ ["self", "door", "turn", "more"] []
  a_Wider_lets : Addr
  d_Wider_lets : FuncData
  F_Wider_lets : FunV K "lets" "Wider.lets" s_Wider_lets a_Wider_lets d_Wider_lets
  b_Wider_lets : Binds K d_Wider_lets ["self", "turn"] []
  a_Wider_words : Addr
  d_Wider_words : FuncData
  F_Wider_words : FunV K "words" "Wider.words" s_Wider_words a_Wider_words d_Wider_words
  b_Wider_words : Binds K d_Wider_words ["self"] []
  a_House___init__ : Addr
  d_House___init__ : FuncData
  F_House___init__ : FunV K "__init__" "House.__init__" s_House___init__ a_House___init__ d_House___init__
  b_House___init__ : Binds K d_House___init__ ["self", "rooms", "doors", "people", "last", "first"] []
  a_House_rooms : Addr
  d_House_rooms : FuncData
  F_House_rooms : FunV K "rooms" "House.rooms" s_House_rooms a_House_rooms d_House_rooms
  b_House_rooms : Binds K d_House_rooms ["self"] []
  a_House_doors : Addr
  d_House_doors : FuncData
  F_House_doors : FunV K "doors" "House.doors" s_House_doors a_House_doors d_House_doors
  b_House_doors : Binds K d_House_doors ["self"] []
  a_House_need_room : Addr
  d_House_need_room : FuncData
  F_House_need_room : FunV K "need_room" "House.need_room" s_House_need_room a_House_need_room d_House_need_room
  b_House_need_room : Binds K d_House_need_room ["self", "room"] []
  a_House_holds : Addr
  d_House_holds : FuncData
  F_House_holds : FunV K "holds" "House.holds" s_House_holds a_House_holds d_House_holds
  b_House_holds : Binds K d_House_holds ["self", "room"] []
  a_House_found : Addr
  d_House_found : FuncData
  F_House_found : FunV K "found" "House.found" s_House_found a_House_found d_House_found
  b_House_found : Binds K d_House_found ["self", "room"] []
  a_House_into : Addr
  d_House_into : FuncData
  F_House_into : FunV K "into" "House.into" s_House_into a_House_into d_House_into
  b_House_into : Binds K d_House_into ["self", "room"] []
  a_House_from_room : Addr
  d_House_from_room : FuncData
  F_House_from_room : FunV K "from_room" "House.from_room" s_House_from_room a_House_from_room d_House_from_room
  b_House_from_room : Binds K d_House_from_room ["self", "room"] []
  a_House_door : Addr
  d_House_door : FuncData
  F_House_door : FunV K "door" "House.door" s_House_door a_House_door d_House_door
  b_House_door : Binds K d_House_door ["self", "name"] []
  a_House_lets : Addr
  d_House_lets : FuncData
  F_House_lets : FunV K "lets" "House.lets" s_House_lets a_House_lets d_House_lets
  b_House_lets : Binds K d_House_lets ["self", "name", "turn"] []
  a_House_total : Addr
  d_House_total : FuncData
  F_House_total : FunV K "total" "House.total" s_House_total a_House_total d_House_total
  b_House_total : Binds K d_House_total ["self"] []
  a_House_pairs : Addr
  d_House_pairs : FuncData
  F_House_pairs : FunV K "pairs" "House.pairs" s_House_pairs a_House_pairs d_House_pairs
  b_House_pairs : Binds K d_House_pairs ["self"] []
  m__wall : mg "_wall" = some (.ref a__wall)
  m_found_beyond : mg "found_beyond" = some (.ref a_found_beyond)
  m_let_in : mg "let_in" = some (.ref a_let_in)
  m_going_beyond : mg "going_beyond" = some (.ref a_going_beyond)
  m_let_out : mg "let_out" = some (.ref a_let_out)
  m_bound : mg "bound" = some (.ref a_bound)
  m_is_whole : mg "is_whole" = some (.ref a_is_whole)
  m_is_name : mg "is_name" = some (.ref a_is_name)
  m_need_name : mg "need_name" = some (.ref a_need_name)
  m_need_whole : mg "need_whole" = some (.ref a_need_whole)
  m_need_turns : mg "need_turns" = some (.ref a_need_turns)
  m_need_each_once : mg "need_each_once" = some (.ref a_need_each_once)
  m_rooms_spoken_of : mg "rooms_spoken_of" = some (.ref a_rooms_spoken_of)
  m_need_rooms : mg "need_rooms" = some (.ref a_need_rooms)
  m_added_people : mg "added_people" = some (.ref a_added_people)
  m_need_space : mg "need_space" = some (.ref a_need_space)
  m__law_cell_at : mg "_law_cell_at" = some (.ref a__law_cell_at)
  m__law_mixed : mg "_law_mixed" = some (.ref a__law_mixed)
  m__law_name : mg "_law_name" = some (.ref a__law_name)
  m__law_rooms : mg "_law_rooms" = some (.ref a__law_rooms)
  m__law_spec : mg "_law_spec" = some (.ref a__law_spec)
  m__law_lets : mg "_law_lets" = some (.ref a__law_lets)
  m__law_door : mg "_law_door" = some (.ref a__law_door)
  m__law_digits : mg "_law_digits" = some (.ref a__law_digits)
  m__law_rooms_told : mg "_law_rooms_told" = some (.ref a__law_rooms_told)
  m__law_spec_told : mg "_law_spec_told" = some (.ref a__law_spec_told)
  m__law_drawn_told : mg "_law_drawn_told" = some (.ref a__law_drawn_told)
  m__law_drawn : mg "_law_drawn" = some (.ref a__law_drawn)
  m__law_house : mg "_law_house" = some (.ref a__law_house)
  m__law_cut : mg "_law_cut" = some (.ref a__law_cut)
  m__law_widened : mg "_law_widened" = some (.ref a__law_widened)
  m_law : mg "law" = some (.ref a_law)
  bd_Door___init___1 : ∃ ds, Vals [.int 1] ds ∧ Binds K d_Door___init__ ["self", "name", "start", "end", "wide"] ds
  bd_Door___init___2 : ∃ ds, Vals [.non, .int 1] ds ∧ Binds K d_Door___init__ ["self", "name", "start", "end", "wide"] ds
  bd_Beat___init___1 : ∃ ds, Vals [.int 0] ds ∧ Binds K d_Beat___init__ ["self", "name", "start", "end", "wide", "every", "since"] ds
  bd_House___init___1 : ∃ ds, Vals [.int 0] ds ∧ Binds K d_House___init__ ["self", "rooms", "doors", "people", "last", "first"] ds
  C_Door : Addr
  m_Door : mg "Door" = some (.ref C_Door)
  C_Since : Addr
  m_Since : mg "Since" = some (.ref C_Since)
  C_Until : Addr
  m_Until : mg "Until" = some (.ref C_Until)
  C_Beat : Addr
  m_Beat : mg "Beat" = some (.ref C_Beat)
  C_Marked : Addr
  m_Marked : mg "Marked" = some (.ref C_Marked)
  C_Told : Addr
  m_Told : mg "Told" = some (.ref C_Told)
  C_Wider : Addr
  m_Wider : mg "Wider" = some (.ref C_Wider)
  C_House : Addr
  m_House : mg "House" = some (.ref C_House)
  C_OutError : Addr
  m_OutError : mg "OutError" = some (.ref C_OutError)
  C_NoDoor : Addr
  m_NoDoor : mg "NoDoor" = some (.ref C_NoDoor)
  C_NoHouse : Addr
  m_NoHouse : mg "NoHouse" = some (.ref C_NoHouse)
  C_NoTurn : Addr
  m_NoTurn : mg "NoTurn" = some (.ref C_NoTurn)
  C_Twice : Addr
  m_Twice : mg "Twice" = some (.ref C_Twice)
  C_NoRoom : Addr
  m_NoRoom : mg "NoRoom" = some (.ref C_NoRoom)
  C_Unknown : Addr
  m_Unknown : mg "Unknown" = some (.ref C_Unknown)
  dc_Door : DCls K C_Door
  mk_Door : Mk K C_Door a_Door___init__
  mt_Door_lets : Meth K C_Door "lets" a_Door_lets
  mt_Door_is_exit : Meth K C_Door "is_exit" a_Door_is_exit
  mt_Door_words : Meth K C_Door "words" a_Door_words
  dc_Since : DCls K C_Since
  mk_Since : Mk K C_Since a_Since___init__
  mt_Since_lets : Meth K C_Since "lets" a_Since_lets
  mt_Since_words : Meth K C_Since "words" a_Since_words
  mt_Since_is_exit : Meth K C_Since "is_exit" a_Door_is_exit
  dc_Until : DCls K C_Until
  mk_Until : Mk K C_Until a_Until___init__
  mt_Until_lets : Meth K C_Until "lets" a_Until_lets
  mt_Until_words : Meth K C_Until "words" a_Until_words
  mt_Until_is_exit : Meth K C_Until "is_exit" a_Door_is_exit
  dc_Beat : DCls K C_Beat
  mk_Beat : Mk K C_Beat a_Beat___init__
  mt_Beat_lets : Meth K C_Beat "lets" a_Beat_lets
  mt_Beat_words : Meth K C_Beat "words" a_Beat_words
  mt_Beat_is_exit : Meth K C_Beat "is_exit" a_Door_is_exit
  dc_Marked : DCls K C_Marked
  mk_Marked : Mk K C_Marked a_Marked___init__
  mt_Marked_lets : Meth K C_Marked "lets" a_Marked_lets
  mt_Marked_words : Meth K C_Marked "words" a_Marked_words
  mt_Marked_is_exit : Meth K C_Marked "is_exit" a_Door_is_exit
  dc_Told : DCls K C_Told
  mk_Told : Mk K C_Told a_Told___init__
  mt_Told_lets : Meth K C_Told "lets" a_Told_lets
  mt_Told_words : Meth K C_Told "words" a_Told_words
  mt_Told_is_exit : Meth K C_Told "is_exit" a_Door_is_exit
  dc_Wider : DCls K C_Wider
  mk_Wider : Mk K C_Wider a_Wider___init__
  mt_Wider_lets : Meth K C_Wider "lets" a_Wider_lets
  mt_Wider_words : Meth K C_Wider "words" a_Wider_words
  mt_Wider_is_exit : Meth K C_Wider "is_exit" a_Door_is_exit
  dc_House : DCls K C_House
  mk_House : Mk K C_House a_House___init__
  mt_House_rooms : Meth K C_House "rooms" a_House_rooms
  mt_House_doors : Meth K C_House "doors" a_House_doors
  mt_House_need_room : Meth K C_House "need_room" a_House_need_room
  mt_House_holds : Meth K C_House "holds" a_House_holds
  mt_House_found : Meth K C_House "found" a_House_found
  mt_House_into : Meth K C_House "into" a_House_into
  mt_House_from_room : Meth K C_House "from_room" a_House_from_room
  mt_House_door : Meth K C_House "door" a_House_door
  mt_House_lets : Meth K C_House "lets" a_House_lets
  mt_House_total : Meth K C_House "total" a_House_total
  mt_House_pairs : Meth K C_House "pairs" a_House_pairs
  dm_Door___init__ : W.specialIn K (.ref C_Door) "__getattribute__" = some (some (.builtin "type.__getattribute__")) ∧ W.readsIn K C_Door (.type "type") = true ∧ W.findCls K (.ref C_Door) (.type "type") "__init__" = some (.val (.ref a_Door___init__))
  g_ValueError : mg "ValueError" = none
  g_sum : mg "sum" = none
  g_min : mg "min" = none
  g_range : mg "range" = none
  g_any : mg "any" = none
  g_len : mg "len" = none
  g_isinstance : mg "isinstance" = none
  g_int : mg "int" = none
  g_str : mg "str" = none
  g_all : mg "all" = none
  g_dict : mg "dict" = none
  g_list : mg "list" = none
  g_bool : mg "bool" = none
  c_LONGEST_NAME : ∃ t : Tok, mg "LONGEST_NAME" = some (.int 8 t)
local macro_rules | `(tactic| walk_at "hp") => `(tactic| first | assumption | (refine' Same.at ?s ?h; (case s => assumption); (case h => walk_at "hp")) | (refine' SqL.of ?h; (case h => walk_at "hp")) | (refine' SqT.of ?h; (case h => walk_at "hp")) | (refine' Same.seq ?s ?h; (case s => assumption); (case h => walk_at "hp")) | (refine' Same.sqT ?s ?h; (case s => assumption); (case h => walk_at "hp")))
local macro_rules | `(tactic| walk_at "sm") => `(tactic| first | assumption | exact Same.refl _ | (refine' Same.snoc ?s ?h; (case s => assumption); (case h => walk_at "sm")))
local macro_rules | `(tactic| walk_at "sb") => `(tactic| first | assumption | exact SameBut.refl | (refine' SameBut.snoc ?s ?h; (case s => assumption); (case h => walk_at "sb")) | (refine' SameBut.snocS ?s ?h; (case s => assumption); (case h => walk_at "sb")))
local macro_rules | `(tactic| walk_at "lk") => `(tactic| first | assumption | exact lk_nil | (with_reducible exact lk_same) | (refine' lk_ne ?d ?h; (case d => decide +kernel); (case h => walk_at "lk")))
local macro_rules | `(tactic| walk_at "sz") => `(tactic| first | omega | (simp only [str_app_len, one_len, ll_0, ll_1, ll_2, ll_3, ll_4, ll_5, ll_6, ll_7, ll_8, ll_9, ll_10, ll_11, ll_12, ll_13, ll_14, ll_15, ll_16, ll_17, ll_18, ll_19, ll_20, sizeLine_eq, List.length_cons, List.length_nil, List.length_append, List.length_map]; done) | (simp only [str_app_len, one_len, ll_0, ll_1, ll_2, ll_3, ll_4, ll_5, ll_6, ll_7, ll_8, ll_9, ll_10, ll_11, ll_12, ll_13, ll_14, ll_15, ll_16, ll_17, ll_18, ll_19, ll_20, sizeLine_eq, List.length_cons, List.length_nil, List.length_append, List.length_map]; omega) | (simp only [str_app_len, one_len, ll_0, ll_1, ll_2, ll_3, ll_4, ll_5, ll_6, ll_7, ll_8, ll_9, ll_10, ll_11, ll_12, ll_13, ll_14, ll_15, ll_16, ll_17, ll_18, ll_19, ll_20, sizeLine_eq, List.length_cons, List.length_nil, List.length_append, List.length_map] at *; omega))
local macro_rules | `(tactic| walk_at "sd") => `(tactic| first | omega | decide | assumption)
local macro_rules | `(tactic| walk_at "dc") => `(tactic| first | ((with_reducible refine ICls.cl (DCls.ic ?_)); assumption) | ((with_reducible refine DCls.ic ?_); assumption) | ((with_reducible refine DCls.n_name ?_); assumption) | ((with_reducible refine DCls.n_start ?_); assumption) | ((with_reducible refine DCls.n_end ?_); assumption) | ((with_reducible refine DCls.n_wide ?_); assumption) | ((with_reducible refine DCls.n_since ?_); assumption) | ((with_reducible refine DCls.n_until ?_); assumption) | ((with_reducible refine DCls.n_every ?_); assumption) | ((with_reducible refine DCls.n_bits ?_); assumption) | ((with_reducible refine DCls.n_letting ?_); assumption) | ((with_reducible refine DCls.n_inner ?_); assumption) | ((with_reducible refine DCls.n_turn ?_); assumption) | ((with_reducible refine DCls.n_more ?_); assumption) | ((with_reducible refine DCls.n_first ?_); assumption) | ((with_reducible refine DCls.n_last ?_); assumption) | ((with_reducible refine DCls.n_sizes ?_); assumption) | ((with_reducible refine DCls.n_people ?_); assumption) | ((with_reducible refine DCls.n_named_doors ?_); assumption))
local macro_rules | `(tactic| walk_at "rd1") => `(tactic| first | (with_reducible first | refine rd_seq ?_ | refine rd_asg ?_ | refine rd_C ?_ | refine rd_op ?_ | refine rd_v0 ?_ | refine rd_v1 ?_ | refine rd_v2 ?_ | refine rd_v3 ?_ | refine rd_v4 ?_ | refine rd_v5 ?_ | refine rd_v6 ?_ | refine rd_v7 ?_ | refine rd_v8 ?_ | refine rd_v9 ?_ | refine rd_v10 ?_ | refine rd_v11 ?_ | refine rd_v12 ?_ | refine rd_cons ?_ | refine rd_nil ?_ | refine rd_I0 ?_ | refine rd_if ?_ | refine rd_test ?_ | refine rd_tB ?_ | refine rd_exb ?_ | refine rd_call ?_ | refine rd_cb ?_ | refine rd_fld ?_ | refine rd_md ?_ | refine rd_ifT ?_ | refine rd_ifF ?_ | refine rd_ifnT ?_ | refine rd_ifnF ?_ | refine rd_s0 ?_ | refine rd_s1 ?_ | refine rd_s2 ?_ | refine rd_s3 ?_ | refine rd_s4 ?_ | refine rd_s5 ?_ | refine rd_s6 ?_ | refine rd_s7 ?_ | refine rd_s8 ?_ | refine rd_s9 ?_ | refine rd_s10 ?_ | refine rd_s11 ?_ | refine rd_s12 ?_ | refine rd_ret ?_ | refine rd_next ?_ | refine rd_drop ?_ | refine rd_retN ?_ | refine rd_not ?_ | refine rd_and ?_ | refine rd_or ?_ | refine rd_andV ?_ | refine rd_orV ?_ | refine rd_notV ?_ | refine rd_ifE ?_ | refine rd_chain ?_ | refine rd_un ?_ | refine rd_U ?_ | refine rd_eqI ?_ | refine rd_eqB ?_ | refine rd_eqS ?_ | refine rd_eqSN ?_ | refine rd_eqNS ?_ | refine rd_eqNN ?_ | refine rd_neI ?_ | refine rd_neB ?_ | refine rd_neS ?_ | refine rd_neNN ?_ | refine rd_isNN ?_ | refine rd_isNS ?_ | refine rd_isNI ?_ | refine rd_isNR ?_ | refine rd_ntNN ?_ | refine rd_ntNS ?_ | refine rd_ntNI ?_ | refine rd_ntNR ?_ | refine rd_isNV ?_ | refine rd_ntNV ?_ | refine rd_lst ?_ | refine rd_tup ?_ | refine rd_sfld ?_ | refine rd_make ?_ | refine rd_comp ?_ | refine rd_sl ?_ | refine rd_bm ?_ | refine rd_bm0 ?_ | refine rd_bmS ?_ | refine rd_bm0I ?_ | refine rd_isiII ?_ | refine rd_isiIB ?_ | refine rd_isiBB ?_ | refine rd_isiBI ?_ | refine rd_isiSS ?_ | refine rd_isiNS ?_ | refine rd_max2 ?_ | refine rd_min2 ?_ | refine rd_intB ?_ | refine rd_intI ?_ | refine rd_noPart ?_ | refine rd_part ?_ | refine rd_exi ?_ | refine rd_gsub ?_ | refine rd_gnil ?_ | refine rd_gcons ?_ | refine rd_for ?_ | refine rd_iList ?_ | refine rd_iTup ?_ | refine rd_iRng1 ?_ | refine rd_iRng2 ?_ | refine rd_iStr ?_ | refine rd_iStrV ?_ | refine rd_break ?_ | refine rd_cont ?_ | refine rd_aug ?_) | ((with_reducible refine' rd_mod ?s ?_); (case s => decide)) | ((with_reducible refine' rd_modF ?s ?_); (case s => walk_at "sd"); intro h0' h1') | ((with_reducible refine' rd_repL ?e ?a ?b ?s ?_); (case e => walk_at "hp"); (case a => decide); (case b => decide); (case s => first | (simp; done) | (simp [sizeLine_eq]; done) | walk_at "sz"); intro p' H' n' S' e') | ((with_reducible refine' rd_div ?s ?r ?_); (case s => walk_at "sd"); (case r => walk_at "sd")) | ((with_reducible refine' rd_mulL ?s ?r ?_); (case s => walk_at "sd"); (case r => walk_at "sd")) | ((with_reducible refine' rd_mulR ?s ?r ?_); (case s => walk_at "sd"); (case r => walk_at "sd")) | ((with_reducible refine' rd_newL ?s ?_); (case s => walk_at "sz"); intro p' H' n' S' e') | ((with_reducible refine' rd_newT ?s ?_); (case s => walk_at "sz"); intro p' H' n' S' e') | ((with_reducible refine rd_newF ?_); intro p' H' n' S' e') | ((with_reducible refine' rd_fldV ?e ?c ?n ?l ?_); (case e => walk_at "hp"); (case c => walk_at "dc"); (case n => walk_at "dc"); (case l => walk_at "lk")) | ((with_reducible refine' rd_sfldV ?e ?c ?n ?l ?_); (case e => walk_at "hp"); (case c => walk_at "dc"); (case n => walk_at "dc"); (case l => kernel_rfl); intro H' B' e') | ((with_reducible refine' rd_mdV ?e ?l ?F ?_); (case e => walk_at "hp"); (case l => walk_at "lk"); (case F => assumption)) | ((with_reducible refine' rd_isiC ?e ?i ?k ?_); (case e => walk_at "hp"); (case i => walk_at "dc"); (case k => assumption)) | ((with_reducible refine' rd_ixL ?e ?l ?_); (case e => walk_at "hp"); (case l => rfl)) | ((with_reducible refine' rd_ix2i ?e ?s ?r ?_); (case e => walk_at "hp"); (case s => walk_at "sd"); (case r => walk_at "sd"); intro v' hv') | ((with_reducible refine' rd_ix3i ?e ?s ?r ?_); (case e => walk_at "hp"); (case s => walk_at "sd"); (case r => walk_at "sd"); intro v' hv') | ((with_reducible refine' rd_setLm ?e ?l ?_); (case e => walk_at "hp"); (case l => rfl); intro H' B' e') | ((with_reducible refine' rd_lenL ?e ?_); (case e => walk_at "hp")) | ((with_reducible refine' rd_lenS ?e ?_); (case e => walk_at "sz")) | ((with_reducible refine' rd_addS ?e ?_); (case e => walk_at "sz")) | ((with_reducible refine' rd_slS ?e ?_); (case e => walk_at "sz"); intro hl') | ((with_reducible refine' rd_slI ?e ?_); (case e => walk_at "hp"); intro p' H' n' S' e') | ((with_reducible refine' rd_slL ?e ?_); (case e => walk_at "hp"); intro p' H' n' S' e') | ((with_reducible refine' rd_catL ?e ?f ?s ?_); (case e => walk_at "hp"); (case f => walk_at "hp"); (case s => walk_at "sz"); intro p' H' n' S' e') | ((with_reducible refine' rd_listOf ?e ?_); (case e => walk_at "hp"); intro p' H' n' S' e') | ((with_reducible refine' rd_bmL ?e ?_); (case e => walk_at "hp")) | ((with_reducible refine' rd_iListV ?e ?_); (case e => walk_at "hp")) | ((with_reducible refine' rd_iRng1V ?s ?r ?_); (case s => walk_at "sd"); (case r => walk_at "sd")) | ((with_reducible refine' rd_iRng2V ?s ?r ?t ?u ?_); (case s => walk_at "sd"); (case r => walk_at "sd"); (case t => walk_at "sd"); (case u => walk_at "sd")) | ((with_reducible refine' rd_str ?s ?r ?_); (case s => walk_at "sd"); (case r => walk_at "sd"); intro hl') | ((with_reducible refine' rd_gtupL ?e ?l ?_); (case e => walk_at "hp"); (case l => rfl)) | ((with_reducible refine' rd_gtup ?e ?l ?_); (case e => walk_at "hp"); (case l => rfl)) | ((with_reducible refine' rd_ifP ?s ?_); (case s => walk_at "sd")) | ((with_reducible refine' rd_ifN ?s ?_); (case s => walk_at "sd")) | ((with_reducible refine' rd_ifnP ?s ?_); (case s => walk_at "sd")) | ((with_reducible refine' rd_ifnN ?s ?_); (case s => walk_at "sd")))
local macro_rules | `(tactic| walk_at "go") => `(tactic| repeat walk_at "rd1")
local macro_rules | `(tactic| walk_at "gs") => `(tactic| repeat ((fail_if_success (with_reducible refine rd_seqIf ?_)); walk_at "rd1"))
local macro_rules | `(tactic| walk_at "nn") => `(tactic| repeat first | exact nn_nil | refine nn_app ?_ ?_ | refine nn_cons (by omega) ?_ | exact nn_map (fun n => by omega))
section
variable {P : Program} {w : World} {K : W.Frag} {mg : Str → Option Value} {base : Heap}
def wholeB : V → Bool
  | .int _ => true
  | _ => false
def sp_whole (K : W.Frag) : Sp := fun vs H Q _ => ∃ x n, vs = [x] ∧ BTy K H x n ∧ Q (.bl (wholeB x)) H
theorem r_wholeI {H : Hp} {Q : VK} {E : XK} {i : Int} (h : Q (.bl true) H) : sp_whole K [.int i] H Q E := ⟨_, _, rfl, .int i, h⟩
theorem ok_is_whole (m : M K mg) : FnOk P w K mg base CX0 1 m.a_is_whole m.d_is_whole ["thing"] (sp_whole K) := by
  refine m.F_is_whole.ok sc_is_whole (fun vs H Q E h => ?_) (fun cdv A outer s H vs Q E hr h => ?_)
  · obtain ⟨x, n, rfl, b, k⟩ := h
    rfl
  · obtain ⟨x, n, rfl, b, k⟩ := h
    have nd := sc_is_whole.nd
    have hu0 := Room.units0 hr
    have hu1 := Room.units1 hr
    have hu9 := Room.units9 hr
    refine ⟨_, (pss_one (ps_ret (pe_and (pe_callB call_isi rfl m.g_isinstance bt_isinstance (pa_cons (pv 0) (pa_cons (pe_ty rfl m.g_int bt_int) pa_nil))) (pe_one (pe_not (pe_callB call_isi rfl m.g_isinstance bt_isinstance (pa_cons (pv 0) (pa_cons (pe_ty rfl m.g_bool bt_bool) pa_nil)))))))), ?_⟩
    refine rd_start (σ := [some (x)]) rfl ?_
    refine ⟨_, rfl, _, _, _, _, _, rfl, b.ty, rfl, kit_b b "int" (.inl rfl), _, rfl, ?_⟩
    refine ite2 (fun h1 => ⟨_, rfl, _, _, _, _, _, rfl, b.ty, rfl, kit_b b "bool" (.inr (.inl rfl)), _, rfl, ?_⟩) (fun h1 => ?_)
    · cases b <;> first | exact k | exact absurd h1 (by decide)
    · cases b <;> first | exact k | exact absurd (by decide) h1
theorem fc_is_whole (m : M K mg) : Fc P w K mg base "is_whole" 1 ["thing"] (sp_whole K) := ⟨_, _, m.m_is_whole, m.F_is_whole.kp, m.b_is_whole, ok_is_whole m⟩
def nmB : V → Bool
  | .str z => nameB z
  | _ => false
def sp_name (K : W.Frag) : Sp := fun vs H Q _ => ∃ x n, vs = [x] ∧ BTy K H x n ∧ (∀ z, x = .str z → z.length ≤ 1000) ∧ ∀ H', Same H H' → Q (.bl (nmB x)) H'
theorem r_nameT {H : Hp} {Q : VK} {E : XK} {z : Str} (hz : nameB z = true) (h : ∀ H', Same H H' → Q (.bl true) H') : sp_name K [.str z] H Q E :=
  ⟨_, _, rfl, .str z, fun y e => by cases e; exact Nat.le_trans (nameB_len hz) (by decide), fun H' s => by rw [show nmB (.str z) = true from hz]; exact h H' s⟩
theorem le1 (a c : Nat) : (!decide ([c] < [a])) = decide (a ≤ c) := by
  have : ([c] < [a]) ↔ c < a := by
    constructor
    · intro h
      cases h with
      | rel h => exact h
      | cons h => cases h
    · exact fun h => .rel h
  by_cases h : c < a
  · rw [decide_eq_true (this.mpr h), decide_eq_false (by omega)]; rfl
  · rw [decide_eq_false (fun z => h (this.mp z)), decide_eq_true (by omega)]; rfl
theorem cps_a : ("a" : Str).cps.toList = [97] := by decide +kernel
theorem cps_z : ("z" : Str).cps.toList = [122] := by decide +kernel
theorem range_all {α : Type} (p : α → Bool) (d : α) : ∀ l : List α, ((List.range l.length).map fun i => p (l.getD i d)).all id = l.all p
  | [] => rfl
  | a :: l => by
    rw [List.length_cons, List.range_succ_eq_map, List.map_cons, List.all_cons, List.map_map, List.all_cons, ← range_all p d l]
    rfl
theorem same_new {H : Hp} {p : Addr} {o : HO} (h : H p = none) : Same H (upd H p o) := fun b u e => by rw [upd_ne (ne_of_none e h)]; exact e
theorem ok_is_name (m : M K mg) : FnOk P w K mg base CX0 1 m.a_is_name m.d_is_name ["thing"] (sp_name K) := by
  refine m.F_is_name.ok sc_is_name (fun vs H Q E h => ?_) (fun cdv A outer s H vs Q E hr h => ?_)
  · obtain ⟨x, n, rfl, b, hz, k⟩ := h
    rfl
  · obtain ⟨x, n, rfl, b, hz, k⟩ := h
    have nd := sc_is_name.nd
    have hu0 := Room.units0 hr
    have hu1 := Room.units1 hr
    have hu9 := Room.units9 hr
    obtain ⟨tok_LONGEST_NAME, c_LONGEST_NAME⟩ := m.c_LONGEST_NAME
    refine ⟨_, (pss_cons (ps_if (pt_not (pt_val (pe_callB call_isi rfl m.g_isinstance bt_isinstance (pa_cons (pv 0) (pa_cons (pe_ty rfl m.g_str bt_str) pa_nil))))) (pss_one (ps_ret pe_bl)) pss_nil)
      (pss_one (ps_ret (pe_and (pe_chain op_le op_le pe_int (pe_callB call_lenS rfl m.g_len bt_len (pa_cons (pv 0) pa_nil)) (pe_gint rfl c_LONGEST_NAME)) (pe_one (pe_callB (call_all rfl) rfl m.g_all bt_all (pa_cons (pe_comp (N := ["sign"]) (nl := 1) (ci := []) rfl (blk (s.heap.objs.size + 1) rfl rfl rfl (by kernel_rfl)) (pi_str (pv 0)) (fun _ _ _ _ => (pg_name (i := 0) (show (["sign"] : List Str).Nodup by decide +kernel) rfl (by walk_at "oi"))) (fun _ _ _ _ => pf_nil) (fun _ _ _ _ => (pe_chain op_leS op_leS pe_str (pv 0) pe_str))) pa_nil))))))), ?_⟩
    refine rd_start (σ := [some (x)]) rfl ?_
    refine ⟨_, rfl, _, _, _, _, _, rfl, b.ty, rfl, kit_b b "str" (.inr (.inr rfl)), _, rfl, ?_⟩
    refine ite2 (fun h1 => ?_) (fun h1 => ?_)
    · show Q (.bl false) H
      cases b <;> first | exact k H (Same.refl H) | exact absurd h1 (by decide)
    · have hs : ∃ z, x = .str z := by
        cases b <;> first | exact ⟨_, rfl⟩ | exact absurd (by decide) h1
      obtain ⟨z, rfl⟩ := hs
      have hl := hz z rfl
      have hl' : z.length ≤ sizeLine := Nat.le_of_lt (small1000 hl)
      refine ⟨_, rfl, z, rfl, hl', _, _, rfl, rfl, _, rfl, ?_⟩
      refine ite2 (fun h2 => ⟨_, _, rfl, rfl, _, rfl, ?_⟩) (fun h2 => ⟨_, rfl, ?_⟩)
      · refine ite2 (fun h3 => ?_) (fun h3 => ?_)
        · refine ⟨_, rfl, z, rfl, ?_⟩
          refine comp_of z.cps.size (fun i => .bl (sgB (z.cps.toList.getD i 0))) hl' (fun H' => H' = H) rfl (fun _ _ => rfl) (fun i _ hi _ => hi) ?_ ?_ ?_ ?_ ?_
          · rintro i _ x H' hi rfl ⟨rfl, c, hc, rfl⟩
            refine ⟨⟨rfl, fun j v hv => ?_⟩, rfl, ?_⟩
            · match j, hv with
              | 0, hv => cases hv
              | j + 1, hv => cases hv
            · have hc' : z.cps.toList.getD i 0 = c := by
                rw [List.getD_eq_getElem?_getD, Array.getElem?_toList, hc]; rfl
              refine ⟨_, rfl, _, _, rfl, rfl, _, rfl, ?_⟩
              rw [cps_a, hc']
              refine ite2 (fun h4 => ⟨_, _, rfl, rfl, ?_, rfl⟩) (fun h4 => ⟨?_, rfl⟩)
              · have h4' : 97 ≤ c := by rw [show (⟨#[c]⟩ : Str).cps.toList = [c] from rfl, le1] at h4; exact of_decide_eq_true h4
                rw [cps_z, show (⟨#[c]⟩ : Str).cps.toList = [c] from rfl, le1]
                unfold sgB
                rw [decide_eq_true h4', Bool.true_and]
              · have h4' : ¬ 97 ≤ c := by rw [show (⟨#[c]⟩ : Str).cps.toList = [c] from rfl, le1] at h4; exact fun z => h4 (decide_eq_true z)
                unfold sgB
                rw [decide_eq_false h4', Bool.false_and]
          · exact fun _ _ _ _ f q => f _ _ q
          · rintro σ H Q Q' f ⟨v, e, i, j, e1, e2, k, e3, q⟩
            refine ⟨v, e, i, j, e1, e2, k, e3, ?_⟩
            revert q
            split
            · rintro ⟨i, j, e1, e2, q⟩
              exact ⟨i, j, e1, e2, f _ _ q⟩
            · exact fun q => f _ _ q
          · exact fun _ _ _ _ _ f q => f _ _ q
          · rintro _ rfl p hp
            refine ⟨p, (List.range z.cps.size).map (fun i => sgB (z.cps.toList.getD i 0)), rfl, SqL.of ?_, ?_⟩
            · rw [upd_same, List.map_map]; rfl
            · have e := range_all sgB 0 z.cps.toList
              rw [Array.length_toList] at e
              rw [e]
              have e2 : nmB (.str z) = z.cps.toList.all sgB := by
                show nameB z = _
                unfold nameB
                rw [show decide (1 ≤ (z.length : Int)) = true from h2, show decide ((z.length : Int) ≤ 8) = true from h3]; rfl
              rw [← e2]
              exact k _ (same_new hp)
        · have e2 : nmB (.str z) = false := by
            show nameB z = _
            unfold nameB
            rw [show decide ((z.length : Int) ≤ 8) = false from by simpa using h3]; simp
          have := k H (Same.refl H)
          rw [e2] at this
          exact this
      · have e2 : nmB (.str z) = false := by
          show nameB z = _
          unfold nameB
          rw [show decide (1 ≤ (z.length : Int)) = false from by simpa using h2]; simp
        have := k H (Same.refl H)
        rw [e2] at this
        exact this
theorem fc_is_name (m : M K mg) : Fc P w K mg base "is_name" 1 ["thing"] (sp_name K) := ⟨_, _, m.m_is_name, m.F_is_name.kp, m.b_is_name, ok_is_name m⟩
local macro_rules | `(tactic| walk_at "rd1") => `(tactic| first | (with_reducible refine r_wholeI ?_) | ((with_reducible refine' r_nameT ?s ?_); (case s => assumption); intro H' S'))
def sp_need_name (K : W.Frag) : Sp := fun vs H Q _ => ∃ (part z : Str), vs = [.str part, .str z] ∧ nameB z = true ∧ ∀ H', Same H H' → Q .non H'
theorem r_need_name {H : Hp} {Q : VK} {E : XK} {part z : Str} (hz : nameB z = true) (h : ∀ H', Same H H' → Q .non H') : sp_need_name K [.str part, .str z] H Q E := ⟨_, _, rfl, hz, h⟩
theorem ok_need_name (m : M K mg) : FnOk P w K mg base CX0 2 m.a_need_name m.d_need_name ["part", "thing"] (sp_need_name K) := by
  refine m.F_need_name.ok sc_need_name (fun vs H Q E h => ?_) (fun cdv A outer s H vs Q E hr h => ?_)
  · obtain ⟨part, z, rfl, hz, k⟩ := h
    rfl
  · obtain ⟨part, z, rfl, hz, k⟩ := h
    have nd := sc_need_name.nd
    have hu0 := Room.units0 hr
    have hu1 := Room.units1 hr
    have hu9 := Room.units9 hr
    have F_is_name := fc_is_name (P := P) (w := w) (base := base) m
    refine ⟨_, (pss_one (ps_if (pt_not (pt_val (pe_f F_is_name hr (pa_cons (pv 1) pa_nil)))) (pss_one ps_never) pss_nil)), ?_⟩
    refine rd_start (σ := [some (.str part), some (.str z)]) rfl ?_
    walk_at "go"
    exact k _ (by walk_at "sm")
theorem fc_need_name (m : M K mg) : Fc P w K mg base "need_name" 2 ["part", "thing"] (sp_need_name K) := ⟨_, _, m.m_need_name, m.F_need_name.kp, m.b_need_name, ok_need_name m⟩
def sp_need_whole (K : W.Frag) : Sp := fun vs H Q _ => ∃ (part : Str) (i l : Int), vs = [.str part, .int i, .int l] ∧ l ≤ i ∧ Q .non H
theorem r_need_whole {H : Hp} {Q : VK} {E : XK} {part : Str} {i l : Int} (hz : l ≤ i) (h : Q .non H) : sp_need_whole K [.str part, .int i, .int l] H Q E := ⟨_, _, _, rfl, hz, h⟩
theorem ok_need_whole (m : M K mg) : FnOk P w K mg base CX0 2 m.a_need_whole m.d_need_whole ["part", "thing", "least"] (sp_need_whole K) := by
  refine m.F_need_whole.ok sc_need_whole (fun vs H Q E h => ?_) (fun cdv A outer s H vs Q E hr h => ?_)
  · obtain ⟨part, i, l, rfl, hz, k⟩ := h
    rfl
  · obtain ⟨part, i, l, rfl, hz, k⟩ := h
    have nd := sc_need_whole.nd
    have hu0 := Room.units0 hr
    have hu1 := Room.units1 hr
    have hu9 := Room.units9 hr
    have F_is_whole := fc_is_whole (P := P) (w := w) (base := base) m
    refine ⟨_, (pss_one (ps_if (PW.pt (pw_or (pt_not (pt_val (pe_f F_is_whole hr (pa_cons (pv 1) pa_nil)))) (pw_or1 (pt_cmpR op_lt (pv 1) (pv 2) (nomark _))))) (pss_one ps_never) pss_nil)), ?_⟩
    refine rd_start (σ := [some (.str part), some (.int i), some (.int l)]) rfl ?_
    walk_at "go"
    exact k
theorem fc_need_whole (m : M K mg) : Fc P w K mg base "need_whole" 2 ["part", "thing", "least"] (sp_need_whole K) := ⟨_, _, m.m_need_whole, m.F_need_whole.kp, m.b_need_whole, ok_need_whole m⟩
local macro_rules | `(tactic| walk_at "rd1") => `(tactic| first | ((with_reducible refine' r_need_name ?s ?_); (case s => assumption); intro H' S') | ((with_reducible refine' r_need_whole ?s ?_); (case s => walk_at "sd")))
abbrev doorFs (n s e w : V) : List (Str × V) := putF "wide" w (putF "end" e (putF "start" s (putF "name" n [])))
def EndOk (e : V) : Prop := e = .non ∨ ∃ z, e = .str z ∧ nameB z = true
def sp_Door_init (K : W.Frag) : Sp := fun vs H Q _ => ∃ (p C dx : Addr) (n s : Str) (e : V) (wd : Int), vs = [.ref p, .str n, .str s, e, .int wd] ∧ DCls K C ∧ H p = some (.ins C dx []) ∧ nameB n = true ∧ nameB s = true ∧ EndOk e ∧ 0 ≤ wd ∧
  ∀ H', SameBut p H H' → H' p = some (.ins C dx (doorFs (.str n) (.str s) e (.int wd))) → Q .non H'
theorem r_Door_init {H : Hp} {Q : VK} {E : XK} {p C dx : Addr} {n s : Str} {e : V} {wd : Int} (dc : DCls K C) (hp : H p = some (.ins C dx [])) (hn : nameB n = true) (hs : nameB s = true) (he : EndOk e) (hw : 0 ≤ wd)
    (k : ∀ H', SameBut p H H' → H' p = some (.ins C dx (doorFs (.str n) (.str s) e (.int wd))) → Q .non H') : sp_Door_init K [.ref p, .str n, .str s, e, .int wd] H Q E := ⟨_, _, _, _, _, _, _, rfl, dc, hp, hn, hs, he, hw, k⟩
theorem ok_Door___init__ (m : M K mg) : FnOk P w K mg base CX0 3 m.a_Door___init__ m.d_Door___init__ ["self", "name", "start", "end", "wide"] (sp_Door_init K) := by
  refine m.F_Door___init__.ok sc_Door___init__ (fun vs H Q E h => ?_) (fun cdv A outer s H vs Q E hr h => ?_)
  · obtain ⟨p, C, dx, n, st, e, wd, rfl, dc, hp, hn, hs, he, hw, k⟩ := h
    rfl
  · obtain ⟨p, C, dx, n, st, e, wd, rfl, dc, hp, hn, hs, he, hw, k⟩ := h
    have nd := sc_Door___init__.nd
    have hu0 := Room.units0 hr
    have hu1 := Room.units1 hr
    have hu9 := Room.units9 hr
    have F_need_name := fc_need_name (P := P) (w := w) (base := base) m
    have F_need_whole := fc_need_whole (P := P) (w := w) (base := base) m
    refine ⟨_, (pss_cons (ps_expr (pe_f F_need_name hr (pa_cons pe_str (pa_cons (pv 1) pa_nil))))
      (pss_cons (ps_expr (pe_f F_need_name hr (pa_cons pe_str (pa_cons (pv 2) pa_nil))))
      (pss_cons (ps_if (pt_cmpR op_notn (pv 3) pe_non (nomark _)) (pss_one (ps_expr (pe_f F_need_name hr (pa_cons pe_str (pa_cons (pv 3) pa_nil))))) pss_nil)
      (pss_cons (ps_expr (pe_f F_need_whole hr (pa_cons pe_str (pa_cons (pv 4) (pa_cons pe_int pa_nil)))))
      (pss_cons (ps_fld (pv 0) (pv 1) rfl)
      (pss_cons (ps_fld (pv 0) (pv 2) rfl)
      (pss_cons (ps_fld (pv 0) (pv 3) rfl)
      (pss_one (ps_fld (pv 0) (pv 4) rfl))))))))), ?_⟩
    refine rd_start (σ := [some (.ref p), some (.str n), some (.str st), some (e), some (.int wd)]) rfl ?_
    rcases he with rfl | ⟨z, rfl, hz⟩
    · walk_at "go"
      exact k _ (by walk_at "sb") (by assumption)
    · walk_at "go"
      exact k _ (by walk_at "sb") (by assumption)
theorem kc_Door_0 (m : M K mg) : Kc P w K mg base "Door" m.C_Door 3 [] (sp_Door_init K) := ⟨_, _, _, _, m.m_Door, m.mk_Door, .nil, m.b_Door___init__, ok_Door___init__ m⟩
theorem dcall_Door___init__ (m : M K mg) : Dc P w K mg base "Door" "__init__" 3 (sp_Door_init K) := ⟨_, _, _, _, m.m_Door, m.dm_Door___init__.1, m.dm_Door___init__.2.1, m.dm_Door___init__.2.2, m.F_Door___init__.kp, m.b_Door___init__, ok_Door___init__ m⟩
theorem dcallD_Door___init___1 (m : M K mg) : DcD P w K mg base "Door" "__init__" 3 [.int 1] (sp_Door_init K) := by
  obtain ⟨ds, h1, h2⟩ := m.bd_Door___init___1
  exact ⟨_, _, _, _, _, m.m_Door, m.dm_Door___init__.1, m.dm_Door___init__.2.1, m.dm_Door___init__.2.2, m.F_Door___init__.kp, h1, h2, ok_Door___init__ m⟩
theorem r_mkDoor {H : Hp} {Q : VK} {E : XK} {C : Addr} {vs dvs : List V} {n s : Str} {e : V} {wd : Int} (ev : vs ++ dvs = [.str n, .str s, e, .int wd]) (dc : DCls K C) (hn : nameB n = true) (hs : nameB s = true) (he : EndOk e) (hw : 0 ≤ wd)
    (k : ∀ p dx H', H p = none → Same H H' → H' p = some (.ins C dx (doorFs (.str n) (.str s) e (.int wd))) → Q (.ref p) H') : MakeP C (sp_Door_init K) dvs E Q vs H :=
  rd_makeV (fun p dx H0 Q' h k' s0 => by rw [ev]; exact r_Door_init dc h hn hs he hw k') k
local macro_rules | `(tactic| walk_at "rd1") => `(tactic| ((with_reducible refine' r_mkDoor ?v ?d ?hn ?hs ?he ?hw ?_); (case v => rfl); (case d => assumption); (case hn => assumption); (case hs => assumption); (case he => first | assumption | exact .inl rfl | exact .inr ⟨_, rfl, by assumption⟩); (case hw => walk_at "sd"); intro p' dx' H' n' S' e'))
def sp_exit (K : W.Frag) : Sp := fun vs H Q _ => ∃ (p C dx : Addr) (fs : List (Str × V)) (e : V), vs = [.ref p] ∧ DCls K C ∧ H p = some (.ins C dx fs) ∧ fs.lookup ("end" : Str) = some e ∧ Q (.bl (decide (e = .non))) H
theorem r_exitN {H : Hp} {Q : VK} {E : XK} {p C dx : Addr} {fs : List (Str × V)} (hp : H p = some (.ins C dx fs)) (dc : DCls K C) (l : fs.lookup ("end" : Str) = some .non) (k : Q (.bl true) H) : sp_exit K [.ref p] H Q E := ⟨_, _, _, _, _, rfl, dc, hp, l, k⟩
theorem r_exitS {H : Hp} {Q : VK} {E : XK} {p C dx : Addr} {fs : List (Str × V)} {z : Str} (hp : H p = some (.ins C dx fs)) (dc : DCls K C) (l : fs.lookup ("end" : Str) = some (.str z)) (k : Q (.bl false) H) : sp_exit K [.ref p] H Q E :=
  ⟨_, _, _, _, _, rfl, dc, hp, l, by rw [decide_eq_false (fun z => by cases z)]; exact k⟩
theorem ok_Door_is_exit (m : M K mg) : FnOk P w K mg base CX0 1 m.a_Door_is_exit m.d_Door_is_exit ["self"] (sp_exit K) := by
  refine m.F_Door_is_exit.ok sc_Door_is_exit (fun vs H Q E h => ?_) (fun cdv A outer s H vs Q E hr h => ?_)
  · obtain ⟨p, C, dx, fs, e, rfl, dc, hp, l, k⟩ := h
    rfl
  · obtain ⟨p, C, dx, fs, e, rfl, dc, hp, l, k⟩ := h
    have nd := sc_Door_is_exit.nd
    have hu0 := Room.units0 hr
    have hu1 := Room.units1 hr
    have hu9 := Room.units9 hr
    refine ⟨_, (pss_one (ps_ret (pe_cmpR op_isn (pe_fld (pv 0) rfl) pe_non (nomark _)))), ?_⟩
    refine rd_start (σ := [some (.ref p)]) rfl ?_
    walk_at "go"
    exact k
theorem mc_Door_is_exit (m : M K mg) : Mc P w K mg base m.C_Door "is_exit" 1 (sp_exit K) := ⟨_, _, _, m.dc_Door.ic.cl, m.mt_Door_is_exit, m.b_Door_is_exit, ok_Door_is_exit m⟩
theorem mc_Since_is_exit (m : M K mg) : Mc P w K mg base m.C_Since "is_exit" 1 (sp_exit K) := ⟨_, _, _, m.dc_Since.ic.cl, m.mt_Since_is_exit, m.b_Door_is_exit, ok_Door_is_exit m⟩
theorem mc_Until_is_exit (m : M K mg) : Mc P w K mg base m.C_Until "is_exit" 1 (sp_exit K) := ⟨_, _, _, m.dc_Until.ic.cl, m.mt_Until_is_exit, m.b_Door_is_exit, ok_Door_is_exit m⟩
theorem mc_Beat_is_exit (m : M K mg) : Mc P w K mg base m.C_Beat "is_exit" 1 (sp_exit K) := ⟨_, _, _, m.dc_Beat.ic.cl, m.mt_Beat_is_exit, m.b_Door_is_exit, ok_Door_is_exit m⟩
theorem mc_Marked_is_exit (m : M K mg) : Mc P w K mg base m.C_Marked "is_exit" 1 (sp_exit K) := ⟨_, _, _, m.dc_Marked.ic.cl, m.mt_Marked_is_exit, m.b_Door_is_exit, ok_Door_is_exit m⟩
theorem mc_Told_is_exit (m : M K mg) : Mc P w K mg base m.C_Told "is_exit" 1 (sp_exit K) := ⟨_, _, _, m.dc_Told.ic.cl, m.mt_Told_is_exit, m.b_Door_is_exit, ok_Door_is_exit m⟩
theorem mc_Wider_is_exit (m : M K mg) : Mc P w K mg base m.C_Wider "is_exit" 1 (sp_exit K) := ⟨_, _, _, m.dc_Wider.ic.cl, m.mt_Wider_is_exit, m.b_Door_is_exit, ok_Door_is_exit m⟩
local macro_rules | `(tactic| walk_at "rd1") => `(tactic| first | ((with_reducible refine' r_exitN ?e ?d ?l ?_); (case e => walk_at "hp"); (case d => assumption); (case l => walk_at "lk")) | ((with_reducible refine' r_exitS ?e ?d ?l ?_); (case e => walk_at "hp"); (case d => assumption); (case l => walk_at "lk")))
def sp_lets_wide (K : W.Frag) : Sp := fun vs H Q _ => ∃ (p C dx : Addr) (fs : List (Str × V)) (t wd : Int), vs = [.ref p, .int t] ∧ DCls K C ∧ H p = some (.ins C dx fs) ∧ fs.lookup ("wide" : Str) = some (.int wd) ∧ Q (.int wd) H
theorem r_lets_wide {H : Hp} {Q : VK} {E : XK} {p C dx : Addr} {fs : List (Str × V)} {t wd : Int} (hp : H p = some (.ins C dx fs)) (dc : DCls K C) (l : fs.lookup ("wide" : Str) = some (.int wd)) (k : Q (.int wd) H) : sp_lets_wide K [.ref p, .int t] H Q E := ⟨_, _, _, _, _, _, rfl, dc, hp, l, k⟩
theorem ok_Door_lets (m : M K mg) : FnOk P w K mg base CX0 1 m.a_Door_lets m.d_Door_lets ["self", "turn"] (sp_lets_wide K) := by
  refine m.F_Door_lets.ok sc_Door_lets (fun vs H Q E h => ?_) (fun cdv A outer s H vs Q E hr h => ?_)
  · obtain ⟨p, C, dx, fs, t, wd, rfl, dc, hp, l, k⟩ := h
    rfl
  · obtain ⟨p, C, dx, fs, t, wd, rfl, dc, hp, l, k⟩ := h
    have nd := sc_Door_lets.nd
    have hu0 := Room.units0 hr
    have hu1 := Room.units1 hr
    have hu9 := Room.units9 hr
    refine ⟨_, (pss_one (ps_ret (pe_fld (pv 0) rfl))), ?_⟩
    refine rd_start (σ := [some (.ref p), some (.int t)]) rfl ?_
    walk_at "go"
    exact k
theorem mc_Door_lets (m : M K mg) : Mc P w K mg base m.C_Door "lets" 1 (sp_lets_wide K) := ⟨_, _, _, m.dc_Door.ic.cl, m.mt_Door_lets, m.b_Door_lets, ok_Door_lets m⟩
local macro_rules | `(tactic| walk_at "rd1") => `(tactic| ((with_reducible refine' r_Door_init ?d ?e ?hn ?hs ?he ?hw ?_); (case d => assumption); (case e => walk_at "hp"); (case hn => assumption); (case hs => assumption); (case he => assumption); (case hw => walk_at "sd"); intro H' B' e'))
abbrev SinceFs (n s e w i0 : V) : List (Str × V) := putF "since" i0 (doorFs n s e w)
def sp_Since_init (K : W.Frag) : Sp := fun vs H Q _ => ∃ (p C dx : Addr) (n s : Str) (e : V) (wd i0 : Int), vs = [.ref p, .str n, .str s, e, .int wd, .int i0] ∧ DCls K C ∧ H p = some (.ins C dx []) ∧ nameB n = true ∧ nameB s = true ∧ EndOk e ∧ 0 ≤ wd ∧ 0 ≤ i0 ∧
  ∀ H', SameBut p H H' → H' p = some (.ins C dx (SinceFs (.str n) (.str s) e (.int wd) (.int i0))) → Q .non H'
theorem r_Since_init {H : Hp} {Q : VK} {E : XK} {p C dx : Addr} {n s : Str} {e : V} {wd i0 : Int} (dc : DCls K C) (hp : H p = some (.ins C dx [])) (hn : nameB n = true) (hs : nameB s = true) (he : EndOk e) (hw : 0 ≤ wd) (b0 : 0 ≤ i0)
    (k : ∀ H', SameBut p H H' → H' p = some (.ins C dx (SinceFs (.str n) (.str s) e (.int wd) (.int i0))) → Q .non H') : sp_Since_init K [.ref p, .str n, .str s, e, .int wd, .int i0] H Q E := ⟨_, _, _, _, _, _, _, _, rfl, dc, hp, hn, hs, he, hw, b0, k⟩
theorem ok_Since___init__ (m : M K mg) : FnOk P w K mg base CX0 4 m.a_Since___init__ m.d_Since___init__ ["self", "name", "start", "end", "wide", "since"] (sp_Since_init K) := by
  refine m.F_Since___init__.ok sc_Since___init__ (fun vs H Q E h => ?_) (fun cdv A outer s H vs Q E hr h => ?_)
  · obtain ⟨p, C, dx, n, st, e, wd, i0, rfl, dc, hp, hn, hs, he, hw, b0, k⟩ := h
    rfl
  · obtain ⟨p, C, dx, n, st, e, wd, i0, rfl, dc, hp, hn, hs, he, hw, b0, k⟩ := h
    have nd := sc_Since___init__.nd
    have hu0 := Room.units0 hr
    have hu1 := Room.units1 hr
    have hu9 := Room.units9 hr
    have D_Door___init__ := dcall_Door___init__ (P := P) (w := w) (base := base) m
    have F_need_whole := fc_need_whole (P := P) (w := w) (base := base) m
    refine ⟨_, (pss_cons (ps_expr (pe_dm D_Door___init__ hr (pa_cons (pv 0) (pa_cons (pv 1) (pa_cons (pv 2) (pa_cons (pv 3) (pa_cons (pv 4) pa_nil)))))))
      (pss_cons (ps_expr (pe_f F_need_whole hr (pa_cons pe_str (pa_cons (pv 5) (pa_cons pe_int pa_nil)))))
      (pss_one (ps_fld (pv 0) (pv 5) rfl)))), ?_⟩
    refine rd_start (σ := [some (.ref p), some (.str n), some (.str st), some (e), some (.int wd), some (.int i0)]) rfl ?_
    walk_at "go"
    exact k _ (by walk_at "sb") (by assumption)
theorem kc_Since_0 (m : M K mg) : Kc P w K mg base "Since" m.C_Since 4 [] (sp_Since_init K) := ⟨_, _, _, _, m.m_Since, m.mk_Since, .nil, m.b_Since___init__, ok_Since___init__ m⟩
theorem r_mkSince {H : Hp} {Q : VK} {E : XK} {C : Addr} {vs dvs : List V} {n s : Str} {e : V} {wd i0 : Int} (ev : vs ++ dvs = [.str n, .str s, e, .int wd, .int i0]) (dc : DCls K C) (hn : nameB n = true) (hs : nameB s = true) (he : EndOk e) (hw : 0 ≤ wd) (b0 : 0 ≤ i0)
    (k : ∀ p dx H', H p = none → Same H H' → H' p = some (.ins C dx (SinceFs (.str n) (.str s) e (.int wd) (.int i0))) → Q (.ref p) H') : MakeP C (sp_Since_init K) dvs E Q vs H :=
  rd_makeV (fun p dx H0 Q' h k' s0 => by rw [ev]; exact r_Since_init dc h hn hs he hw b0 k') k
local macro_rules | `(tactic| walk_at "rd1") => `(tactic| ((with_reducible refine' r_mkSince ?v ?d ?hn ?hs ?he ?hw ?b0 ?_); (case v => rfl); (case d => assumption); (case hn => assumption); (case hs => assumption); (case he => first | assumption | exact .inl rfl | exact .inr ⟨_, rfl, by assumption⟩); (case hw => walk_at "sd"); (case b0 => walk_at "sd"); intro p' dx' H' n' S' e'))
def SinceV (wd i0 t : Int) : Int := if i0 ≤ t then wd else 0
def sp_Since_lets (K : W.Frag) : Sp := fun vs H Q _ => ∃ (p C dx : Addr) (fs : List (Str × V)) (t wd i0 : Int), vs = [.ref p, .int t] ∧ DCls K C ∧ H p = some (.ins C dx fs) ∧ fs.lookup ("wide" : Str) = some (.int wd) ∧ fs.lookup ("since" : Str) = some (.int i0) ∧ 0 ≤ t ∧ 0 ≤ i0 ∧ Q (.int (SinceV wd i0 t)) H
theorem r_Since_lets {H : Hp} {Q : VK} {E : XK} {p C dx : Addr} {fs : List (Str × V)} {t wd i0 : Int} (hp : H p = some (.ins C dx fs)) (dc : DCls K C) (l : fs.lookup ("wide" : Str) = some (.int wd)) (m0 : fs.lookup ("since" : Str) = some (.int i0)) (ht : 0 ≤ t) (b0 : 0 ≤ i0) (k : Q (.int (SinceV wd i0 t)) H) : sp_Since_lets K [.ref p, .int t] H Q E := ⟨_, _, _, _, _, _, _, rfl, dc, hp, l, m0, ht, b0, k⟩
theorem ok_Since_lets (m : M K mg) : FnOk P w K mg base CX0 1 m.a_Since_lets m.d_Since_lets ["self", "turn"] (sp_Since_lets K) := by
  refine m.F_Since_lets.ok sc_Since_lets (fun vs H Q E h => ?_) (fun cdv A outer s H vs Q E hr h => ?_)
  · obtain ⟨p, C, dx, fs, t, wd, i0, rfl, dc, hp, l, m0, ht, b0, k⟩ := h
    rfl
  · obtain ⟨p, C, dx, fs, t, wd, i0, rfl, dc, hp, l, m0, ht, b0, k⟩ := h
    have nd := sc_Since_lets.nd
    have hu0 := Room.units0 hr
    have hu1 := Room.units1 hr
    have hu9 := Room.units9 hr
    refine ⟨_, (pss_one (ps_ret (pe_ifExp (pt_cmpR op_ge (pv 1) (pe_fld (pv 0) rfl) (nomark _)) (pe_fld (pv 0) rfl) pe_int))), ?_⟩
    refine rd_start (σ := [some (.ref p), some (.int t)]) rfl ?_
    unfold SinceV at k
    walk_at "go"
    refine rd_if2 (fun hw => ?_) (fun hw => ?_)
    · walk_at "go"
      rw [if_pos hw] at k
      exact k
    · walk_at "go"
      rw [if_neg hw] at k
      exact k
theorem mc_Since_lets (m : M K mg) : Mc P w K mg base m.C_Since "lets" 1 (sp_Since_lets K) := ⟨_, _, _, m.dc_Since.ic.cl, m.mt_Since_lets, m.b_Since_lets, ok_Since_lets m⟩
local macro_rules | `(tactic| walk_at "rd1") => `(tactic| ((with_reducible refine' r_Since_lets ?e ?d ?l ?m0 ?ht ?b0 ?_); (case e => walk_at "hp"); (case d => assumption); (case l => walk_at "lk"); (case m0 => walk_at "lk"); (case ht => walk_at "sd");  (case b0 => walk_at "sd")))
abbrev UntilFs (n s e w i0 : V) : List (Str × V) := putF "until" i0 (doorFs n s e w)
def sp_Until_init (K : W.Frag) : Sp := fun vs H Q _ => ∃ (p C dx : Addr) (n s : Str) (e : V) (wd i0 : Int), vs = [.ref p, .str n, .str s, e, .int wd, .int i0] ∧ DCls K C ∧ H p = some (.ins C dx []) ∧ nameB n = true ∧ nameB s = true ∧ EndOk e ∧ 0 ≤ wd ∧ 0 ≤ i0 ∧
  ∀ H', SameBut p H H' → H' p = some (.ins C dx (UntilFs (.str n) (.str s) e (.int wd) (.int i0))) → Q .non H'
theorem r_Until_init {H : Hp} {Q : VK} {E : XK} {p C dx : Addr} {n s : Str} {e : V} {wd i0 : Int} (dc : DCls K C) (hp : H p = some (.ins C dx [])) (hn : nameB n = true) (hs : nameB s = true) (he : EndOk e) (hw : 0 ≤ wd) (b0 : 0 ≤ i0)
    (k : ∀ H', SameBut p H H' → H' p = some (.ins C dx (UntilFs (.str n) (.str s) e (.int wd) (.int i0))) → Q .non H') : sp_Until_init K [.ref p, .str n, .str s, e, .int wd, .int i0] H Q E := ⟨_, _, _, _, _, _, _, _, rfl, dc, hp, hn, hs, he, hw, b0, k⟩
theorem ok_Until___init__ (m : M K mg) : FnOk P w K mg base CX0 4 m.a_Until___init__ m.d_Until___init__ ["self", "name", "start", "end", "wide", "until"] (sp_Until_init K) := by
  refine m.F_Until___init__.ok sc_Until___init__ (fun vs H Q E h => ?_) (fun cdv A outer s H vs Q E hr h => ?_)
  · obtain ⟨p, C, dx, n, st, e, wd, i0, rfl, dc, hp, hn, hs, he, hw, b0, k⟩ := h
    rfl
  · obtain ⟨p, C, dx, n, st, e, wd, i0, rfl, dc, hp, hn, hs, he, hw, b0, k⟩ := h
    have nd := sc_Until___init__.nd
    have hu0 := Room.units0 hr
    have hu1 := Room.units1 hr
    have hu9 := Room.units9 hr
    have D_Door___init__ := dcall_Door___init__ (P := P) (w := w) (base := base) m
    have F_need_whole := fc_need_whole (P := P) (w := w) (base := base) m
    refine ⟨_, (pss_cons (ps_expr (pe_dm D_Door___init__ hr (pa_cons (pv 0) (pa_cons (pv 1) (pa_cons (pv 2) (pa_cons (pv 3) (pa_cons (pv 4) pa_nil)))))))
      (pss_cons (ps_expr (pe_f F_need_whole hr (pa_cons pe_str (pa_cons (pv 5) (pa_cons pe_int pa_nil)))))
      (pss_one (ps_fld (pv 0) (pv 5) rfl)))), ?_⟩
    refine rd_start (σ := [some (.ref p), some (.str n), some (.str st), some (e), some (.int wd), some (.int i0)]) rfl ?_
    walk_at "go"
    exact k _ (by walk_at "sb") (by assumption)
theorem kc_Until_0 (m : M K mg) : Kc P w K mg base "Until" m.C_Until 4 [] (sp_Until_init K) := ⟨_, _, _, _, m.m_Until, m.mk_Until, .nil, m.b_Until___init__, ok_Until___init__ m⟩
theorem r_mkUntil {H : Hp} {Q : VK} {E : XK} {C : Addr} {vs dvs : List V} {n s : Str} {e : V} {wd i0 : Int} (ev : vs ++ dvs = [.str n, .str s, e, .int wd, .int i0]) (dc : DCls K C) (hn : nameB n = true) (hs : nameB s = true) (he : EndOk e) (hw : 0 ≤ wd) (b0 : 0 ≤ i0)
    (k : ∀ p dx H', H p = none → Same H H' → H' p = some (.ins C dx (UntilFs (.str n) (.str s) e (.int wd) (.int i0))) → Q (.ref p) H') : MakeP C (sp_Until_init K) dvs E Q vs H :=
  rd_makeV (fun p dx H0 Q' h k' s0 => by rw [ev]; exact r_Until_init dc h hn hs he hw b0 k') k
local macro_rules | `(tactic| walk_at "rd1") => `(tactic| ((with_reducible refine' r_mkUntil ?v ?d ?hn ?hs ?he ?hw ?b0 ?_); (case v => rfl); (case d => assumption); (case hn => assumption); (case hs => assumption); (case he => first | assumption | exact .inl rfl | exact .inr ⟨_, rfl, by assumption⟩); (case hw => walk_at "sd"); (case b0 => walk_at "sd"); intro p' dx' H' n' S' e'))
def UntilV (wd i0 t : Int) : Int := if t < i0 then wd else 0
def sp_Until_lets (K : W.Frag) : Sp := fun vs H Q _ => ∃ (p C dx : Addr) (fs : List (Str × V)) (t wd i0 : Int), vs = [.ref p, .int t] ∧ DCls K C ∧ H p = some (.ins C dx fs) ∧ fs.lookup ("wide" : Str) = some (.int wd) ∧ fs.lookup ("until" : Str) = some (.int i0) ∧ 0 ≤ t ∧ 0 ≤ i0 ∧ Q (.int (UntilV wd i0 t)) H
theorem r_Until_lets {H : Hp} {Q : VK} {E : XK} {p C dx : Addr} {fs : List (Str × V)} {t wd i0 : Int} (hp : H p = some (.ins C dx fs)) (dc : DCls K C) (l : fs.lookup ("wide" : Str) = some (.int wd)) (m0 : fs.lookup ("until" : Str) = some (.int i0)) (ht : 0 ≤ t) (b0 : 0 ≤ i0) (k : Q (.int (UntilV wd i0 t)) H) : sp_Until_lets K [.ref p, .int t] H Q E := ⟨_, _, _, _, _, _, _, rfl, dc, hp, l, m0, ht, b0, k⟩
theorem ok_Until_lets (m : M K mg) : FnOk P w K mg base CX0 1 m.a_Until_lets m.d_Until_lets ["self", "turn"] (sp_Until_lets K) := by
  refine m.F_Until_lets.ok sc_Until_lets (fun vs H Q E h => ?_) (fun cdv A outer s H vs Q E hr h => ?_)
  · obtain ⟨p, C, dx, fs, t, wd, i0, rfl, dc, hp, l, m0, ht, b0, k⟩ := h
    rfl
  · obtain ⟨p, C, dx, fs, t, wd, i0, rfl, dc, hp, l, m0, ht, b0, k⟩ := h
    have nd := sc_Until_lets.nd
    have hu0 := Room.units0 hr
    have hu1 := Room.units1 hr
    have hu9 := Room.units9 hr
    refine ⟨_, (pss_one (ps_ret (pe_ifExp (pt_cmpR op_lt (pv 1) (pe_fld (pv 0) rfl) (nomark _)) (pe_fld (pv 0) rfl) pe_int))), ?_⟩
    refine rd_start (σ := [some (.ref p), some (.int t)]) rfl ?_
    unfold UntilV at k
    walk_at "go"
    refine rd_if2 (fun hw => ?_) (fun hw => ?_)
    · walk_at "go"
      rw [if_pos hw] at k
      exact k
    · walk_at "go"
      rw [if_neg hw] at k
      exact k
theorem mc_Until_lets (m : M K mg) : Mc P w K mg base m.C_Until "lets" 1 (sp_Until_lets K) := ⟨_, _, _, m.dc_Until.ic.cl, m.mt_Until_lets, m.b_Until_lets, ok_Until_lets m⟩
local macro_rules | `(tactic| walk_at "rd1") => `(tactic| ((with_reducible refine' r_Until_lets ?e ?d ?l ?m0 ?ht ?b0 ?_); (case e => walk_at "hp"); (case d => assumption); (case l => walk_at "lk"); (case m0 => walk_at "lk"); (case ht => walk_at "sd");  (case b0 => walk_at "sd")))
abbrev BeatFs (n s e w i0 i1 : V) : List (Str × V) := putF "since" i1 (putF "every" i0 (doorFs n s e w))
def sp_Beat_init (K : W.Frag) : Sp := fun vs H Q _ => ∃ (p C dx : Addr) (n s : Str) (e : V) (wd i0 i1 : Int), vs = [.ref p, .str n, .str s, e, .int wd, .int i0, .int i1] ∧ DCls K C ∧ H p = some (.ins C dx []) ∧ nameB n = true ∧ nameB s = true ∧ EndOk e ∧ 0 ≤ wd ∧ 1 ≤ i0 ∧ 0 ≤ i1 ∧
  ∀ H', SameBut p H H' → H' p = some (.ins C dx (BeatFs (.str n) (.str s) e (.int wd) (.int i0) (.int i1))) → Q .non H'
theorem r_Beat_init {H : Hp} {Q : VK} {E : XK} {p C dx : Addr} {n s : Str} {e : V} {wd i0 i1 : Int} (dc : DCls K C) (hp : H p = some (.ins C dx [])) (hn : nameB n = true) (hs : nameB s = true) (he : EndOk e) (hw : 0 ≤ wd) (b0 : 1 ≤ i0) (b1 : 0 ≤ i1)
    (k : ∀ H', SameBut p H H' → H' p = some (.ins C dx (BeatFs (.str n) (.str s) e (.int wd) (.int i0) (.int i1))) → Q .non H') : sp_Beat_init K [.ref p, .str n, .str s, e, .int wd, .int i0, .int i1] H Q E := ⟨_, _, _, _, _, _, _, _, _, rfl, dc, hp, hn, hs, he, hw, b0, b1, k⟩
theorem ok_Beat___init__ (m : M K mg) : FnOk P w K mg base CX0 4 m.a_Beat___init__ m.d_Beat___init__ ["self", "name", "start", "end", "wide", "every", "since"] (sp_Beat_init K) := by
  refine m.F_Beat___init__.ok sc_Beat___init__ (fun vs H Q E h => ?_) (fun cdv A outer s H vs Q E hr h => ?_)
  · obtain ⟨p, C, dx, n, st, e, wd, i0, i1, rfl, dc, hp, hn, hs, he, hw, b0, b1, k⟩ := h
    rfl
  · obtain ⟨p, C, dx, n, st, e, wd, i0, i1, rfl, dc, hp, hn, hs, he, hw, b0, b1, k⟩ := h
    have nd := sc_Beat___init__.nd
    have hu0 := Room.units0 hr
    have hu1 := Room.units1 hr
    have hu9 := Room.units9 hr
    have D_Door___init__ := dcall_Door___init__ (P := P) (w := w) (base := base) m
    have F_need_whole := fc_need_whole (P := P) (w := w) (base := base) m
    refine ⟨_, (pss_cons (ps_expr (pe_dm D_Door___init__ hr (pa_cons (pv 0) (pa_cons (pv 1) (pa_cons (pv 2) (pa_cons (pv 3) (pa_cons (pv 4) pa_nil)))))))
      (pss_cons (ps_expr (pe_f F_need_whole hr (pa_cons pe_str (pa_cons (pv 5) (pa_cons pe_int pa_nil)))))
      (pss_cons (ps_expr (pe_f F_need_whole hr (pa_cons pe_str (pa_cons (pv 6) (pa_cons pe_int pa_nil)))))
      (pss_cons (ps_fld (pv 0) (pv 5) rfl)
      (pss_one (ps_fld (pv 0) (pv 6) rfl)))))), ?_⟩
    refine rd_start (σ := [some (.ref p), some (.str n), some (.str st), some (e), some (.int wd), some (.int i0), some (.int i1)]) rfl ?_
    walk_at "go"
    exact k _ (by walk_at "sb") (by assumption)
theorem kc_Beat_0 (m : M K mg) : Kc P w K mg base "Beat" m.C_Beat 4 [] (sp_Beat_init K) := ⟨_, _, _, _, m.m_Beat, m.mk_Beat, .nil, m.b_Beat___init__, ok_Beat___init__ m⟩
theorem r_mkBeat {H : Hp} {Q : VK} {E : XK} {C : Addr} {vs dvs : List V} {n s : Str} {e : V} {wd i0 i1 : Int} (ev : vs ++ dvs = [.str n, .str s, e, .int wd, .int i0, .int i1]) (dc : DCls K C) (hn : nameB n = true) (hs : nameB s = true) (he : EndOk e) (hw : 0 ≤ wd) (b0 : 1 ≤ i0) (b1 : 0 ≤ i1)
    (k : ∀ p dx H', H p = none → Same H H' → H' p = some (.ins C dx (BeatFs (.str n) (.str s) e (.int wd) (.int i0) (.int i1))) → Q (.ref p) H') : MakeP C (sp_Beat_init K) dvs E Q vs H :=
  rd_makeV (fun p dx H0 Q' h k' s0 => by rw [ev]; exact r_Beat_init dc h hn hs he hw b0 b1 k') k
local macro_rules | `(tactic| walk_at "rd1") => `(tactic| ((with_reducible refine' r_mkBeat ?v ?d ?hn ?hs ?he ?hw ?b0 ?b1 ?_); (case v => rfl); (case d => assumption); (case hn => assumption); (case hs => assumption); (case he => first | assumption | exact .inl rfl | exact .inr ⟨_, rfl, by assumption⟩); (case hw => walk_at "sd"); (case b0 => walk_at "sd"); (case b1 => walk_at "sd"); intro p' dx' H' n' S' e'))
def BeatV (wd i0 i1 t : Int) : Int := if 0 ≤ t - i1 ∧ (t - i1) % i0 = 0 then wd else 0
def sp_Beat_lets (K : W.Frag) : Sp := fun vs H Q _ => ∃ (p C dx : Addr) (fs : List (Str × V)) (t wd i0 i1 : Int), vs = [.ref p, .int t] ∧ DCls K C ∧ H p = some (.ins C dx fs) ∧ fs.lookup ("wide" : Str) = some (.int wd) ∧ fs.lookup ("every" : Str) = some (.int i0) ∧ fs.lookup ("since" : Str) = some (.int i1) ∧ 0 ≤ t ∧ 1 ≤ i0 ∧ 0 ≤ i1 ∧ Q (.int (BeatV wd i0 i1 t)) H
theorem r_Beat_lets {H : Hp} {Q : VK} {E : XK} {p C dx : Addr} {fs : List (Str × V)} {t wd i0 i1 : Int} (hp : H p = some (.ins C dx fs)) (dc : DCls K C) (l : fs.lookup ("wide" : Str) = some (.int wd)) (m0 : fs.lookup ("every" : Str) = some (.int i0)) (m1 : fs.lookup ("since" : Str) = some (.int i1)) (ht : 0 ≤ t) (b0 : 1 ≤ i0) (b1 : 0 ≤ i1) (k : Q (.int (BeatV wd i0 i1 t)) H) : sp_Beat_lets K [.ref p, .int t] H Q E := ⟨_, _, _, _, _, _, _, _, rfl, dc, hp, l, m0, m1, ht, b0, b1, k⟩
theorem ok_Beat_lets (m : M K mg) : FnOk P w K mg base CX0 1 m.a_Beat_lets m.d_Beat_lets ["self", "turn"] (sp_Beat_lets K) := by
  refine m.F_Beat_lets.ok sc_Beat_lets (fun vs H Q E h => ?_) (fun cdv A outer s H vs Q E hr h => ?_)
  · obtain ⟨p, C, dx, fs, t, wd, i0, i1, rfl, dc, hp, l, m0, m1, ht, b0, b1, k⟩ := h
    rfl
  · obtain ⟨p, C, dx, fs, t, wd, i0, i1, rfl, dc, hp, l, m0, m1, ht, b0, b1, k⟩ := h
    have nd := sc_Beat_lets.nd
    have hu0 := Room.units0 hr
    have hu1 := Room.units1 hr
    have hu9 := Room.units9 hr
    refine ⟨_, (pss_cons (ps_set (i := 2) nd rfl (by walk_at "oi") (pe_op op_sub (pv 1) (pe_fld (pv 0) rfl)))
      (pss_one (ps_ret (pe_ifExp (PW.pt (pw_and (pt_cmpR op_ge (pv 2) pe_int (nomark _)) (pw_and1 (pt_cmpR op_eq (pe_op op_mod (pv 2) (pe_fld (pv 0) rfl)) pe_int (nomark _))))) (pe_fld (pv 0) rfl) pe_int)))), ?_⟩
    refine rd_start (σ := [some (.ref p), some (.int t), none]) rfl ?_
    unfold BeatV at k
    walk_at "go"
    refine rd_if2 (fun hw => ?_) (fun hw => ?_)
    · walk_at "go"
      refine rd_if2 (fun hv => ?_) (fun hv => ?_)
      · walk_at "go"
        rw [if_pos ⟨hw, hv⟩] at k
        exact k
      · walk_at "go"
        rw [if_neg (fun z => hv z.2)] at k
        exact k
    · walk_at "go"
      rw [if_neg (fun z => hw z.1)] at k
      exact k
theorem mc_Beat_lets (m : M K mg) : Mc P w K mg base m.C_Beat "lets" 1 (sp_Beat_lets K) := ⟨_, _, _, m.dc_Beat.ic.cl, m.mt_Beat_lets, m.b_Beat_lets, ok_Beat_lets m⟩
local macro_rules | `(tactic| walk_at "rd1") => `(tactic| ((with_reducible refine' r_Beat_lets ?e ?d ?l ?m0 ?m1 ?ht ?b0 ?b1 ?_); (case e => walk_at "hp"); (case d => assumption); (case l => walk_at "lk"); (case m0 => walk_at "lk"); (case m1 => walk_at "lk"); (case ht => walk_at "sd"); (case b0 => walk_at "sd"); (case b1 => walk_at "sd")))
local macro_rules | `(tactic| walk_at "rd1") => `(tactic| first | (with_reducible refine rd_bitlen ?_) | ((with_reducible refine' rd_nonneg ?s ?_); (case s => walk_at "sd")) | ((with_reducible refine' rd_pow ?s ?r ?u ?_); (case s => walk_at "sd"); (case r => walk_at "sd"); (case u => decide)))
abbrev MarkedFs (n s e w i0 : V) : List (Str × V) := putF "bits" i0 (doorFs n s e w)
def sp_Marked_init (K : W.Frag) : Sp := fun vs H Q _ => ∃ (p C dx : Addr) (n s : Str) (e : V) (wd i0 : Int), vs = [.ref p, .str n, .str s, e, .int wd, .int i0] ∧ DCls K C ∧ H p = some (.ins C dx []) ∧ nameB n = true ∧ nameB s = true ∧ EndOk e ∧ 0 ≤ wd ∧ 0 ≤ i0 ∧
  ∀ H', SameBut p H H' → H' p = some (.ins C dx (MarkedFs (.str n) (.str s) e (.int wd) (.int i0))) → Q .non H'
theorem r_Marked_init {H : Hp} {Q : VK} {E : XK} {p C dx : Addr} {n s : Str} {e : V} {wd i0 : Int} (dc : DCls K C) (hp : H p = some (.ins C dx [])) (hn : nameB n = true) (hs : nameB s = true) (he : EndOk e) (hw : 0 ≤ wd) (b0 : 0 ≤ i0)
    (k : ∀ H', SameBut p H H' → H' p = some (.ins C dx (MarkedFs (.str n) (.str s) e (.int wd) (.int i0))) → Q .non H') : sp_Marked_init K [.ref p, .str n, .str s, e, .int wd, .int i0] H Q E := ⟨_, _, _, _, _, _, _, _, rfl, dc, hp, hn, hs, he, hw, b0, k⟩
theorem ok_Marked___init__ (m : M K mg) : FnOk P w K mg base CX0 4 m.a_Marked___init__ m.d_Marked___init__ ["self", "name", "start", "end", "wide", "bits"] (sp_Marked_init K) := by
  refine m.F_Marked___init__.ok sc_Marked___init__ (fun vs H Q E h => ?_) (fun cdv A outer s H vs Q E hr h => ?_)
  · obtain ⟨p, C, dx, n, st, e, wd, i0, rfl, dc, hp, hn, hs, he, hw, b0, k⟩ := h
    rfl
  · obtain ⟨p, C, dx, n, st, e, wd, i0, rfl, dc, hp, hn, hs, he, hw, b0, k⟩ := h
    have nd := sc_Marked___init__.nd
    have hu0 := Room.units0 hr
    have hu1 := Room.units1 hr
    have hu9 := Room.units9 hr
    have D_Door___init__ := dcall_Door___init__ (P := P) (w := w) (base := base) m
    have F_need_whole := fc_need_whole (P := P) (w := w) (base := base) m
    refine ⟨_, (pss_cons (ps_expr (pe_dm D_Door___init__ hr (pa_cons (pv 0) (pa_cons (pv 1) (pa_cons (pv 2) (pa_cons (pv 3) (pa_cons (pv 4) pa_nil)))))))
      (pss_cons (ps_expr (pe_f F_need_whole hr (pa_cons pe_str (pa_cons (pv 5) (pa_cons pe_int pa_nil)))))
      (pss_one (ps_fld (pv 0) (pv 5) rfl)))), ?_⟩
    refine rd_start (σ := [some (.ref p), some (.str n), some (.str st), some (e), some (.int wd), some (.int i0)]) rfl ?_
    walk_at "go"
    exact k _ (by walk_at "sb") (by assumption)
theorem kc_Marked_0 (m : M K mg) : Kc P w K mg base "Marked" m.C_Marked 4 [] (sp_Marked_init K) := ⟨_, _, _, _, m.m_Marked, m.mk_Marked, .nil, m.b_Marked___init__, ok_Marked___init__ m⟩
theorem r_mkMarked {H : Hp} {Q : VK} {E : XK} {C : Addr} {vs dvs : List V} {n s : Str} {e : V} {wd i0 : Int} (ev : vs ++ dvs = [.str n, .str s, e, .int wd, .int i0]) (dc : DCls K C) (hn : nameB n = true) (hs : nameB s = true) (he : EndOk e) (hw : 0 ≤ wd) (b0 : 0 ≤ i0)
    (k : ∀ p dx H', H p = none → Same H H' → H' p = some (.ins C dx (MarkedFs (.str n) (.str s) e (.int wd) (.int i0))) → Q (.ref p) H') : MakeP C (sp_Marked_init K) dvs E Q vs H :=
  rd_makeV (fun p dx H0 Q' h k' s0 => by rw [ev]; exact r_Marked_init dc h hn hs he hw b0 k') k
local macro_rules | `(tactic| walk_at "rd1") => `(tactic| ((with_reducible refine' r_mkMarked ?v ?d ?hn ?hs ?he ?hw ?b0 ?_); (case v => rfl); (case d => assumption); (case hn => assumption); (case hs => assumption); (case he => first | assumption | exact .inl rfl | exact .inr ⟨_, rfl, by assumption⟩); (case hw => walk_at "sd"); (case b0 => walk_at "sd"); intro p' dx' H' n' S' e'))
def MarkedV (wd i0 t : Int) : Int := if i0 / 2 ^ t.toNat % 2 = 1 then wd else 0
def sp_Marked_lets (K : W.Frag) : Sp := fun vs H Q _ => ∃ (p C dx : Addr) (fs : List (Str × V)) (t wd i0 : Int), vs = [.ref p, .int t] ∧ DCls K C ∧ H p = some (.ins C dx fs) ∧ fs.lookup ("wide" : Str) = some (.int wd) ∧ fs.lookup ("bits" : Str) = some (.int i0) ∧ 0 ≤ t ∧ 0 ≤ i0 ∧ Q (.int (MarkedV wd i0 t)) H
theorem r_Marked_lets {H : Hp} {Q : VK} {E : XK} {p C dx : Addr} {fs : List (Str × V)} {t wd i0 : Int} (hp : H p = some (.ins C dx fs)) (dc : DCls K C) (l : fs.lookup ("wide" : Str) = some (.int wd)) (m0 : fs.lookup ("bits" : Str) = some (.int i0)) (ht : 0 ≤ t) (b0 : 0 ≤ i0) (k : Q (.int (MarkedV wd i0 t)) H) : sp_Marked_lets K [.ref p, .int t] H Q E := ⟨_, _, _, _, _, _, _, rfl, dc, hp, l, m0, ht, b0, k⟩
theorem ok_Marked_lets (m : M K mg) : FnOk P w K mg base CX0 1 m.a_Marked_lets m.d_Marked_lets ["self", "turn"] (sp_Marked_lets K) := by
  refine m.F_Marked_lets.ok sc_Marked_lets (fun vs H Q E h => ?_) (fun cdv A outer s H vs Q E hr h => ?_)
  · obtain ⟨p, C, dx, fs, t, wd, i0, rfl, dc, hp, l, m0, ht, b0, k⟩ := h
    rfl
  · obtain ⟨p, C, dx, fs, t, wd, i0, rfl, dc, hp, l, m0, ht, b0, k⟩ := h
    have nd := sc_Marked_lets.nd
    have hu0 := Room.units0 hr
    have hu1 := Room.units1 hr
    have hu9 := Room.units9 hr
    refine ⟨_, (pss_cons (ps_if (pt_cmpR op_ge (pv 1) (pe_bm0 PySem.F.plainAttrs_int PySem.F.slot_int_bit_length PySem.F.type_int_bit_length mt_bitlen (pe_fld (pv 0) rfl)) (nomark _)) (pss_one (ps_ret pe_int)) pss_nil)
      (pss_one (ps_ret (pe_ifExp (pt_cmpR op_eq (pe_op op_mod (pe_op op_shr (pe_fld (pv 0) rfl) (pv 1)) pe_int) pe_int (nomark _)) (pe_fld (pv 0) rfl) pe_int)))), ?_⟩
    refine rd_start (σ := [some (.ref p), some (.int t)]) rfl ?_
    unfold MarkedV at k
    walk_at "go"
    refine rd_if2 (fun hw => ?_) (fun hw => ?_)
    · walk_at "go"
      rw [if_neg (by rw [bits_none b0 hw]; decide)] at k
      exact k
    · walk_at "go"
      refine rd_if2 (fun hv => ?_) (fun hv => ?_)
      · walk_at "go"
        rw [if_pos hv] at k
        exact k
      · walk_at "go"
        rw [if_neg hv] at k
        exact k
theorem mc_Marked_lets (m : M K mg) : Mc P w K mg base m.C_Marked "lets" 1 (sp_Marked_lets K) := ⟨_, _, _, m.dc_Marked.ic.cl, m.mt_Marked_lets, m.b_Marked_lets, ok_Marked_lets m⟩
local macro_rules | `(tactic| walk_at "rd1") => `(tactic| ((with_reducible refine' r_Marked_lets ?e ?d ?l ?m0 ?ht ?b0 ?_); (case e => walk_at "hp"); (case d => assumption); (case l => walk_at "lk"); (case m0 => walk_at "lk"); (case ht => walk_at "sd");  (case b0 => walk_at "sd")))
abbrev DoorG := Str × Str × V × (Int → Int)
def Soft : HO → Prop
  | .lst _ => True
  | .dK _ => True
  | .dT _ => True
  | .tbl _ => True
  | .ins _ _ fs => fs = []
  | _ => False
structure DoorP where
  at' : Hp → V → DoorG → Prop
  same : ∀ {H H' v d}, at' H v d → Same H H' → at' H' v d
  but : ∀ {H H' v d p o}, at' H v d → H p = some o → Soft o → SameBut p H H' → at' H' v d
def LetsK (P : Program) (w : World) (K : W.Frag) (mg : Str → Option Value) (base : Heap) (kL : Option Nat) (p C dx : Addr) (fs : List (Str × V)) (fp : List (Addr × HO)) (lt : Int → Int) : Prop := ∀ kl, kL = some kl →
  ∃ sp, Mc P w K mg base C "lets" kl sp ∧ ∀ (H' : Hp) (t : Int) (Q : VK), H' p = some (.ins C dx fs) → (∀ x ∈ fp, H' x.1 = some x.2) → 0 ≤ t → (∀ H'', Same H' H'' → Q (.int (lt t)) H'') → sp [.ref p, .int t] H' Q E0
def DoorAt (P : Program) (w : World) (K : W.Frag) (mg : Str → Option Value) (base : Heap) (kL : Option Nat) (H : Hp) (v : V) (d : DoorG) : Prop := ∃ p C dx fs fp, v = .ref p ∧ H p = some (.ins C dx fs) ∧ DCls K C ∧ fs.lookup ("name" : Str) = some (.str d.1) ∧ fs.lookup ("start" : Str) = some (.str d.2.1) ∧ fs.lookup ("end" : Str) = some d.2.2.1 ∧ fs.lookup ("is_exit" : Str) = none ∧ fs.lookup ("lets" : Str) = none ∧ Mc P w K mg base C "is_exit" 1 (sp_exit K) ∧ (∀ x ∈ fp, H x.1 = some x.2 ∧ ¬ Soft x.2) ∧ LetsK P w K mg base kL p C dx fs fp d.2.2.2
theorem DoorAt.ex {kL : Option Nat} {H : Hp} {v : V} {n st : Str} {e : V} {lt : Int → Int} (h : DoorAt P w K mg base kL H v (n, st, e, lt)) : ∃ p C dx fs fp, v = .ref p ∧ H p = some (.ins C dx fs) ∧ DCls K C ∧ fs.lookup ("name" : Str) = some (.str n) ∧ fs.lookup ("start" : Str) = some (.str st) ∧ fs.lookup ("end" : Str) = some e ∧ fs.lookup ("is_exit" : Str) = none ∧ fs.lookup ("lets" : Str) = none ∧ Mc P w K mg base C "is_exit" 1 (sp_exit K) ∧ (∀ x ∈ fp, H x.1 = some x.2 ∧ ¬ Soft x.2) ∧ LetsK P w K mg base kL p C dx fs fp lt := h
def doorP (P : Program) (w : World) (K : W.Frag) (mg : Str → Option Value) (base : Heap) (kL : Option Nat) : DoorP where
  at' := DoorAt P w K mg base kL
  same := fun ⟨p, C, dx, fs, fp, e, hp, dc, l1, l2, l3, l4, l5, mc, hf, lt⟩ s => ⟨p, C, dx, fs, fp, e, s _ _ hp, dc, l1, l2, l3, l4, l5, mc, fun x hx => ⟨s _ _ (hf x hx).1, (hf x hx).2⟩, lt⟩
  but := fun {H H' v d q o} ⟨p, C, dx, fs, fp, e, hp, dc, l1, l2, l3, l4, l5, mc, hf, lt⟩ ho so sb => ⟨p, C, dx, fs, fp, e, sb _ _ hp (fun z => by
      rw [z, ho] at hp
      cases hp
      have h : fs = [] := so
      rw [h] at l1
      cases l1), dc, l1, l2, l3, l4, l5, mc, fun x hx => ⟨sb _ _ (hf x hx).1 (fun z => by
      have h := (hf x hx).1
      rw [z, ho] at h
      cases h
      exact (hf x hx).2 so), (hf x hx).2⟩, lt⟩
local macro_rules | `(tactic| walk_at "rd1") => `(tactic| first | (with_reducible refine rd_dput ?_) | (with_reducible refine rd_dget ?_) | (with_reducible refine rd_din ?_) | (with_reducible refine rd_dnotin ?_) | (with_reducible refine rd_iKeysK ?_) | (with_reducible refine rd_iItemsK ?_) | (with_reducible refine rd_iItemsT ?_) | (with_reducible refine rd_dget2 ?_) | ((with_reducible refine rd_dnewK ?_); intro p' H' n' S' e') | ((with_reducible refine rd_dnewT ?_); intro p' H' n' S' e'))
theorem rd_append {H : Hp} {Q : VK} {l : Addr} {xs : List V} {y : V} (e : H l = some (.lst xs)) (hz : xs.length < sizeLine) (h : ∀ H', SameBut l H H' → H' l = some (.lst (xs ++ [y])) → Q .non H') : rAppend (.ref l) [y] H Q :=
  ⟨l, xs, y, rfl, rfl, e, hz, h _ SameBut.upd upd_same⟩
def sp_turns : Sp := fun vs H Q _ => ∃ (f l : Int), vs = [.int f, .int l] ∧ 0 ≤ f ∧ f ≤ l ∧ Q .non H
theorem r_turns {H : Hp} {Q : VK} {E : XK} {f l : Int} (h0 : 0 ≤ f) (h1 : f ≤ l) (h : Q .non H) : sp_turns [.int f, .int l] H Q E := ⟨_, _, rfl, h0, h1, h⟩
theorem ok_need_turns (m : M K mg) : FnOk P w K mg base CX0 1 m.a_need_turns m.d_need_turns ["first", "last"] (sp_turns) := by
  refine m.F_need_turns.ok sc_need_turns (fun vs H Q E h => ?_) (fun cdv A outer s H vs Q E hr h => ?_)
  · obtain ⟨f, l, rfl, h0, h1, k⟩ := h
    rfl
  · obtain ⟨f, l, rfl, h0, h1, k⟩ := h
    have nd := sc_need_turns.nd
    have hu0 := Room.units0 hr
    have hu1 := Room.units1 hr
    have hu9 := Room.units9 hr
    refine ⟨_, (pss_cons (ps_if (pt_cmpR op_lt (pv 0) pe_int (nomark _)) (pss_one ps_never) pss_nil)
      (pss_one (ps_if (pt_cmpR op_lt (pv 1) (pv 0) (nomark _)) (pss_one ps_never) pss_nil))), ?_⟩
    refine rd_start (σ := [some (.int f), some (.int l)]) rfl ?_
    walk_at "go"
    exact k
theorem fc_need_turns (m : M K mg) : Fc P w K mg base "need_turns" 1 ["first", "last"] (sp_turns) := ⟨_, _, m.m_need_turns, m.F_need_turns.kp, m.b_need_turns, ok_need_turns m⟩
def sp_once (K : W.Frag) : Sp := fun vs H Q _ => ∃ (a : Addr) (ss : List Str), vs = [.ref a] ∧ SqL K H a (ss.map V.str) ∧ ss.Nodup ∧ ss.length ≤ 100 ∧ ∀ H', Same H H' → Q .non H'
theorem r_once {H : Hp} {Q : VK} {E : XK} {a : Addr} {ss : List Str} (hS : SqL K H a (ss.map V.str)) (nd : ss.Nodup) (hl : ss.length ≤ 100) (h : ∀ H', Same H H' → Q .non H') : sp_once K [.ref a] H Q E := ⟨_, _, rfl, hS, nd, hl, h⟩
theorem take_new {α : Type} {ss : List α} (nd : ss.Nodup) {i : Nat} {z : α} (hz : ss[i]? = some z) : z ∉ ss.take i := fun h => by
  obtain ⟨hi, e⟩ := List.getElem?_eq_some_iff.mp hz
  obtain ⟨j, hj, ej⟩ := List.getElem_of_mem h
  rw [List.length_take] at hj
  rw [List.getElem_take] at ej
  exact (List.pairwise_iff_getElem.mp nd) j i (by omega) hi (by omega) (ej.trans e.symm)
theorem take_succ' {α : Type} {ss : List α} {i : Nat} {z : α} (hz : ss[i]? = some z) : ss.take (i + 1) = ss.take i ++ [z] := by rw [List.take_succ, hz]; rfl
theorem ok_need_each_once (m : M K mg) : FnOk P w K mg base CX0 1 m.a_need_each_once m.d_need_each_once ["names"] (sp_once K) := by
  refine m.F_need_each_once.ok sc_need_each_once (fun vs H Q E h => ?_) (fun cdv A outer s H vs Q E hr h => ?_)
  · obtain ⟨a, ss, rfl, hS, hnd, hlen, k⟩ := h
    rfl
  · obtain ⟨a, ss, rfl, hS, hnd, hlen, k⟩ := h
    have nd := sc_need_each_once.nd
    have hu0 := Room.units0 hr
    have hu1 := Room.units1 hr
    have hu9 := Room.units9 hr
    refine ⟨_, (pss_cons (ps_set (i := 1) nd rfl (by walk_at "oi") pe_dnewK)
      (pss_one (ps_for PassesOwn.never rfl (pi_list (pv 0)) (pg_name (i := 2) nd rfl (by walk_at "oi")) (pss_cons (ps_if (pt_cmp (pc_din hu1 (pv 2) (pv 1)) (by with_unfolding_all rfl)) (pss_one ps_never) pss_nil)
      (pss_one (ps_dput hu1 (pv 1) (pv 2) pe_bl rfl)))))), ?_⟩
    refine rd_start (σ := [some (.ref a), none, none]) rfl ?_
    walk_at "go"
    rename_i p H1 n1 S1 e1
    refine rd_forL (ss.map V.str) (fun i σ' H' => SameBut p H1 H' ∧ ∃ kvs, H' p = some (.dK kvs) ∧ kvs.length ≤ i ∧ (∀ z, (valV kvs (.inr z)).isSome = true → z ∈ ss.take i) ∧ ∃ x, σ' = [some (.ref a), some (.ref p), x]) ⟨SameBut.refl, [], e1, Nat.le_refl _, (fun z h => by cases h), _, rfl⟩ (fun i σ' H' _ q => (SameBut.same n1 S1 q.1).seq hS) ?_ ?_
    · rintro i x _ H' hx ⟨sb, kvs, ek, hk, hin, y, rfl⟩
      rw [List.getElem?_map] at hx
      obtain ⟨z, hz, rfl⟩ := Option.map_eq_some_iff.mp hx
      have hi : i < ss.length := (List.getElem?_eq_some_iff.mp hz).1
      have hno : (valV kvs (.inr z)).isSome = false := by
        cases e : (valV kvs (.inr z)).isSome with
        | false => rfl
        | true => exact absurd (hin z e) (take_new hnd hz)
      walk_at "go"
      refine rd_dinS (.inl ek) ?_
      rw [hno]
      walk_at "go"
      refine rd_dputS ek (by rw [sizeLine_eq]; omega) fun H9 B9 e9 => ?_
      refine ⟨by walk_at "sb", _, e9, Nat.le_trans (length_putK _ _ _) (by omega), fun y hy => ?_, _, rfl⟩
      rw [valV_put] at hy
      rw [take_succ' hz]
      by_cases e : (Sum.inr y : Key) = .inr z
      · cases e; exact List.mem_append_right _ (.head _)
      · rw [if_neg e] at hy
        exact List.mem_append_left _ (hin y hy)
    · rintro _ H' ⟨sb, kvs, ek, hk, hin, y, rfl⟩
      exact k _ (SameBut.same n1 S1 sb)
theorem fc_need_each_once (m : M K mg) : Fc P w K mg base "need_each_once" 1 ["names"] (sp_once K) := ⟨_, _, m.m_need_each_once, m.F_need_each_once.kp, m.b_need_each_once, ok_need_each_once m⟩
def DoorIn (rs : List Str) (d : DoorG) : Prop := d.2.1 ∈ rs ∧ (d.2.2.1 = .non ∨ ∃ z, d.2.2.1 = .str z ∧ z ∈ rs)
def PplAt (H : Hp) (v : V) (p : Str × Int) : Prop := ∃ q, v = .ref q ∧ H q = some (.tup [.str p.1, .int p.2])
theorem ppl_sm {H H' : Hp} {vs : List V} {ps : List (Str × Int)} (h : Paired (PplAt H) vs ps) (s : Same H H') : Paired (PplAt H') vs ps := Paired.imp' (fun v z ⟨q, e, h⟩ => ⟨q, e, s _ _ h⟩) h
def sp_spoken (K : W.Frag) (D : DoorP) : Sp := fun vs H Q _ => ∃ (a b : Addr) (us : List V) (ds : List DoorG) (rs : List Str) (ws : List V) (ps : List (Str × Int)), vs = [.ref a, .ref b] ∧ SqL K H a us ∧ Paired (D.at' H) us ds ∧ (∀ d ∈ ds, DoorIn rs d) ∧ ds.length ≤ 20 ∧ SqL K H b ws ∧ Paired (PplAt H) ws ps ∧ (∀ p ∈ ps, p.1 ∈ rs) ∧ ps.length ≤ 40 ∧ ∀ p (ss : List Str) H', Same H H' → H' p = some (.lst (ss.map V.str)) → (∀ z ∈ ss, z ∈ rs) → ss.length ≤ 80 → Q (.ref p) H'
theorem r_spoken {D : DoorP} {H : Hp} {Q : VK} {E : XK} {a b : Addr} {us : List V} {ds : List DoorG} {rs : List Str} {ws : List V} {ps : List (Str × Int)} (hS : SqL K H a us) (hd : Paired (D.at' H) us ds) (hr : ∀ d ∈ ds, DoorIn rs d) (hl : ds.length ≤ 20) (hb : SqL K H b ws) (hw : Paired (PplAt H) ws ps) (hwr : ∀ p ∈ ps, p.1 ∈ rs) (hwl : ps.length ≤ 40) (h : ∀ p (ss : List Str) H', Same H H' → H' p = some (.lst (ss.map V.str)) → (∀ z ∈ ss, z ∈ rs) → ss.length ≤ 80 → Q (.ref p) H') : sp_spoken K D [.ref a, .ref b] H Q E := ⟨_, _, _, _, _, _, _, rfl, hS, hd, hr, hl, hb, hw, hwr, hwl, h⟩
theorem ok_rooms_spoken_of (m : M K mg) : FnOk P w K mg base CX0 2 m.a_rooms_spoken_of m.d_rooms_spoken_of ["doors", "people"] (sp_spoken K (doorP P w K mg base (some 5))) := by
  refine m.F_rooms_spoken_of.ok sc_rooms_spoken_of (fun vs H Q E h => ?_) (fun cdv A outer s H vs Q E hr h => ?_)
  · obtain ⟨a, b, us, ds, rs, ws, ps, rfl, hS, hd, hr', hlen, hb, hw, hwr, hwl, k⟩ := h
    rfl
  · obtain ⟨a, b, us, ds, rs, ws, ps, rfl, hS, hd, hr', hlen, hb, hw, hwr, hwl, k⟩ := h
    have nd := sc_rooms_spoken_of.nd
    have hu0 := Room.units0 hr
    have hu1 := Room.units1 hr
    have hu9 := Room.units9 hr
    refine ⟨_, (pss_cons (ps_set (i := 2) nd rfl (by walk_at "oi") (pe_lst pa_nil))
      (pss_cons (ps_for PassesOwn.never rfl (pi_list (pv 0)) (pg_name (i := 3) nd rfl (by walk_at "oi")) (pss_cons (ps_expr (pe_bm PySem.F.plainAttrs_list PySem.F.slot_list_append PySem.F.type_list_append mt_append (pv 2) (pa_cons (pe_fld (pv 3) rfl) pa_nil)))
      (pss_one (ps_if (pt_not (pt_val (pe_md0 1 hr (pv 3)))) (pss_one (ps_expr (pe_bm PySem.F.plainAttrs_list PySem.F.slot_list_append PySem.F.type_list_append mt_append (pv 2) (pa_cons (pe_fld (pv 3) rfl) pa_nil)))) pss_nil))))
      (pss_one (ps_ret (pe_op op_cat (pv 2) (pe_comp (N := ["room", "number"]) (nl := 2) (ci := []) rfl (blk (s.heap.objs.size + 1) rfl rfl rfl (by kernel_rfl)) (pi_list (pv 1)) (fun _ _ _ _ => (pg_tupK (K := K) (n := 2) rfl (pgs_cons (pg_name (i := 0) (show (["room", "number"] : List Str).Nodup by decide +kernel) rfl (by walk_at "oi")) (pgs_cons (pg_name (i := 1) (show (["room", "number"] : List Str).Nodup by decide +kernel) rfl (by walk_at "oi")) pgs_nil)))) (fun _ _ _ _ => pf_nil) (fun _ _ _ _ => (pv 0)))))))), ?_⟩
    refine rd_start (σ := [some (.ref a), some (.ref b), none, none]) rfl ?_
    have hul : us.length = ds.length := Paired.length hd
    walk_at "go"
    rename_i p H1 n1 S1 e1
    refine rd_forL us (fun i σ' H' => SameBut p H1 H' ∧ (∃ ss : List Str, H' p = some (.lst (ss.map V.str)) ∧ (∀ z ∈ ss, z ∈ rs) ∧ ss.length ≤ 2 * i) ∧ ∃ x, σ' = [some (.ref a), some (.ref b), some (.ref p), x]) ⟨SameBut.refl, ⟨[], e1, (fun _ z => nomatch z), Nat.le_refl _⟩, _, rfl⟩ (fun i σ' H' _ q => (SameBut.same n1 S1 q.1).seq hS) ?_ ?_
    · rintro i x _ H' hx ⟨sb, ⟨ss, es, hin, hsl⟩, y, rfl⟩
      have hi : i < us.length := (List.getElem?_eq_some_iff.mp hx).1
      obtain ⟨d, hdx⟩ : ∃ d, ds[i]? = some d := ⟨_, List.getElem?_eq_getElem (by omega)⟩
      obtain ⟨n, st, e, lt⟩ := d
      obtain ⟨q, C9, dx, fs, fp, rfl, hq, dcC, l1, l2, l3, l4, l5, mcE, hfp, hlt⟩ := DoorAt.ex (Paired.at2 hd hx hdx)
      obtain ⟨r1, r2⟩ := hr' _ (List.mem_of_getElem? hdx)
      have hqp : q ≠ p := fun z => by rw [z, n1] at hq; cases hq
      have hq' : H' q = some (.ins C9 dx fs) := sb _ _ (S1 _ _ hq) hqp
      rcases r2 with r2 | ⟨z, r2, r3⟩
      · have r2 : e = .non := r2
        subst r2
        walk_at "go"
        refine rd_append es (by rw [sizeLine_eq, List.length_map]; omega) fun H8 B8 e8 => ?_
        have hq8 := B8 _ _ hq' hqp
        walk_at "go"
        exact ⟨by walk_at "sb", ⟨ss ++ [st], by rw [e8, List.map_append]; rfl, fun z hz => (List.mem_append.mp hz).elim (hin z) (fun w => by cases List.mem_singleton.mp w; exact r1), by rw [List.length_append]; show ss.length + 1 ≤ _; omega⟩, _, rfl⟩
      · have r2 : e = .str z := r2
        subst r2
        walk_at "go"
        refine rd_append es (by rw [sizeLine_eq, List.length_map]; omega) fun H8 B8 e8 => ?_
        have hq8 := B8 _ _ hq' hqp
        walk_at "go"
        refine rd_append e8 (by rw [sizeLine_eq, List.length_append, List.length_map]; show ss.length + 1 < _; omega) fun H9 B9 e9 => ?_
        walk_at "go"
        refine ⟨by walk_at "sb", ⟨ss ++ [st] ++ [z], by rw [e9, List.map_append, List.map_append]; rfl, fun z hz => ?_, by rw [List.length_append, List.length_append]; show ss.length + 1 + 1 ≤ _; omega⟩, _, rfl⟩
        rcases List.mem_append.mp hz with hz | hz
        · exact (List.mem_append.mp hz).elim (hin z) (fun w => by cases List.mem_singleton.mp w; exact r1)
        · cases List.mem_singleton.mp hz; exact r3
    · rintro _ H' ⟨sb, ⟨ss, es, hin, hsl⟩, y, rfl⟩
      have sH : Same H H' := SameBut.same n1 S1 sb
      have hb' := sH.seq hb
      walk_at "go"
      refine comp_L2 (α := Str × Int) (xs := ps) (vs := ws) (fun p => .str p.1) (fun p => .int p.2) (fun _ => true) (fun p y _ => y = .str p.1) (fun _ _ _ _ h _ => h) (by rw [sizeLine_eq]; omega) (rest := []) (by rfl) hb' (ppl_sm hw sH) (fun x H1 hx s1 R hR => hR _ (Same.refl _)) (fun x H1 hx _ s1 R hR => ?_) ?_
      · walk_at "go"
        exact hR _ _ rfl (Same.refl _)
      intro ys H2 s2 hys
      rw [filt_all] at hys
      obtain rfl := paired_eq hys
      walk_at "go"
      rename_i q3 H3 n3 S3 e3 q4 H4 n4 S4 e4
      refine k _ (ss ++ ps.map (·.1)) _ (by walk_at "sm") (by rw [e4, List.map_append, List.map_map]; rfl) (fun z hz => ?_) (by rw [List.length_append, List.length_map]; omega)
      rcases List.mem_append.mp hz with hz | hz
      · exact hin z hz
      · obtain ⟨p, hp, rfl⟩ := List.mem_map.mp hz
        exact hwr p hp
theorem fc_rooms_spoken_of (m : M K mg) : Fc P w K mg base "rooms_spoken_of" 2 ["doors", "people"] (sp_spoken K (doorP P w K mg base (some 5))) := ⟨_, _, m.m_rooms_spoken_of, m.F_rooms_spoken_of.kp, m.b_rooms_spoken_of, ok_rooms_spoken_of m⟩
def sp_rooms (K : W.Frag) : Sp := fun vs H Q _ => ∃ (a b : Addr) (ss : List Str) (kvs : List (Key × V)), vs = [.ref a, .ref b] ∧ SqL K H a (ss.map V.str) ∧ Rd H b (.dK kvs) ∧ (∀ z ∈ ss, (valV kvs (.inr z)).isSome = true) ∧ ∀ H', Same H H' → Q .non H'
theorem r_rooms {H : Hp} {Q : VK} {E : XK} {a b : Addr} {ss : List Str} {kvs : List (Key × V)} (hS : SqL K H a (ss.map V.str)) (hb : Rd H b (.dK kvs)) (hk : ∀ z ∈ ss, (valV kvs (.inr z)).isSome = true) (h : ∀ H', Same H H' → Q .non H') : sp_rooms K [.ref a, .ref b] H Q E := ⟨_, _, _, _, rfl, hS, hb, hk, h⟩
theorem same_rd {H H' : Hp} {a : Addr} {u : HO} (s : Same H H') (r : Rd H a u) : Rd H' a u := r.elim (fun e => .inl (s _ _ e)) fun ⟨o, e⟩ => .inr ⟨o, s _ _ e⟩
theorem ok_need_rooms (m : M K mg) : FnOk P w K mg base CX0 1 m.a_need_rooms m.d_need_rooms ["names", "sizes"] (sp_rooms K) := by
  refine m.F_need_rooms.ok sc_need_rooms (fun vs H Q E h => ?_) (fun cdv A outer s H vs Q E hr h => ?_)
  · obtain ⟨a, b, ss, kvs, rfl, hS, hb, hk, k⟩ := h
    rfl
  · obtain ⟨a, b, ss, kvs, rfl, hS, hb, hk, k⟩ := h
    have nd := sc_need_rooms.nd
    have hu0 := Room.units0 hr
    have hu1 := Room.units1 hr
    have hu9 := Room.units9 hr
    refine ⟨_, (pss_one (ps_for PassesOwn.never rfl (pi_list (pv 0)) (pg_name (i := 2) nd rfl (by walk_at "oi")) (pss_one (ps_if (pt_cmp (pc_dnotin hu1 (pv 2) (pv 1)) (by with_unfolding_all rfl)) (pss_one ps_never) pss_nil)))), ?_⟩
    refine rd_start (σ := [some (.ref a), some (.ref b), none]) rfl ?_
    walk_at "go"
    refine rd_forL (ss.map V.str) (fun i σ' H' => Same H H' ∧ ∃ x, σ' = [some (.ref a), some (.ref b), x]) ⟨Same.refl _, _, rfl⟩ (fun i σ' H' _ q => q.1.seq hS) ?_ ?_
    · rintro i x _ H' hx ⟨s1, y, rfl⟩
      rw [List.getElem?_map] at hx
      obtain ⟨z, hz, rfl⟩ := Option.map_eq_some_iff.mp hx
      have hz' := hk z (List.mem_of_getElem? hz)
      walk_at "go"
      refine rd_dnotinS (same_rd s1 hb) ?_
      rw [hz']
      walk_at "go"
      exact ⟨s1, _, rfl⟩
    · rintro _ H' ⟨s1, y, rfl⟩
      exact k _ s1
theorem fc_need_rooms (m : M K mg) : Fc P w K mg base "need_rooms" 1 ["names", "sizes"] (sp_rooms K) := ⟨_, _, m.m_need_rooms, m.F_need_rooms.kp, m.b_need_rooms, ok_need_rooms m⟩
theorem rd_addII {H : Hp} {Q : VK} {i j : Int} (h : Q (.int (i + j)) H) : rAdd (.int i) (.int j) H Q := by
  first | exact h | exact ⟨_, _, rfl, rfl, h⟩ | exact .inl ⟨_, _, rfl, rfl, h⟩
theorem sqL_butK {H H' : Hp} {p c : Addr} {kvs : List (Key × V)} {xs : List V} (h : SqL K H c xs) (hp : H p = some (.dK kvs)) (sb : SameBut p H H') : SqL K H' c xs := by
  rcases h with (h | ⟨o, h⟩) | h
  · exact .inl (.inl (sb _ _ h fun z => by rw [z, hp] at h; cases h))
  · exact .inl (.inr ⟨o, sb _ _ h fun z => by rw [z, hp] at h; cases h⟩)
  · exact .inr h
def szK (rz : List (Str × Int)) : List (Key × V) := rz.map fun e => ((.inr e.1 : Key), V.int e.2)
theorem sz_keys (rz : List (Str × Int)) : (szK rz).map (·.1) = (rz.map (·.1)).map (Sum.inr : Str → Key) := by unfold szK; rw [List.map_map, List.map_map]; rfl
theorem inr_nodup {rs : List Str} (nd : rs.Nodup) : (rs.map (Sum.inr : Str → Key)).Nodup := by
  rw [List.Nodup, List.pairwise_map]
  exact List.Pairwise.imp (fun h z => h (Sum.inr.inj z)) nd
theorem sz_nodup {rz : List (Str × Int)} (nd : (rz.map (·.1)).Nodup) : ((szK rz).map (·.1)).Nodup := by rw [sz_keys]; exact inr_nodup nd
theorem valV_sz {rz : List (Str × Int)} (nd : (rz.map (·.1)).Nodup) {e : Str × Int} (h : e ∈ rz) : valV (szK rz) (.inr e.1) = some (.int e.2) :=
  valV_at (e := ((.inr e.1 : Key), V.int e.2)) (sz_nodup nd) (List.mem_map.mpr ⟨e, h, rfl⟩)
theorem valV_szN {rz : List (Str × Int)} (nd : (rz.map (·.1)).Nodup) {z : Str} (h : z ∈ rz.map (·.1)) : ∃ i, (z, i) ∈ rz ∧ valV (szK rz) (.inr z) = some (.int i) := by
  obtain ⟨e, he, rfl⟩ := List.mem_map.mp h
  exact ⟨e.2, he, valV_sz nd he⟩
theorem valV_none {kvs : List (Key × V)} {k : Key} (h : ∀ e ∈ kvs, e.1 ≠ k) : valV kvs k = none := by
  induction kvs with
  | nil => rfl
  | cons a l ih =>
    rw [valV_neg (h a (.head _))]
    exact ih fun e he => h e (List.mem_cons_of_mem _ he)
theorem merge_app : ∀ (ps kvs : List (Key × V)), (ps.map (·.1)).Nodup → (∀ e ∈ kvs, ∀ q ∈ ps, e.1 ≠ q.1) → mergeK kvs ps = kvs ++ ps
  | [], kvs, _, _ => (List.append_nil _).symm
  | (k, v) :: ps, kvs, nd, h => by
    have nd' := List.pairwise_cons.mp nd
    show mergeK (putK kvs k v) ps = _
    rw [putK_new v (valV_none fun e he => h e he _ (.head _)), merge_app ps _ nd'.2, List.append_assoc]
    · rfl
    · intro e he q hq
      rcases List.mem_append.mp he with he | he
      · exact h e he q (List.mem_cons_of_mem _ hq)
      · cases List.mem_singleton.mp he
        exact nd'.1 q.1 (List.mem_map.mpr ⟨q, hq, rfl⟩)
theorem merge_sz {rz : List (Str × Int)} (nd : (rz.map (·.1)).Nodup) : mergeK [] (szK rz) = szK rz := by
  rw [merge_app _ _ (sz_nodup nd) (fun e he => absurd he (List.not_mem_nil))]; rfl
theorem nf_dK {kvs : List (Key × V)} : ∀ (o : Obj) (x : HO), HO.dK kvs ≠ .frz o x := fun _ _ z => by cases z
def Inside (rz : List (Str × Int)) (ps : List (Str × Int)) (kvs : List (Key × V)) : Prop := ∀ z ∈ rz.map (·.1), valV kvs (.inr z) = some (.int (psum ps z))
def sp_added (K : W.Frag) : Sp := fun vs H Q _ => ∃ (a b : Addr) (rz : List (Str × Int)) (ws : List V) (ps : List (Str × Int)), vs = [.ref a, .ref b] ∧ H a = some (.dK (szK rz)) ∧ SqL K H b ws ∧ Paired (PplAt H) ws ps ∧ (∀ p ∈ ps, p.1 ∈ rz.map (·.1)) ∧ (rz.map (·.1)).Nodup ∧ rz.length ≤ 100 ∧ ∀ p H' kvs, H p = none → Same H H' → H' p = some (.dK kvs) → kvs.map (·.1) = (szK rz).map (·.1) → Inside rz ps kvs → Q (.ref p) H'
theorem r_added {H : Hp} {Q : VK} {E : XK} {a b : Addr} {rz : List (Str × Int)} {ws : List V} {ps : List (Str × Int)} (ha : H a = some (.dK (szK rz))) (hb : SqL K H b ws) (hw : Paired (PplAt H) ws ps) (hwr : ∀ p ∈ ps, p.1 ∈ rz.map (·.1)) (nd : (rz.map (·.1)).Nodup) (hl : rz.length ≤ 100) (h : ∀ p H' kvs, H p = none → Same H H' → H' p = some (.dK kvs) → kvs.map (·.1) = (szK rz).map (·.1) → Inside rz ps kvs → Q (.ref p) H') : sp_added K [.ref a, .ref b] H Q E := ⟨_, _, _, _, _, rfl, ha, hb, hw, hwr, nd, hl, h⟩
theorem put_keys {kvs : List (Key × V)} {k : Key} {v : V} (h : (valV kvs k).isSome = true) : (putK kvs k v).map (·.1) = kvs.map (·.1) := by
  unfold putK
  rw [valV_any, if_pos h, List.map_map]
  apply List.map_congr_left
  intro x _
  show (if x.1 = k then (x.1, v) else x).1 = x.1
  split <;> rfl
theorem ok_added_people (m : M K mg) : FnOk P w K mg base CX0 1 m.a_added_people m.d_added_people ["sizes", "people"] (sp_added K) := by
  refine m.F_added_people.ok sc_added_people (fun vs H Q E h => ?_) (fun cdv A outer s H vs Q E hr h => ?_)
  · obtain ⟨a, b, rz, ws, ps, rfl, ha, hb, hw, hwr, ndz, hlen, k⟩ := h
    rfl
  · obtain ⟨a, b, rz, ws, ps, rfl, ha, hb, hw, hwr, ndz, hlen, k⟩ := h
    have nd := sc_added_people.nd
    have hu0 := Room.units0 hr
    have hu1 := Room.units1 hr
    have hu9 := Room.units9 hr
    refine ⟨_, (pss_cons (ps_set (i := 2) nd rfl (by walk_at "oi") pe_dnewK)
      (pss_cons (ps_thaw (ps_for PassesOwn.never rfl (pi_keysK (pv 0)) (pg_name (i := 3) nd rfl (by walk_at "oi")) (pss_one (ps_dput hu1 (pv 2) (pv 3) pe_int rfl))))
      (pss_cons (ps_for PassesOwn.never rfl (pi_list (pv 1)) (pg_tup rfl (pgs_cons (pg_name (i := 3) nd rfl (by walk_at "oi")) (pgs_cons (pg_name (i := 4) nd rfl (by walk_at "oi")) pgs_nil))) (pss_one (ps_daug hu1 (pv 2) (pv 3) (pv 4) in_add (fun _ _ _ => rfl))))
      (pss_one (ps_ret (pv 2)))))), ?_⟩
    refine rd_start (σ := [some (.ref a), some (.ref b), none, none, none]) rfl ?_
    walk_at "go"
    rename_i p H1 n1 S1 e1
    have hap : a ≠ p := fun z => by rw [z, n1] at ha; cases ha
    have ha1 := S1 _ _ ha
    have hl2 : (szK rz).length = rz.length := by unfold szK; rw [List.length_map]
    refine rd_sThaw ha1 nf_dK ?_
    walk_at "go"
    refine rd_keysK ha1 fun o H2 B2 e2 => ?_
    have ep2 : H2 p = some (.dK []) := B2 _ _ e1 (Ne.symm hap)
    have hwl : ws.length = ps.length := Paired.length hw
    refine rd_forKs (szK rz) (fun i σ' H' => SameBut p H2 H' ∧ H' p = some (.dK ((rz.take i).map fun e => ((.inr e.1 : Key), V.int 0))) ∧ ∃ x, σ' = [some (.ref a), some (.ref b), some (.ref p), x, none]) ⟨SameBut.refl, ep2, _, rfl⟩ (fun i σ' H' q => q.1 _ _ e2 hap) ?_ ?_
    · rintro i kk v _ H' hx ⟨sb, ek, y, rfl⟩
      unfold szK at hx
      rw [List.getElem?_map] at hx
      obtain ⟨⟨z, sz⟩, hz, ez⟩ := Option.map_eq_some_iff.mp hx
      cases ez
      have hi : i < rz.length := (List.getElem?_eq_some_iff.mp hz).1
      have hnone : valV ((rz.take i).map fun e => ((.inr e.1 : Key), V.int 0)) (.inr z) = none := valV_none fun e he => by
        obtain ⟨d, hd, rfl⟩ := List.mem_map.mp he
        intro zz
        have hn : z ∉ (rz.map (·.1)).take i := take_new ndz (by rw [List.getElem?_map, hz]; rfl)
        apply hn
        rw [← List.map_take]
        exact List.mem_map.mpr ⟨d, hd, Sum.inr.inj zz⟩
      show (_ : TG) (.str z) _ _ _
      walk_at "go"
      refine rd_dputS ek (by rw [sizeLine_eq, List.length_map, List.length_take]; omega) fun H9 B9 e9 => ?_
      refine ⟨by walk_at "sb", ?_, _, rfl⟩
      rw [e9, putK_new _ hnone, take_succ' hz, List.map_append]; rfl
    · rintro _ H' ⟨sb, ek, y, rfl⟩
      rw [hl2, List.take_length] at ek
      refine rd_thawed (sb _ _ e2 hap) fun H3 B3 e3 => ?_
      have ep3 := B3 _ _ ek (Ne.symm hap)
      have sH : Same H H3 := fun x u hx => by
        by_cases ex : x = a
        · subst ex; rw [ha] at hx; cases hx; exact e3
        · have hxp : x ≠ p := fun z => by rw [z, n1] at hx; cases hx
          exact B3 _ _ (sb _ _ (B2 _ _ (S1 _ _ hx) ex) hxp) ex
      have hb3 := sH.seq hb
      have hw3 := ppl_sm hw sH
      have hnb : ∀ {H' : Hp} {v : V} {r : Str × Int}, SameBut p H3 H' → PplAt H3 v r → PplAt H' v r := fun sb ⟨q, e, hq⟩ => ⟨q, e, sb _ _ hq fun z => by rw [z, ep3] at hq; cases hq⟩
      walk_at "go"
      refine rd_forL ws (fun i σ' H' => SameBut p H3 H' ∧ (∃ kvs, H' p = some (.dK kvs) ∧ kvs.map (·.1) = (szK rz).map (·.1) ∧ Inside rz (ps.take i) kvs) ∧ ∃ x y, σ' = [some (.ref a), some (.ref b), some (.ref p), x, y]) ⟨SameBut.refl, ⟨_, ep3, ?_, ?_⟩, _, _, rfl⟩ (fun i σ' H' _ q => sqL_butK hb3 ep3 q.1) ?_ ?_
      · unfold szK; rw [List.map_map, List.map_map]; rfl
      · intro z hz
        obtain ⟨e, he, rfl⟩ := List.mem_map.mp hz
        exact valV_at (e := ((.inr e.1 : Key), V.int 0)) (by rw [show (rz.map fun e => ((.inr e.1 : Key), V.int 0)).map (·.1) = (szK rz).map (·.1) from by unfold szK; rw [List.map_map, List.map_map]; rfl]; exact sz_nodup ndz) (List.mem_map.mpr ⟨e, he, rfl⟩)
      · rintro i x _ H' hx ⟨sb', ⟨kvs, ek', hkk, hin⟩, x1, x2, rfl⟩
        have hi : i < ws.length := (List.getElem?_eq_some_iff.mp hx).1
        obtain ⟨⟨z, nn⟩, hpx⟩ : ∃ d, ps[i]? = some d := ⟨_, List.getElem?_eq_getElem (by omega)⟩
        obtain ⟨q, rfl, hq⟩ := Paired.at2 hw3 hx hpx
        have hq' : H' q = some (.tup [.str z, .int nn]) := sb' _ _ hq fun zz => by rw [zz, ep3] at hq; cases hq
        have hzr : z ∈ rz.map (·.1) := hwr _ (List.mem_of_getElem? hpx)
        have hkl : kvs.length = rz.length := by rw [← List.length_map (f := fun e : Key × V => e.1), hkk, List.length_map, hl2]
        walk_at "go"
        refine rd_daug ?_
        walk_at "go"
        refine rd_daugS (.inl ek') (hin z hzr) ?_
        walk_at "go"
        refine rd_addII ?_
        refine rd_augS ek' (by rw [sizeLine_eq]; omega) fun H9 B9 e9 => ?_
        refine ⟨by walk_at "sb", ⟨_, e9, ?_, fun y hy => ?_⟩, _, _, rfl⟩
        · rw [put_keys (by rw [hin z hzr]; rfl)]; exact hkk
        · rw [valV_put, take_succ' hpx, psum_snoc]
          by_cases e : (Sum.inr y : Key) = .inr z
          · cases e
            rw [if_pos rfl, if_pos rfl]
          · rw [if_neg e, if_neg (fun zz => e (by rw [show z = y from zz])), Int.add_zero]
            exact hin y hy
      · rintro _ H' ⟨sb', ⟨kvs, ek', hkk, hin⟩, x1, x2, rfl⟩
        rw [hwl, List.take_length] at hin
        walk_at "go"
        exact k _ _ _ n1 (SameBut.same n1 (fun x u hx => sH x u hx) sb') ek' hkk hin
theorem fc_added_people (m : M K mg) : Fc P w K mg base "added_people" 1 ["sizes", "people"] (sp_added K) := ⟨_, _, m.m_added_people, m.F_added_people.kp, m.b_added_people, ok_added_people m⟩
def Fits (rz ps : List (Str × Int)) : Prop := (∀ p ∈ ps, 0 ≤ p.2) ∧ ∀ e ∈ rz, psum ps e.1 ≤ e.2
def sp_space (K : W.Frag) : Sp := fun vs H Q _ => ∃ (a b : Addr) (rz : List (Str × Int)) (ws : List V) (ps : List (Str × Int)), vs = [.ref a, .ref b] ∧ H a = some (.dK (szK rz)) ∧ SqL K H b ws ∧ Paired (PplAt H) ws ps ∧ (∀ p ∈ ps, p.1 ∈ rz.map (·.1)) ∧ (rz.map (·.1)).Nodup ∧ rz.length ≤ 100 ∧ ps.length ≤ 100 ∧ Fits rz ps ∧ ∀ H', Same H H' → Q .non H'
theorem r_space {H : Hp} {Q : VK} {E : XK} {a b : Addr} {rz : List (Str × Int)} {ws : List V} {ps : List (Str × Int)} (ha : H a = some (.dK (szK rz))) (hb : SqL K H b ws) (hw : Paired (PplAt H) ws ps) (hwr : ∀ p ∈ ps, p.1 ∈ rz.map (·.1)) (nd : (rz.map (·.1)).Nodup) (hl : rz.length ≤ 100) (hpl : ps.length ≤ 100) (hf : Fits rz ps) (h : ∀ H', Same H H' → Q .non H') : sp_space K [.ref a, .ref b] H Q E := ⟨_, _, _, _, _, rfl, ha, hb, hw, hwr, nd, hl, hpl, hf, h⟩
theorem all_false {α : Type} : ∀ {l : List α} {ys : List V}, Paired (fun _ y => y = V.bl false) l ys → ys = (l.map fun _ => false).map V.bl
  | _, _, .nil => rfl
  | _, _, .cons h t => by rw [h, all_false t]; rfl
theorem any_false {α : Type} (l : List α) : (l.map fun _ => false).any id = false := by simp
theorem ok_need_space (m : M K mg) : FnOk P w K mg base CX0 2 m.a_need_space m.d_need_space ["sizes", "people"] (sp_space K) := by
  refine m.F_need_space.ok sc_need_space (fun vs H Q E h => ?_) (fun cdv A outer s H vs Q E hr h => ?_)
  · obtain ⟨a, b, rz, ws, ps, rfl, ha, hb, hw, hwr, ndz, hlen, hpl, hf, k⟩ := h
    rfl
  · obtain ⟨a, b, rz, ws, ps, rfl, ha, hb, hw, hwr, ndz, hlen, hpl, hf, k⟩ := h
    have nd := sc_need_space.nd
    have hu0 := Room.units0 hr
    have hu1 := Room.units1 hr
    have hu9 := Room.units9 hr
    have F_added_people := fc_added_people (P := P) (w := w) (base := base) m
    refine ⟨_, (pss_cons (ps_if (pt_val (pe_callB (call_anyB rfl) rfl m.g_any bt_any (pa_cons (pe_comp (N := ["room", "number"]) (nl := 2) (ci := []) rfl (blk (s.heap.objs.size + 1) rfl rfl rfl (by kernel_rfl)) (pi_list (pv 1)) (fun _ _ _ _ => (pg_tupK (K := K) (n := 2) rfl (pgs_cons (pg_name (i := 0) (show (["room", "number"] : List Str).Nodup by decide +kernel) rfl (by walk_at "oi")) (pgs_cons (pg_name (i := 1) (show (["room", "number"] : List Str).Nodup by decide +kernel) rfl (by walk_at "oi")) pgs_nil)))) (fun _ _ _ _ => pf_nil) (fun _ _ _ _ => (pe_cmpR op_lt (pv 1) pe_int (nomark _)))) pa_nil))) (pss_one ps_never) pss_nil)
      (pss_cons (ps_set (i := 2) nd rfl (by walk_at "oi") (pe_f F_added_people hr (pa_cons (pv 0) (pa_cons (pv 1) pa_nil))))
      (pss_one (ps_if (pt_val (pe_callB (call_anyB rfl) rfl m.g_any bt_any (pa_cons (pe_thaw (pe_comp (N := ["room", "inside", "sizes"]) (nl := 1) (ci := [2, 0]) rfl (blk (s.heap.objs.size + 1) rfl rfl rfl (by kernel_rfl)) (pi_keysK (pv 0)) (fun _ _ _ _ => (pg_name (i := 0) (show (["room", "inside", "sizes"] : List Str).Nodup by decide +kernel) rfl (by walk_at "oi"))) (fun _ _ _ _ => pf_nil) (fun _ _ _ _ => (pe_cmpR op_gt (pe_dget hu1 (pv 1) (pv 0) (fun _ _ => rfl)) (pe_dget hu1 (pv 2) (pv 0) (fun _ _ => rfl)) (nomark _))))) pa_nil))) (pss_one ps_never) pss_nil)))), ?_⟩
    refine rd_start (σ := [some (.ref a), some (.ref b), none]) rfl ?_
    walk_at "go"
    refine comp_L2 (α := Str × Int) (xs := ps) (vs := ws) (fun p => .str p.1) (fun p => .int p.2) (fun _ => true) (fun p y _ => y = .bl false) (fun _ _ _ _ h _ => h) (by rw [sizeLine_eq]; omega) (rest := []) (by rfl) hb hw (fun x H1 hx s1 R hR => hR _ (Same.refl _)) (fun x H1 hx _ s1 R hR => ?_) ?_
    · have h0 := hf.1 x hx
      walk_at "go"
      exact hR _ _ (by rw [decide_eq_false (by omega)]) (Same.refl _)
    intro ys H2 s2 hys
    rw [filt_all] at hys
    obtain rfl := all_false hys
    walk_at "go"
    rename_i q H3 n3 S3 e3
    refine rd_any (SqL.of e3) ?_
    rw [any_false]
    walk_at "go"
    have sA : Same H H3 := s2.trans S3
    refine r_added (sA _ _ ha) (sA.seq hb) (ppl_sm hw sA) hwr ndz hlen fun p H4 kvs n4 S4 e4 hkk hv => ?_
    have ha4 := S4 _ _ (sA _ _ ha)
    walk_at "go"
    refine rd_tThaw ha4 nf_dK ?_
    walk_at "go"
    refine rd_keysK ha4 fun o H5 B5 e5 => ?_
    have hpa : p ≠ a := fun z => by rw [z, sA _ _ ha] at n4; cases n4
    have ep5 := B5 _ _ e4 hpa
    refine comp_K (fun _ => true) (fun _ y _ => y = .bl false) (fun _ _ _ _ h _ => h) (by rw [sizeLine_eq]; unfold szK; rw [List.length_map]; omega) (rest := [some (.ref p), some (.ref a)]) (by rfl) e5 (fun x H6 hx s6 R hR => hR _ (Same.refl _)) ?_ ?_
    · rintro x H6 hx - s6 R hR
      obtain ⟨e, he, rfl⟩ := List.mem_map.mp hx
      have hfe := hf.2 e he
      show (_ : TE) (some (V.str e.1) :: [some (.ref p), some (.ref a)]) H6 R
      walk_at "go"
      refine rd_dgetS (.inl (s6 _ _ ep5)) (hv e.1 (List.mem_map.mpr ⟨e, he, rfl⟩)) ?_
      walk_at "go"
      refine rd_dgetS (.inr ⟨o, s6 _ _ e5⟩) (valV_sz ndz he) ?_
      walk_at "go"
      exact hR _ _ (by rw [decide_eq_false (by omega)]) (Same.refl _)
    intro ys H6 s6 hys
    rw [filt_all] at hys
    obtain rfl := all_false hys
    walk_at "go"
    rename_i q7 H7 n7 S7 e7
    refine rd_thawed (S7 _ _ (s6 _ _ e5)) fun H8 B8 e8 => ?_
    have hq7 : q7 ≠ a := fun z => by rw [z, s6 _ _ e5] at n7; cases n7
    have e78 := B8 _ _ e7 hq7
    walk_at "go"
    refine rd_any (SqL.of e78) ?_
    rw [any_false]
    walk_at "go"
    exact k _ (thaw_same (ha) (fun x u hx hxa => B5 _ _ (S4 _ _ (sA _ _ hx)) hxa) (Same.but (s6.trans S7)) B8 e8)
theorem fc_need_space (m : M K mg) : Fc P w K mg base "need_space" 2 ["sizes", "people"] (sp_space K) := ⟨_, _, m.m_need_space, m.F_need_space.kp, m.b_need_space, ok_need_space m⟩
def RoomsAt (H : Hp) (vs : List V) (rz : List (Str × Int)) : Prop := Paired (PplAt H) vs rz
theorem RoomsAt.sm {H H' : Hp} {vs : List V} {rs : List (Str × Int)} (h : RoomsAt H vs rs) (s : Same H H') : RoomsAt H' vs rs := Paired.imp' (fun v z ⟨q, e, h⟩ => ⟨q, e, s _ _ h⟩) h
theorem rooms_prows {H : Hp} : ∀ {vs : List V} {rs : List (Str × Int)}, RoomsAt H vs rs → PRows H vs (szK rs)
  | _, _, .nil => .nil
  | _, _, .cons h t => .cons h (rooms_prows t)
theorem doors_sm {D : DoorP} {H H' : Hp} {us : List V} {ds : List DoorG} (h : Paired (D.at' H) us ds) (s : Same H H') : Paired (D.at' H') us ds := Paired.imp' (fun v d h => D.same h s) h
abbrev houseFs (f l : Int) (qs qp qd : Addr) : List (Str × V) := putF "named_doors" (.ref qd) (putF "people" (.ref qp) (putF "sizes" (.ref qs) (putF "last" (.int l) (putF "first" (.int f) []))))
def Named (D : DoorP) (H : Hp) (nk : List (Key × V)) (ds : List DoorG) : Prop := Paired (fun e d => e.1 = .inr d.1 ∧ D.at' H e.2 d) nk ds
theorem named_sm {D : DoorP} {H H' : Hp} {nk : List (Key × V)} {ds : List DoorG} (h : Named D H nk ds) (s : Same H H') : Named D H' nk ds := Paired.imp' (fun e d h => ⟨h.1, D.same h.2 s⟩) h
structure HouseAt (C : Addr) (D : DoorP) (H : Hp) (h : Addr) (f l : Int) (rz ps : List (Str × Int)) (ds : List DoorG) : Prop where
  ex : ∃ dx qs qp qd nk kvs, H h = some (.ins C dx (houseFs f l qs qp qd)) ∧ H qs = some (.dK (szK rz)) ∧ H qp = some (.dK kvs) ∧ kvs.map (·.1) = (szK rz).map (·.1) ∧ Inside rz ps kvs ∧ H qd = some (.dK nk) ∧ Named D H nk ds
theorem house_sm {C : Addr} {D : DoorP} {H H' : Hp} {h : Addr} {f l : Int} {rz ps : List (Str × Int)} {ds : List DoorG} (x : HouseAt C D H h f l rz ps ds) (s : Same H H') : HouseAt C D H' h f l rz ps ds := by
  obtain ⟨dx, qs, qp, qd, nk, kvs, e1, e2, e3, e4, e5, e6, e7⟩ := x.ex
  exact ⟨dx, qs, qp, qd, nk, kvs, s _ _ e1, s _ _ e2, s _ _ e3, e4, e5, s _ _ e6, named_sm e7 s⟩
theorem sqL_but {H H' : Hp} {p c C dx : Addr} {fs : List (Str × V)} {xs : List V} (h : SqL K H c xs) (hp : H p = some (.ins C dx fs)) (sb : SameBut p H H') : SqL K H' c xs := by
  rcases h with (h | ⟨o, h⟩) | h
  · exact .inl (.inl (sb _ _ h fun z => by rw [z, hp] at h; cases h))
  · exact .inl (.inr ⟨o, sb _ _ h fun z => by rw [z, hp] at h; cases h⟩)
  · exact .inr h
theorem paired_mem {α β : Type} {F : α → β → Prop} : ∀ {l : List α} {m : List β} {x : α}, Paired F l m → x ∈ l → ∃ y ∈ m, F x y
  | _, _, _, .cons r t, h => by
    rcases List.mem_cons.mp h with rfl | h
    · exact ⟨_, .head _, r⟩
    · obtain ⟨y, hy, f⟩ := paired_mem t h
      exact ⟨y, List.mem_cons_of_mem _ hy, f⟩
  | _, _, _, .nil, h => nomatch h
def sp_House_init (K : W.Frag) (D : DoorP) : Sp := fun vs H Q _ => ∃ (p C dx a b c : Addr) (ws us cs : List V) (rz ps : List (Str × Int)) (ds : List DoorG) (f l : Int), vs = [.ref p, .ref a, .ref b, .ref c, .int l, .int f] ∧ DCls K C ∧ H p = some (.ins C dx []) ∧ H a = some (.lst ws) ∧ RoomsAt H ws rz ∧ SqL K H b us ∧ Paired (D.at' H) us ds ∧ SqL K H c cs ∧ Paired (PplAt H) cs ps ∧
  (rz.map (·.1)).Nodup ∧ (ds.map (·.1)).Nodup ∧ (∀ d ∈ ds, DoorIn (rz.map (·.1)) d) ∧ (∀ p ∈ ps, p.1 ∈ rz.map (·.1)) ∧ Fits rz ps ∧ rz.length ≤ 20 ∧ ds.length ≤ 20 ∧ ps.length ≤ 40 ∧ 0 ≤ f ∧ f ≤ l ∧ ∀ H', SameBut p H H' → HouseAt C D H' p f l rz ps ds → Q .non H'
theorem r_House_init {D : DoorP} {H : Hp} {Q : VK} {E : XK} {p C dx a b c : Addr} {ws us cs : List V} {rz ps : List (Str × Int)} {ds : List DoorG} {f l : Int} (dc : DCls K C) (hp : H p = some (.ins C dx [])) (ha : H a = some (.lst ws)) (hr : RoomsAt H ws rz) (hb : SqL K H b us) (hd : Paired (D.at' H) us ds) (hc : SqL K H c cs) (hcp : Paired (PplAt H) cs ps) (nr : (rz.map (·.1)).Nodup) (nd : (ds.map (·.1)).Nodup) (hin : ∀ d ∈ ds, DoorIn (rz.map (·.1)) d) (hpr : ∀ p ∈ ps, p.1 ∈ rz.map (·.1)) (hf : Fits rz ps) (lr : rz.length ≤ 20) (ld : ds.length ≤ 20) (lp : ps.length ≤ 40) (h0 : 0 ≤ f) (h1 : f ≤ l)
    (k : ∀ H', SameBut p H H' → HouseAt C D H' p f l rz ps ds → Q .non H') : sp_House_init K D [.ref p, .ref a, .ref b, .ref c, .int l, .int f] H Q E := ⟨_, _, _, _, _, _, _, _, _, _, _, _, _, _, rfl, dc, hp, ha, hr, hb, hd, hc, hcp, nr, nd, hin, hpr, hf, lr, ld, lp, h0, h1, k⟩
theorem ok_House___init__ (m : M K mg) : FnOk P w K mg base CX0 4 m.a_House___init__ m.d_House___init__ ["self", "rooms", "doors", "people", "last", "first"] (sp_House_init K (doorP P w K mg base (some 5))) := by
  refine m.F_House___init__.ok sc_House___init__ (fun vs H Q E h => ?_) (fun cdv A outer s H vs Q E hr h => ?_)
  · obtain ⟨p, C, dx, a, b, c, ws, us, cs, rz, ps, ds, f, l, rfl, dc, hp, ha, hra, hb, hd, hc, hcp, nr, nd', hin, hpr, hf, lr, ld, lp, h0, h1, k⟩ := h
    rfl
  · obtain ⟨p, C, dx, a, b, c, ws, us, cs, rz, ps, ds, f, l, rfl, dc, hp, ha, hra, hb, hd, hc, hcp, nr, nd', hin, hpr, hf, lr, ld, lp, h0, h1, k⟩ := h
    have nd := sc_House___init__.nd
    have hu0 := Room.units0 hr
    have hu1 := Room.units1 hr
    have hu9 := Room.units9 hr
    have F_added_people := fc_added_people (P := P) (w := w) (base := base) m
    have F_need_each_once := fc_need_each_once (P := P) (w := w) (base := base) m
    have F_need_rooms := fc_need_rooms (P := P) (w := w) (base := base) m
    have F_need_space := fc_need_space (P := P) (w := w) (base := base) m
    have F_need_turns := fc_need_turns (P := P) (w := w) (base := base) m
    have F_rooms_spoken_of := fc_rooms_spoken_of (P := P) (w := w) (base := base) m
    refine ⟨_, (pss_cons (ps_expr (pe_f F_need_turns hr (pa_cons (pv 5) (pa_cons (pv 4) pa_nil))))
      (pss_cons (ps_expr (pe_f F_need_each_once hr (pa_cons (pe_comp (N := ["name", "size"]) (nl := 2) (ci := []) rfl (blk (s.heap.objs.size + 1) rfl rfl rfl (by kernel_rfl)) (pi_list (pv 1)) (fun _ _ _ _ => (pg_tupK (K := K) (n := 2) rfl (pgs_cons (pg_name (i := 0) (show (["name", "size"] : List Str).Nodup by decide +kernel) rfl (by walk_at "oi")) (pgs_cons (pg_name (i := 1) (show (["name", "size"] : List Str).Nodup by decide +kernel) rfl (by walk_at "oi")) pgs_nil)))) (fun _ _ _ _ => pf_nil) (fun _ _ _ _ => (pv 0))) pa_nil)))
      (pss_cons (ps_expr (pe_f F_need_each_once hr (pa_cons (pe_comp (N := ["door"]) (nl := 1) (ci := []) rfl (blk (s.heap.objs.size + 1) rfl rfl rfl (by kernel_rfl)) (pi_list (pv 2)) (fun _ _ _ _ => (pg_name (i := 0) (show (["door"] : List Str).Nodup by decide +kernel) rfl (by walk_at "oi"))) (fun _ _ _ _ => pf_nil) (fun _ _ _ _ => (pe_fldK (K := K) (pv 0) rfl))) pa_nil)))
      (pss_cons (ps_set (i := 6) nd rfl (by walk_at "oi") (pe_callTy (call_dictL rfl) rfl m.g_dict bt_dict (pa_cons (pv 1) pa_nil)))
      (pss_cons (ps_expr (pe_f F_need_rooms hr (pa_cons (pe_f F_rooms_spoken_of hr (pa_cons (pv 2) (pa_cons (pv 3) pa_nil))) (pa_cons (pv 6) pa_nil))))
      (pss_cons (ps_expr (pe_f F_need_space hr (pa_cons (pv 6) (pa_cons (pv 3) pa_nil))))
      (pss_cons (ps_fld (pv 0) (pv 5) rfl)
      (pss_cons (ps_fld (pv 0) (pv 4) rfl)
      (pss_cons (ps_fld (pv 0) (pv 6) rfl)
      (pss_cons (ps_fld (pv 0) (pe_f F_added_people hr (pa_cons (pv 6) (pa_cons (pv 3) pa_nil))) rfl)
      (pss_cons (ps_fld (pv 0) pe_dnewK rfl)
      (pss_one (ps_for PassesOwn.never rfl (pi_list (pv 2)) (pg_name (i := 7) nd rfl (by walk_at "oi")) (pss_one (ps_dput hu1 (pe_fld (pv 0) rfl) (pe_fld (pv 7) rfl) (pv 7) rfl))))))))))))))), ?_⟩
    refine rd_start (σ := [some (.ref p), some (.ref a), some (.ref b), some (.ref c), some (.int l), some (.int f), none, none]) rfl ?_
    have hul : us.length = ds.length := Paired.length hd
    have hwl : ws.length = rz.length := Paired.length hra
    walk_at "go"
    refine r_turns h0 h1 ?_
    walk_at "go"
    refine comp_L2 (α := Str × Int) (xs := rz) (vs := ws) (fun e => .str e.1) (fun e => .int e.2) (fun _ => true) (fun z y _ => y = .str z.1) (fun _ _ _ _ h _ => h) (by rw [sizeLine_eq]; omega) (rest := []) (by rfl) (SqL.of ha) hra (fun x H1 hx s1 R hR => hR _ (Same.refl _)) (fun x H1 hx _ s1 R hR => ?_) ?_
    · walk_at "go"
      exact hR _ _ rfl (Same.refl _)
    intro ys H1 s1 hys
    rw [filt_all] at hys
    obtain rfl := paired_eq hys
    walk_at "go"
    rename_i q1 H2 n2 S2 e2
    refine r_once (ss := rz.map (·.1)) (SqL.of (by rw [e2, List.map_map]; rfl)) nr (by rw [List.length_map]; omega) fun H3 S3 => ?_
    have sA : Same H H3 := (s1.trans S2).trans S3
    walk_at "go"
    refine comp_LA (α := DoorG) (xs := ds) (vs := us) ((doorP P w K mg base (some 5)).at' H3) (fun _ => true) (fun d y _ => y = .str d.1) (fun _ _ _ _ h _ => h) (by rw [sizeLine_eq]; omega) (rest := []) (by rfl) (sA.seq hb) (doors_sm hd sA) (fun v x H1 _ hx s1 R hR => hR _ (Same.refl _)) ?_ ?_
    · rintro v ⟨n, st, e, lt⟩ H4 hv hm - s4 R hR
      obtain ⟨q, C9, dx', fs, fp, rfl, hq, dcC, l1, l2, l3, l4, l5, mcE, hfp, hlt⟩ := DoorAt.ex hv
      have hq' := s4 _ _ hq
      walk_at "go"
      exact hR _ _ rfl (Same.refl _)
    intro ys H4 s4 hys
    rw [filt_all] at hys
    obtain rfl := paired_eq hys
    walk_at "go"
    rename_i q5 H5 n5 S5 e5
    refine r_once (ss := ds.map (·.1)) (SqL.of (by rw [e5, List.map_map]; rfl)) nd' (by rw [List.length_map]; omega) fun H6 S6 => ?_
    have sB : Same H H6 := ((sA.trans s4).trans S5).trans S6
    walk_at "go"
    refine rd_dictL (sB _ _ ha) (rooms_prows (hra.sm sB)) fun qs H7 n7 S7 e7 => ?_
    rw [merge_sz nr] at e7
    have sC : Same H H7 := sB.trans S7
    walk_at "go"
    refine r_spoken (sC.seq hb) (doors_sm hd sC) hin ld (sC.seq hc) (ppl_sm hcp sC) hpr lp fun q8 ss H8 S8 e8 hss lss => ?_
    walk_at "go"
    refine r_rooms (SqL.of e8) (.inl (S8 _ _ e7)) (fun z hz => by obtain ⟨i, _, e⟩ := valV_szN nr (hss z hz); rw [e]; rfl) fun H9 S9 => ?_
    have sD : Same H7 H9 := S8.trans S9
    walk_at "go"
    refine r_space (sD _ _ e7) ((sC.trans sD).seq hc) (ppl_sm hcp (sC.trans sD)) hpr nr (by omega) (by omega) hf fun H10 S10 => ?_
    have sE : Same H H10 := (sC.trans sD).trans S10
    have es : H10 qs = some (.dK (szK rz)) := S10 _ _ (sD _ _ e7)
    have hp10 := sE _ _ hp
    have hqp : qs ≠ p := fun z => by rw [z, hp10] at es; cases es
    walk_at "go"
    rename_i H11 B11 e11 H12 B12 e12 H13 B13 e13
    have sb13 : SameBut p H10 H13 := by walk_at "sb"
    have es13 := sb13 _ _ es hqp
    have hc13 : SqL K H13 c cs := sqL_but (sE.seq hc) hp10 sb13
    have hcp13 : Paired (PplAt H13) cs ps := Paired.imp' (fun v r ⟨q, e, hq⟩ => ⟨q, e, sb13 _ _ (sE _ _ hq) fun z => by rw [z, hp] at hq; cases hq⟩) hcp
    refine r_added es13 hc13 hcp13 hpr nr (by omega) fun qp H14 kvs n14 S14 e14 hkk hv14 => ?_
    have hp14 := S14 _ _ e13
    walk_at "go"
    rename_i H15 B15 e15 qd H16 n16 S16 e16 H17 B17 e17
    have hqd : qd ≠ p := fun z => by rw [z, e15] at n16; cases n16
    have sb17 : SameBut p H10 H17 := ((((sb13.trans S14.but).trans B15).trans S16.but).trans B17)
    have es17 := sb17 _ _ es hqp
    have ed17 := B17 _ _ e16 hqd
    have hqpp : qp ≠ p := fun z => by rw [z, e13] at n14; cases n14
    have eq17 : H17 qp = some (.dK kvs) := B17 _ _ (S16 _ _ (B15 _ _ e14 hqpp)) hqpp
    have hqpd : qp ≠ qd := fun z => by rw [← z, B15 _ _ e14 hqpp] at n16; cases n16
    have fresh : ∀ x u, H10 x = some u → x ≠ p → x ≠ qd := fun x u hx hxp z => by
      have h15 : H15 x = some u := B15 _ _ (S14 _ _ (sb13 _ _ hx hxp)) hxp
      rw [z, n16] at h15; cases h15
    have hb17 : SqL K H17 b us := sqL_but (sE.seq hb) hp10 sb17
    have hd17 : Paired ((doorP P w K mg base (some 5)).at' H17) us ds := Paired.imp' (fun v d h => (doorP P w K mg base (some 5)).but ((doorP P w K mg base (some 5)).same h sE) hp10 rfl sb17) hd
    have ddq : ∀ {H' : Hp} {v : V} {d : DoorG}, SameBut qd H17 H' → (doorP P w K mg base (some 5)).at' H17 v d → (doorP P w K mg base (some 5)).at' H' v d := fun sb h => (doorP P w K mg base (some 5)).but h ed17 trivial sb
    refine rd_iListV hb17 ?_
    refine rd_forL us (fun i σ' H' => SameBut qd H17 H' ∧ (∃ nk, H' qd = some (.dK nk) ∧ nk.length ≤ i ∧ Paired (fun e d => e.1 = .inr d.1 ∧ (doorP P w K mg base (some 5)).at' H17 e.2 d) nk (ds.take i)) ∧ ∃ x, σ' = [some (.ref p), some (.ref a), some (.ref b), some (.ref c), some (.int l), some (.int f), some (.ref qs), x]) ⟨SameBut.refl, ⟨[], ed17, Nat.le_refl _, .nil⟩, _, rfl⟩ (fun i σ' H' _ q => sqL_butK hb17 ed17 q.1) ?_ ?_
    · rintro i x _ H' hx ⟨sb, ⟨nk, ek, hk, pr⟩, y, rfl⟩
      have hi : i < us.length := (List.getElem?_eq_some_iff.mp hx).1
      obtain ⟨d, hdx⟩ : ∃ d, ds[i]? = some d := ⟨_, List.getElem?_eq_getElem (by omega)⟩
      have hD := Paired.at2 hd17 hx hdx
      obtain ⟨n, st, e, lt⟩ := d
      have hD' := ddq sb hD
      obtain ⟨q, C9, dx', fs, fp, rfl, hq', dcC, l1, l2, l3, l4, l5, mcE, hfp, hlt⟩ := DoorAt.ex hD'
      have hpp : H' p = some (.ins C dx (houseFs f l qs qp qd)) := sb _ _ e17 (Ne.symm hqd)
      have hnone : valV nk (.inr n) = none := valV_none fun e he => by
        obtain ⟨d', hd', h1, _⟩ := paired_mem pr he
        rw [h1]
        intro z
        have hn : n ∉ (ds.map (·.1)).take i := take_new nd' (by rw [List.getElem?_map, hdx]; rfl)
        apply hn
        rw [← List.map_take]
        exact List.mem_map.mpr ⟨d', hd', Sum.inr.inj z⟩
      walk_at "go"
      refine rd_dputS ek (by rw [sizeLine_eq]; omega) fun H9' B9' e9' => ?_
      rw [putK_new _ hnone] at e9'
      refine ⟨by walk_at "sb", ⟨_, e9', by rw [List.length_append]; show nk.length + 1 ≤ _; omega, ?_⟩, _, rfl⟩
      rw [take_succ' hdx]
      exact L2.Paired.snoc pr ⟨rfl, hD⟩
    · rintro _ H' ⟨sb, ⟨nk, ek, hk, pr⟩, y, rfl⟩
      rw [hul, List.take_length] at pr
      refine k _ (fun x u hx hxp => sb _ _ (sb17 _ _ (sE _ _ hx) hxp) (fresh x u (sE _ _ hx) hxp)) ⟨dx, qs, qp, qd, nk, kvs, sb _ _ e17 (Ne.symm hqd), sb _ _ es17 (fresh _ _ es hqp), sb _ _ eq17 hqpd, hkk, hv14, ek, ?_⟩
      exact Paired.imp' (fun e d h => ⟨h.1, ddq sb h.2⟩) pr
theorem kc_House_0 (m : M K mg) : Kc P w K mg base "House" m.C_House 4 [] (sp_House_init K (doorP P w K mg base (some 5))) := ⟨_, _, _, _, m.m_House, m.mk_House, .nil, m.b_House___init__, ok_House___init__ m⟩
theorem r_mkHouse {C : Addr} {D : DoorP} {H : Hp} {Q : VK} {E : XK} {dvs vs : List V} {a b c : Addr} {ws us cs : List V} {rz ps : List (Str × Int)} {ds : List DoorG} {f l : Int} (ev : vs ++ dvs = [.ref a, .ref b, .ref c, .int l, .int f]) (dc : DCls K C) (ha : H a = some (.lst ws)) (hr : RoomsAt H ws rz) (hb : SqL K H b us) (hd : Paired (D.at' H) us ds) (hc : SqL K H c cs) (hcp : Paired (PplAt H) cs ps) (nr : (rz.map (·.1)).Nodup) (nd : (ds.map (·.1)).Nodup) (hin : ∀ d ∈ ds, DoorIn (rz.map (·.1)) d) (hpr : ∀ p ∈ ps, p.1 ∈ rz.map (·.1)) (hf : Fits rz ps) (lr : rz.length ≤ 20) (ld : ds.length ≤ 20) (lp : ps.length ≤ 40) (h0 : 0 ≤ f) (h1 : f ≤ l)
    (k : ∀ p H', H p = none → Same H H' → HouseAt C D H' p f l rz ps ds → Q (.ref p) H') : MakeP C (sp_House_init K D) dvs E Q vs H := by
  intro x dx nx nd0 ne
  have s0 : Same H (upd (upd H dx (.own x)) x (.ins C dx [])) := fun b o e => by
    rw [upd_ne (ne_of_none e nx), upd_ne (ne_of_none e nd0)]; exact e
  rw [ev]
  exact r_House_init dc upd_same (s0 _ _ ha) (hr.sm s0) (s0.seq hb) (doors_sm hd s0) (s0.seq hc) (ppl_sm hcp s0) nr nd hin hpr hf lr ld lp h0 h1 fun H' sb hh => ⟨rfl, k x H' nx (fun b o q => sb b o (s0 b o q) (ne_of_none q nx)) hh⟩
theorem sz_strs (rz : List (Str × Int)) : ((szK rz).map fun e => kV e.1) = (rz.map (·.1)).map V.str := by unfold szK; rw [List.map_map, List.map_map]; rfl
theorem named_strs {D : DoorP} {H : Hp} : ∀ {nk : List (Key × V)} {ds : List DoorG}, Named D H nk ds → (nk.map fun e => kV e.1) = (ds.map (·.1)).map V.str
  | _, _, .nil => rfl
  | (k, v) :: _, _, .cons h t => by
    rw [List.map_cons, named_strs t, List.map_cons, List.map_cons]
    have : k = .inr _ := h.1
    rw [this]; rfl
theorem named_keys {D : DoorP} {H : Hp} : ∀ {nk : List (Key × V)} {ds : List DoorG}, Named D H nk ds → nk.map (·.1) = (ds.map (·.1)).map (Sum.inr : Str → Key)
  | _, _, .nil => rfl
  | (k, v) :: _, _, .cons h t => by
    rw [List.map_cons, named_keys t, List.map_cons, List.map_cons]
    have : k = .inr _ := h.1
    rw [this]
theorem named_len {D : DoorP} {H : Hp} {nk : List (Key × V)} {ds : List DoorG} (h : Named D H nk ds) : nk.length = ds.length := Paired.length h
theorem named_at {D : DoorP} {H : Hp} {nk : List (Key × V)} {ds : List DoorG} (h : Named D H nk ds) (nd : (ds.map (·.1)).Nodup) {d : DoorG} (hd : d ∈ ds) : ∃ v, valV nk (.inr d.1) = some v ∧ D.at' H v d := by
  obtain ⟨i, hi, e⟩ := List.getElem_of_mem hd
  have hl := named_len h
  have hx : nk[i]? = some nk[i] := List.getElem?_eq_getElem (by omega)
  obtain ⟨h1, h2⟩ := Paired.at2 h hx (show ds[i]? = some d by rw [List.getElem?_eq_getElem hi, e])
  refine ⟨_, ?_, h2⟩
  rw [← h1]
  exact valV_at (by rw [named_keys h]; exact inr_nodup nd) (List.mem_of_getElem? hx)
def sp_names (C : Addr) (D : DoorP) (g : List (Str × Int) → List DoorG → List Str) : Sp := fun vs H Q _ => ∃ (h : Addr) (f l : Int) (rz ps : List (Str × Int)) (ds : List DoorG), vs = [.ref h] ∧ HouseAt C D H h f l rz ps ds ∧ ∀ p H', H p = none → Same H H' → H' p = some (.lst ((g rz ds).map V.str)) → Q (.ref p) H'
theorem r_names {C : Addr} {D : DoorP} {g : List (Str × Int) → List DoorG → List Str} {H : Hp} {Q : VK} {E : XK} {h : Addr} {f l : Int} {rz ps : List (Str × Int)} {ds : List DoorG} (hh : HouseAt C D H h f l rz ps ds) (k : ∀ p H', H p = none → Same H H' → H' p = some (.lst ((g rz ds).map V.str)) → Q (.ref p) H') : sp_names C D g [.ref h] H Q E := ⟨_, _, _, _, _, _, rfl, hh, k⟩
theorem ok_House_rooms (m : M K mg) : FnOk P w K mg base CX0 1 m.a_House_rooms m.d_House_rooms ["self"] (sp_names m.C_House (doorP P w K mg base (some 5)) fun rz _ => rz.map (·.1)) := by
  refine m.F_House_rooms.ok sc_House_rooms (fun vs H Q E h => ?_) (fun cdv A outer s H vs Q E hr h => ?_)
  · obtain ⟨h, f, l, rz, ps, ds, rfl, hh, k⟩ := h
    rfl
  · obtain ⟨h, f, l, rz, ps, ds, rfl, hh, k⟩ := h
    have nd := sc_House_rooms.nd
    have hu0 := Room.units0 hr
    have hu1 := Room.units1 hr
    have hu9 := Room.units9 hr
    have w_dc_House := m.dc_House
    refine ⟨_, (pss_one (ps_ret (pe_callTy (call_listD rfl) rfl m.g_list bt_list (pa_cons (pe_fld (pv 0) rfl) pa_nil)))), ?_⟩
    refine rd_start (σ := [some (.ref h)]) rfl ?_
    obtain ⟨dx, qs, qp, qd, nk, kvs, e1, e2, e3, e4, e5, e6, e7⟩ := hh.ex
    walk_at "go"
    refine rd_listD (.inl e2) fun p H1 n1 S1 e8 => ?_
    rw [sz_strs] at e8
    walk_at "go"
    exact k _ _ n1 S1 e8
theorem mc_House_rooms (m : M K mg) : Mc P w K mg base m.C_House "rooms" 1 (sp_names m.C_House (doorP P w K mg base (some 5)) fun rz _ => rz.map (·.1)) := ⟨_, _, _, m.dc_House.ic.cl, m.mt_House_rooms, m.b_House_rooms, ok_House_rooms m⟩
theorem ok_House_doors (m : M K mg) : FnOk P w K mg base CX0 1 m.a_House_doors m.d_House_doors ["self"] (sp_names m.C_House (doorP P w K mg base (some 5)) fun _ ds => ds.map (·.1)) := by
  refine m.F_House_doors.ok sc_House_doors (fun vs H Q E h => ?_) (fun cdv A outer s H vs Q E hr h => ?_)
  · obtain ⟨h, f, l, rz, ps, ds, rfl, hh, k⟩ := h
    rfl
  · obtain ⟨h, f, l, rz, ps, ds, rfl, hh, k⟩ := h
    have nd := sc_House_doors.nd
    have hu0 := Room.units0 hr
    have hu1 := Room.units1 hr
    have hu9 := Room.units9 hr
    have w_dc_House := m.dc_House
    refine ⟨_, (pss_one (ps_ret (pe_callTy (call_listD rfl) rfl m.g_list bt_list (pa_cons (pe_fld (pv 0) rfl) pa_nil)))), ?_⟩
    refine rd_start (σ := [some (.ref h)]) rfl ?_
    obtain ⟨dx, qs, qp, qd, nk, kvs, e1, e2, e3, e4, e5, e6, e7⟩ := hh.ex
    walk_at "go"
    refine rd_listD (.inl e6) fun p H1 n1 S1 e8 => ?_
    rw [named_strs e7] at e8
    walk_at "go"
    exact k _ _ n1 S1 e8
theorem mc_House_doors (m : M K mg) : Mc P w K mg base m.C_House "doors" 1 (sp_names m.C_House (doorP P w K mg base (some 5)) fun _ ds => ds.map (·.1)) := ⟨_, _, _, m.dc_House.ic.cl, m.mt_House_doors, m.b_House_doors, ok_House_doors m⟩
def sp_need_room (C : Addr) (D : DoorP) : Sp := fun vs H Q _ => ∃ (h : Addr) (z : Str) (f l : Int) (rz ps : List (Str × Int)) (ds : List DoorG), vs = [.ref h, .str z] ∧ HouseAt C D H h f l rz ps ds ∧ (rz.map (·.1)).Nodup ∧ z ∈ rz.map (·.1) ∧ ∀ H', Same H H' → Q .non H'
theorem r_need_room {C : Addr} {D : DoorP} {H : Hp} {Q : VK} {E : XK} {h : Addr} {z : Str} {f l : Int} {rz ps : List (Str × Int)} {ds : List DoorG} (hh : HouseAt C D H h f l rz ps ds) (nr : (rz.map (·.1)).Nodup) (hz : z ∈ rz.map (·.1)) (k : ∀ H', Same H H' → Q .non H') : sp_need_room C D [.ref h, .str z] H Q E := ⟨_, _, _, _, _, _, _, rfl, hh, nr, hz, k⟩
theorem ok_House_need_room (m : M K mg) : FnOk P w K mg base CX0 2 m.a_House_need_room m.d_House_need_room ["self", "room"] (sp_need_room m.C_House (doorP P w K mg base (some 5))) := by
  refine m.F_House_need_room.ok sc_House_need_room (fun vs H Q E h => ?_) (fun cdv A outer s H vs Q E hr h => ?_)
  · obtain ⟨h, z, f, l, rz, ps, ds, rfl, hh, nr, hz, k⟩ := h
    rfl
  · obtain ⟨h, z, f, l, rz, ps, ds, rfl, hh, nr, hz, k⟩ := h
    have nd := sc_House_need_room.nd
    have hu0 := Room.units0 hr
    have hu1 := Room.units1 hr
    have hu9 := Room.units9 hr
    have F_need_rooms := fc_need_rooms (P := P) (w := w) (base := base) m
    have w_dc_House := m.dc_House
    refine ⟨_, (pss_one (ps_expr (pe_f F_need_rooms hr (pa_cons (pe_lst (pa_cons (pv 1) pa_nil)) (pa_cons (pe_fld (pv 0) rfl) pa_nil))))), ?_⟩
    refine rd_start (σ := [some (.ref h), some (.str z)]) rfl ?_
    obtain ⟨dx, qs, qp, qd, nk, kvs, e1, e2, e3, e4, e5, e6, e7⟩ := hh.ex
    obtain ⟨i, hi, ev⟩ := valV_szN nr hz
    walk_at "go"
    rename_i p H1 n1 S1 e8
    refine r_rooms (ss := [z]) (SqL.of e8) (.inl (S1 _ _ e2)) (fun y hy => by cases List.mem_singleton.mp hy; rw [ev]; rfl) fun H2 S2 => ?_
    walk_at "go"
    exact k _ (S1.trans S2)
theorem mc_House_need_room (m : M K mg) : Mc P w K mg base m.C_House "need_room" 2 (sp_need_room m.C_House (doorP P w K mg base (some 5))) := ⟨_, _, _, m.dc_House.ic.cl, m.mt_House_need_room, m.b_House_need_room, ok_House_need_room m⟩
def sp_holds (C : Addr) (D : DoorP) : Sp := fun vs H Q _ => ∃ (h : Addr) (z : Str) (i f l : Int) (rz ps : List (Str × Int)) (ds : List DoorG), vs = [.ref h, .str z] ∧ HouseAt C D H h f l rz ps ds ∧ (rz.map (·.1)).Nodup ∧ (z, i) ∈ rz ∧ ∀ H', Same H H' → Q (.int i) H'
theorem r_holds {C : Addr} {D : DoorP} {H : Hp} {Q : VK} {E : XK} {h : Addr} {z : Str} {i f l : Int} {rz ps : List (Str × Int)} {ds : List DoorG} (hh : HouseAt C D H h f l rz ps ds) (nr : (rz.map (·.1)).Nodup) (hz : (z, i) ∈ rz) (k : ∀ H', Same H H' → Q (.int i) H') : sp_holds C D [.ref h, .str z] H Q E := ⟨_, _, _, _, _, _, _, _, rfl, hh, nr, hz, k⟩
theorem ok_House_holds (m : M K mg) : FnOk P w K mg base CX0 3 m.a_House_holds m.d_House_holds ["self", "room"] (sp_holds m.C_House (doorP P w K mg base (some 5))) := by
  refine m.F_House_holds.ok sc_House_holds (fun vs H Q E h => ?_) (fun cdv A outer s H vs Q E hr h => ?_)
  · obtain ⟨h, z, i, f, l, rz, ps, ds, rfl, hh, nr, hz, k⟩ := h
    rfl
  · obtain ⟨h, z, i, f, l, rz, ps, ds, rfl, hh, nr, hz, k⟩ := h
    have nd := sc_House_holds.nd
    have hu0 := Room.units0 hr
    have hu1 := Room.units1 hr
    have hu9 := Room.units9 hr
    have w_dc_House := m.dc_House
    have w_mc_House_need_room := mc_House_need_room (P := P) (w := w) (base := base) m
    refine ⟨_, (pss_cons (ps_expr (pe_md 2 hr (pv 0) (pa_cons (pv 1) pa_nil)))
      (pss_one (ps_ret (pe_dget hu1 (pe_fld (pv 0) rfl) (pv 1) (fun _ _ => rfl))))), ?_⟩
    refine rd_start (σ := [some (.ref h), some (.str z)]) rfl ?_
    obtain ⟨dx, qs, qp, qd, nk, kvs, e1, e2, e3, e4, e5, e6, e7⟩ := hh.ex
    walk_at "go"
    refine r_need_room hh nr (List.mem_map.mpr ⟨_, hz, rfl⟩) fun H1 S1 => ?_
    have e11 := S1 _ _ e1
    walk_at "go"
    refine rd_dgetS (.inl (S1 _ _ e2)) (valV_sz nr hz) ?_
    walk_at "go"
    exact k _ S1
theorem mc_House_holds (m : M K mg) : Mc P w K mg base m.C_House "holds" 3 (sp_holds m.C_House (doorP P w K mg base (some 5))) := ⟨_, _, _, m.dc_House.ic.cl, m.mt_House_holds, m.b_House_holds, ok_House_holds m⟩
def sp_found (C : Addr) (D : DoorP) : Sp := fun vs H Q _ => ∃ (h : Addr) (z : Str) (f l : Int) (rz ps : List (Str × Int)) (ds : List DoorG), vs = [.ref h, .str z] ∧ HouseAt C D H h f l rz ps ds ∧ (rz.map (·.1)).Nodup ∧ z ∈ rz.map (·.1) ∧ ∀ H', Same H H' → Q (.int (psum ps z)) H'
theorem r_found {C : Addr} {D : DoorP} {H : Hp} {Q : VK} {E : XK} {h : Addr} {z : Str} {f l : Int} {rz ps : List (Str × Int)} {ds : List DoorG} (hh : HouseAt C D H h f l rz ps ds) (nr : (rz.map (·.1)).Nodup) (hz : z ∈ rz.map (·.1)) (k : ∀ H', Same H H' → Q (.int (psum ps z)) H') : sp_found C D [.ref h, .str z] H Q E := ⟨_, _, _, _, _, _, _, rfl, hh, nr, hz, k⟩
theorem ok_House_found (m : M K mg) : FnOk P w K mg base CX0 3 m.a_House_found m.d_House_found ["self", "room"] (sp_found m.C_House (doorP P w K mg base (some 5))) := by
  refine m.F_House_found.ok sc_House_found (fun vs H Q E h => ?_) (fun cdv A outer s H vs Q E hr h => ?_)
  · obtain ⟨h, z, f, l, rz, ps, ds, rfl, hh, nr, hz, k⟩ := h
    rfl
  · obtain ⟨h, z, f, l, rz, ps, ds, rfl, hh, nr, hz, k⟩ := h
    have nd := sc_House_found.nd
    have hu0 := Room.units0 hr
    have hu1 := Room.units1 hr
    have hu9 := Room.units9 hr
    have w_dc_House := m.dc_House
    have w_mc_House_need_room := mc_House_need_room (P := P) (w := w) (base := base) m
    refine ⟨_, (pss_cons (ps_expr (pe_md 2 hr (pv 0) (pa_cons (pv 1) pa_nil)))
      (pss_one (ps_ret (pe_dget hu1 (pe_fld (pv 0) rfl) (pv 1) (fun _ _ => rfl))))), ?_⟩
    refine rd_start (σ := [some (.ref h), some (.str z)]) rfl ?_
    obtain ⟨dx, qs, qp, qd, nk, kvs, e1, e2, e3, e4, e5, e6, e7⟩ := hh.ex
    walk_at "go"
    refine r_need_room hh nr hz fun H1 S1 => ?_
    have e11 := S1 _ _ e1
    walk_at "go"
    refine rd_dgetS (.inl (S1 _ _ e3)) (e5 z hz) ?_
    walk_at "go"
    exact k _ S1
theorem mc_House_found (m : M K mg) : Mc P w K mg base m.C_House "found" 3 (sp_found m.C_House (doorP P w K mg base (some 5))) := ⟨_, _, _, m.dc_House.ic.cl, m.mt_House_found, m.b_House_found, ok_House_found m⟩
def sp_door (C : Addr) (D : DoorP) : Sp := fun vs H Q _ => ∃ (h : Addr) (d : DoorG) (f l : Int) (rz ps : List (Str × Int)) (ds : List DoorG), vs = [.ref h, .str d.1] ∧ HouseAt C D H h f l rz ps ds ∧ (ds.map (·.1)).Nodup ∧ d ∈ ds ∧ ∀ v, D.at' H v d → Q v H
theorem r_door {C : Addr} {D : DoorP} {H : Hp} {Q : VK} {E : XK} {h : Addr} {d : DoorG} {f l : Int} {rz ps : List (Str × Int)} {ds : List DoorG} (hh : HouseAt C D H h f l rz ps ds) (nd : (ds.map (·.1)).Nodup) (hd : d ∈ ds) (k : ∀ v, D.at' H v d → Q v H) : sp_door C D [.ref h, .str d.1] H Q E := ⟨_, _, _, _, _, _, _, rfl, hh, nd, hd, k⟩
theorem ok_House_door (m : M K mg) : FnOk P w K mg base CX0 1 m.a_House_door m.d_House_door ["self", "name"] (sp_door m.C_House (doorP P w K mg base (some 5))) := by
  refine m.F_House_door.ok sc_House_door (fun vs H Q E h => ?_) (fun cdv A outer s H vs Q E hr h => ?_)
  · obtain ⟨h, d, f, l, rz, ps, ds, rfl, hh, ndd, hd, k⟩ := h
    rfl
  · obtain ⟨h, d, f, l, rz, ps, ds, rfl, hh, ndd, hd, k⟩ := h
    have nd := sc_House_door.nd
    have hu0 := Room.units0 hr
    have hu1 := Room.units1 hr
    have hu9 := Room.units9 hr
    have w_dc_House := m.dc_House
    refine ⟨_, (pss_cons (ps_if (pt_cmp (pc_dnotin hu1 (pv 1) (pe_fld (pv 0) rfl)) (by with_unfolding_all rfl)) (pss_one ps_never) pss_nil)
      (pss_one (ps_ret (pe_dget hu1 (pe_fld (pv 0) rfl) (pv 1) (fun _ _ => rfl))))), ?_⟩
    refine rd_start (σ := [some (.ref h), some (.str d.1)]) rfl ?_
    obtain ⟨dx, qs, qp, qd, nk, kvs, e1, e2, e3, e4, e5, e6, e7⟩ := hh.ex
    obtain ⟨v, ev, hv⟩ := named_at e7 ndd hd
    walk_at "go"
    refine rd_dnotinS (.inl e6) ?_
    rw [show (valV nk (.inr d.1)).isSome = true by rw [ev]; rfl]
    walk_at "go"
    refine rd_dgetS (.inl e6) ev ?_
    walk_at "go"
    exact k _ hv
theorem mc_House_door (m : M K mg) : Mc P w K mg base m.C_House "door" 1 (sp_door m.C_House (doorP P w K mg base (some 5))) := ⟨_, _, _, m.dc_House.ic.cl, m.mt_House_door, m.b_House_door, ok_House_door m⟩
theorem paired_app {α β : Type} {F : α → β → Prop} : ∀ {l l2 : List α} {m m2 : List β}, Paired F l m → Paired F l2 m2 → Paired F (l ++ l2) (m ++ m2)
  | _, _, _, _, .nil, h => h
  | _, _, _, _, .cons r t, h => .cons r (paired_app t h)
local macro_rules | `(tactic| walk_at "rd1") => `(tactic| first | (with_reducible refine rd_vals ?_) | (with_reducible refine rd_v13 ?_) | (with_reducible refine rd_s13 ?_) | (with_reducible refine rd_v14 ?_) | (with_reducible refine rd_s14 ?_) | (with_reducible refine rd_v15 ?_) | (with_reducible refine rd_s15 ?_) | (with_reducible refine rd_v16 ?_) | (with_reducible refine rd_s16 ?_) | (with_reducible refine rd_v17 ?_) | (with_reducible refine rd_s17 ?_) | (with_reducible refine rd_v18 ?_) | (with_reducible refine rd_s18 ?_) | (with_reducible refine rd_iEnum ?_) | ((with_reducible refine' rd_iEnumV ?e ?_); (case e => walk_at "hp")) | ((with_reducible refine' rd_repS ?a ?b ?c ?_); (case a => walk_at "sd"); (case b => walk_at "sd"); (case c => walk_at "sz")))
def intoR (ds : List DoorG) (z : Str) : List Str := (ds.filter fun d => decide (d.2.2.1 = .str z)).map (·.1)
def sp_ways (C : Addr) (D : DoorP) (g : List DoorG → Str → List Str) : Sp := fun vs H Q _ => ∃ (h : Addr) (z : Str) (f l : Int) (rz ps : List (Str × Int)) (ds : List DoorG), vs = [.ref h, .str z] ∧ HouseAt C D H h f l rz ps ds ∧ (rz.map (·.1)).Nodup ∧ z ∈ rz.map (·.1) ∧ ds.length ≤ 20 ∧ (∀ d ∈ ds, DoorIn (rz.map (·.1)) d) ∧ ∀ p H', H p = none → Same H H' → H' p = some (.lst ((g ds z).map V.str)) → Q (.ref p) H'
theorem r_ways {C : Addr} {D : DoorP} {g : List DoorG → Str → List Str} {H : Hp} {Q : VK} {E : XK} {h : Addr} {z : Str} {f l : Int} {rz ps : List (Str × Int)} {ds : List DoorG} (hh : HouseAt C D H h f l rz ps ds) (nr : (rz.map (·.1)).Nodup) (hz : z ∈ rz.map (·.1)) (ld : ds.length ≤ 20) (hin : ∀ d ∈ ds, DoorIn (rz.map (·.1)) d) (k : ∀ p H', H p = none → Same H H' → H' p = some (.lst ((g ds z).map V.str)) → Q (.ref p) H') : sp_ways C D g [.ref h, .str z] H Q E := ⟨_, _, _, _, _, _, _, rfl, hh, nr, hz, ld, hin, k⟩
theorem ok_House_into (m : M K mg) : FnOk P w K mg base CX0 3 m.a_House_into m.d_House_into ["self", "room"] (sp_ways m.C_House (doorP P w K mg base (some 5)) intoR) := by
  refine m.F_House_into.ok sc_House_into (fun vs H Q E h => ?_) (fun cdv A outer s H vs Q E hr h => ?_)
  · obtain ⟨h, z, f, l, rz, ps, ds, rfl, hh, nr, hz, hlen, hin, k⟩ := h
    rfl
  · obtain ⟨h, z, f, l, rz, ps, ds, rfl, hh, nr, hz, hlen, hin, k⟩ := h
    have nd := sc_House_into.nd
    have hu0 := Room.units0 hr
    have hu1 := Room.units1 hr
    have hu9 := Room.units9 hr
    have w_dc_House := m.dc_House
    have w_mc_House_need_room := mc_House_need_room (P := P) (w := w) (base := base) m
    refine ⟨_, (pss_cons (ps_expr (pe_md 2 hr (pv 0) (pa_cons (pv 1) pa_nil)))
      (pss_one (ps_ret (pe_thaw (pe_comp (N := ["name", "door", "room"]) (nl := 2) (ci := [1]) rfl (blk (s.heap.objs.size + 1) rfl rfl rfl (by kernel_rfl)) (pi_itemsK (pe_fld (pv 0) rfl)) (fun _ _ _ _ => (pg_tupK (K := K) (n := 2) rfl (pgs_cons (pg_name (i := 0) (show (["name", "door", "room"] : List Str).Nodup by decide +kernel) rfl (by walk_at "oi")) (pgs_cons (pg_name (i := 1) (show (["name", "door", "room"] : List Str).Nodup by decide +kernel) rfl (by walk_at "oi")) pgs_nil)))) (fun _ _ _ _ => (pf_one (pt_cmpR op_eq (pe_fldK (K := K) (pv 1) rfl) (pv 2) (nomark _)))) (fun _ _ _ _ => (pv 0))))))), ?_⟩
    refine rd_start (σ := [some (.ref h), some (.str z)]) rfl ?_
    obtain ⟨dx, qs, qp, qd, nk, kvs, e1, e2, e3', e4', e5', e6, e7⟩ := hh.ex
    walk_at "go"
    refine r_need_room hh nr hz fun H1 S1 => ?_
    have e31 := S1 _ _ e6
    have e11 := S1 _ _ e1
    walk_at "go"
    refine rd_tThaw e31 nf_dK ?_
    walk_at "go"
    refine rd_itemsK e31 fun o H2 B2 e32 => ?_
    have hn2 : Named (doorP P w K mg base (some 5)) H2 nk ds := Paired.imp' (fun e d h => ⟨h.1, (doorP P w K mg base (some 5)).but ((doorP P w K mg base (some 5)).same h.2 S1) e31 trivial B2⟩) e7
    refine comp_IA (α := DoorG) (xs := ds) (fun e d => e.1 = .inr d.1 ∧ (doorP P w K mg base (some 5)).at' H2 e.2 d) (fun d => decide (d.2.2.1 = .str z)) (fun d y _ => y = .str d.1) (fun _ _ _ _ h _ => h) (by rw [sizeLine_eq]; omega) (rest := [some (.str z)]) (by rfl) e32 hn2 ?_ ?_ ?_
    · rintro ⟨kk, v⟩ ⟨n, st, e, lt⟩ H3 ⟨h1, h2⟩ hm s3 R hR
      obtain ⟨q, C9, dx, fs, fp, h3, hq, dcC, l1, l2, l3, l4, l5, mcE, hfp, hlt⟩ := DoorAt.ex h2
      cases h1
      have h3 : v = .ref q := h3
      subst h3
      have hq := s3 _ _ hq
      have hend := (hin _ hm).2
      have hR' := hR _ (Same.refl _)
      show (_ : TT) (some (V.str n) :: some (V.ref q) :: [some (.str z)]) H3 R
      rcases hend with hend | ⟨y, hend, hy⟩
      · have hde : e = .non := hend
        subst hde
        rw [show decide (((n, st, V.non, lt) : DoorG).2.2.1 = .str z) = false from decide_eq_false fun z => nomatch z] at hR'
        walk_at "go"
        exact hR'
      · have hde : e = .str y := hend
        subst hde
        rw [show decide (((n, st, V.str y, lt) : DoorG).2.2.1 = .str z) = decide (y = z) by
          by_cases h : y = z
          · rw [decide_eq_true h]; exact decide_eq_true (by rw [h])
          · rw [decide_eq_false h]; exact decide_eq_false fun x => h (V.str.inj x)] at hR'
        walk_at "go"
        exact hR'
    · rintro ⟨kk, v⟩ ⟨n, st, e, lt⟩ H3 ⟨h1, h2⟩ hm - s3 R hR
      cases h1
      show (_ : TE) (some (V.str n) :: some v :: [some (.str z)]) H3 R
      walk_at "go"
      exact hR _ _ rfl (Same.refl _)
    intro ys H3 s3 hys
    have ey := paired_eq hys
    walk_at "go"
    rename_i p H4 n4 S4 e4
    refine rd_thawed (S4 _ _ (s3 _ _ e32)) fun H5 B5 e5 => ?_
    have hpq : p ≠ qd := fun z => by rw [z, s3 _ _ e32] at n4; cases n4
    have hn : H p = none := by
      cases hq : H p with
      | none => rfl
      | some u =>
        have := s3 _ _ (B2 _ _ (S1 _ _ hq) hpq)
        rw [n4] at this; cases this
    walk_at "go"
    refine k p H5 hn (thaw_same e6 (fun x u hx hxa => B2 _ _ (S1 _ _ hx) hxa) (Same.but (s3.trans S4)) B5 e5) ?_
    have := B5 _ _ e4 hpq
    rw [this, ey]
    unfold intoR
    rw [List.map_map]; rfl
theorem mc_House_into (m : M K mg) : Mc P w K mg base m.C_House "into" 3 (sp_ways m.C_House (doorP P w K mg base (some 5)) intoR) := ⟨_, _, _, m.dc_House.ic.cl, m.mt_House_into, m.b_House_into, ok_House_into m⟩
def letF (f l : Int) (d : DoorG) (t : Int) : Int := if f ≤ t ∧ t < l then d.2.2.2 t else 0
def sp_hlets (C : Addr) (D : DoorP) : Sp := fun vs H Q _ => ∃ (h : Addr) (d : DoorG) (t f l : Int) (rz ps : List (Str × Int)) (ds : List DoorG), vs = [.ref h, .str d.1, .int t] ∧ HouseAt C D H h f l rz ps ds ∧ (ds.map (·.1)).Nodup ∧ d ∈ ds ∧ 0 ≤ f ∧ ∀ H', Same H H' → Q (.int (letF f l d t)) H'
theorem r_hlets {C : Addr} {D : DoorP} {H : Hp} {Q : VK} {E : XK} {h : Addr} {d : DoorG} {t f l : Int} {rz ps : List (Str × Int)} {ds : List DoorG} (hh : HouseAt C D H h f l rz ps ds) (nd : (ds.map (·.1)).Nodup) (hd : d ∈ ds) (hf : 0 ≤ f) (k : ∀ H', Same H H' → Q (.int (letF f l d t)) H') : sp_hlets C D [.ref h, .str d.1, .int t] H Q E := ⟨_, _, _, _, _, _, _, _, rfl, hh, nd, hd, hf, k⟩
theorem ok_House_lets (m : M K mg) : FnOk P w K mg base CX0 7 m.a_House_lets m.d_House_lets ["self", "name", "turn"] (sp_hlets m.C_House (doorP P w K mg base (some 5))) := by
  refine m.F_House_lets.ok sc_House_lets (fun vs H Q E h => ?_) (fun cdv A outer s H vs Q E hr h => ?_)
  · obtain ⟨h, d, t, f, l, rz, ps, ds, rfl, hh, ndd, hd, hf, k⟩ := h
    rfl
  · obtain ⟨h, d, t, f, l, rz, ps, ds, rfl, hh, ndd, hd, hf, k⟩ := h
    have nd := sc_House_lets.nd
    have hu0 := Room.units0 hr
    have hu1 := Room.units1 hr
    have hu9 := Room.units9 hr
    have w_dc_House := m.dc_House
    have w_mc_House_door := mc_House_door (P := P) (w := w) (base := base) m
    refine ⟨_, (pss_cons (ps_set (i := 3) nd rfl (by walk_at "oi") (pe_md 1 hr (pv 0) (pa_cons (pv 1) pa_nil)))
      (pss_cons (ps_if (PW.pt (pw_or (pt_cmpR op_lt (pv 2) (pe_fld (pv 0) rfl) (nomark _)) (pw_or1 (pt_cmpR op_ge (pv 2) (pe_fld (pv 0) rfl) (nomark _))))) (pss_one (ps_ret pe_int)) pss_nil)
      (pss_one (ps_ret (pe_md 5 hr (pv 3) (pa_cons (pv 2) pa_nil)))))), ?_⟩
    refine rd_start (σ := [some (.ref h), some (.str d.1), some (.int t), none]) rfl ?_
    obtain ⟨dx, qs, qp, qd, nk, kvs, e1, _⟩ := hh.ex
    obtain ⟨n, st, e, lt⟩ := d
    walk_at "go"
    refine r_door (d := (n, st, e, lt)) hh ndd hd fun v hv => ?_
    obtain ⟨q2, C2, dx2, fs2, fp2, rfl, hq2, dcC, l1, l2, l3, l4, l5, mcE, hfp, hlt⟩ := DoorAt.ex hv
    obtain ⟨sp, mcL, hsp⟩ := hlt _ rfl
    walk_at "go"
    refine rd_if2 (fun hc => ?_) (fun hc => ?_)
    · have hk : letF f l (n, st, e, lt) t = 0 := by unfold letF; rw [if_neg (by omega)]
      rw [hk] at k
      walk_at "go"
      exact k _ (Same.refl _)
    · walk_at "go"
      refine rd_if2 (fun hc2 => ?_) (fun hc2 => ?_)
      · have hk : letF f l (n, st, e, lt) t = 0 := by unfold letF; rw [if_neg (by omega)]
        rw [hk] at k
        walk_at "go"
        exact k _ (Same.refl _)
      · have hk : letF f l (n, st, e, lt) t = lt t := by unfold letF; rw [if_pos (by omega)]
        rw [hk] at k
        walk_at "go"
        exact hsp _ _ _ hq2 (fun x hx => (hfp x hx).1) (by omega) k
theorem mc_House_lets (m : M K mg) : Mc P w K mg base m.C_House "lets" 7 (sp_hlets m.C_House (doorP P w K mg base (some 5))) := ⟨_, _, _, m.dc_House.ic.cl, m.mt_House_lets, m.b_House_lets, ok_House_lets m⟩
def keyP (p : Str × Int) : List Key := [.inr p.1, .inl p.2]
theorem keyP_inj {a b : Str × Int} (h : keyP a = keyP b) : a = b := by
  unfold keyP at h
  injection h with h1 h2
  injection h2 with h2
  exact Prod.ext (Sum.inr.inj h1) (Sum.inl.inj h2)
theorem paired_flip {α β : Type} {F : α → β → Prop} : ∀ {l : List α} {m : List β}, Paired F l m → Paired (fun b a => F a b) m l
  | _, _, .nil => .nil
  | _, _, .cons r t => .cons r (paired_flip t)
def KeptOf (cut : List (Str × Int)) (kvs : List (List Key × V)) : Prop := ∀ p : Str × Int, (valV kvs (keyP p)).isSome = decide (p ∈ cut)
def beyondF (rz ps : List (Str × Int)) (f : Int) (cut : List (Str × Int)) : Int := ((rz.filter fun e => !decide ((e.1, f) ∈ cut)).map fun e => psum ps e.1).sum
def sp_beyond (C : Addr) (D : DoorP) : Sp := fun vs H Q _ => ∃ (h a : Addr) (f l : Int) (rz ps : List (Str × Int)) (ds : List DoorG) (cut : List (Str × Int)) (kvs : List (List Key × V)), vs = [.ref h, .ref a] ∧ HouseAt C D H h f l rz ps ds ∧ (rz.map (·.1)).Nodup ∧ rz.length ≤ 20 ∧ H a = some (.dT kvs) ∧ KeptOf cut kvs ∧ ∀ H', Same H H' → Q (.int (beyondF rz ps f cut)) H'
theorem r_beyond {C : Addr} {D : DoorP} {H : Hp} {Q : VK} {E : XK} {h a : Addr} {f l : Int} {rz ps : List (Str × Int)} {ds : List DoorG} {cut : List (Str × Int)} {kvs : List (List Key × V)} (hh : HouseAt C D H h f l rz ps ds) (nr : (rz.map (·.1)).Nodup) (lr : rz.length ≤ 20) (ea : H a = some (.dT kvs)) (hk : KeptOf cut kvs) (k : ∀ H', Same H H' → Q (.int (beyondF rz ps f cut)) H') : sp_beyond C D [.ref h, .ref a] H Q E := ⟨_, _, _, _, _, _, _, _, _, rfl, hh, nr, lr, ea, hk, k⟩
theorem room_pairs (rz : List (Str × Int)) : Paired (fun v (e : Str × Int) => v = V.str e.1) ((rz.map (·.1)).map V.str) rz := by
  induction rz with
  | nil => exact .nil
  | cons a l ih => exact .cons rfl ih
theorem ok_found_beyond (m : M K mg) : FnOk P w K mg base CX0 4 m.a_found_beyond m.d_found_beyond ["house", "kept"] (sp_beyond m.C_House (doorP P w K mg base (some 5))) := by
  refine m.F_found_beyond.ok sc_found_beyond (fun vs H Q E h => ?_) (fun cdv A outer s H vs Q E hr h => ?_)
  · obtain ⟨h, a, f, l, rz, ps, ds, cut, kvs, rfl, hh, nr, lr, ea, hk, k⟩ := h
    rfl
  · obtain ⟨h, a, f, l, rz, ps, ds, cut, kvs, rfl, hh, nr, lr, ea, hk, k⟩ := h
    have nd := sc_found_beyond.nd
    have hu0 := Room.units0 hr
    have hu1 := Room.units1 hr
    have hu9 := Room.units9 hr
    have w_dc_House := m.dc_House
    have w_mc_House_rooms := mc_House_rooms (P := P) (w := w) (base := base) m
    have w_mc_House_found := mc_House_found (P := P) (w := w) (base := base) m
    refine ⟨_, (pss_one (ps_ret (pe_callB (call_sumI rfl) rfl m.g_sum bt_sum (pa_cons (pe_comp (N := ["room", "house", "kept"]) (nl := 1) (ci := [0, 1]) rfl (blk (s.heap.objs.size + 1) rfl rfl rfl (by kernel_rfl)) (pi_list (pe_md0 1 hr (pv 0))) (fun _ _ _ _ => (pg_name (i := 0) (show (["room", "house", "kept"] : List Str).Nodup by decide +kernel) rfl (by walk_at "oi"))) (fun _ _ _ _ => (pf_one (pt_cmp (pc_dnotin hu1 (pe_tup (pa_cons (pv 0) (pa_cons (pe_fldK (K := K) (pv 1) rfl) pa_nil))) (pv 2)) (by with_unfolding_all rfl)))) (fun _ _ _ _ => (pe_mdK (P := P) (w := w) (K := K) (mg := mg) (base := base) 3 hr (pv 1) (pa_cons (pv 0) pa_nil)))) pa_nil)))), ?_⟩
    refine rd_start (σ := [some (.ref h), some (.ref a)]) rfl ?_
    obtain ⟨dx, qs, qp, qd, nk, kvs0, e1, _⟩ := hh.ex
    walk_at "go"
    refine r_names hh fun p1 H1 n1 S1 f1 => ?_
    have e11 := S1 _ _ e1
    have ea1 := S1 _ _ ea
    walk_at "go"
    refine comp_LA (α := Str × Int) (xs := rz) (vs := (rz.map (·.1)).map V.str) (fun v e => v = .str e.1) (fun e => !decide ((e.1, f) ∈ cut)) (fun e y _ => y = .int (psum ps e.1)) (fun _ _ _ _ h _ => h) (by rw [sizeLine_eq]; omega) (rest := [some (.ref h), some (.ref a)]) (by rfl) (SqL.of f1) (room_pairs rz) ?_ ?_ ?_
    · rintro v e H2 rfl he s2 R hR
      have e12 := s2 _ _ e11
      have ea2 := s2 _ _ ea1
      walk_at "go"
      rename_i b3 H3 n3 S3 e3
      refine rd_dnotinT (keyP (e.1, f)) (S3 _ _ ea2) e3 ?_
      rw [hk]
      walk_at "go"
      exact hR _ S3
    · rintro v e H2 rfl he - s2 R hR
      have e12 := s2 _ _ e11
      have hh2 := house_sm hh (S1.trans s2)
      walk_at "go"
      refine r_found hh2 nr (List.mem_map.mpr ⟨e, he, rfl⟩) fun H3 S3 => ?_
      exact hR _ _ rfl S3
    intro ys H2 s2 hys
    have ey : ys = ((rz.filter fun e => !decide ((e.1, f) ∈ cut)).map fun e => psum ps e.1).map V.int := by rw [paired_eq hys, List.map_map]; rfl
    subst ey
    walk_at "go"
    rename_i q3 H3 n3 S3 e3
    refine rd_sum (SqL.of e3) ?_
    exact k _ ((S1.trans s2).trans S3)
theorem fc_found_beyond (m : M K mg) : Fc P w K mg base "found_beyond" 4 ["house", "kept"] (sp_beyond m.C_House (doorP P w K mg base (some 5))) := ⟨_, _, m.m_found_beyond, m.F_found_beyond.kp, m.b_found_beyond, ok_found_beyond m⟩
def letInF (ds : List DoorG) (f l : Int) (cut : List (Str × Int)) (z : Str) (t : Int) : Int := (((ds.filter fun d => decide (d.2.2.1 = .str z)).filter fun d => decide ((d.2.1, t) ∈ cut)).map fun d => letF f l d t).sum
def sp_letin (C : Addr) (D : DoorP) : Sp := fun vs H Q _ => ∃ (h a : Addr) (z : Str) (t f l : Int) (rz ps : List (Str × Int)) (ds : List DoorG) (cut : List (Str × Int)) (kvs : List (List Key × V)), vs = [.ref h, .ref a, .str z, .int t] ∧ HouseAt C D H h f l rz ps ds ∧ (rz.map (·.1)).Nodup ∧ (ds.map (·.1)).Nodup ∧ z ∈ rz.map (·.1) ∧ ds.length ≤ 20 ∧ (∀ d ∈ ds, DoorIn (rz.map (·.1)) d) ∧ 0 ≤ f ∧ H a = some (.dT kvs) ∧ KeptOf cut kvs ∧ ∀ H', Same H H' → Q (.int (letInF ds f l cut z t)) H'
theorem r_letin {C : Addr} {D : DoorP} {H : Hp} {Q : VK} {E : XK} {h a : Addr} {z : Str} {t f l : Int} {rz ps : List (Str × Int)} {ds : List DoorG} {cut : List (Str × Int)} {kvs : List (List Key × V)} (hh : HouseAt C D H h f l rz ps ds) (nr : (rz.map (·.1)).Nodup) (nd : (ds.map (·.1)).Nodup) (hz : z ∈ rz.map (·.1)) (ld : ds.length ≤ 20) (hin : ∀ d ∈ ds, DoorIn (rz.map (·.1)) d) (hf : 0 ≤ f) (ea : H a = some (.dT kvs)) (hk : KeptOf cut kvs) (k : ∀ H', Same H H' → Q (.int (letInF ds f l cut z t)) H') : sp_letin C D [.ref h, .ref a, .str z, .int t] H Q E := ⟨_, _, _, _, _, _, _, _, _, _, _, rfl, hh, nr, nd, hz, ld, hin, hf, ea, hk, k⟩
theorem into_pairs (ds : List DoorG) (z : Str) : Paired (fun v (d : DoorG) => v = V.str d.1) ((intoR ds z).map V.str) (ds.filter fun d => decide (d.2.2.1 = .str z)) := by
  unfold intoR
  induction (ds.filter fun d => decide (d.2.2.1 = .str z)) with
  | nil => exact .nil
  | cons a l ih => exact .cons rfl ih
theorem ok_let_in (m : M K mg) : FnOk P w K mg base CX0 8 m.a_let_in m.d_let_in ["house", "kept", "room", "turn"] (sp_letin m.C_House (doorP P w K mg base (some 5))) := by
  refine m.F_let_in.ok sc_let_in (fun vs H Q E h => ?_) (fun cdv A outer s H vs Q E hr h => ?_)
  · obtain ⟨h, a, z, t, f, l, rz, ps, ds, cut, kvs, rfl, hh, nr, ndd, hz, ld, hin, hf, ea, hk, k⟩ := h
    rfl
  · obtain ⟨h, a, z, t, f, l, rz, ps, ds, cut, kvs, rfl, hh, nr, ndd, hz, ld, hin, hf, ea, hk, k⟩ := h
    have nd := sc_let_in.nd
    have hu0 := Room.units0 hr
    have hu1 := Room.units1 hr
    have hu9 := Room.units9 hr
    have w_dc_House := m.dc_House
    have w_mc_House_into := mc_House_into (P := P) (w := w) (base := base) m
    have w_mc_House_door := mc_House_door (P := P) (w := w) (base := base) m
    have w_mc_House_lets := mc_House_lets (P := P) (w := w) (base := base) m
    refine ⟨_, (pss_cons (ps_setComp (i := 4) nd rfl (by walk_at "oi") (N := ["name", "house"]) (nl := 1) (ci := [0]) rfl (blk (s.heap.objs.size + 1) rfl rfl rfl (by kernel_rfl)) (pi_list (pe_md 3 hr (pv 0) (pa_cons (pv 2) pa_nil))) (fun _ _ _ _ => (pg_name (i := 0) (show (["name", "house"] : List Str).Nodup by decide +kernel) rfl (by walk_at "oi"))) (fun _ _ _ _ => pf_nil) (fun _ _ _ _ => (pe_tup (pa_cons (pe_fldK (K := K) (pe_mdK (P := P) (w := w) (K := K) (mg := mg) (base := base) 1 hr (pv 1) (pa_cons (pv 0) pa_nil)) rfl) (pa_cons (pv 0) pa_nil)))))
      (pss_one (ps_ret (pe_callB (call_sumI rfl) rfl m.g_sum bt_sum (pa_cons (pe_comp (N := ["start", "name", "turn", "house", "kept"]) (nl := 2) (ci := [3, 0, 1]) rfl (blk (s.heap.objs.size + 1) rfl rfl rfl (by kernel_rfl)) (pi_list (pv 4)) (fun _ _ _ _ => (pg_tupK (K := K) (n := 2) rfl (pgs_cons (pg_name (i := 0) (show (["start", "name", "turn", "house", "kept"] : List Str).Nodup by decide +kernel) rfl (by walk_at "oi")) (pgs_cons (pg_name (i := 1) (show (["start", "name", "turn", "house", "kept"] : List Str).Nodup by decide +kernel) rfl (by walk_at "oi")) pgs_nil)))) (fun _ _ _ _ => (pf_one (pt_cmp (pc_din hu1 (pe_tup (pa_cons (pv 0) (pa_cons (pv 2) pa_nil))) (pv 4)) (by with_unfolding_all rfl)))) (fun _ _ _ _ => (pe_mdK (P := P) (w := w) (K := K) (mg := mg) (base := base) 7 hr (pv 3) (pa_cons (pv 1) (pa_cons (pv 2) pa_nil))))) pa_nil))))), ?_⟩
    refine rd_start (σ := [some (.ref h), some (.ref a), some (.str z), some (.int t), none]) rfl ?_
    obtain ⟨dx, qs, qp, qd, nk, kvs0, e1, _⟩ := hh.ex
    have hfl : (ds.filter fun d => decide (d.2.2.1 = .str z)).length ≤ ds.length := List.length_filter_le _ _
    have hsub : ∀ d ∈ ds.filter (fun d => decide (d.2.2.1 = .str z)), d ∈ ds := fun d hd => (List.mem_filter.mp hd).1
    walk_at "go"
    refine r_ways hh nr hz ld hin fun p1 H1 n1 S1 f1 => ?_
    have e11 := S1 _ _ e1
    have hh1 := house_sm hh S1
    unfold letInF at k
    have hip := into_pairs ds z
    generalize hfe : (ds.filter fun d => decide (d.2.2.1 = .str z)) = fd at hfl hsub k hip
    walk_at "go"
    refine comp_LA (α := DoorG) (xs := fd) (vs := (intoR ds z).map V.str) (fun v d => v = .str d.1) (fun _ => true) (fun d y H => ∃ q, y = .ref q ∧ H q = some (.tup [.str d.2.1, .str d.1])) (fun _ _ _ _ ⟨q, h1, h2⟩ s => ⟨q, h1, s _ _ h2⟩) (by rw [sizeLine_eq]; omega) (rest := [some (.ref h)]) (by rfl) (SqL.of f1) hip (fun v x H1 _ hx s1 R hR => hR _ (Same.refl _)) ?_ ?_
    · rintro v ⟨n, st, e, lt⟩ H2 rfl hd - s2 R hR
      have e12 := s2 _ _ e11
      walk_at "go"
      refine r_door (d := (n, st, e, lt)) (house_sm hh1 s2) ndd (hsub _ hd) fun v hv => ?_
      obtain ⟨q2, C2, dx2, fs2, fp2, rfl, hq2, dcC, l1, l2, l3, l4, l5, mcE, hfp, hlt⟩ := DoorAt.ex hv
      walk_at "go"
      rename_i q3 H3 n3 S3 e3
      exact hR _ _ ⟨q3, rfl, e3⟩ S3
    intro ys H2 s2 hys
    rw [filt_all] at hys
    have hyl : ys.length = fd.length := (Paired.length hys).symm
    walk_at "go"
    rename_i p3 H3 n3 S3 e3
    have s03 : Same H H3 := (S1.trans s2).trans S3
    have hys3 : Paired (fun v (d : DoorG) => ∃ q, v = .ref q ∧ H3 q = some (.tup [.str d.2.1, .str d.1])) ys fd := paired_flip (Paired.imp' (fun d y ⟨q, h1, h2⟩ => ⟨q, h1, S3 _ _ h2⟩) hys)
    refine comp_L2 (α := DoorG) (xs := fd) (vs := ys) (fun d => .str d.2.1) (fun d => .str d.1) (fun d => decide ((d.2.1, t) ∈ cut)) (fun d y _ => y = .int (letF f l d t)) (fun _ _ _ _ h _ => h) (by rw [sizeLine_eq]; omega) (rest := [some (.int t), some (.ref h), some (.ref a)]) (by rfl) (SqL.of e3) hys3 (fun d H4 hd s4 R hR => ?_) (fun d H4 hd _ s4 R hR => ?_) ?_
    · have ea4 := s4 _ _ (s03 _ _ ea)
      walk_at "go"
      rename_i b5 H5 n5 S5 e5
      refine rd_dinT (keyP (d.2.1, t)) (S5 _ _ ea4) e5 ?_
      rw [hk]
      walk_at "go"
      exact hR _ S5
    · have hh4 := house_sm hh (s03.trans s4)
      have e14 := (s03.trans s4) _ _ e1
      walk_at "go"
      refine r_hlets (d := d) hh4 ndd (hsub _ hd) hf fun H5 S5 => ?_
      exact hR _ _ rfl S5
    intro zs H4 s4 hzs
    have ez : zs = ((fd.filter fun d => decide ((d.2.1, t) ∈ cut)).map fun d => letF f l d t).map V.int := by rw [paired_eq hzs, List.map_map]; rfl
    subst ez
    walk_at "go"
    rename_i q5 H5 n5 S5 e5
    refine rd_sum (SqL.of e5) ?_
    exact k _ (s03.trans (s4.trans S5))
theorem fc_let_in (m : M K mg) : Fc P w K mg base "let_in" 8 ["house", "kept", "room", "turn"] (sp_letin m.C_House (doorP P w K mg base (some 5))) := ⟨_, _, m.m_let_in, m.F_let_in.kp, m.b_let_in, ok_let_in m⟩
def goingF (rz : List (Str × Int)) (ds : List DoorG) (f l : Int) (cut : List (Str × Int)) (z : Str) (hz : Int) (t : Int) : Int := if (z, t + 1) ∈ cut then 0 else if (z, t) ∈ cut then hz else min hz (letInF ds f l cut z t)
def sp_going (C : Addr) (D : DoorP) : Sp := fun vs H Q _ => ∃ (h a : Addr) (z : Str) (j t f l : Int) (rz ps : List (Str × Int)) (ds : List DoorG) (cut : List (Str × Int)) (kvs : List (List Key × V)), vs = [.ref h, .ref a, .str z, .int t] ∧ HouseAt C D H h f l rz ps ds ∧ (rz.map (·.1)).Nodup ∧ (ds.map (·.1)).Nodup ∧ (z, j) ∈ rz ∧ ds.length ≤ 20 ∧ (∀ d ∈ ds, DoorIn (rz.map (·.1)) d) ∧ 0 ≤ f ∧ H a = some (.dT kvs) ∧ KeptOf cut kvs ∧ ∀ H', Same H H' → Q (.int (goingF rz ds f l cut z j t)) H'
theorem r_goingb {C : Addr} {D : DoorP} {H : Hp} {Q : VK} {E : XK} {h a : Addr} {z : Str} {j t f l : Int} {rz ps : List (Str × Int)} {ds : List DoorG} {cut : List (Str × Int)} {kvs : List (List Key × V)} (hh : HouseAt C D H h f l rz ps ds) (nr : (rz.map (·.1)).Nodup) (nd : (ds.map (·.1)).Nodup) (hz : (z, j) ∈ rz) (ld : ds.length ≤ 20) (hin : ∀ d ∈ ds, DoorIn (rz.map (·.1)) d) (hf : 0 ≤ f) (ea : H a = some (.dT kvs)) (hk : KeptOf cut kvs) (k : ∀ H', Same H H' → Q (.int (goingF rz ds f l cut z j t)) H') : sp_going C D [.ref h, .ref a, .str z, .int t] H Q E := ⟨_, _, _, _, _, _, _, _, _, _, _, _, rfl, hh, nr, nd, hz, ld, hin, hf, ea, hk, k⟩
theorem ok_going_beyond (m : M K mg) : FnOk P w K mg base CX0 9 m.a_going_beyond m.d_going_beyond ["house", "kept", "room", "turn"] (sp_going m.C_House (doorP P w K mg base (some 5))) := by
  refine m.F_going_beyond.ok sc_going_beyond (fun vs H Q E h => ?_) (fun cdv A outer s H vs Q E hr h => ?_)
  · obtain ⟨h, a, z, j, t, f, l, rz, ps, ds, cut, kvs, rfl, hh, nr, ndd, hz, ld, hin, hf, ea, hk, k⟩ := h
    rfl
  · obtain ⟨h, a, z, j, t, f, l, rz, ps, ds, cut, kvs, rfl, hh, nr, ndd, hz, ld, hin, hf, ea, hk, k⟩ := h
    have nd := sc_going_beyond.nd
    have hu0 := Room.units0 hr
    have hu1 := Room.units1 hr
    have hu9 := Room.units9 hr
    have F_let_in := fc_let_in (P := P) (w := w) (base := base) m
    have w_dc_House := m.dc_House
    have w_mc_House_holds := mc_House_holds (P := P) (w := w) (base := base) m
    refine ⟨_, (pss_cons (ps_if (pt_cmp (pc_din hu1 (pe_tup (pa_cons (pv 2) (pa_cons (pe_op op_add (pv 3) pe_int) pa_nil))) (pv 1)) (by with_unfolding_all rfl)) (pss_one (ps_ret pe_int)) pss_nil)
      (pss_cons (ps_if (pt_cmp (pc_din hu1 (pe_tup (pa_cons (pv 2) (pa_cons (pv 3) pa_nil))) (pv 1)) (by with_unfolding_all rfl)) (pss_one (ps_ret (pe_md 3 hr (pv 0) (pa_cons (pv 2) pa_nil)))) pss_nil)
      (pss_one (ps_ret (pe_callB (call_minI rfl) rfl m.g_min bt_min (pa_cons (pe_md 3 hr (pv 0) (pa_cons (pv 2) pa_nil)) (pa_cons (pe_f F_let_in hr (pa_cons (pv 0) (pa_cons (pv 1) (pa_cons (pv 2) (pa_cons (pv 3) pa_nil))))) pa_nil))))))), ?_⟩
    refine rd_start (σ := [some (.ref h), some (.ref a), some (.str z), some (.int t)]) rfl ?_
    obtain ⟨dx, qs, qp, qd, nk, kvs0, e1, _⟩ := hh.ex
    have hzm : z ∈ rz.map (·.1) := List.mem_map.mpr ⟨_, hz, rfl⟩
    unfold goingF at k
    walk_at "go"
    rename_i b1 H1 n1 S1 f1
    refine rd_dinT (keyP (z, t + 1)) (S1 _ _ ea) f1 ?_
    rw [hk]
    walk_at "go"
    refine rd_if2 (fun hc => ?_) (fun hc => ?_)
    · rw [if_pos hc] at k
      walk_at "go"
      exact k _ S1
    · rw [if_neg hc] at k
      have ea1 := S1 _ _ ea
      have e11 := S1 _ _ e1
      walk_at "go"
      rename_i b2 H2 n2 S2 f2
      refine rd_dinT (keyP (z, t)) (S2 _ _ ea1) f2 ?_
      rw [hk]
      have s02 := S1.trans S2
      have e12 := S2 _ _ e11
      walk_at "go"
      refine rd_if2 (fun hc2 => ?_) (fun hc2 => ?_)
      · rw [if_pos hc2] at k
        walk_at "go"
        refine r_holds (house_sm hh s02) nr hz fun H3 S3 => ?_
        exact k _ (s02.trans S3)
      · rw [if_neg hc2] at k
        walk_at "go"
        refine r_holds (house_sm hh s02) nr hz fun H3 S3 => ?_
        have s03 := s02.trans S3
        walk_at "go"
        refine r_letin (house_sm hh s03) nr ndd hzm ld hin hf (s03 _ _ ea) hk fun H4 S4 => ?_
        walk_at "go"
        exact k _ (s03.trans S4)
theorem fc_going_beyond (m : M K mg) : Fc P w K mg base "going_beyond" 9 ["house", "kept", "room", "turn"] (sp_going m.C_House (doorP P w K mg base (some 5))) := ⟨_, _, m.m_going_beyond, m.F_going_beyond.kp, m.b_going_beyond, ok_going_beyond m⟩
def letOutF (ds : List DoorG) (f l : Int) (cut : List (Str × Int)) (t : Int) : Int := (((ds.filter fun d => decide (d.2.2.1 = .non)).filter fun d => decide ((d.2.1, t) ∈ cut)).map fun d => letF f l d t).sum
def sp_letout (C : Addr) (D : DoorP) : Sp := fun vs H Q _ => ∃ (h a : Addr) (t f l : Int) (rz ps : List (Str × Int)) (ds : List DoorG) (cut : List (Str × Int)) (kvs : List (List Key × V)), vs = [.ref h, .ref a, .int t] ∧ HouseAt C D H h f l rz ps ds ∧ (ds.map (·.1)).Nodup ∧ ds.length ≤ 20 ∧ (∀ d ∈ ds, DoorIn (rz.map (·.1)) d) ∧ 0 ≤ f ∧ H a = some (.dT kvs) ∧ KeptOf cut kvs ∧ ∀ H', Same H H' → Q (.int (letOutF ds f l cut t)) H'
theorem r_letout {C : Addr} {D : DoorP} {H : Hp} {Q : VK} {E : XK} {h a : Addr} {t f l : Int} {rz ps : List (Str × Int)} {ds : List DoorG} {cut : List (Str × Int)} {kvs : List (List Key × V)} (hh : HouseAt C D H h f l rz ps ds) (nd : (ds.map (·.1)).Nodup) (ld : ds.length ≤ 20) (hin : ∀ d ∈ ds, DoorIn (rz.map (·.1)) d) (hf : 0 ≤ f) (ea : H a = some (.dT kvs)) (hk : KeptOf cut kvs) (k : ∀ H', Same H H' → Q (.int (letOutF ds f l cut t)) H') : sp_letout C D [.ref h, .ref a, .int t] H Q E := ⟨_, _, _, _, _, _, _, _, _, _, rfl, hh, nd, ld, hin, hf, ea, hk, k⟩
theorem name_pairs (ds : List DoorG) : Paired (fun v (d : DoorG) => v = V.str d.1) ((ds.map (·.1)).map V.str) ds := by
  induction ds with
  | nil => exact .nil
  | cons a l ih => exact .cons rfl ih
theorem ok_let_out (m : M K mg) : FnOk P w K mg base CX0 8 m.a_let_out m.d_let_out ["house", "kept", "turn"] (sp_letout m.C_House (doorP P w K mg base (some 5))) := by
  refine m.F_let_out.ok sc_let_out (fun vs H Q E h => ?_) (fun cdv A outer s H vs Q E hr h => ?_)
  · obtain ⟨h, a, t, f, l, rz, ps, ds, cut, kvs, rfl, hh, ndd, ld, hin, hf, ea, hk, k⟩ := h
    rfl
  · obtain ⟨h, a, t, f, l, rz, ps, ds, cut, kvs, rfl, hh, ndd, ld, hin, hf, ea, hk, k⟩ := h
    have nd := sc_let_out.nd
    have hu0 := Room.units0 hr
    have hu1 := Room.units1 hr
    have hu9 := Room.units9 hr
    have w_dc_House := m.dc_House
    have w_mc_House_doors := mc_House_doors (P := P) (w := w) (base := base) m
    have w_mc_House_door := mc_House_door (P := P) (w := w) (base := base) m
    have w_mc_House_lets := mc_House_lets (P := P) (w := w) (base := base) m
    refine ⟨_, (pss_cons (ps_setComp (i := 3) nd rfl (by walk_at "oi") (N := ["name", "house"]) (nl := 1) (ci := [0]) rfl (blk (s.heap.objs.size + 1) rfl rfl rfl (by kernel_rfl)) (pi_list (pe_md0 1 hr (pv 0))) (fun _ _ _ _ => (pg_name (i := 0) (show (["name", "house"] : List Str).Nodup by decide +kernel) rfl (by walk_at "oi"))) (fun _ _ _ _ => pf_nil) (fun _ _ _ _ => (pe_mdK (P := P) (w := w) (K := K) (mg := mg) (base := base) 1 hr (pv 1) (pa_cons (pv 0) pa_nil))))
      (pss_cons (ps_setComp (i := 4) nd rfl (by walk_at "oi") (N := ["door"]) (nl := 1) (ci := []) rfl (blk (s.heap.objs.size + 1) rfl rfl rfl (by kernel_rfl)) (pi_list (pv 3)) (fun _ _ _ _ => (pg_name (i := 0) (show (["door"] : List Str).Nodup by decide +kernel) rfl (by walk_at "oi"))) (fun _ _ _ _ => (pf_one (pt_val (pe_md0K (P := P) (w := w) (K := K) (mg := mg) (base := base) 1 hr (pv 0))))) (fun _ _ _ _ => (pv 0)))
      (pss_one (ps_ret (pe_callB (call_sumI rfl) rfl m.g_sum bt_sum (pa_cons (pe_comp (N := ["door", "turn", "house", "kept"]) (nl := 1) (ci := [2, 0, 1]) rfl (blk (s.heap.objs.size + 1) rfl rfl rfl (by kernel_rfl)) (pi_list (pv 4)) (fun _ _ _ _ => (pg_name (i := 0) (show (["door", "turn", "house", "kept"] : List Str).Nodup by decide +kernel) rfl (by walk_at "oi"))) (fun _ _ _ _ => (pf_one (pt_cmp (pc_din hu1 (pe_tup (pa_cons (pe_fldK (K := K) (pv 0) rfl) (pa_cons (pv 1) pa_nil))) (pv 3)) (by with_unfolding_all rfl)))) (fun _ _ _ _ => (pe_mdK (P := P) (w := w) (K := K) (mg := mg) (base := base) 7 hr (pv 2) (pa_cons (pe_fldK (K := K) (pv 0) rfl) (pa_cons (pv 1) pa_nil))))) pa_nil)))))), ?_⟩
    refine rd_start (σ := [some (.ref h), some (.ref a), some (.int t), none, none]) rfl ?_
    obtain ⟨dx, qs, qp, qd, nk, kvs0, e1, _⟩ := hh.ex
    walk_at "go"
    refine r_names hh fun p1 H1 n1 S1 f1 => ?_
    have e11 := S1 _ _ e1
    have hh1 := house_sm hh S1
    walk_at "go"
    refine comp_LA (α := DoorG) (xs := ds) (vs := (ds.map (·.1)).map V.str) (fun v d => v = .str d.1) (fun _ => true) (fun d y H => (doorP P w K mg base (some 5)).at' H y d) (fun _ _ _ _ h s => (doorP P w K mg base (some 5)).same h s) (by rw [sizeLine_eq]; omega) (rest := [some (.ref h)]) (by rfl) (SqL.of f1) (name_pairs ds) (fun v x H1 _ hx s1 R hR => hR _ (Same.refl _)) ?_ ?_
    · rintro v d H2 rfl hd - s2 R hR
      have e12 := s2 _ _ e11
      walk_at "go"
      refine r_door (d := d) (house_sm hh1 s2) ndd hd fun v hv => ?_
      exact hR _ _ hv (Same.refl _)
    intro ys H2 s2 hys
    rw [filt_all] at hys
    have hyd : Paired ((doorP P w K mg base (some 5)).at' H2) ys ds := paired_flip hys
    have hyl : ys.length = ds.length := Paired.length hyd
    walk_at "go"
    rename_i p3 H3 n3 S3 e3
    refine comp_LA (α := DoorG) (xs := ds) (vs := ys) ((doorP P w K mg base (some 5)).at' H3) (fun d => decide (d.2.2.1 = .non)) (fun d y H => (doorP P w K mg base (some 5)).at' H y d) (fun _ _ _ _ h s => (doorP P w K mg base (some 5)).same h s) (by rw [sizeLine_eq]; omega) (rest := []) (by rfl) (SqL.of e3) (doors_sm hyd S3) ?_ ?_ ?_
    · rintro v ⟨n, st, e, lt⟩ H4 hv hm s4 R hR
      obtain ⟨q2, C2, dx2, fs2, fp2, rfl, hq2, dcC, l1, l2, l3, l4, l5, mcE, hfp, hlt⟩ := DoorAt.ex hv
      have hq2 := s4 _ _ hq2
      have hR' := hR _ (Same.refl _)
      have hend := (hin _ hm).2
      rcases hend with hend | ⟨z, hend, hz⟩
      · have hde : e = .non := hend
        subst hde
        rw [show decide (((n, st, V.non, lt) : DoorG).2.2.1 = .non) = true from decide_eq_true rfl] at hR'
        walk_at "go"
        exact hR'
      · have hde : e = .str z := hend
        subst hde
        rw [show decide (((n, st, V.str z, lt) : DoorG).2.2.1 = .non) = false from decide_eq_false fun z => nomatch z] at hR'
        walk_at "go"
        exact hR'
    · rintro v d H4 hv hm - s4 R hR
      walk_at "go"
      exact hR _ _ ((doorP P w K mg base (some 5)).same hv s4) (Same.refl _)
    intro zs H4 s4 hzs
    have hzd : Paired ((doorP P w K mg base (some 5)).at' H4) zs (ds.filter fun d => decide (d.2.2.1 = .non)) := paired_flip hzs
    have hfl : (ds.filter fun d => decide (d.2.2.1 = .non)).length ≤ ds.length := List.length_filter_le _ _
    have hsub : ∀ d ∈ ds.filter (fun d => decide (d.2.2.1 = .non)), d ∈ ds := fun d hd => (List.mem_filter.mp hd).1
    unfold letOutF at k
    generalize hfe : (ds.filter fun d => decide (d.2.2.1 = .non)) = fd at hfl hsub k hzd
    have hzl : zs.length = fd.length := Paired.length hzd
    walk_at "go"
    rename_i p5 H5 n5 S5 e5
    have s05 : Same H H5 := (S1.trans s2).trans (S3.trans (s4.trans S5))
    refine comp_LA (α := DoorG) (xs := fd) (vs := zs) ((doorP P w K mg base (some 5)).at' H5) (fun d => decide ((d.2.1, t) ∈ cut)) (fun d y _ => y = .int (letF f l d t)) (fun _ _ _ _ h _ => h) (by rw [sizeLine_eq]; omega) (rest := [some (.int t), some (.ref h), some (.ref a)]) (by rfl) (SqL.of e5) (doors_sm hzd S5) ?_ ?_ ?_
    · rintro v ⟨n, st, e, lt⟩ H6 hv hm s6 R hR
      obtain ⟨q2, C2, dx2, fs2, fp2, rfl, hq2, dcC, l1, l2, l3, l4, l5, mcE, hfp, hlt⟩ := DoorAt.ex hv
      have hq2 := s6 _ _ hq2
      have ea6 := s6 _ _ (s05 _ _ ea)
      walk_at "go"
      rename_i b7 H7 n7 S7 e7
      refine rd_dinT (keyP (st, t)) (S7 _ _ ea6) e7 ?_
      rw [hk]
      walk_at "go"
      exact hR _ S7
    · rintro v ⟨n, st, e, lt⟩ H6 hv hm - s6 R hR
      obtain ⟨q2, C2, dx2, fs2, fp2, rfl, hq2, dcC, l1, l2, l3, l4, l5, mcE, hfp, hlt⟩ := DoorAt.ex hv
      have hq2 := s6 _ _ hq2
      have hh6 := house_sm hh (s05.trans s6)
      have e16 := (s05.trans s6) _ _ e1
      walk_at "go"
      refine r_hlets (d := (n, st, e, lt)) hh6 ndd (hsub _ hm) hf fun H7 S7 => ?_
      exact hR _ _ rfl S7
    intro ws H6 s6 hws
    have ez : ws = ((fd.filter fun d => decide ((d.2.1, t) ∈ cut)).map fun d => letF f l d t).map V.int := by rw [paired_eq hws, List.map_map]; rfl
    subst ez
    walk_at "go"
    rename_i q7 H7 n7 S7 e7
    refine rd_sum (SqL.of e7) ?_
    exact k _ (s05.trans (s6.trans S7))
theorem fc_let_out (m : M K mg) : Fc P w K mg base "let_out" 8 ["house", "kept", "turn"] (sp_letout m.C_House (doorP P w K mg base (some 5))) := ⟨_, _, m.m_let_out, m.F_let_out.kp, m.b_let_out, ok_let_out m⟩
local macro_rules | `(tactic| walk_at "rd1") => `(tactic| first | ((with_reducible refine' rd_aug ?e ?_); (case e => rfl)) | (with_reducible refine rd_ipI ?_))
def boundF (rz ps : List (Str × Int)) (ds : List DoorG) (f l : Int) (cut : List (Str × Int)) (t : Int) : Int := if t = f then 0 else beyondF rz ps f cut + ((List.range (t - 1 - f).toNat).map fun i : Nat => (rz.map fun e => goingF rz ds f l cut e.1 e.2 (f + (i : Int))).sum).sum + ((List.range (t - f).toNat).map fun i : Nat => letOutF ds f l cut (f + (i : Int))).sum
theorem kept_put {cut : List (Str × Int)} {kvs : List (List Key × V)} (h : KeptOf cut kvs) (p : Str × Int) (v : V) : KeptOf (cut ++ [p]) (putK kvs (keyP p) v) := fun q => by
  rw [valV_put]
  by_cases hq : keyP q = keyP p
  · have hqp := keyP_inj hq
    subst hqp
    rw [if_pos rfl]
    exact (decide_eq_true (List.mem_append_right _ (.head _))).symm
  · rw [if_neg hq, h q]
    have hqp : q ≠ p := fun z => hq (by rw [z])
    by_cases hm : q ∈ cut
    · rw [decide_eq_true hm, decide_eq_true (List.mem_append_left _ hm)]
    · rw [decide_eq_false hm, decide_eq_false fun z => (List.mem_append.mp z).elim hm fun y => hqp (List.mem_singleton.mp y)]
def sp_bound (K : W.Frag) (C : Addr) (D : DoorP) : Sp := fun vs H Q _ => ∃ (h c : Addr) (t f l : Int) (rz ps : List (Str × Int)) (ds : List DoorG) (cs : List V) (cut : List (Str × Int)), vs = [.ref h, .ref c, .int t] ∧ HouseAt C D H h f l rz ps ds ∧ (rz.map (·.1)).Nodup ∧ (ds.map (·.1)).Nodup ∧ rz.length ≤ 20 ∧ ds.length ≤ 20 ∧ (∀ d ∈ ds, DoorIn (rz.map (·.1)) d) ∧ 0 ≤ f ∧ f ≤ t ∧ t < 1000000000000 ∧ SqL K H c cs ∧ Paired (PplAt H) cs cut ∧ cut.length ≤ 600 ∧ ∀ H', Same H H' → Q (.int (boundF rz ps ds f l cut t)) H'
theorem r_bound {C : Addr} {D : DoorP} {H : Hp} {Q : VK} {E : XK} {h c : Addr} {t f l : Int} {rz ps : List (Str × Int)} {ds : List DoorG} {cs : List V} {cut : List (Str × Int)} (hh : HouseAt C D H h f l rz ps ds) (nr : (rz.map (·.1)).Nodup) (nd : (ds.map (·.1)).Nodup) (lr : rz.length ≤ 20) (ld : ds.length ≤ 20) (hin : ∀ d ∈ ds, DoorIn (rz.map (·.1)) d) (hf : 0 ≤ f) (ht : f ≤ t) (ht2 : t < 1000000000000) (hS : SqL K H c cs) (hc : Paired (PplAt H) cs cut) (hl : cut.length ≤ 600) (k : ∀ H', Same H H' → Q (.int (boundF rz ps ds f l cut t)) H') : sp_bound K C D [.ref h, .ref c, .int t] H Q E := ⟨_, _, _, _, _, _, _, _, _, _, rfl, hh, nr, nd, lr, ld, hin, hf, ht, ht2, hS, hc, hl, k⟩
theorem ok_bound (m : M K mg) : FnOk P w K mg base CX0 10 m.a_bound m.d_bound ["house", "cut", "turn"] (sp_bound K m.C_House (doorP P w K mg base (some 5))) := by
  refine m.F_bound.ok sc_bound (fun vs H Q E h => ?_) (fun cdv A outer s H vs Q E hr h => ?_)
  · obtain ⟨h, c, t, f, l, rz, ps, ds, cs, cut, rfl, hh, nr, ndd, lr, ld, hin, hf, ht, ht2, hS, hcp, hcl, k⟩ := h
    rfl
  · obtain ⟨h, c, t, f, l, rz, ps, ds, cs, cut, rfl, hh, nr, ndd, lr, ld, hin, hf, ht, ht2, hS, hcp, hcl, k⟩ := h
    have nd := sc_bound.nd
    have hu0 := Room.units0 hr
    have hu1 := Room.units1 hr
    have hu9 := Room.units9 hr
    have F_found_beyond := fc_found_beyond (P := P) (w := w) (base := base) m
    have F_going_beyond := fc_going_beyond (P := P) (w := w) (base := base) m
    have F_let_out := fc_let_out (P := P) (w := w) (base := base) m
    have w_dc_House := m.dc_House
    have w_mc_House_rooms := mc_House_rooms (P := P) (w := w) (base := base) m
    refine ⟨_, (pss_cons (ps_if (pt_cmpR op_eq (pv 2) (pe_fld (pv 0) rfl) (nomark _)) (pss_one (ps_ret pe_int)) pss_nil)
      (pss_cons (ps_set (i := 3) nd rfl (by walk_at "oi") pe_dnewT)
      (pss_cons (ps_for PassesOwn.never rfl (pi_list (pv 1)) (pg_tup rfl (pgs_cons (pg_name (i := 4) nd rfl (by walk_at "oi")) (pgs_cons (pg_name (i := 5) nd rfl (by walk_at "oi")) pgs_nil))) (pss_one (ps_dput hu1 (pv 3) (pe_tup (pa_cons (pv 4) (pa_cons (pv 5) pa_nil))) pe_bl rfl)))
      (pss_cons (ps_set (i := 6) nd rfl (by walk_at "oi") (pe_f F_found_beyond hr (pa_cons (pv 0) (pa_cons (pv 3) pa_nil))))
      (pss_cons (ps_for PassesOwn.never rfl (pi_range2 rfl m.g_range (pa_cons (pe_fld (pv 0) rfl) (pa_cons (pe_op op_sub (pv 2) pe_int) pa_nil))) (pg_name (i := 5) nd rfl (by walk_at "oi")) (pss_one (ps_aug (i := 6) nd rfl (by walk_at "oi") (pe_callB (call_sumI rfl) rfl m.g_sum bt_sum (pa_cons (pe_comp (N := ["room", "house", "kept", "at"]) (nl := 1) (ci := [0, 3, 5]) rfl (blk (s.heap.objs.size + 1) rfl rfl rfl (by kernel_rfl)) (pi_list (pe_md0 1 hr (pv 0))) (fun _ _ _ _ => (pg_name (i := 0) (show (["room", "house", "kept", "at"] : List Str).Nodup by decide +kernel) rfl (by walk_at "oi"))) (fun _ _ _ _ => pf_nil) (fun _ _ _ _ => (pe_f F_going_beyond hr (pa_cons (pv 1) (pa_cons (pv 2) (pa_cons (pv 0) (pa_cons (pv 3) pa_nil))))))) pa_nil)) ip_add)))
      (pss_cons (ps_for PassesOwn.never rfl (pi_range2 rfl m.g_range (pa_cons (pe_fld (pv 0) rfl) (pa_cons (pv 2) pa_nil))) (pg_name (i := 5) nd rfl (by walk_at "oi")) (pss_one (ps_aug (i := 6) nd rfl (by walk_at "oi") (pe_f F_let_out hr (pa_cons (pv 0) (pa_cons (pv 3) (pa_cons (pv 5) pa_nil)))) ip_add)))
      (pss_one (ps_ret (pv 6))))))))), ?_⟩
    refine rd_start (σ := [some (.ref h), some (.ref c), some (.int t), none, none, none, none]) rfl ?_
    obtain ⟨dx, qs, qp, qd, nk, kvs0, e1, _⟩ := hh.ex
    have hll : cs.length = cut.length := Paired.length hcp
    unfold boundF at k
    walk_at "go"
    refine rd_if2 (fun hc => ?_) (fun hc => ?_)
    · rw [if_pos hc] at k
      walk_at "go"
      exact k _ (Same.refl _)
    · rw [if_neg hc] at k
      walk_at "go"
      rename_i p H1 n1 S1 ep
      have fr : ∀ x u, H x = some u → x ≠ p := fun x u hx z => by rw [z, n1] at hx; cases hx
      refine rd_forL cs (fun i σ' H' => SameBut p H1 H' ∧ (∃ kvs, H' p = some (.dT kvs) ∧ kvs.length ≤ i ∧ KeptOf (cut.take i) kvs) ∧ ∃ x y, σ' = [some (.ref h), some (.ref c), some (.int t), some (.ref p), x, y, none]) ⟨SameBut.refl, ⟨[], ep, Nat.le_refl _, fun q => rfl⟩, _, _, rfl⟩ (fun i σ' H' _ g => (SameBut.same n1 S1 g.1).seq hS) ?_ ?_
      · rintro i x _ H' hx ⟨sb, ⟨kvs, ek, hkl, hk⟩, x1, x2, rfl⟩
        have hi : i < cs.length := (List.getElem?_eq_some_iff.mp hx).1
        obtain ⟨⟨z, u⟩, hrx⟩ : ∃ r, cut[i]? = some r := ⟨_, List.getElem?_eq_getElem (by omega)⟩
        obtain ⟨q1, rfl, hq1⟩ := Paired.at2 hcp hx hrx
        have hq1' : H' q1 = some (.tup [.str z, .int u]) := (SameBut.same n1 S1 sb) _ _ hq1
        walk_at "go"
        rename_i b3 H3 n3 S3 e3
        refine rd_dputT (keyP (z, u)) (S3 _ _ ek) e3 (by rw [sizeLine_eq]; omega) fun H4 B4 e4 => ?_
        refine ⟨(sb.trans S3.but).trans B4, ⟨_, e4, Nat.le_trans (length_putK _ _ _) (by omega), ?_⟩, _, _, rfl⟩
        rw [take_succ' hrx]
        exact kept_put hk _ _
      · rintro _ H2 ⟨sb, ⟨kvs, ek, hkl, hk⟩, x1, x2, rfl⟩
        rw [hll, List.take_length] at hk
        have s02 : Same H H2 := SameBut.same n1 S1 sb
        have hh2 := house_sm hh s02
        walk_at "go"
        refine r_beyond hh2 nr lr ek hk fun H3 S3 => ?_
        have e13 := S3 _ _ (s02 _ _ e1)
        walk_at "go"
        refine rd_forR (fun i σ' G => Same H3 G ∧ ∃ x y, σ' = [some (.ref h), some (.ref c), some (.int t), some (.ref p), x, y, some (.int (beyondF rz ps f cut + ((List.range i).map fun i : Nat => (rz.map fun e => goingF rz ds f l cut e.1 e.2 (f + (i : Int))).sum).sum))]) ⟨Same.refl _, _, _, by rw [List.range_zero]; show _ = [_, _, _, _, _, _, some (V.int (_ + 0))]; rw [Int.add_zero]⟩ ?_ ?_
        · rintro i _ G hi ⟨sG, y1, y2, rfl⟩
          have s2G : Same H2 G := S3.trans sG
          have hhG := house_sm hh2 s2G
          have e1G := s2G _ _ (s02 _ _ e1)
          have ekG := s2G _ _ ek
          walk_at "go"
          refine r_names hhG fun p4 G4 n4 S4 f4 => ?_
          walk_at "go"
          refine comp_LA (α := Str × Int) (xs := rz) (vs := (rz.map (·.1)).map V.str) (fun v e => v = .str e.1) (fun _ => true) (fun e y _ => y = .int (goingF rz ds f l cut e.1 e.2 (f + (i : Int)))) (fun _ _ _ _ h _ => h) (by rw [sizeLine_eq]; omega) (rest := [some (.ref h), some (.ref p), some (.int (f + (i : Int)))]) (by rfl) (SqL.of f4) (room_pairs rz) (fun v x H1 _ hx s1 R hR => hR _ (Same.refl _)) ?_ ?_
          · rintro v e G5 rfl he - s5 R hR
            have s45 := S4.trans s5
            walk_at "go"
            refine r_goingb (house_sm hhG s45) nr ndd (show (e.1, e.2) ∈ rz from he) ld hin hf (s45 _ _ ekG) hk fun G6 S6 => ?_
            exact hR _ _ rfl S6
          intro ys G5 s5 hys
          rw [filt_all] at hys
          have ey : ys = (rz.map fun e => goingF rz ds f l cut e.1 e.2 (f + (i : Int))).map V.int := by rw [paired_eq hys, List.map_map]; rfl
          subst ey
          walk_at "go"
          rename_i q6 G6 n6 S6 e6
          refine rd_sum (SqL.of e6) ?_
          walk_at "go"
          refine ⟨sG.trans (S4.trans (s5.trans S6)), y1, some (.int (f + (i : Int))), ?_⟩
          rw [List.range_succ, List.map_append, List.sum_append]
          show [_, _, _, _, _, _, some (V.int (beyondF rz ps f cut + _ + _))] = [_, _, _, _, _, _, some (V.int (beyondF rz ps f cut + (_ + (_ + 0))))]
          rw [Int.add_zero, Int.add_assoc]
        · rintro _ G ⟨sG, y1, y2, rfl⟩
          have s2G : Same H2 G := S3.trans sG
          have e1G := s2G _ _ (s02 _ _ e1)
          walk_at "go"
          generalize hbe : beyondF rz ps f cut + ((List.range (t - 1 - f).toNat).map fun i : Nat => (rz.map fun e => goingF rz ds f l cut e.1 e.2 (f + (i : Int))).sum).sum = bb at k
          refine rd_forR (fun i σ' J => Same G J ∧ ∃ x y, σ' = [some (.ref h), some (.ref c), some (.int t), some (.ref p), x, y, some (.int (bb + ((List.range i).map fun i : Nat => letOutF ds f l cut (f + (i : Int))).sum))]) ⟨Same.refl _, _, _, by rw [List.range_zero]; show _ = [_, _, _, _, _, _, some (V.int (_ + 0))]; rw [Int.add_zero]⟩ ?_ ?_
          · rintro i _ J hi ⟨sJ, z1, z2, rfl⟩
            have s2J := s2G.trans sJ
            walk_at "go"
            refine r_letout (house_sm hh2 s2J) ndd ld hin hf (s2J _ _ ek) hk fun J2 S2 => ?_
            walk_at "go"
            refine ⟨sJ.trans S2, z1, some (.int (f + (i : Int))), ?_⟩
            rw [List.range_succ, List.map_append, List.sum_append]
            show [_, _, _, _, _, _, some (V.int (bb + _ + _))] = [_, _, _, _, _, _, some (V.int (bb + (_ + (_ + 0))))]
            rw [Int.add_zero, Int.add_assoc]
          · rintro _ J ⟨sJ, z1, z2, rfl⟩
            walk_at "go"
            exact k _ (s02.trans (s2G.trans sJ))
theorem fc_bound (m : M K mg) : Fc P w K mg base "bound" 10 ["house", "cut", "turn"] (sp_bound K m.C_House (doorP P w K mg base (some 5))) := ⟨_, _, m.m_bound, m.F_bound.kp, m.b_bound, ok_bound m⟩
def cellN (ns : List Int) (k : Int) : Int := ns.getD k.toNat 0
def sp_cell (K : W.Frag) : Sp := fun vs H Q _ => ∃ (a : Addr) (ns : List Int) (k : Int), vs = [.ref a, .int k] ∧ SqL K H a (ns.map V.int) ∧ 0 ≤ k ∧ Q (.int (cellN ns k)) H
theorem r_cell {H : Hp} {Q : VK} {E : XK} {a : Addr} {ns : List Int} {i : Int} (hS : SqL K H a (ns.map V.int)) (hi : 0 ≤ i) (h : Q (.int (cellN ns i)) H) : sp_cell K [.ref a, .int i] H Q E := ⟨_, _, _, rfl, hS, hi, h⟩
theorem ok__law_cell_at (m : M K mg) : FnOk P w K mg base CX0 1 m.a__law_cell_at m.d__law_cell_at ["_law_script", "_law_k"] (sp_cell K) := by
  refine m.F__law_cell_at.ok sc__law_cell_at (fun vs H Q E h => ?_) (fun cdv A outer s H vs Q E hr h => ?_)
  · obtain ⟨a, ns, i, rfl, hS, hi, k⟩ := h
    rfl
  · obtain ⟨a, ns, i, rfl, hS, hi, k⟩ := h
    have nd := sc__law_cell_at.nd
    have hu0 := Room.units0 hr
    have hu1 := Room.units1 hr
    have hu9 := Room.units9 hr
    refine ⟨_, (pss_cons (ps_if (pt_cmpR op_lt (pv 1) (pe_callB call_lenL rfl m.g_len bt_len (pa_cons (pv 0) pa_nil)) (nomark _)) (pss_one (ps_ret (pe_ix ix_list (pv 0) (pv 1) (fun _ _ => rfl)))) pss_nil)
      (pss_one (ps_ret pe_int))), ?_⟩
    refine rd_start (σ := [some (.ref a), some (.int i)]) rfl ?_
    walk_at "go"
    rw [List.length_map]
    refine rd_if2 (fun h1 => ?_) (fun h1 => ?_)
    · have hlt : i.toNat < ns.length := by omega
      have e := atI_nat (xs := ns.map V.int) (j := i.toNat) (v := .int (cellN ns i)) (by
        rw [List.getElem?_map, List.getElem?_eq_getElem hlt]
        unfold cellN
        rw [List.getD_eq_getElem?_getD, List.getElem?_eq_getElem hlt]; rfl)
      rw [show ((i.toNat : Nat) : Int) = i by omega] at e
      exact ⟨_, rfl, _, rfl, a, _, i, _, rfl, rfl, hS, e, k⟩
    · have e : cellN ns i = 0 := by
        unfold cellN
        rw [List.getD_eq_getElem?_getD, List.getElem?_eq_none (by omega)]; rfl
      rw [e] at k
      exact k
theorem fc__law_cell_at (m : M K mg) : Fc P w K mg base "_law_cell_at" 1 ["_law_script", "_law_k"] (sp_cell K) := ⟨_, _, m.m__law_cell_at, m.F__law_cell_at.kp, m.b__law_cell_at, ok__law_cell_at m⟩
local macro_rules | `(tactic| walk_at "rd1") => `(tactic| first | (with_reducible refine r_lwhole ?_) | ((with_reducible refine' r_cell ?e ?s ?_); (case e => walk_at "hp"); (case s => walk_at "sd")))
def sp_drawn : Sp := fun vs H Q _ => ∃ (c k : Int), vs = [.int c, .int k] ∧ ∀ n, 0 ≤ n → n < 2147483648 → Q (.int n) H
theorem r_drawn {H : Hp} {Q : VK} {E : XK} {c k : Int} (h : ∀ n, 0 ≤ n → n < 2147483648 → Q (.int n) H) : sp_drawn [.int c, .int k] H Q E := ⟨_, _, rfl, h⟩
theorem ok__law_mixed (m : M K mg) : FnOk P w K mg base CX0 1 m.a__law_mixed m.d__law_mixed ["_law_cell", "_law_k"] (sp_drawn) := by
  refine m.F__law_mixed.ok sc__law_mixed (fun vs H Q E h => ?_) (fun cdv A outer s H vs Q E hr h => ?_)
  · obtain ⟨c, j, rfl, k⟩ := h
    rfl
  · obtain ⟨c, j, rfl, k⟩ := h
    have nd := sc__law_mixed.nd
    have hu0 := Room.units0 hr
    have hu1 := Room.units1 hr
    have hu9 := Room.units9 hr
    refine ⟨_, (pss_cons (ps_set (i := 2) nd rfl (by walk_at "oi") (pe_op op_mod (pe_op op_mul (pe_op op_add (pe_op op_add (pv 0) (pe_op op_mul pe_int (pv 1))) pe_int) pe_int) pe_int))
      (pss_cons (ps_set (i := 2) nd rfl (by walk_at "oi") (pe_op op_mod (pe_op op_mul (pv 2) (pe_op op_add (pe_op op_fdiv (pv 2) pe_int) pe_int)) pe_int))
      (pss_one (ps_ret (pe_op op_mod (pe_op op_mul (pv 2) (pe_op op_add (pe_op op_fdiv (pv 2) pe_int) pe_int)) pe_int))))), ?_⟩
    refine rd_start (σ := [some (.int c), some (.int j), none]) rfl ?_
    walk_at "go"
    refine k _ ?_ ?_
    · exact Int.emod_nonneg _ (by decide)
    · exact Int.lt_trans (Int.emod_lt_of_pos _ (by decide)) (by decide)
theorem fc__law_mixed (m : M K mg) : Fc P w K mg base "_law_mixed" 1 ["_law_cell", "_law_k"] (sp_drawn) := ⟨_, _, m.m__law_mixed, m.F__law_mixed.kp, m.b__law_mixed, ok__law_mixed m⟩
local macro_rules | `(tactic| walk_at "rd1") => `(tactic| ((with_reducible refine r_drawn ?_); intro n' h0' h1'))
theorem lit_at {x : Str} {b n : Nat} (hx : x.cps.toList = List.range' b n) {i : Int} (h0 : 0 ≤ i) (h1 : i < n) : atI x.cps.toList i = some (b + i.toNat) := by
  have e := atI_nat (xs := x.cps.toList) (j := i.toNat) (v := b + i.toNat) (by rw [hx, List.getElem?_range' (by omega)]; simp)
  rw [show ((i.toNat : Nat) : Int) = i by omega] at e
  exact e
theorem pair_map {α β γ : Type} {F : α → γ → Prop} (g : β → γ) : ∀ {l : List β} {m : List α}, Paired (fun x y => F y (g x)) l m → Paired F m (l.map g)
  | _, _, .nil => .nil
  | _, _, .cons r t => .cons r (pair_map g t)
theorem rd_ixN {H : Hp} {Q : VK} {p : Addr} {xs : List V} {j : Nat} {v : V} (e : SqL K H p xs) (hx : xs[j]? = some v) (h : Q v H) : rIxL K (.ref p) (.int (j : Int)) H Q := ⟨p, xs, _, v, rfl, rfl, e, atI_nat hx, h⟩
def wdL (n : Nat) : List Nat := if n < 26 then [97 + n] else wdL (n / 26) ++ [97 + n % 26]
termination_by n
decreasing_by omega
def wdV (l : List Nat) : Nat := l.foldl (fun a x => a * 26 + (x - 97)) 0
theorem wdV_wd (n : Nat) : wdV (wdL n) = n := by
  induction n using Nat.strongRecOn with
  | _ n ih =>
    rw [wdL]
    by_cases h : n < 26
    · rw [if_pos h]; show 0 * 26 + (97 + n - 97) = n; omega
    · rw [if_neg h]
      have := ih (n / 26) (by omega)
      unfold wdV at this ⊢
      rw [List.foldl_append, this]
      show n / 26 * 26 + (97 + n % 26 - 97) = n
      omega
theorem wdL_inj {a b : Nat} (h : wdL a = wdL b) : a = b := by rw [← wdV_wd a, ← wdV_wd b, h]
theorem wdL_low (n : Nat) : ∀ x ∈ wdL n, 97 ≤ x ∧ x < 123 := by
  induction n using Nat.strongRecOn with
  | _ n ih =>
    rw [wdL]
    by_cases h : n < 26
    · rw [if_pos h]; intro x hx; rw [List.mem_singleton.mp hx]; omega
    · rw [if_neg h]
      intro x hx
      rcases List.mem_append.mp hx with hx | hx
      · exact ih (n / 26) (by omega) x hx
      · rw [List.mem_singleton.mp hx]; omega
theorem wdL_len (k : Nat) : ∀ n : Nat, n < 26 ^ (k + 1) → (wdL n).length ≤ k + 1 := by
  induction k with
  | zero => intro n h; rw [wdL, if_pos (by simpa using h)]; exact Nat.le_refl _
  | succ k ih =>
    intro n h
    rw [wdL]
    by_cases h2 : n < 26
    · rw [if_pos h2]; show 1 ≤ _; omega
    · rw [if_neg h2, List.length_append]
      have := ih (n / 26) (by rw [Nat.div_lt_iff_lt_mul (by decide)]; rw [← Nat.pow_succ]; exact h)
      show _ + 1 ≤ _; omega
theorem wdL_pos (n : Nat) : 0 < (wdL n).length := by
  rw [wdL]
  by_cases h : n < 26
  · rw [if_pos h]; exact Nat.one_pos
  · rw [if_neg h, List.length_append]; show 0 < _ + 1; omega
def wdS (n : Nat) : Str := ⟨⟨wdL n⟩⟩
theorem wdS_ok {n : Nat} (h : n < 26 ^ 8) : nameB (wdS n) = true := by
  refine nameB_of ?_ ?_ ?_
  · exact wdL_pos n
  · exact wdL_len 7 n h
  · show (wdL n).all sgB = true
    rw [List.all_eq_true]
    intro x hx
    have := wdL_low n x hx
    unfold sgB
    simp only [Bool.and_eq_true, decide_eq_true_eq]
    omega
theorem wdS_inj {a b : Nat} (h : wdS a = wdS b) : a = b := wdL_inj (congrArg (fun z : Str => z.cps.toList) h)
def wnF (c k : Int) : Str := wdS (c % 3000000007 * 61 + k).toNat
theorem wnF_ok {c k : Int} (h0 : 0 ≤ k) (h1 : k < 61) : nameB (wnF c k) = true := wdS_ok (by
  have := Int.emod_nonneg c (show (3000000007 : Int) ≠ 0 by decide)
  have := Int.emod_lt_of_pos c (show (0 : Int) < 3000000007 by decide)
  have : (26 : Nat) ^ 8 = 208827064576 := by decide
  omega)
theorem wnF_inj {c d k j : Int} (h0 : 0 ≤ k) (h1 : k < 61) (h2 : 0 ≤ j) (h3 : j < 61) (h : wnF c k = wnF d j) : k = j := by
  have h' := wdS_inj h
  have := Int.emod_nonneg c (show (3000000007 : Int) ≠ 0 by decide)
  have := Int.emod_nonneg d (show (3000000007 : Int) ≠ 0 by decide)
  omega
theorem abc_list : ("abcdefghijklmnopqrstuvwxyz" : Str).cps.toList = List.range' 97 26 := by decide +kernel
theorem len_abc : ("abcdefghijklmnopqrstuvwxyz" : Str).length = 26 := by rw [lit_len]; decide
def sp_lname : Sp := fun vs H Q _ => ∃ (c k : Int), vs = [.int c, .int k] ∧ 0 ≤ k ∧ k < 61 ∧ Q (.str (wnF c k)) H
theorem r_lname {H : Hp} {Q : VK} {E : XK} {c k : Int} (h0 : 0 ≤ k) (h1 : k < 61) (h : Q (.str (wnF c k)) H) : sp_lname [.int c, .int k] H Q E := ⟨_, _, rfl, h0, h1, h⟩
theorem ne_empty (a : Nat) (z : Str) : (⟨#[a]⟩ ++ z : Str) ≠ "" := fun h => by
  have h' := congrArg (fun z : Str => z.cps.toList) h
  simp only [str_app_cps] at h'
  rw [show ("" : Str).cps.toList = [] by decide +kernel] at h'
  cases h'
def WdI (N0 : Nat) (nu : Int) (z : Str) : Prop := (nu = 0 ∧ z ≠ "" ∧ z.cps.toList = wdL N0) ∨ ((0 < nu ∨ z = "") ∧ wdL N0 = wdL nu.toNat ++ z.cps.toList)
theorem wd_step {N0 : Nat} {nu : Int} {z : Str} (hnu : 0 ≤ nu) (hor : WdI N0 nu z) (hc : 0 < nu ∨ z = "") : 0 ≤ nu / 26 ∧ (nu / 26).toNat + 0 < nu.toNat + (if z = "" then 1 else 0) ∧ WdI N0 (nu / 26) (⟨#[97 + (nu % 26).toNat]⟩ ++ z) := by
  have h2 : wdL N0 = wdL nu.toNat ++ z.cps.toList := by
    rcases hor with ⟨h1, h2, _⟩ | ⟨_, h⟩
    · exact absurd hc (by rintro (h | h); omega; exact h2 h)
    · exact h
  have hl : (⟨#[97 + (nu % 26).toNat]⟩ ++ z : Str).cps.toList = (97 + (nu % 26).toNat) :: z.cps.toList := by rw [str_app_cps]; rfl
  refine ⟨by omega, ?_, ?_⟩
  · rcases hc with hc | hc
    · have : (nu / 26).toNat < nu.toNat := by omega
      omega
    · rw [if_pos hc]; omega
  · by_cases h26 : nu.toNat < 26
    · refine .inl ⟨by omega, ne_empty _ _, ?_⟩
      rw [hl, h2, wdL, if_pos h26, show (nu % 26).toNat = nu.toNat by omega]; rfl
    · refine .inr ⟨.inl (by omega), ?_⟩
      rw [hl, h2, wdL, if_neg h26, show (nu / 26).toNat = nu.toNat / 26 by omega, show (nu % 26).toNat = nu.toNat % 26 by omega, List.append_assoc]; rfl
theorem ok__law_name (m : M K mg) : FnOk P w K mg base CX0 1 m.a__law_name m.d__law_name ["_law_cell", "_law_k"] (sp_lname) := by
  refine m.F__law_name.ok sc__law_name (fun vs H Q E h => ?_) (fun cdv A outer s H vs Q E hr h => ?_)
  · obtain ⟨c, j, rfl, h0, h1, k⟩ := h
    rfl
  · obtain ⟨c, j, rfl, h0, h1, k⟩ := h
    have nd := sc__law_name.nd
    have hu0 := Room.units0 hr
    have hu1 := Room.units1 hr
    have hu9 := Room.units9 hr
    refine ⟨_, (pss_cons (ps_set (i := 2) nd rfl (by walk_at "oi") (pe_op op_add (pe_op op_mul (pe_op op_mod (pv 0) pe_int) pe_int) (pv 1)))
      (pss_cons (ps_set (i := 3) nd rfl (by walk_at "oi") pe_str)
      (pss_cons (ps_while PassesOwn.never (PW.pt (pw_or (pt_cmpR op_gt (pv 2) pe_int (nomark _)) (pw_or1 (pt_cmpR op_eq (pv 3) pe_str (nomark _))))) (pss_cons (ps_set (i := 3) nd rfl (by walk_at "oi") (pe_op op_addS (pe_ix ix_str pe_str (pe_op op_mod (pv 2) pe_int) (fun _ _ => rfl)) (pv 3)))
      (pss_one (ps_set (i := 2) nd rfl (by walk_at "oi") (pe_op op_fdiv (pv 2) pe_int)))))
      (pss_one (ps_ret (pv 3)))))), ?_⟩
    refine rd_start (σ := [some (.int c), some (.int j), none, none]) rfl ?_
    have hla := len_abc
    have hc0 := Int.emod_nonneg c (show (3000000007 : Int) ≠ 0 by decide)
    have hc1 := Int.emod_lt_of_pos c (show (0 : Int) < 3000000007 by decide)
    unfold wnF at k
    walk_at "go"
    have hN : (c % 3000000007 * 61 + j).toNat < 26 ^ 8 := by
      have : (26 : Nat) ^ 8 = 208827064576 := by decide
      omega
    have hNl := wdL_len 7 _ hN
    have hn0 : 0 ≤ c % 3000000007 * 61 + j := by omega
    generalize c % 3000000007 * 61 + j = N0 at k hNl hn0
    have hem : ("" : Str).cps.toList = [] := by decide +kernel
    have hbody : ∀ (nu : Int) (z : Str) (mm : Nat), 0 ≤ nu → mm = nu.toNat + (if z = "" then 1 else 0) → WdI N0.toNat nu z → (0 < nu ∨ z = "") → z.length ≤ 8 := fun nu z mm h1 h2 h3 h4 => by
      rcases h3 with ⟨h5, h6, _⟩ | ⟨_, h⟩
      · exact absurd h4 (by rintro (h | h); omega; exact h6 h)
      · have := congrArg List.length h
        rw [List.length_append] at this
        show z.cps.size ≤ 8
        rw [← Array.length_toList]; omega
    refine ⟨fun mm σ' H' => H' = H ∧ ∃ (nu : Int) (z : Str), 0 ≤ nu ∧ mm = nu.toNat + (if z = "" then 1 else 0) ∧ WdI N0.toNat nu z ∧ σ' = [some (.int c), some (.int j), some (.int nu), some (.str z)], ⟨_, rfl, N0, "", hn0, rfl, .inr ⟨.inr rfl, by rw [hem, List.append_nil]⟩, rfl⟩, ?_⟩
    rintro mm _ H0 ⟨hH0, nu, z, hnu, hmm, hor, rfl⟩
    subst hH0
    walk_at "go"
    refine rd_if2 (fun hc => ?_) (fun hc => ?_)
    · have hs := wd_step hnu hor (.inl hc)
      have hzl := hbody nu z mm hnu hmm hor (.inl hc)
      rw [if_pos rfl]
      refine ⟨fun σ' H' => H' = H0 ∧ σ' = [some (.int c), some (.int j), some (.int (nu / 26)), some (.str (⟨#[97 + (nu % 26).toNat]⟩ ++ z))], ?_, ?_⟩
      · rintro _ _ ⟨rfl, rfl⟩
        exact ⟨(nu / 26).toNat + 0, by rw [hmm]; exact hs.2.1, rfl, _, _, hs.1, by rw [if_neg (ne_empty _ _)], hs.2.2, rfl⟩
      · walk_at "go"
        refine ⟨_, _, _, rfl, rfl, (by walk_at "sz"), lit_at abc_list (by omega) (by omega), ?_⟩
        have h1' : (⟨#[97 + (nu % 26).toNat]⟩ : Str).length = 1 := rfl
        walk_at "go"
        exact ⟨rfl, rfl⟩
    · walk_at "go"
      refine rd_if2 (fun hc2 => ?_) (fun hc2 => ?_)
      · have hs := wd_step hnu hor (.inr hc2)
        have hzl := hbody nu z mm hnu hmm hor (.inr hc2)
        refine ⟨fun σ' H' => H' = H0 ∧ σ' = [some (.int c), some (.int j), some (.int (nu / 26)), some (.str (⟨#[97 + (nu % 26).toNat]⟩ ++ z))], ?_, ?_⟩
        · rintro _ _ ⟨rfl, rfl⟩
          exact ⟨(nu / 26).toNat + 0, by rw [hmm]; exact hs.2.1, rfl, _, _, hs.1, by rw [if_neg (ne_empty _ _)], hs.2.2, rfl⟩
        · walk_at "go"
          refine ⟨_, _, _, rfl, rfl, (by walk_at "sz"), lit_at abc_list (by omega) (by omega), ?_⟩
          have h1' : (⟨#[97 + (nu % 26).toNat]⟩ : Str).length = 1 := rfl
          walk_at "go"
          exact ⟨rfl, rfl⟩
      · have he : z = wdS N0.toNat := by
          rcases hor with ⟨_, _, h⟩ | ⟨h, _⟩
          · exact str_ext h
          · exact absurd h (by rintro (h | h); exact hc h; exact hc2 h)
        walk_at "go"
        rw [he]
        exact k
theorem fc__law_name (m : M K mg) : Fc P w K mg base "_law_name" 1 ["_law_cell", "_law_k"] (sp_lname) := ⟨_, _, m.m__law_name, m.F__law_name.kp, m.b__law_name, ok__law_name m⟩
local macro_rules | `(tactic| walk_at "rd1") => `(tactic| ((with_reducible refine' r_lname ?a ?b ?_); (case a => walk_at "sd"); (case b => walk_at "sd")))
abbrev RowR := Str × Int × Int
def RowRAt (H : Hp) (v : V) (r : RowR) : Prop := ∃ q, v = .ref q ∧ H q = some (.tup [.str r.1, .int r.2.1, .int r.2.2])
theorem rowr_sm {H H' : Hp} {us : List V} {rs : List RowR} (h : Paired (RowRAt H) us rs) (s : Same H H') : Paired (RowRAt H') us rs := Paired.imp' (fun v d ⟨q, e, h⟩ => ⟨q, e, s _ _ h⟩) h
structure RowsOk (rs : List RowR) : Prop where
  nd : (rs.map (·.1)).Nodup
  nm : ∀ r ∈ rs, nameB r.1 = true
  ok : ∀ r ∈ rs, 0 ≤ r.2.2 ∧ r.2.2 ≤ r.2.1
  l0 : 0 < rs.length
  l1 : rs.length ≤ 4
  wn : ∀ r ∈ rs, ∃ c k : Int, 0 ≤ k ∧ k < 20 ∧ r.1 = wnF c k
theorem wn_nodup (c : Int) (n : Nat) (h : n ≤ 61) : ((List.range n).map fun i : Nat => wnF c (i : Int)).Nodup := by
  rw [List.Nodup, List.pairwise_map]
  refine List.Pairwise.imp_of_mem ?_ (List.nodup_range (n := n))
  intro i j hi hj hne z
  have hi' := List.mem_range.mp hi
  have hj' := List.mem_range.mp hj
  have := wnF_inj (by omega) (by omega) (by omega) (by omega) z
  omega
def sp_lrooms : Sp := fun vs H Q _ => ∃ (a : Addr) (c0 c1 c2 c3 : Int), vs = [.ref a] ∧ H a = some (.lst [.int c0, .int c1, .int c2, .int c3]) ∧ ∀ p us rs H', H p = none → Same H H' → H' p = some (.lst us) → Paired (RowRAt H') us rs → RowsOk rs → Q (.ref p) H'
theorem r_lrooms {H : Hp} {Q : VK} {E : XK} {a : Addr} {c0 c1 c2 c3 : Int} (ea : H a = some (.lst [.int c0, .int c1, .int c2, .int c3])) (k : ∀ p us rs H', H p = none → Same H H' → H' p = some (.lst us) → Paired (RowRAt H') us rs → RowsOk rs → Q (.ref p) H') : sp_lrooms [.ref a] H Q E := ⟨_, _, _, _, _, rfl, ea, k⟩
theorem ok__law_rooms (m : M K mg) : FnOk P w K mg base CX0 2 m.a__law_rooms m.d__law_rooms ["_law_cells"] (sp_lrooms) := by
  refine m.F__law_rooms.ok sc__law_rooms (fun vs H Q E h => ?_) (fun cdv A outer s H vs Q E hr h => ?_)
  · obtain ⟨a, c0, c1, c2, c3, rfl, ea, k⟩ := h
    rfl
  · obtain ⟨a, c0, c1, c2, c3, rfl, ea, k⟩ := h
    have nd := sc__law_rooms.nd
    have hu0 := Room.units0 hr
    have hu1 := Room.units1 hr
    have hu9 := Room.units9 hr
    have F__law_mixed := fc__law_mixed (P := P) (w := w) (base := base) m
    have F__law_name := fc__law_name (P := P) (w := w) (base := base) m
    refine ⟨_, (pss_cons (ps_set (i := 1) nd rfl (by walk_at "oi") (pe_lst pa_nil))
      (pss_cons (ps_for PassesOwn.never rfl (pi_range1 rfl m.g_range (pa_cons (pe_op op_add pe_int (pe_op op_mod (pe_f F__law_mixed hr (pa_cons (pe_ix ix_list (pv 0) pe_int (fun _ _ => rfl)) (pa_cons pe_int pa_nil))) pe_int)) pa_nil)) (pg_name (i := 2) nd rfl (by walk_at "oi")) (pss_cons (ps_set (i := 3) nd rfl (by walk_at "oi") (pe_f F__law_mixed hr (pa_cons (pe_ix ix_list (pv 0) pe_int (fun _ _ => rfl)) (pa_cons (pv 2) pa_nil))))
      (pss_cons (ps_set (i := 4) nd rfl (by walk_at "oi") (pe_op op_add pe_int (pe_op op_mod (pv 3) pe_int)))
      (pss_cons (ps_if (pt_cmpR op_eq (pe_op op_mod (pe_op op_fdiv (pv 3) pe_int) pe_int) pe_int (nomark _)) (pss_one (ps_set (i := 4) nd rfl (by walk_at "oi") (pe_op op_add pe_int (pe_op op_mod (pe_op op_add (pe_ix ix_list (pv 0) pe_int (fun _ _ => rfl)) (pe_op op_mul pe_int (pv 2))) (pe_powc 100000000000 (by decide) ⟨by decide, by decide, by decide⟩))))) pss_nil)
      (pss_cons (ps_if (pt_cmpR op_eq (pe_op op_mod (pe_op op_fdiv (pv 3) pe_int) pe_int) pe_int (nomark _)) (pss_one (ps_set (i := 4) nd rfl (by walk_at "oi") pe_int)) pss_nil)
      (pss_cons (ps_set (i := 5) nd rfl (by walk_at "oi") (pe_ix ix_list (pe_lst (pa_cons pe_int (pa_cons (pv 4) (pa_cons (pe_op op_mod (pe_op op_fdiv (pv 3) pe_int) (pe_op op_add (pv 4) pe_int)) (pa_cons (pe_op op_fdiv (pe_op op_add (pv 4) pe_int) pe_int) pa_nil))))) (pe_op op_mod (pe_op op_fdiv (pv 3) pe_int) pe_int) (fun _ _ => rfl)))
      (pss_one (ps_expr (pe_bm PySem.F.plainAttrs_list PySem.F.slot_list_append PySem.F.type_list_append mt_append (pv 1) (pa_cons (pe_tup (pa_cons (pe_f F__law_name hr (pa_cons (pe_ix ix_list (pv 0) pe_int (fun _ _ => rfl)) (pa_cons (pv 2) pa_nil))) (pa_cons (pv 4) (pa_cons (pv 5) pa_nil)))) pa_nil))))))))))
      (pss_one (ps_ret (pv 1))))), ?_⟩
    refine rd_start (σ := [some (.ref a), none, none, none, none, none]) rfl ?_
    walk_at "go"
    rename_i p H1 n1 S1 e1 nn hn0 hn1
    have fr : ∀ x u, H x = some u → x ≠ p := fun x u hx z => by rw [z, n1] at hx; cases hx
    refine rd_forR (fun i σ' H' => SameBut p H1 H' ∧ (∃ us rs, H' p = some (.lst us) ∧ Paired (RowRAt H') us rs ∧ rs.map (·.1) = (List.range i).map (fun i : Nat => wnF c2 (i : Int)) ∧ ∀ r ∈ rs, 0 ≤ r.2.2 ∧ r.2.2 ≤ r.2.1) ∧ ∃ x y z u, σ' = [some (.ref a), some (.ref p), x, y, z, u]) ⟨SameBut.refl, ⟨[], [], e1, .nil, rfl, (fun _ z => nomatch z)⟩, _, _, _, _, rfl⟩ ?_ ?_
    · rintro i _ H' hi ⟨sb, ⟨us, rs, eu, hrs, hnm, hok⟩, x1, x2, x3, x4, rfl⟩
      have hul : us.length = i := by
        have h5 : rs.length = i := by rw [← List.length_map (f := fun d : RowR => d.1), hnm, List.length_map, List.length_range]
        rw [Paired.length hrs]; exact h5
      have ea' : H' a = some (.lst [.int c0, .int c1, .int c2, .int c3]) := (SameBut.same n1 S1 sb) _ _ ea
      walk_at "gs"
      rename_i nu hu0' hu1'
      refine rd_seqR (fun σ' G => H' = G ∧ ∃ hh, 0 ≤ hh ∧ σ' = [some (.ref a), some (.ref p), some (.int (0 + (i : Int))), some (.int nu), some (.int hh), x4]) ?_ ?_
      rotate_left
      · intro nx' hnx
        walk_at "go"
        refine rd_if2 (fun hc => ?_) (fun hc => ?_)
        · walk_at "go"
          exact hnx _ _ ⟨rfl, _, by omega, rfl⟩
        · walk_at "go"
          exact hnx _ _ ⟨rfl, _, by omega, rfl⟩
      rintro _ G ⟨hG, h1, hh1, rfl⟩
      subst hG
      walk_at "gs"
      refine rd_seqR (fun σ' G => H' = G ∧ ∃ hh, 0 ≤ hh ∧ σ' = [some (.ref a), some (.ref p), some (.int (0 + (i : Int))), some (.int nu), some (.int hh), x4]) ?_ ?_
      rotate_left
      · intro nx' hnx
        walk_at "go"
        refine rd_if2 (fun hc => ?_) (fun hc => ?_)
        · walk_at "go"
          exact hnx _ _ ⟨rfl, _, by omega, rfl⟩
        · walk_at "go"
          exact hnx _ _ ⟨rfl, _, hh1, rfl⟩
      rintro _ G ⟨hG, h2, hh2, rfl⟩
      subst hG
      walk_at "go"
      rename_i hr0 hr1 p5 H5 n5 S5 e5
      refine rd_ixM (SqL.of e5) (by omega) (by show _ < (4 : Int); omega) fun v hv => ?_
      obtain ⟨ff, rfl, hf0, hf1⟩ : ∃ ff, v = .int ff ∧ 0 ≤ ff ∧ ff ≤ h2 := by
        simp only [List.mem_cons, List.not_mem_nil, or_false] at hv
        rcases hv with rfl | rfl | rfl | rfl
        · exact ⟨_, rfl, by omega, by omega⟩
        · exact ⟨_, rfl, by omega, by omega⟩
        · exact ⟨_, rfl, hr0, by omega⟩
        · exact ⟨_, rfl, by omega, by omega⟩
      have ea5 := S5 _ _ ea'
      walk_at "go"
      rename_i q6 H6 n6 S6 e6
      have eu6 : H6 p = some (.lst us) := S6 _ _ (S5 _ _ eu)
      refine rd_append eu6 (by rw [sizeLine_eq]; omega) fun H7 B7 e7 => ?_
      have hq6 : q6 ≠ p := fun z => by rw [z, S5 _ _ eu] at n6; cases n6
      refine ⟨(sb.trans (S5.trans S6).but).trans B7, ⟨us ++ [.ref q6], rs ++ [(wnF c2 (0 + (i : Int)), h2, ff)], e7, ?_, ?_, ?_⟩, _, _, _, _, rfl⟩
      · exact L2.Paired.snoc (Paired.imp' (fun w d ⟨q, e, h⟩ => ⟨q, e, B7 _ _ (S6 _ _ (S5 _ _ h)) fun z => by rw [z, eu] at h; cases h⟩) hrs) ⟨q6, rfl, B7 _ _ e6 hq6⟩
      · rw [List.map_append, hnm, List.range_succ, List.map_append, Int.zero_add]; rfl
      · intro r hr
        rcases List.mem_append.mp hr with hr | hr
        · exact hok r hr
        · cases List.mem_singleton.mp hr
          exact ⟨hf0, hf1⟩
    · rintro _ H' ⟨sb, ⟨us, rs, eu, hrs, hnm, hok⟩, x1, x2, x3, x4, rfl⟩
      have hrl : rs.length = (1 + nn % 4).toNat := by rw [← List.length_map (f := fun d : RowR => d.1), hnm, List.length_map, List.length_range]
      walk_at "go"
      have hwn : ∀ r ∈ rs, ∃ c k : Int, 0 ≤ k ∧ k < 20 ∧ r.1 = wnF c k := fun r hr => by
        have hm : r.1 ∈ rs.map (·.1) := List.mem_map.mpr ⟨r, hr, rfl⟩
        rw [hnm] at hm
        obtain ⟨i, hi, e⟩ := List.mem_map.mp hm
        have := List.mem_range.mp hi
        exact ⟨c2, (i : Int), by omega, by omega, e.symm⟩
      refine k _ _ _ _ n1 (SameBut.same n1 S1 sb) eu hrs ⟨by rw [hnm]; exact wn_nodup _ _ (by omega), fun r hr => ?_, hok, by omega, by omega, hwn⟩
      have hm : r.1 ∈ rs.map (·.1) := List.mem_map.mpr ⟨r, hr, rfl⟩
      rw [hnm] at hm
      obtain ⟨i, hi, e⟩ := List.mem_map.mp hm
      have := List.mem_range.mp hi
      rw [← e]; exact wnF_ok (by omega) (by omega)
theorem fc__law_rooms (m : M K mg) : Fc P w K mg base "_law_rooms" 2 ["_law_cells"] (sp_lrooms) := ⟨_, _, m.m__law_rooms, m.F__law_rooms.kp, m.b__law_rooms, ok__law_rooms m⟩
def sp_ldigits (K : W.Frag) : Sp := fun vs H Q _ => ∃ (c : Int) (b : Addr) (bs : List Int), vs = [.int c, .ref b] ∧ SqL K H b (bs.map V.int) ∧ (∀ x ∈ bs, 0 < x ∧ x < 1000000000000) ∧ bs.length ≤ 20 ∧ ∀ p (ns : List Int) H', H p = none → Same H H' → H' p = some (.lst (ns.map V.int)) → Paired (fun (n x : Int) => 0 ≤ n ∧ n < x) ns bs → Q (.ref p) H'
theorem r_ldigits {H : Hp} {Q : VK} {E : XK} {c : Int} {b : Addr} {bs : List Int} (hS : SqL K H b (bs.map V.int)) (hb : ∀ x ∈ bs, 0 < x ∧ x < 1000000000000) (hl : bs.length ≤ 20) (k : ∀ p (ns : List Int) H', H p = none → Same H H' → H' p = some (.lst (ns.map V.int)) → Paired (fun (n x : Int) => 0 ≤ n ∧ n < x) ns bs → Q (.ref p) H') : sp_ldigits K [.int c, .ref b] H Q E := ⟨_, _, _, rfl, hS, hb, hl, k⟩
theorem ok__law_digits (m : M K mg) : FnOk P w K mg base CX0 1 m.a__law_digits m.d__law_digits ["_law_cell", "_law_bases"] (sp_ldigits K) := by
  refine m.F__law_digits.ok sc__law_digits (fun vs H Q E h => ?_) (fun cdv A outer s H vs Q E hr h => ?_)
  · obtain ⟨c, b, bs, rfl, hS, hb, hl, k⟩ := h
    rfl
  · obtain ⟨c, b, bs, rfl, hS, hb, hl, k⟩ := h
    have nd := sc__law_digits.nd
    have hu0 := Room.units0 hr
    have hu1 := Room.units1 hr
    have hu9 := Room.units9 hr
    refine ⟨_, (pss_cons (ps_set (i := 2) nd rfl (by walk_at "oi") (pe_lst pa_nil))
      (pss_cons (ps_for PassesOwn.never rfl (pi_list (pv 1)) (pg_name (i := 3) nd rfl (by walk_at "oi")) (pss_cons (ps_expr (pe_bm PySem.F.plainAttrs_list PySem.F.slot_list_append PySem.F.type_list_append mt_append (pv 2) (pa_cons (pe_op op_mod (pv 0) (pv 3)) pa_nil)))
      (pss_one (ps_set (i := 0) nd rfl (by walk_at "oi") (pe_op op_fdivB (pv 0) (pv 3))))))
      (pss_one (ps_ret (pv 2))))), ?_⟩
    refine rd_start (σ := [some (.int c), some (.ref b), none, none]) rfl ?_
    walk_at "go"
    rename_i p H1 n1 S1 e1
    refine rd_forL (bs.map V.int) (fun i σ' H' => SameBut p H1 H' ∧ (∃ ns : List Int, H' p = some (.lst (ns.map V.int)) ∧ Paired (fun (n x : Int) => 0 ≤ n ∧ n < x) ns (bs.take i)) ∧ ∃ c' x, σ' = [some (.int c'), some (.ref b), some (.ref p), x]) ⟨SameBut.refl, ⟨[], e1, .nil⟩, _, _, rfl⟩ (fun i σ' H' _ q => (SameBut.same n1 S1 q.1).seq hS) ?_ ?_
    · rintro i x _ H' hx ⟨sb, ⟨ns, ek, hns⟩, c', y, rfl⟩
      rw [List.getElem?_map] at hx
      obtain ⟨d, hd, rfl⟩ := Option.map_eq_some_iff.mp hx
      obtain ⟨hd0, hd1⟩ := hb d (List.mem_of_getElem? hd)
      have hi : i < bs.length := (List.getElem?_eq_some_iff.mp hd).1
      have hnl : ns.length = i := by rw [Paired.length hns, List.length_take]; omega
      walk_at "go"
      rename_i hm0 hm1
      refine rd_append ek (by rw [sizeLine_eq, List.length_map]; omega) fun H2 B2 e2 => ?_
      walk_at "go"
      refine rd_divB hd0 (Int.lt_trans hd1 (by decide)) ?_
      walk_at "go"
      refine ⟨sb.trans B2, ⟨ns ++ [c' % d], by rw [e2, List.map_append]; rfl, ?_⟩, _, _, rfl⟩
      rw [take_succ' hd]
      exact L2.Paired.snoc hns ⟨hm0, hm1⟩
    · rintro _ H' ⟨sb, ⟨ns, ek, hns⟩, c', y, rfl⟩
      rw [List.length_map, List.take_length] at hns
      walk_at "go"
      exact k _ _ _ n1 (SameBut.same n1 S1 sb) ek hns
theorem fc__law_digits (m : M K mg) : Fc P w K mg base "_law_digits" 1 ["_law_cell", "_law_bases"] (sp_ldigits K) := ⟨_, _, m.m__law_digits, m.F__law_digits.kp, m.b__law_digits, ok__law_digits m⟩
theorem ok__law_rooms_told (m : M K mg) : FnOk P w K mg base CX0 3 m.a__law_rooms_told m.d__law_rooms_told ["_law_cells"] (sp_lrooms) := by
  refine m.F__law_rooms_told.ok sc__law_rooms_told (fun vs H Q E h => ?_) (fun cdv A outer s H vs Q E hr h => ?_)
  · obtain ⟨a, c0, c1, c2, c3, rfl, ea, k⟩ := h
    rfl
  · obtain ⟨a, c0, c1, c2, c3, rfl, ea, k⟩ := h
    have nd := sc__law_rooms_told.nd
    have hu0 := Room.units0 hr
    have hu1 := Room.units1 hr
    have hu9 := Room.units9 hr
    have F__law_digits := fc__law_digits (P := P) (w := w) (base := base) m
    have F__law_name := fc__law_name (P := P) (w := w) (base := base) m
    refine ⟨_, (pss_cons (ps_set (i := 1) nd rfl (by walk_at "oi") (pe_f F__law_digits hr (pa_cons (pe_ix ix_list (pv 0) pe_int (fun _ _ => rfl)) (pa_cons (pe_lst (pa_cons (pe_powc 100000000000 (by decide) ⟨by decide, by decide, by decide⟩) (pa_cons (pe_powc 100000000000 (by decide) ⟨by decide, by decide, by decide⟩) (pa_cons (pe_powc 100000000000 (by decide) ⟨by decide, by decide, by decide⟩) (pa_cons (pe_powc 100000000000 (by decide) ⟨by decide, by decide, by decide⟩) (pa_cons (pe_powc 100000000000 (by decide) ⟨by decide, by decide, by decide⟩) (pa_cons (pe_powc 100000000000 (by decide) ⟨by decide, by decide, by decide⟩) (pa_cons (pe_powc 100000000000 (by decide) ⟨by decide, by decide, by decide⟩) (pa_cons (pe_powc 100000000000 (by decide) ⟨by decide, by decide, by decide⟩) pa_nil))))))))) pa_nil))))
      (pss_cons (ps_set (i := 2) nd rfl (by walk_at "oi") (pe_lst pa_nil))
      (pss_cons (ps_for PassesOwn.never rfl (pi_range1 rfl m.g_range (pa_cons (pe_op op_add pe_int (pe_op op_mod (pe_op op_fdiv (pe_ix ix_list (pv 0) pe_int (fun _ _ => rfl)) pe_int) pe_int)) pa_nil)) (pg_name (i := 3) nd rfl (by walk_at "oi")) (pss_one (ps_expr (pe_bm PySem.F.plainAttrs_list PySem.F.slot_list_append PySem.F.type_list_append mt_append (pv 2) (pa_cons (pe_tup (pa_cons (pe_f F__law_name hr (pa_cons (pe_ix ix_list (pv 0) pe_int (fun _ _ => rfl)) (pa_cons (pv 3) pa_nil))) (pa_cons (pe_ix ix_list (pv 1) (pe_op op_mul pe_int (pv 3)) (fun _ _ => rfl)) (pa_cons (pe_callB (call_minI rfl) rfl m.g_min bt_min (pa_cons (pe_ix ix_list (pv 1) (pe_op op_mul pe_int (pv 3)) (fun _ _ => rfl)) (pa_cons (pe_ix ix_list (pv 1) (pe_op op_add (pe_op op_mul pe_int (pv 3)) pe_int) (fun _ _ => rfl)) pa_nil))) pa_nil)))) pa_nil)))))
      (pss_one (ps_ret (pv 2)))))), ?_⟩
    refine rd_start (σ := [some (.ref a), none, none, none]) rfl ?_
    walk_at "go"
    rename_i b1 H1 n1 S1 f1
    refine r_ldigits (bs := List.replicate 8 100000000000) (SqL.of f1) (fun x hx => by rw [List.eq_of_mem_replicate hx]; decide) (by decide) fun p2 ns H2 n2 S2 f2 hns => ?_
    have hnl : ns.length = 8 := Paired.length hns
    have hnn : ∀ (i : Nat) (x : Int), ns[i]? = some x → 0 ≤ x := fun i x hx => by
      have hi : i < ns.length := (List.getElem?_eq_some_iff.mp hx).1
      exact (Paired.at2 hns hx (List.getElem?_eq_getElem (by rw [List.length_replicate]; omega))).1
    have ea2 := S2 _ _ (S1 _ _ ea)
    walk_at "go"
    rename_i p H3 n3 S3 e3
    have s03 : Same H H3 := (S1.trans S2).trans S3
    have fr : ∀ x u, H2 x = some u → x ≠ p := fun x u hx z => by rw [z, n3] at hx; cases hx
    refine rd_forR (fun i σ' H' => SameBut p H3 H' ∧ (∃ us rs, H' p = some (.lst us) ∧ Paired (RowRAt H') us rs ∧ rs.map (·.1) = (List.range i).map (fun i : Nat => wnF c2 (i : Int)) ∧ ∀ r ∈ rs, 0 ≤ r.2.2 ∧ r.2.2 ≤ r.2.1) ∧ ∃ x, σ' = [some (.ref a), some (.ref p2), some (.ref p), x]) ⟨SameBut.refl, ⟨[], [], e3, .nil, rfl, (fun _ z => nomatch z)⟩, _, rfl⟩ ?_ ?_
    · rintro i _ H' hi ⟨sb, ⟨us, rs, eu, hrs, hnm, hok⟩, x1, rfl⟩
      have hul : us.length = i := by
        have h5 : rs.length = i := by rw [← List.length_map (f := fun d : RowR => d.1), hnm, List.length_map, List.length_range]
        rw [Paired.length hrs]; exact h5
      have s2' : Same H2 H' := SameBut.same n3 S3 sb
      have ea' := s2' _ _ ea2
      have f2' := s2' _ _ f2
      have hA : ns[2 * i]? = some ns[2 * i] := List.getElem?_eq_getElem (by omega)
      have hB : ns[2 * i + 1]? = some ns[2 * i + 1] := List.getElem?_eq_getElem (by omega)
      have hA0 := hnn _ _ hA
      have hB0 := hnn _ _ hB
      have hA' : (ns.map V.int)[2 * i]? = some (.int ns[2 * i]) := by rw [List.getElem?_map, hA]; rfl
      have hB' : (ns.map V.int)[2 * i + 1]? = some (.int ns[2 * i + 1]) := by rw [List.getElem?_map, hB]; rfl
      generalize ns[2 * i] = xa at hA0 hA'
      generalize ns[2 * i + 1] = xb at hB0 hB'
      walk_at "go"
      rw [Int.zero_add, show (2 : Int) * (i : Int) = ((2 * i : Nat) : Int) by omega]
      refine rd_ixN (SqL.of f2') hA' ?_
      walk_at "go"
      rw [show (2 : Int) * (i : Int) = ((2 * i : Nat) : Int) by omega]
      refine rd_ixN (SqL.of f2') hA' ?_
      walk_at "go"
      rw [show (2 : Int) * (i : Int) + 1 = ((2 * i + 1 : Nat) : Int) by omega]
      refine rd_ixN (SqL.of f2') hB' ?_
      walk_at "go"
      rename_i q6 H6 n6 S6 e6
      have eu6 : H6 p = some (.lst us) := S6 _ _ eu
      refine rd_append eu6 (by rw [sizeLine_eq]; omega) fun H7 B7 e7 => ?_
      have hq6 : q6 ≠ p := fun z => by rw [z, eu] at n6; cases n6
      refine ⟨(sb.trans S6.but).trans B7, ⟨us ++ [.ref q6], rs ++ [(wnF c2 (i : Int), xa, min xa xb)], e7, ?_, ?_, ?_⟩, _, rfl⟩
      · exact L2.Paired.snoc (Paired.imp' (fun w d ⟨q, e, h⟩ => ⟨q, e, B7 _ _ (S6 _ _ h) fun z => by rw [z, eu] at h; cases h⟩) hrs) ⟨q6, rfl, B7 _ _ e6 hq6⟩
      · rw [List.map_append, hnm, List.range_succ, List.map_append]; rfl
      · intro r hr
        rcases List.mem_append.mp hr with hr | hr
        · exact hok r hr
        · cases List.mem_singleton.mp hr
          show 0 ≤ min xa xb ∧ min xa xb ≤ xa
          omega
    · rintro _ H' ⟨sb, ⟨us, rs, eu, hrs, hnm, hok⟩, x1, rfl⟩
      have hrl : rs.length = (1 + c0 / 2 % 4).toNat := by rw [← List.length_map (f := fun d : RowR => d.1), hnm, List.length_map, List.length_range]
      have hp : H p = none := by
        cases hq : H p with
        | none => rfl
        | some u => rw [S2 _ _ (S1 _ _ hq)] at n3; cases n3
      walk_at "go"
      have hwn : ∀ r ∈ rs, ∃ c k : Int, 0 ≤ k ∧ k < 20 ∧ r.1 = wnF c k := fun r hr => by
        have hm : r.1 ∈ rs.map (·.1) := List.mem_map.mpr ⟨r, hr, rfl⟩
        rw [hnm] at hm
        obtain ⟨i, hi, e⟩ := List.mem_map.mp hm
        have := List.mem_range.mp hi
        exact ⟨c2, (i : Int), by omega, by omega, e.symm⟩
      refine k _ _ _ _ hp (fun x u hx => (SameBut.same n3 S3 sb) _ _ (S2 _ _ (S1 _ _ hx))) eu hrs ⟨by rw [hnm]; exact wn_nodup _ _ (by omega), fun r hr => ?_, hok, by omega, by omega, hwn⟩
      have hm : r.1 ∈ rs.map (·.1) := List.mem_map.mpr ⟨r, hr, rfl⟩
      rw [hnm] at hm
      obtain ⟨i, hi, e⟩ := List.mem_map.mp hm
      have := List.mem_range.mp hi
      rw [← e]; exact wnF_ok (by omega) (by omega)
theorem fc__law_rooms_told (m : M K mg) : Fc P w K mg base "_law_rooms_told" 3 ["_law_cells"] (sp_lrooms) := ⟨_, _, m.m__law_rooms_told, m.F__law_rooms_told.kp, m.b__law_rooms_told, ok__law_rooms_told m⟩
structure SpecD where
  n : Str
  st : Str
  e : V
  kd : Int
  wd : Int
  fi : Int
  mo : Int
def SpecAt (H : Hp) (v : V) (s : SpecD) : Prop := ∃ q, v = .ref q ∧ H q = some (.tup [.str s.n, .str s.st, s.e, .int s.kd, .int s.wd, .int s.fi, .int s.mo])
structure SpecOk (rs : List RowR) (f : Int) (s : SpecD) : Prop where
  nm : nameB s.n = true
  sm : nameB s.st = true
  sin : s.st ∈ rs.map (·.1)
  eo : EndOk s.e
  ein : s.e = .non ∨ ∃ z, s.e = .str z ∧ z ∈ rs.map (·.1)
  k0 : 0 ≤ s.kd
  k1 : s.kd < 6
  w0 : 0 ≤ s.wd
  f0 : f ≤ s.fi
  m0 : 0 ≤ s.mo
  m1 : s.kd = 3 → 1 ≤ s.mo
theorem rowsr_at {H : Hp} {us : List V} {rs : List RowR} (hr : Paired (RowRAt H) us rs) {v : V} (hv : v ∈ us) : ∃ z i j q, v = .ref q ∧ H q = some (.tup [.str z, .int i, .int j]) ∧ (z, i, j) ∈ rs := by
  obtain ⟨e, he, q, rfl, hq⟩ := paired_mem hr hv
  exact ⟨e.1, e.2.1, e.2.2, q, rfl, hq, he⟩
def sp_lspec (K : W.Frag) : Sp := fun vs H Q _ => ∃ (c j f l : Int) (a b : Addr) (us : List V) (rs : List RowR), vs = [.int c, .int j, .ref a, .ref b] ∧ 0 ≤ j ∧ j < 7 ∧ SqL K H a us ∧ Paired (RowRAt H) us rs ∧ RowsOk rs ∧ H b = some (.tup [.int f, .int l]) ∧ ∀ q s H', Same H H' → SpecAt H' (.ref q) s → SpecOk rs f s → s.n = wnF c (20 + j) → Q (.ref q) H'
theorem r_lspec {H : Hp} {Q : VK} {E : XK} {c j f l : Int} {a b : Addr} {us : List V} {rs : List RowR} (h0 : 0 ≤ j) (h1 : j < 7) (hS : SqL K H a us) (hr : Paired (RowRAt H) us rs) (ro : RowsOk rs) (eb : H b = some (.tup [.int f, .int l])) (k : ∀ q s H', Same H H' → SpecAt H' (.ref q) s → SpecOk rs f s → s.n = wnF c (20 + j) → Q (.ref q) H') : sp_lspec K [.int c, .int j, .ref a, .ref b] H Q E := ⟨_, _, _, _, _, _, _, _, rfl, h0, h1, hS, hr, ro, eb, k⟩
theorem ok__law_spec (m : M K mg) : FnOk P w K mg base CX0 2 m.a__law_spec m.d__law_spec ["_law_cell", "_law_k", "_law_rooms_here", "_law_turns"] (sp_lspec K) := by
  refine m.F__law_spec.ok sc__law_spec (fun vs H Q E h => ?_) (fun cdv A outer s H vs Q E hr h => ?_)
  · obtain ⟨c, j, f, l, a, b, us, rs, rfl, h0, h1, hS, hr', ro, eb, k⟩ := h
    rfl
  · obtain ⟨c, j, f, l, a, b, us, rs, rfl, h0, h1, hS, hr', ro, eb, k⟩ := h
    have nd := sc__law_spec.nd
    have hu0 := Room.units0 hr
    have hu1 := Room.units1 hr
    have hu9 := Room.units9 hr
    have F__law_mixed := fc__law_mixed (P := P) (w := w) (base := base) m
    have F__law_name := fc__law_name (P := P) (w := w) (base := base) m
    refine ⟨_, (pss_cons (ps_set (i := 4) nd rfl (by walk_at "oi") (pe_f F__law_mixed hr (pa_cons (pv 0) (pa_cons (pv 1) pa_nil))))
      (pss_cons (ps_set (i := 5) nd rfl (by walk_at "oi") (pe_op op_mod (pv 4) pe_int))
      (pss_cons (ps_if (pt_cmpR op_eq (pe_op op_mod (pe_op op_fdiv (pv 4) pe_int) pe_int) pe_int (nomark _)) (pss_one (ps_set (i := 5) nd rfl (by walk_at "oi") (pe_op op_mod (pe_op op_add (pv 0) (pe_op op_mul pe_int (pv 1))) (pe_powc 100000000000 (by decide) ⟨by decide, by decide, by decide⟩)))) pss_nil)
      (pss_cons (ps_set (i := 6) nd rfl (by walk_at "oi") (pe_ix ix_tup (pe_ix ix_list (pv 2) (pe_op op_mod (pe_op op_fdiv (pv 4) pe_int) (pe_callB call_lenL rfl m.g_len bt_len (pa_cons (pv 2) pa_nil))) (fun _ _ => rfl)) pe_int (fun _ _ => rfl)))
      (pss_cons (ps_set (i := 7) nd rfl (by walk_at "oi") pe_non)
      (pss_cons (ps_if (pt_cmpR op_gt (pe_op op_mod (pe_op op_fdiv (pv 4) pe_int) pe_int) pe_int (nomark _)) (pss_one (ps_set (i := 7) nd rfl (by walk_at "oi") (pe_ix ix_tup (pe_ix ix_list (pv 2) (pe_op op_mod (pe_op op_fdiv (pv 4) pe_int) (pe_callB call_lenL rfl m.g_len bt_len (pa_cons (pv 2) pa_nil))) (fun _ _ => rfl)) pe_int (fun _ _ => rfl)))) pss_nil)
      (pss_cons (ps_set (i := 8) nd rfl (by walk_at "oi") (pe_op op_mod (pe_op op_fdiv (pv 4) pe_int) pe_int))
      (pss_cons (ps_set (i := 9) nd rfl (by walk_at "oi") (pe_op op_add (pe_ix ix_tup (pv 3) pe_int (fun _ _ => rfl)) (pe_op op_mod (pe_op op_fdiv (pv 4) pe_int) pe_int)))
      (pss_cons (ps_set (i := 10) nd rfl (by walk_at "oi") (pe_ix ix_list (pe_lst (pa_cons (pe_op op_add pe_int (pe_op op_mod (pe_op op_fdiv (pv 4) pe_int) pe_int)) (pa_cons (pe_op op_mod (pv 0) pe_int) pa_nil))) (pe_op op_mod (pe_op op_fdiv (pv 8) pe_int) pe_int) (fun _ _ => rfl)))
      (pss_one (ps_ret (pe_tup (pa_cons (pe_f F__law_name hr (pa_cons (pv 0) (pa_cons (pe_op op_add pe_int (pv 1)) pa_nil))) (pa_cons (pv 6) (pa_cons (pv 7) (pa_cons (pv 8) (pa_cons (pv 5) (pa_cons (pv 9) (pa_cons (pv 10) pa_nil))))))))))))))))))), ?_⟩
    refine rd_start (σ := [some (.int c), some (.int j), some (.ref a), some (.ref b), none, none, none, none, none, none, none]) rfl ?_
    have hul : us.length = rs.length := Paired.length hr'
    have hu0' : 0 < us.length := by have := ro.l0; omega
    walk_at "gs"
    rename_i nu hn0 hn1
    refine rd_seqR (fun σ' G => H = G ∧ ∃ wd, 0 ≤ wd ∧ σ' = [some (.int c), some (.int j), some (.ref a), some (.ref b), some (.int nu), some (.int wd), none, none, none, none, none]) ?_ ?_
    rotate_left
    · intro nx' hnx
      walk_at "go"
      refine rd_if2 (fun hc => ?_) (fun hc => ?_)
      · walk_at "go"
        exact hnx _ _ ⟨rfl, _, by omega, rfl⟩
      · walk_at "go"
        exact hnx _ _ ⟨rfl, _, by omega, rfl⟩
    rintro _ G ⟨hG, wd, hwd, rfl⟩
    subst hG
    walk_at "gs"
    rename_i hm0 hm1
    refine rd_ixM hS hm0 hm1 fun v1 hv1 => ?_
    obtain ⟨z1, i1, j1, q1, rfl, hq1, hz1⟩ := rowsr_at hr' hv1
    walk_at "gs"
    refine ⟨q1, _, 0, _, rfl, rfl, SqT.of hq1, rfl, ?_⟩
    walk_at "gs"
    refine rd_seqR (fun σ' G => H = G ∧ ∃ e, EndOk e ∧ (e = .non ∨ ∃ z, e = .str z ∧ z ∈ rs.map (·.1)) ∧ σ' = [some (.int c), some (.int j), some (.ref a), some (.ref b), some (.int nu), some (.int wd), some (.str z1), some e, none, none, none]) ?_ ?_
    rotate_left
    · intro nx' hnx
      walk_at "go"
      refine rd_if2 (fun hc => ?_) (fun hc => ?_)
      · walk_at "go"
        rename_i ha0 ha1
        refine rd_ixM hS ha0 ha1 fun v2 hv2 => ?_
        obtain ⟨z2, i2, j2, q2, rfl, hq2, hz2⟩ := rowsr_at hr' hv2
        walk_at "go"
        refine ⟨q2, _, 0, _, rfl, rfl, SqT.of hq2, rfl, ?_⟩
        walk_at "go"
        exact hnx _ _ ⟨rfl, _, .inr ⟨z2, rfl, ro.nm _ hz2⟩, .inr ⟨z2, rfl, List.mem_map.mpr ⟨_, hz2, rfl⟩⟩, rfl⟩
      · walk_at "go"
        exact hnx _ _ ⟨rfl, _, .inl rfl, .inl rfl, rfl⟩
    rintro _ G ⟨hG, e, he, hei, rfl⟩
    subst hG
    walk_at "go"
    refine ⟨b, _, 0, _, rfl, rfl, SqT.of eb, rfl, ?_⟩
    walk_at "go"
    rename_i p5 H5 n5 S5 e5 mo hmo q6 H6 n6 S6 e6
    exact k q6 ⟨wnF c (20 + j), z1, e, nu / 2000 % 6, wd, f + nu / 12000 % 4, mo⟩ _ (S5.trans S6) ⟨q6, rfl, e6⟩ ⟨wnF_ok (by omega) (by omega), ro.nm _ hz1, List.mem_map.mpr ⟨_, hz1, rfl⟩, he, hei, by show 0 ≤ nu / 2000 % 6; omega, by show nu / 2000 % 6 < 6; omega, hwd, by show f ≤ f + nu / 12000 % 4; omega, by show 0 ≤ mo; omega, fun h3 => by
      have h3 : nu / 2000 % 6 = 3 := h3
      show 1 ≤ mo
      omega⟩ rfl
theorem fc__law_spec (m : M K mg) : Fc P w K mg base "_law_spec" 2 ["_law_cell", "_law_k", "_law_rooms_here", "_law_turns"] (sp_lspec K) := ⟨_, _, m.m__law_spec, m.F__law_spec.kp, m.b__law_spec, ok__law_spec m⟩
theorem pair_cons {α β : Type} {F : α → β → Prop} {l : List α} {b : β} {m : List β} (h : Paired F l (b :: m)) : ∃ a l', l = a :: l' ∧ F a b ∧ Paired F l' m := by
  cases h with
  | cons r t => exact ⟨_, _, rfl, r, t⟩
theorem pair_nil {α β : Type} {F : α → β → Prop} {l : List α} (h : Paired F l ([] : List β)) : l = [] := by cases h; rfl
theorem ok__law_spec_told (m : M K mg) : FnOk P w K mg base CX0 3 m.a__law_spec_told m.d__law_spec_told ["_law_cell", "_law_k", "_law_rooms_here", "_law_turns"] (sp_lspec K) := by
  refine m.F__law_spec_told.ok sc__law_spec_told (fun vs H Q E h => ?_) (fun cdv A outer s H vs Q E hr h => ?_)
  · obtain ⟨c, j, f, l, a, b, us, rs, rfl, h0, h1, hS, hr', ro, eb, k⟩ := h
    rfl
  · obtain ⟨c, j, f, l, a, b, us, rs, rfl, h0, h1, hS, hr', ro, eb, k⟩ := h
    have nd := sc__law_spec_told.nd
    have hu0 := Room.units0 hr
    have hu1 := Room.units1 hr
    have hu9 := Room.units9 hr
    have F__law_digits := fc__law_digits (P := P) (w := w) (base := base) m
    have F__law_name := fc__law_name (P := P) (w := w) (base := base) m
    refine ⟨_, (pss_cons (ps_set (i := 4) nd rfl (by walk_at "oi") (pe_callB call_lenL rfl m.g_len bt_len (pa_cons (pv 2) pa_nil)))
      (pss_cons (ps_asg (pe_f F__law_digits hr (pa_cons (pv 0) (pa_cons (pe_lst (pa_cons pe_int (pa_cons (pv 4) (pa_cons (pe_op op_add (pv 4) pe_int) (pa_cons (pe_powc 100000000000 (by decide) ⟨by decide, by decide, by decide⟩) (pa_cons pe_int (pa_cons pe_int pa_nil))))))) pa_nil))) (pg_tupL rfl (pgs_cons (pg_name (i := 5) nd rfl (by walk_at "oi")) (pgs_cons (pg_name (i := 6) nd rfl (by walk_at "oi")) (pgs_cons (pg_name (i := 7) nd rfl (by walk_at "oi")) (pgs_cons (pg_name (i := 8) nd rfl (by walk_at "oi")) (pgs_cons (pg_name (i := 9) nd rfl (by walk_at "oi")) (pgs_cons (pg_name (i := 10) nd rfl (by walk_at "oi")) pgs_nil))))))))
      (pss_cons (ps_set (i := 11) nd rfl (by walk_at "oi") pe_non)
      (pss_cons (ps_if (pt_cmpR op_lt (pv 7) (pv 4) (nomark _)) (pss_one (ps_set (i := 11) nd rfl (by walk_at "oi") (pe_ix ix_tup (pe_ix ix_list (pv 2) (pv 7) (fun _ _ => rfl)) pe_int (fun _ _ => rfl)))) pss_nil)
      (pss_cons (ps_if (pt_cmpR op_eq (pv 5) pe_int (nomark _)) (pss_one (ps_set (i := 10) nd rfl (by walk_at "oi") (pe_op op_add pe_int (pe_op op_mod (pv 10) pe_int)))) pss_nil)
      (pss_one (ps_ret (pe_tup (pa_cons (pe_f F__law_name hr (pa_cons (pv 0) (pa_cons (pe_op op_add pe_int (pv 1)) pa_nil))) (pa_cons (pe_ix ix_tup (pe_ix ix_list (pv 2) (pv 6) (fun _ _ => rfl)) pe_int (fun _ _ => rfl)) (pa_cons (pv 11) (pa_cons (pv 5) (pa_cons (pv 8) (pa_cons (pe_op op_add (pe_ix ix_tup (pv 3) pe_int (fun _ _ => rfl)) (pv 9)) (pa_cons (pv 10) pa_nil))))))))))))))), ?_⟩
    refine rd_start (σ := [some (.int c), some (.int j), some (.ref a), some (.ref b), none, none, none, none, none, none, none, none]) rfl ?_
    have hul : us.length = rs.length := Paired.length hr'
    have hu0' : 0 < us.length := by have := ro.l0; omega
    have hu4 : us.length ≤ 4 := by have := ro.l1; omega
    walk_at "gs"
    rename_i p1 H1 n1 S1 e1
    refine r_ldigits (bs := [6, (us.length : Int), (us.length : Int) + 1, 100000000000, 30, 4096]) (SqL.of e1) (fun x hx => by
      simp only [List.mem_cons, List.not_mem_nil, or_false] at hx
      rcases hx with rfl | rfl | rfl | rfl | rfl | rfl <;> omega) (show 6 ≤ 20 by decide) fun p2 ns H2 n2 S2 e2 hns => ?_
    obtain ⟨kd, t1, rfl, hk, hns⟩ := pair_cons hns
    obtain ⟨sx, t2, rfl, hs, hns⟩ := pair_cons hns
    obtain ⟨ex, t3, rfl, hx, hns⟩ := pair_cons hns
    obtain ⟨wd, t4, rfl, hw, hns⟩ := pair_cons hns
    obtain ⟨fi, t5, rfl, hfi, hns⟩ := pair_cons hns
    obtain ⟨mo, t6, rfl, hmo, hns⟩ := pair_cons hns
    obtain rfl := pair_nil hns
    have e2' : H2 p2 = some (.lst [.int kd, .int sx, .int ex, .int wd, .int fi, .int mo]) := e2
    have s02 := S1.trans S2
    have hS2 := s02.seq hS
    have hr2 := rowr_sm hr' s02
    have eb2 := s02 _ _ eb
    walk_at "gs"
    refine rd_seqR (fun σ' G => H2 = G ∧ ∃ e, EndOk e ∧ (e = .non ∨ ∃ z, e = .str z ∧ z ∈ rs.map (·.1)) ∧ σ' = [some (.int c), some (.int j), some (.ref a), some (.ref b), some (.int (us.length : Int)), some (.int kd), some (.int sx), some (.int ex), some (.int wd), some (.int fi), some (.int mo), some e]) ?_ ?_
    rotate_left
    · intro nx' hnx
      walk_at "go"
      refine rd_if2 (fun hc => ?_) (fun hc => ?_)
      · walk_at "go"
        refine rd_ixM hS2 hx.1 hc fun v2 hv2 => ?_
        obtain ⟨z2, i2, j2, q2, rfl, hq2, hz2⟩ := rowsr_at hr2 hv2
        walk_at "go"
        refine ⟨q2, _, 0, _, rfl, rfl, SqT.of hq2, rfl, ?_⟩
        walk_at "go"
        exact hnx _ _ ⟨rfl, _, .inr ⟨z2, rfl, ro.nm _ hz2⟩, .inr ⟨z2, rfl, List.mem_map.mpr ⟨_, hz2, rfl⟩⟩, rfl⟩
      · walk_at "go"
        exact hnx _ _ ⟨rfl, _, .inl rfl, .inl rfl, rfl⟩
    rintro _ G ⟨hG, e, he, hei, rfl⟩
    subst hG
    walk_at "gs"
    refine rd_seqR (fun σ' G => H2 = G ∧ ∃ m2, 0 ≤ m2 ∧ (kd = 3 → 1 ≤ m2) ∧ σ' = [some (.int c), some (.int j), some (.ref a), some (.ref b), some (.int (us.length : Int)), some (.int kd), some (.int sx), some (.int ex), some (.int wd), some (.int fi), some (.int m2), some e]) ?_ ?_
    rotate_left
    · intro nx' hnx
      walk_at "go"
      refine rd_if2 (fun hc => ?_) (fun hc => ?_)
      · walk_at "go"
        exact hnx _ _ ⟨rfl, _, by omega, by omega, rfl⟩
      · walk_at "go"
        exact hnx _ _ ⟨rfl, _, hmo.1, (fun h => absurd h hc), rfl⟩
    rintro _ G ⟨hG, m2, hm2, hm3, rfl⟩
    subst hG
    walk_at "go"
    refine rd_ixM hS2 hs.1 hs.2 fun v1 hv1 => ?_
    obtain ⟨z1, i1, j1, q1, rfl, hq1, hz1⟩ := rowsr_at hr2 hv1
    walk_at "go"
    refine ⟨q1, _, 0, _, rfl, rfl, SqT.of hq1, rfl, ?_⟩
    walk_at "go"
    refine ⟨b, _, 0, _, rfl, rfl, SqT.of eb2, rfl, ?_⟩
    walk_at "go"
    rename_i q6 H6 n6 S6 e6
    exact k q6 ⟨wnF c (20 + j), z1, e, kd, wd, f + fi, m2⟩ _ (s02.trans S6) ⟨q6, rfl, e6⟩ ⟨wnF_ok (by omega) (by omega), ro.nm _ hz1, List.mem_map.mpr ⟨_, hz1, rfl⟩, he, hei, hk.1, hk.2, hw.1, by have := hfi.1; show f ≤ f + fi; omega, hm2, hm3⟩ rfl
theorem fc__law_spec_told (m : M K mg) : Fc P w K mg base "_law_spec_told" 3 ["_law_cell", "_law_k", "_law_rooms_here", "_law_turns"] (sp_lspec K) := ⟨_, _, m.m__law_spec_told, m.F__law_spec_told.kp, m.b__law_spec_told, ok__law_spec_told m⟩
def letS (s : SpecD) (t : Int) : Int := if s.kd = 1 ∧ t < s.fi ∨ s.kd = 2 ∧ s.fi ≤ t then 0 else if s.kd = 3 ∧ (t < s.fi ∨ 0 < (t - s.fi) % s.mo) then 0 else if s.kd = 4 ∧ s.mo / 2 ^ t.toNat % 2 = 0 then 0 else s.wd
def sp_llets : Sp := fun vs H Q _ => ∃ (q : Addr) (s : SpecD) (t : Int), vs = [.ref q, .int t] ∧ SpecAt H (.ref q) s ∧ 0 ≤ t ∧ (s.kd = 3 → 1 ≤ s.mo) ∧ 0 ≤ s.mo ∧ ∀ H', Same H H' → Q (.int (letS s t)) H'
theorem rd_slT3 {H : Hp} {Q : VK} {p : Addr} {a b c d e f g : V} (h0 : H p = some (.tup [a, b, c, d, e, f, g])) (h : ∀ q H', H q = none → Same H H' → H' q = some (.tup [d, e, f, g]) → Q (.ref q) H') : rSlT K (.ref p) (some 3) none H Q :=
  ⟨p, _, rfl, SqT.of h0, (by rintro ⟨z, _⟩; revert z; exact (show ¬ (3 = 0) by decide)), rd_new' h⟩
theorem ok__law_lets (m : M K mg) : FnOk P w K mg base CX0 1 m.a__law_lets m.d__law_lets ["_law_spec_here", "_law_turn"] (sp_llets) := by
  refine m.F__law_lets.ok sc__law_lets (fun vs H Q E h => ?_) (fun cdv A outer s H vs Q E hr h => ?_)
  · obtain ⟨q, s', t, rfl, hs, ht, hm1, hm0, k⟩ := h
    rfl
  · obtain ⟨q, s', t, rfl, hs, ht, hm1, hm0, k⟩ := h
    have nd := sc__law_lets.nd
    have hu0 := Room.units0 hr
    have hu1 := Room.units1 hr
    have hu9 := Room.units9 hr
    refine ⟨_, (pss_cons (ps_asg (pe_slice sl_tup (pv 0) (po_some pe_int) po_none) (pg_tup rfl (pgs_cons (pg_name (i := 2) nd rfl (by walk_at "oi")) (pgs_cons (pg_name (i := 3) nd rfl (by walk_at "oi")) (pgs_cons (pg_name (i := 4) nd rfl (by walk_at "oi")) (pgs_cons (pg_name (i := 5) nd rfl (by walk_at "oi")) pgs_nil))))))
      (pss_cons (ps_if (PW.pt (pw_or (PW.pt (pw_and (pt_cmpR op_eq (pv 2) pe_int (nomark _)) (pw_and1 (pt_cmpR op_lt (pv 1) (pv 4) (nomark _))))) (pw_or1 (PW.pt (pw_and (pt_cmpR op_eq (pv 2) pe_int (nomark _)) (pw_and1 (pt_cmpR op_ge (pv 1) (pv 4) (nomark _)))))))) (pss_one (ps_ret pe_int)) pss_nil)
      (pss_cons (ps_if (PW.pt (pw_and (pt_cmpR op_eq (pv 2) pe_int (nomark _)) (pw_and1 (PW.pt (pw_or (pt_cmpR op_lt (pv 1) (pv 4) (nomark _)) (pw_or1 (pt_cmpR op_gt (pe_op op_mod (pe_op op_sub (pv 1) (pv 4)) (pv 5)) pe_int (nomark _)))))))) (pss_one (ps_ret pe_int)) pss_nil)
      (pss_cons (ps_if (PW.pt (pw_and (pt_cmpR op_eq (pv 2) pe_int (nomark _)) (pw_and1 (pt_cmpR op_eq (pe_op op_mod (pe_op op_shr (pv 5) (pv 1)) pe_int) pe_int (nomark _))))) (pss_one (ps_ret pe_int)) pss_nil)
      (pss_one (ps_ret (pv 3))))))), ?_⟩
    refine rd_start (σ := [some (.ref q), some (.int t), none, none, none, none]) rfl ?_
    obtain ⟨n, st, e, kd, wd, fi, mo⟩ := s'
    obtain ⟨q', hq', eq'⟩ := hs
    cases hq'
    have eq : H q = some (.tup [.str n, .str st, e, .int kd, .int wd, .int fi, .int mo]) := eq'
    clear eq'
    have hm1 : kd = 3 → 1 ≤ mo := hm1
    have hm0 : 0 ≤ mo := hm0
    unfold letS at k
    simp only [] at k
    walk_at "go"
    refine rd_slT3 eq fun q2 H2 n2 S2 e2 => ?_
    by_cases c1 : kd = 1
    · by_cases h : t < fi
      · rw [if_pos (.inl ⟨c1, h⟩)] at k
        walk_at "go"
        exact k _ S2
      · rw [if_neg (by omega), if_neg (fun z => by have := z.1; omega), if_neg (fun z => by have := z.1; omega)] at k
        walk_at "go"
        exact k _ S2
    · by_cases c2 : kd = 2
      · by_cases h : fi ≤ t
        · rw [if_pos (.inr ⟨c2, h⟩)] at k
          walk_at "go"
          exact k _ S2
        · rw [if_neg (by omega), if_neg (fun z => by have := z.1; omega), if_neg (fun z => by have := z.1; omega)] at k
          walk_at "go"
          exact k _ S2
      · rw [if_neg (by omega)] at k
        by_cases c3 : kd = 3
        · have hm := hm1 c3
          by_cases h : t < fi
          · rw [if_pos ⟨c3, .inl h⟩] at k
            walk_at "go"
            exact k _ S2
          · by_cases h2 : 0 < (t - fi) % mo
            · rw [if_pos ⟨c3, .inr h2⟩] at k
              walk_at "go"
              exact k _ S2
            · rw [if_neg (fun z => z.2.elim h h2), if_neg (fun z => by have := z.1; omega)] at k
              walk_at "go"
              exact k _ S2
        · rw [if_neg (fun z => c3 z.1)] at k
          by_cases c4 : kd = 4
          · walk_at "go"
            refine rd_if2 (fun hc => ?_) (fun hc => ?_)
            · rw [if_pos ⟨c4, hc⟩] at k
              walk_at "go"
              exact k _ S2
            · rw [if_neg (fun z => hc z.2)] at k
              walk_at "go"
              exact k _ S2
          · rw [if_neg (fun z => c4 z.1)] at k
            walk_at "go"
            exact k _ S2
theorem fc__law_lets (m : M K mg) : Fc P w K mg base "_law_lets" 1 ["_law_spec_here", "_law_turn"] (sp_llets) := ⟨_, _, m.m__law_lets, m.F__law_lets.kp, m.b__law_lets, ok__law_lets m⟩
theorem Mc.mono {C : Addr} {nm : Str} {j k : Nat} {sp : Sp} (F : Mc P w K mg base C nm j sp) (h : j ≤ k) : Mc P w K mg base C nm k sp := by
  obtain ⟨f, fd, ps, h1, h2, h3, h4⟩ := F.ex
  exact ⟨f, fd, ps, h1, h2, h3, h4.mono h⟩
abbrev ToldFs (n s e l : V) : List (Str × V) := putF "letting" l (doorFs n s e (.int 1))
def sp_Told_init (K : W.Frag) : Sp := fun vs H Q _ => ∃ (p C dx : Addr) (n s : Str) (e l : V), vs = [.ref p, .str n, .str s, e, l] ∧ DCls K C ∧ H p = some (.ins C dx []) ∧ nameB n = true ∧ nameB s = true ∧ EndOk e ∧
  ∀ H', SameBut p H H' → H' p = some (.ins C dx (ToldFs (.str n) (.str s) e l)) → Q .non H'
theorem r_Told_init {H : Hp} {Q : VK} {E : XK} {p C dx : Addr} {n s : Str} {e l : V} (dc : DCls K C) (hp : H p = some (.ins C dx [])) (hn : nameB n = true) (hs : nameB s = true) (he : EndOk e)
    (k : ∀ H', SameBut p H H' → H' p = some (.ins C dx (ToldFs (.str n) (.str s) e l)) → Q .non H') : sp_Told_init K [.ref p, .str n, .str s, e, l] H Q E := ⟨_, _, _, _, _, _, _, rfl, dc, hp, hn, hs, he, k⟩
theorem ok_Told___init__ (m : M K mg) : FnOk P w K mg base CX0 4 m.a_Told___init__ m.d_Told___init__ ["self", "name", "start", "end", "letting"] (sp_Told_init K) := by
  refine m.F_Told___init__.ok sc_Told___init__ (fun vs H Q E h => ?_) (fun cdv A outer s H vs Q E hr h => ?_)
  · obtain ⟨p, C, dx, n, st, e, l, rfl, dc, hp, hn, hs, he, k⟩ := h
    rfl
  · obtain ⟨p, C, dx, n, st, e, l, rfl, dc, hp, hn, hs, he, k⟩ := h
    have nd := sc_Told___init__.nd
    have hu0 := Room.units0 hr
    have hu1 := Room.units1 hr
    have hu9 := Room.units9 hr
    have DD_Door___init___1 := dcallD_Door___init___1 (P := P) (w := w) (base := base) m
    refine ⟨_, (pss_cons (ps_expr (pe_dmD DD_Door___init___1 hr (pa_cons (pv 0) (pa_cons (pv 1) (pa_cons (pv 2) (pa_cons (pv 3) pa_nil))))))
      (pss_one (ps_fld (pv 0) (pv 4) rfl))), ?_⟩
    refine rd_start (σ := [some (.ref p), some (.str n), some (.str st), some (e), some (l)]) rfl ?_
    walk_at "go"
    refine rd_callD ?_
    walk_at "go"
    show sp_Door_init K [.ref p, .str n, .str st, e, .int 1] _ _ _
    walk_at "go"
    exact k _ (by walk_at "sb") (by assumption)
theorem kc_Told_0 (m : M K mg) : Kc P w K mg base "Told" m.C_Told 4 [] (sp_Told_init K) := ⟨_, _, _, _, m.m_Told, m.mk_Told, .nil, m.b_Told___init__, ok_Told___init__ m⟩
theorem r_mkTold {H : Hp} {Q : VK} {E : XK} {C : Addr} {vs dvs : List V} {n s : Str} {e l : V} (ev : vs ++ dvs = [.str n, .str s, e, l]) (dc : DCls K C) (hn : nameB n = true) (hs : nameB s = true) (he : EndOk e)
    (k : ∀ p dx H', H p = none → Same H H' → H' p = some (.ins C dx (ToldFs (.str n) (.str s) e l)) → Q (.ref p) H') : MakeP C (sp_Told_init K) dvs E Q vs H :=
  rd_makeV (fun p dx H0 Q' h k' s0 => by rw [ev]; exact r_Told_init dc h hn hs he k') k
def sp_Told_lets (P : Program) (w : World) (K : W.Frag) (mg : Str → Option Value) (base : Heap) : Sp := fun vs H Q _ => ∃ (p C dx : Addr) (fs : List (Str × V)) (t : Int) (F : Addr) (o : Obj) (fd : FuncData) (ps : List Str) (sp : Sp), vs = [.ref p, .int t] ∧ DCls K C ∧ H p = some (.ins C dx fs) ∧
  fs.lookup ("letting" : Str) = some (.ref F) ∧ H F = some (kn o) ∧ o.data = .func fd ∧ Binds K fd ps [] ∧ FnOk P w K mg base CX0 3 F fd ps sp ∧ sp [.int t] H Q E0
theorem r_Told_lets {H : Hp} {Q : VK} {E : XK} {p C dx : Addr} {fs : List (Str × V)} {t : Int} {F : Addr} {o : Obj} {fd : FuncData} {ps : List Str} {sp : Sp} (hp : H p = some (.ins C dx fs)) (dc : DCls K C) (l : fs.lookup ("letting" : Str) = some (.ref F)) (hF : H F = some (kn o)) (hd : o.data = .func fd)
    (hb : Binds K fd ps []) (hf : FnOk P w K mg base CX0 3 F fd ps sp) (k : sp [.int t] H Q E0) : sp_Told_lets P w K mg base [.ref p, .int t] H Q E := ⟨_, _, _, _, _, _, _, _, _, _, rfl, dc, hp, l, hF, hd, hb, hf, k⟩
theorem ok_Told_lets (m : M K mg) : FnOk P w K mg base CX0 4 m.a_Told_lets m.d_Told_lets ["self", "turn"] (sp_Told_lets P w K mg base) := by
  refine m.F_Told_lets.ok sc_Told_lets (fun vs H Q E h => ?_) (fun cdv A outer s H vs Q E hr h => ?_)
  · obtain ⟨p, C, dx, fs, t, F, o, fd, ps, sp, rfl, dc, hp, l, hF, hd, hb, hf, k⟩ := h
    rfl
  · obtain ⟨p, C, dx, fs, t, F, o, fd, ps, sp, rfl, dc, hp, l, hF, hd, hb, hf, k⟩ := h
    have nd := sc_Told_lets.nd
    have hu0 := Room.units0 hr
    have hu1 := Room.units1 hr
    have hu9 := Room.units9 hr
    refine ⟨_, (pss_cons (ps_set (i := 2) nd rfl (by walk_at "oi") (pe_fld (pv 0) rfl))
      (pss_one (ps_ret (pe_callV 3 2 hr (pa_cons (pv 1) pa_nil))))), ?_⟩
    refine rd_start (σ := [some (.ref p), some (.int t), none]) rfl ?_
    walk_at "go"
    refine ⟨F, o, fd, rfl, hF, hd, ?_⟩
    walk_at "go"
    exact ⟨ps, sp, hF, hb, hf, k⟩
theorem mc_Told_lets (m : M K mg) : Mc P w K mg base m.C_Told "lets" 4 (sp_Told_lets P w K mg base) := ⟨_, _, _, m.dc_Told.ic.cl, m.mt_Told_lets, m.b_Told_lets, ok_Told_lets m⟩
theorem door_at {H : Hp} {p dx : Addr} {n st : Str} {e : V} {wd : Int} (m : M K mg) (h : H p = some (.ins m.C_Door dx (doorFs (.str n) (.str st) e (.int wd)))) : (doorP P w K mg base (some 4)).at' H (.ref p) (n, st, e, fun _ => wd) :=
  ⟨p, _, dx, _, [], rfl, h, m.dc_Door, by walk_at "lk", by walk_at "lk", by walk_at "lk", by walk_at "lk", by walk_at "lk", mc_Door_is_exit m, (fun _ z => nomatch z), fun kl hk => by
    cases hk
    exact ⟨_, Mc.mono (mc_Door_lets m) (by decide), fun H' t Q hp _ ht k => r_lets_wide hp m.dc_Door (by walk_at "lk") (k _ (Same.refl _))⟩⟩
theorem Since_at {H : Hp} {p dx : Addr} {n st : Str} {e : V} {wd i0 : Int} (m : M K mg) (b0 : 0 ≤ i0) (h : H p = some (.ins m.C_Since dx (SinceFs (.str n) (.str st) e (.int wd) (.int i0)))) : (doorP P w K mg base (some 4)).at' H (.ref p) (n, st, e, SinceV wd i0) :=
  ⟨p, _, dx, _, [], rfl, h, m.dc_Since, by walk_at "lk", by walk_at "lk", by walk_at "lk", by walk_at "lk", by walk_at "lk", mc_Since_is_exit m, (fun _ z => nomatch z), fun kl hk => by
    cases hk
    exact ⟨_, Mc.mono (mc_Since_lets m) (by decide), fun H' t Q hp _ ht k => r_Since_lets hp m.dc_Since (by walk_at "lk") (by walk_at "lk") ht b0 (k _ (Same.refl _))⟩⟩
theorem Until_at {H : Hp} {p dx : Addr} {n st : Str} {e : V} {wd i0 : Int} (m : M K mg) (b0 : 0 ≤ i0) (h : H p = some (.ins m.C_Until dx (UntilFs (.str n) (.str st) e (.int wd) (.int i0)))) : (doorP P w K mg base (some 4)).at' H (.ref p) (n, st, e, UntilV wd i0) :=
  ⟨p, _, dx, _, [], rfl, h, m.dc_Until, by walk_at "lk", by walk_at "lk", by walk_at "lk", by walk_at "lk", by walk_at "lk", mc_Until_is_exit m, (fun _ z => nomatch z), fun kl hk => by
    cases hk
    exact ⟨_, Mc.mono (mc_Until_lets m) (by decide), fun H' t Q hp _ ht k => r_Until_lets hp m.dc_Until (by walk_at "lk") (by walk_at "lk") ht b0 (k _ (Same.refl _))⟩⟩
theorem Beat_at {H : Hp} {p dx : Addr} {n st : Str} {e : V} {wd i0 i1 : Int} (m : M K mg) (b0 : 1 ≤ i0) (b1 : 0 ≤ i1) (h : H p = some (.ins m.C_Beat dx (BeatFs (.str n) (.str st) e (.int wd) (.int i0) (.int i1)))) : (doorP P w K mg base (some 4)).at' H (.ref p) (n, st, e, BeatV wd i0 i1) :=
  ⟨p, _, dx, _, [], rfl, h, m.dc_Beat, by walk_at "lk", by walk_at "lk", by walk_at "lk", by walk_at "lk", by walk_at "lk", mc_Beat_is_exit m, (fun _ z => nomatch z), fun kl hk => by
    cases hk
    exact ⟨_, Mc.mono (mc_Beat_lets m) (by decide), fun H' t Q hp _ ht k => r_Beat_lets hp m.dc_Beat (by walk_at "lk") (by walk_at "lk") (by walk_at "lk") ht b0 b1 (k _ (Same.refl _))⟩⟩
theorem Marked_at {H : Hp} {p dx : Addr} {n st : Str} {e : V} {wd i0 : Int} (m : M K mg) (b0 : 0 ≤ i0) (h : H p = some (.ins m.C_Marked dx (MarkedFs (.str n) (.str st) e (.int wd) (.int i0)))) : (doorP P w K mg base (some 4)).at' H (.ref p) (n, st, e, MarkedV wd i0) :=
  ⟨p, _, dx, _, [], rfl, h, m.dc_Marked, by walk_at "lk", by walk_at "lk", by walk_at "lk", by walk_at "lk", by walk_at "lk", mc_Marked_is_exit m, (fun _ z => nomatch z), fun kl hk => by
    cases hk
    exact ⟨_, Mc.mono (mc_Marked_lets m) (by decide), fun H' t Q hp _ ht k => r_Marked_lets hp m.dc_Marked (by walk_at "lk") (by walk_at "lk") ht b0 (k _ (Same.refl _))⟩⟩
theorem door_t {kL : Option Nat} {H H' : Hp} {v : V} {d : DoorG} (h : DoorAt P w K mg base kL H v d) (T : SameT H H') : DoorAt P w K mg base kL H' v d := by
  obtain ⟨p, C, dx, fs, fp, e, hp, dc, l1, l2, l3, l4, l5, mc, hf, lt⟩ := h
  exact ⟨p, C, dx, fs, fp, e, T _ _ hp (fun ps z => by cases z), dc, l1, l2, l3, l4, l5, mc, fun x hx => ⟨T _ _ (hf x hx).1 (fun ps z => (hf x hx).2 (by rw [z]; trivial)), (hf x hx).2⟩, lt⟩
theorem free_of {sc : Scope} {y : Str} (h : ∀ q ∈ sc.names, q.2 = .free → q.1 = y) : ∀ z, sc.names.lookup z = some .free → z = y := fun z e => h (z, .free) (PySem.mem_of_lookup e) rfl
def sp_lam (F c : Addr) (fd : FuncData) (qual : Str) (args : Arguments) (body : Expr) (sc : Scope) (cell : Int) : Sp := fun vs H Q _ => ∃ t : Int, vs = [.int t] ∧ LamAt H F fd qual args body sc "_law_wide" c ∧ KCell H c (.int cell) ∧ Q (.int cell) H
theorem ok_lam {qual : Str} {args : Arguments} {body : Expr} {sc : Scope} {F c : Addr} {fd : FuncData} {cell : Int} {G : Hp} (hL : LamAt G F fd qual args body sc "_law_wide" c) (hk : sc.kind = .function) (hco : sc.isCoroutine = false) (hgen : sc.isGenerator = false) (hcell : ∀ z ∈ sc.names, z.2 ≠ .cell)
    (hx : sc.names.lookup ("_law_turn" : Str) = some .local) (hfree : ∀ z, sc.names.lookup z = some .free → z = "_law_wide") (hy : sc.names.lookup ("_law_wide" : Str) = some .free)
    (hb : ∀ (cdv : Value) (A : Around) (outer : List Env) (s : Shared) (H : Hp) (E : XK), PE (cxL CX0 P w K mg base ["_law_turn", "_law_wide"] qual sc F cdv [("_law_wide", c)] A outer s H E).nox body (tVar 1)) :
    FnOk P w K mg base CX0 3 F fd ["_law_turn"] (sp_lam F c fd qual args body sc cell) := by
  refine fn_lamT (qual := qual) (args := args) (body := body) (c := c) (v := .int cell) hk hco hgen hcell hx hfree hy (fun vs H Q E h => ?_) fun cdv A outer s H a Q E hr h => ?_
  · obtain ⟨t, e, L, kc, _⟩ := h
    exact ⟨.int t, e, L, kc⟩
  · obtain ⟨t, e, L, kc, k⟩ := h
    cases e
    refine ⟨_, hb cdv A outer s (off H c) E, fun o ho => ?_⟩
    walk_at "go"
    rw [off_back ho]
    exact k
theorem Told_at (m : M K mg) {H : Hp} {p dx F c : Addr} {nm st : Str} {e : V} {fd : FuncData} {qual : Str} {args : Arguments} {body : Expr} {sc : Scope} {cell : Int} (hp : H p = some (.ins m.C_Told dx (ToldFs (.str nm) (.str st) e (.ref F))))
    (hL : LamAt H F fd qual args body sc "_law_wide" c) (kc : KCell H c (.int cell)) (hbd : Binds K fd ["_law_turn"] []) (FL : FnOk P w K mg base CX0 3 F fd ["_law_turn"] (sp_lam F c fd qual args body sc cell)) :
    (doorP P w K mg base (some 4)).at' H (.ref p) (nm, st, e, fun _ => cell) := by
  obtain ⟨c', pm, ctv, oc, fv, tt, hfd, hF, hc', hdc, hfv⟩ := id hL
  obtain ⟨oC, uC, hC, hdC, rC⟩ := id kc
  refine ⟨p, _, dx, _, [(F, kn (W.kla_obj "<lambda>" qual args body sc [("_law_wide", c)] pm c' ctv)), (c', kn oc), (c, kn oC)], rfl, hp, m.dc_Told, by walk_at "lk", by walk_at "lk", by walk_at "lk", by walk_at "lk", by walk_at "lk", mc_Told_is_exit m, ?_, fun kl hk => ?_⟩
  · intro x hx
    simp only [List.mem_cons, List.not_mem_nil, or_false] at hx
    rcases hx with rfl | rfl | rfl
    · exact ⟨hF, fun z => z⟩
    · exact ⟨hc', fun z => z⟩
    · exact ⟨hC, fun z => z⟩
  · cases hk
    refine ⟨_, Mc.mono (mc_Told_lets m) (by decide), fun H' t Q hp' hfp ht k => ?_⟩
    have gF := hfp _ (.head _)
    have gc' := hfp _ (.tail _ (.head _))
    have gC := hfp _ (.tail _ (.tail _ (.head _)))
    exact r_Told_lets hp' m.dc_Told (by walk_at "lk") gF (by rw [hfd]) hbd FL ⟨t, rfl, ⟨c', pm, ctv, oc, fv, tt, hfd, gF, gc', hdc, hfv⟩, ⟨oC, uC, gC, hdC, rC⟩, k _ (Same.refl _)⟩
theorem let0 {s : SpecD} (h : s.kd = 0 ∨ s.kd = 5) : letS s = fun _ => s.wd := funext fun t => by
  unfold letS
  rw [if_neg (by omega), if_neg (fun z => by have := z.1; omega), if_neg (fun z => by have := z.1; omega)]
theorem let1 {s : SpecD} (h : s.kd = 1) : letS s = SinceV s.wd s.fi := funext fun t => by
  unfold letS SinceV
  by_cases c : t < s.fi
  · rw [if_pos (.inl ⟨h, c⟩), if_neg (by omega)]
  · rw [if_neg (by omega), if_neg (fun z => by have := z.1; omega), if_neg (fun z => by have := z.1; omega), if_pos (by omega)]
theorem let2 {s : SpecD} (h : s.kd = 2) : letS s = UntilV s.wd s.fi := funext fun t => by
  unfold letS UntilV
  by_cases c : t < s.fi
  · rw [if_neg (by omega), if_neg (fun z => by have := z.1; omega), if_neg (fun z => by have := z.1; omega), if_pos (by omega)]
  · rw [if_pos (.inr ⟨h, by omega⟩), if_neg (by omega)]
theorem let3 {s : SpecD} (h : s.kd = 3) (hm : 1 ≤ s.mo) : letS s = BeatV s.wd s.mo s.fi := funext fun t => by
  unfold letS BeatV
  have h0 := Int.emod_nonneg (t - s.fi) (show s.mo ≠ 0 by omega)
  rw [if_neg (by omega)]
  by_cases c : t < s.fi ∨ 0 < (t - s.fi) % s.mo
  · rw [if_pos ⟨h, c⟩, if_neg (by omega)]
  · rw [if_neg (fun z => c z.2), if_neg (fun z => by have := z.1; omega), if_pos (by omega)]
theorem let4 {s : SpecD} (h : s.kd = 4) : letS s = MarkedV s.wd s.mo := funext fun t => by
  unfold letS MarkedV
  rw [if_neg (by omega), if_neg (fun z => by have := z.1; omega)]
  by_cases c : s.mo / 2 ^ t.toNat % 2 = 0
  · rw [if_pos ⟨h, c⟩, if_neg (by omega)]
  · rw [if_neg (fun z => c z.2), if_pos (by omega)]
def doorS (s : SpecD) : DoorG := (s.n, s.st, s.e, letS s)
abbrev qL : Str := ("_law_door" : Str) ++ ".<locals>." ++ "<lambda>"
abbrev pL : Pos := ⟨325, 54, 325, 81⟩
def sp_ldoor (P : Program) (w : World) (K : W.Frag) (mg : Str → Option Value) (base : Heap) (PL : Addr) : Sp := fun vs H Q _ => ∃ (q : Addr) (s : SpecD) (rs : List RowR) (f : Int), vs = [.ref q] ∧ SpecAt H (.ref q) s ∧ SpecOk rs f s ∧ 0 ≤ f ∧ TabS H PL pL qL ∧ ∀ v H', SameT H H' → TabS H' PL pL qL → (doorP P w K mg base (some 4)).at' H' v (doorS s) → Q v H'
theorem r_ldoor {PL : Addr} {H : Hp} {Q : VK} {E : XK} {q : Addr} {s : SpecD} {rs : List RowR} {f : Int} (hs : SpecAt H (.ref q) s) (so : SpecOk rs f s) (hf : 0 ≤ f) (ht : TabS H PL pL qL) (k : ∀ v H', SameT H H' → TabS H' PL pL qL → (doorP P w K mg base (some 4)).at' H' v (doorS s) → Q v H') : sp_ldoor P w K mg base PL [.ref q] H Q E := ⟨_, _, _, _, rfl, hs, so, hf, ht, k⟩
local macro_rules | `(tactic| walk_at "rd1") => `(tactic| first | (with_reducible refine rd_seqC ?_) | (with_reducible refine rd_retC ?_))
theorem ok__law_door (m : M K mg) {cL PL : Addr} (hcL : m.d__law_door.code = .ref cL) (hCL : W.CodeHd base cL PL) (hBL : base.BuiltinsAt mg PL) : FnOk P w K mg base CX0 6 m.a__law_door m.d__law_door ["_law_spec_here"] (sp_ldoor P w K mg base PL) := by
  refine m.F__law_door.okR sc__law_door (i := 5) (y := "_law_wide") rfl (by kernel_rfl) (fun vs H Q E h => ?_) (fun cdv A outer s H vs Q E c hcd hc hr h => ?_)
  · obtain ⟨q, s', rs, f, rfl, hs, so, hf, hPL, k⟩ := h
    rfl
  · obtain ⟨q, s', rs, f, rfl, hs, so, hf, hPL, k⟩ := h
    have nd := sc__law_door.nd
    have hu0 := Room.units0 hr
    have hu1 := Room.units1 hr
    have hu9 := Room.units9 hr
    obtain rfl := hcd.symm.trans hcL
    obtain rfl : s.heap.objs.size + 1 = c := Option.some.inj ((show _ = some (s.heap.objs.size + 1) from by kernel_rfl).symm.trans hc)
    have K_Beat_0 := kc_Beat_0 (P := P) (w := w) (base := base) m
    have K_Door_0 := kc_Door_0 (P := P) (w := w) (base := base) m
    have K_Marked_0 := kc_Marked_0 (P := P) (w := w) (base := base) m
    have K_Since_0 := kc_Since_0 (P := P) (w := w) (base := base) m
    have K_Told_0 := kc_Told_0 (P := P) (w := w) (base := base) m
    have K_Until_0 := kc_Until_0 (P := P) (w := w) (base := base) m
    have w_dc_Door := m.dc_Door
    have w_dc_Since := m.dc_Since
    have w_dc_Until := m.dc_Until
    have w_dc_Beat := m.dc_Beat
    have w_dc_Marked := m.dc_Marked
    have w_dc_Told := m.dc_Told
    refine ⟨_, (prs_cons (ps_asg (pv 0) (pg_tup rfl (pgs_cons (pg_name (i := 1) nd rfl (by walk_at "oi")) (pgs_cons (pg_name (i := 2) nd rfl (by walk_at "oi")) (pgs_cons (pg_name (i := 3) nd rfl (by walk_at "oi")) (pgs_cons (pg_name (i := 4) nd rfl (by walk_at "oi")) (pgs_cons (pg_name (i := 5) nd rfl (by walk_at "oi")) (pgs_cons (pg_name (i := 6) nd rfl (by walk_at "oi")) (pgs_cons (pg_name (i := 7) nd rfl (by walk_at "oi")) pgs_nil)))))))))
      (prs_cons (ps_if (pt_cmpR op_eq (pv 4) pe_int (nomark _)) (pss_one (ps_ret (pe_mk K_Door_0 hr (pa_cons (pv 1) (pa_cons (pv 2) (pa_cons (pv 3) (pa_cons (pv 5) pa_nil))))))) pss_nil)
      (prs_cons (ps_if (pt_cmpR op_eq (pv 4) pe_int (nomark _)) (pss_one (ps_ret (pe_mk K_Since_0 hr (pa_cons (pv 1) (pa_cons (pv 2) (pa_cons (pv 3) (pa_cons (pv 5) (pa_cons (pv 6) pa_nil)))))))) pss_nil)
      (prs_cons (ps_if (pt_cmpR op_eq (pv 4) pe_int (nomark _)) (pss_one (ps_ret (pe_mk K_Until_0 hr (pa_cons (pv 1) (pa_cons (pv 2) (pa_cons (pv 3) (pa_cons (pv 5) (pa_cons (pv 6) pa_nil)))))))) pss_nil)
      (prs_cons (ps_if (pt_cmpR op_eq (pv 4) pe_int (nomark _)) (pss_one (ps_ret (pe_mk K_Beat_0 hr (pa_cons (pv 1) (pa_cons (pv 2) (pa_cons (pv 3) (pa_cons (pv 5) (pa_cons (pv 7) (pa_cons (pv 6) pa_nil))))))))) pss_nil)
      (prs_cons (ps_if (pt_cmpR op_eq (pv 4) pe_int (nomark _)) (pss_one (ps_ret (pe_mk K_Marked_0 hr (pa_cons (pv 1) (pa_cons (pv 2) (pa_cons (pv 3) (pa_cons (pv 5) (pa_cons (pv 7) pa_nil)))))))) pss_nil)
      (prs_ret (pe_mk K_Told_0 hr (pa_cons (pv 1) (pa_cons (pv 2) (pa_cons (pv 3) (pa_cons (pe_lam2 (y := "_law_wide") (c := s.heap.objs.size + 1) rfl hCL hBL rfl) pa_nil)))))))))))), ?_⟩
    refine rd_startR (σ := [some (.ref q), none, none, none, none, none, none, none]) rfl ?_
    obtain ⟨hnm, hsm, -, heo, -, hk0, hk1, hw0, hf0, hm0, hm1⟩ := so
    have fx0 := let0 (s := s')
    have fx1 := let1 (s := s')
    have fx2 := let2 (s := s')
    have fx3 := let3 (s := s')
    have fx4 := let4 (s := s')
    unfold doorS at k
    generalize letS s' = LS at k fx0 fx1 fx2 fx3 fx4
    obtain ⟨n, st, e, kd, wd, fi, mo⟩ := s'
    obtain ⟨q', hq', eq'⟩ := hs
    cases hq'
    have eq : H q = some (.tup [.str n, .str st, e, .int kd, .int wd, .int fi, .int mo]) := eq'
    clear eq'
    simp only [] at hnm hsm heo hk0 hk1 hw0 hf0 hm0 hm1 k fx0 fx1 fx2 fx3 fx4
    walk_at "go"
    refine rd_if2 (fun h0 => ?_) (fun h0 => ?_)
    · rw [fx0 (.inl h0)] at k
      walk_at "go"
      rename_i p dx H2 n2 S2 e2
      exact k _ _ (Same.t S2) (hPL.same S2) (door_at (P := P) (w := w) (base := base) m e2)
    walk_at "go"
    refine rd_if2 (fun h1 => ?_) (fun h1 => ?_)
    · rw [fx1 h1] at k
      walk_at "go"
      rename_i p dx H2 n2 S2 e2
      exact k _ _ (Same.t S2) (hPL.same S2) (Since_at (P := P) (w := w) (base := base) m (by omega) e2)
    walk_at "go"
    refine rd_if2 (fun h2 => ?_) (fun h2 => ?_)
    · rw [fx2 h2] at k
      walk_at "go"
      rename_i p dx H2 n2 S2 e2
      exact k _ _ (Same.t S2) (hPL.same S2) (Until_at (P := P) (w := w) (base := base) m (by omega) e2)
    walk_at "go"
    refine rd_if2 (fun h3 => ?_) (fun h3 => ?_)
    · rw [fx3 h3 (hm1 h3)] at k
      have hm1' := hm1 h3
      walk_at "go"
      rename_i p dx H2 n2 S2 e2
      exact k _ _ (Same.t S2) (hPL.same S2) (Beat_at (P := P) (w := w) (base := base) m (hm1 h3) (by omega) e2)
    walk_at "go"
    refine rd_if2 (fun h4 => ?_) (fun h4 => ?_)
    · rw [fx4 h4] at k
      walk_at "go"
      rename_i p dx H2 n2 S2 e2
      exact k _ _ (Same.t S2) (hPL.same S2) (Marked_at (P := P) (w := w) (base := base) m hm0 e2)
    walk_at "go"
    refine ⟨hPL, fun F fd G4 hFn hL T hT4 => ?_⟩
    have FL := fun (cell : Int) => ok_lam (P := P) (w := w) (K := K) (mg := mg) (base := base) (cell := cell) hL rfl rfl rfl (by decide +kernel) (by kernel_rfl) (free_of (by decide +kernel)) (by kernel_rfl) (fun cdv A outer s H E => pv 1)
    have hbd : Binds K fd ["_law_turn"] [] := by
      obtain ⟨c', pm, ctv, oc, fv, tt, rfl, _⟩ := id hL
      exact Binds.all <| of_allN 1 _ fun _ => rfl
    walk_at "go"
    refine r_mkTold rfl w_dc_Told hnm hsm heo fun p5 dx5 G5 n5 S5 e5 => ?_
    refine ⟨_, rfl, fun H6 S6 nc kc => ?_⟩
    rw [fx0 (by omega)] at k
    exact k _ _ ((T.snoc S5).snoc S6) ((hT4.same S5).same S6) (Told_at (P := P) (w := w) (base := base) m (S6 _ _ e5) ((hL.same S5).same S6) kc hbd (FL wd))
theorem fc__law_door (m : M K mg) {cL PL : Addr} (hcL : m.d__law_door.code = .ref cL) (hCL : W.CodeHd base cL PL) (hBL : base.BuiltinsAt mg PL) : Fc P w K mg base "_law_door" 6 ["_law_spec_here"] (sp_ldoor P w K mg base PL) := ⟨_, _, m.m__law_door, m.F__law_door.kp, m.b__law_door, ok__law_door m hcL hCL hBL⟩
structure DrawnAt (H : Hp) (q p1 p2 p3 : Addr) (us ws : List V) (rs : List RowR) (ss : List SpecD) (f l : Int) : Prop where
  eq : H q = some (.tup [.ref p1, .ref p2, .ref p3])
  e1 : H p1 = some (.lst us)
  e2 : H p2 = some (.lst ws)
  e3 : H p3 = some (.tup [.int f, .int l])
  ru : Paired (RowRAt H) us rs
  sw : Paired (SpecAt H) ws ss
  ro : RowsOk rs
  so : ∀ s ∈ ss, SpecOk rs f s
  nd : (ss.map (·.n)).Nodup
  l7 : ss.length ≤ 7
  f0 : 0 ≤ f
  f1 : f < 100000000000
  fl : f ≤ l
  fl7 : l ≤ f + 7
theorem spec_sm {H H' : Hp} {us : List V} {ss : List SpecD} (h : Paired (SpecAt H) us ss) (s : Same H H') : Paired (SpecAt H') us ss := Paired.imp' (fun v d ⟨q, e, h⟩ => ⟨q, e, s _ _ h⟩) h
theorem spec_t {H H' : Hp} {us : List V} {ss : List SpecD} (h : Paired (SpecAt H) us ss) (s : SameT H H') : Paired (SpecAt H') us ss := Paired.imp' (fun v d ⟨q, e, h⟩ => ⟨q, e, s.tup h⟩) h
theorem rowr_t {H H' : Hp} {us : List V} {ss : List RowR} (h : Paired (RowRAt H) us ss) (s : SameT H H') : Paired (RowRAt H') us ss := Paired.imp' (fun v d ⟨q, e, h⟩ => ⟨q, e, s.tup h⟩) h
theorem specs_of {H : Hp} {rs : List RowR} {f : Int} : ∀ {l : List Nat} {ys : List V}, Paired (fun i y => ∃ s c, SpecAt H y s ∧ SpecOk rs f s ∧ s.n = wnF c (20 + (i : Nat))) l ys → (∀ i ∈ l, i < 7) → l.Nodup →
    ∃ ss, Paired (SpecAt H) ys ss ∧ (∀ s ∈ ss, SpecOk rs f s) ∧ (ss.map (·.n)).Nodup ∧ (∀ s ∈ ss, ∃ i ∈ l, ∃ c, s.n = wnF c (20 + (i : Nat))) ∧ ss.length = l.length
  | _, _, .nil, _, _ => ⟨[], .nil, (fun _ z => nomatch z), List.nodup_nil, (fun _ z => nomatch z), rfl⟩
  | i :: l, _, .cons ⟨s, c, h1, h2, h3⟩ t, h7, nd => by
    obtain ⟨ss, g1, g2, g3, g4, g5⟩ := specs_of t (fun j hj => h7 j (List.mem_cons_of_mem _ hj)) (List.nodup_cons.mp nd).2
    refine ⟨s :: ss, .cons h1 g1, fun x hx => ?_, ?_, fun x hx => ?_, by rw [List.length_cons, List.length_cons, g5]⟩
    · rcases List.mem_cons.mp hx with rfl | hx
      · exact h2
      · exact g2 x hx
    · rw [List.map_cons, List.nodup_cons]
      refine ⟨fun z => ?_, g3⟩
      obtain ⟨x, hx, e⟩ := List.mem_map.mp z
      obtain ⟨j, hj, c', e'⟩ := g4 x hx
      have hi7 := h7 i (.head _)
      have hj7 := h7 j (List.mem_cons_of_mem _ hj)
      have e := e'.symm.trans (e.trans h3)
      have := wnF_inj (by omega) (by omega) (by omega) (by omega) e
      have hij : i = j := by omega
      exact (List.nodup_cons.mp nd).1 (hij ▸ hj)
    · rcases List.mem_cons.mp hx with rfl | hx
      · exact ⟨i, .head _, c, h3⟩
      · obtain ⟨j, hj, r⟩ := g4 x hx
        exact ⟨j, List.mem_cons_of_mem _ hj, r⟩
def sp_ldrawn (K : W.Frag) : Sp := fun vs H Q _ => ∃ (a : Addr) (ns : List Int), vs = [.ref a] ∧ SqL K H a (ns.map V.int) ∧ ns.length ≤ 63 ∧ ∀ q p1 p2 p3 us ws rs ss f l H', Same H H' → DrawnAt H' q p1 p2 p3 us ws rs ss f l → Q (.ref q) H'
theorem r_ldrawn {H : Hp} {Q : VK} {E : XK} {a : Addr} {ns : List Int} (hS : SqL K H a (ns.map V.int)) (hl : ns.length ≤ 63) (k : ∀ q p1 p2 p3 us ws rs ss f l H', Same H H' → DrawnAt H' q p1 p2 p3 us ws rs ss f l → Q (.ref q) H') : sp_ldrawn K [.ref a] H Q E := ⟨_, _, rfl, hS, hl, k⟩
theorem cells4 (ns : List Int) : (List.range (Int.toNat 4)).map (fun i : Nat => V.int (cellN ns (i : Int))) = [.int (cellN ns 0), .int (cellN ns 1), .int (cellN ns 2), .int (cellN ns 3)] := rfl
theorem len47 {ns : List Int} {i : Nat} (h : i < (min ((ns.length : Int) - 4) 7).toNat) : 4 + i < ns.length ∧ i < 7 := by omega
theorem ok__law_drawn_told (m : M K mg) : FnOk P w K mg base CX0 4 m.a__law_drawn_told m.d__law_drawn_told ["_law_script"] (sp_ldrawn K) := by
  refine m.F__law_drawn_told.ok sc__law_drawn_told (fun vs H Q E h => ?_) (fun cdv A outer s H vs Q E hr h => ?_)
  · obtain ⟨a, ns, rfl, hS, hlen, k⟩ := h
    rfl
  · obtain ⟨a, ns, rfl, hS, hlen, k⟩ := h
    have nd := sc__law_drawn_told.nd
    have hu0 := Room.units0 hr
    have hu1 := Room.units1 hr
    have hu9 := Room.units9 hr
    have F__law_cell_at := fc__law_cell_at (P := P) (w := w) (base := base) m
    have F__law_digits := fc__law_digits (P := P) (w := w) (base := base) m
    have F__law_rooms_told := fc__law_rooms_told (P := P) (w := w) (base := base) m
    have F__law_spec_told := fc__law_spec_told (P := P) (w := w) (base := base) m
    refine ⟨_, (pss_cons (ps_setComp (i := 1) nd rfl (by walk_at "oi") (N := ["_law_k", "_law_script"]) (nl := 1) (ci := [0]) rfl (blk (s.heap.objs.size + 1) rfl rfl rfl (by kernel_rfl)) (pi_range1 rfl m.g_range (pa_cons pe_int pa_nil)) (fun _ _ _ _ => (pg_name (i := 0) (show (["_law_k", "_law_script"] : List Str).Nodup by decide +kernel) rfl (by walk_at "oi"))) (fun _ _ _ _ => pf_nil) (fun _ _ _ _ => (pe_f F__law_cell_at hr (pa_cons (pv 1) (pa_cons (pv 0) pa_nil)))))
      (pss_cons (ps_set (i := 2) nd rfl (by walk_at "oi") (pe_f F__law_rooms_told hr (pa_cons (pv 1) pa_nil)))
      (pss_cons (ps_asg (pe_f F__law_digits hr (pa_cons (pe_ix ix_list (pv 1) pe_int (fun _ _ => rfl)) (pa_cons (pe_lst (pa_cons pe_int (pa_cons (pe_powc 100000000000 (by decide) ⟨by decide, by decide, by decide⟩) pa_nil))) pa_nil))) (pg_tupL rfl (pgs_cons (pg_name (i := 3) nd rfl (by walk_at "oi")) (pgs_cons (pg_name (i := 4) nd rfl (by walk_at "oi")) pgs_nil))))
      (pss_cons (ps_set (i := 5) nd rfl (by walk_at "oi") (pe_tup (pa_cons (pv 4) (pa_cons (pe_op op_add (pv 4) (pv 3)) pa_nil))))
      (pss_cons (ps_setComp (i := 6) nd rfl (by walk_at "oi") (N := ["_law_k", "_law_rooms_here", "_law_turns", "_law_script"]) (nl := 1) (ci := [2, 5, 0]) rfl (blk (s.heap.objs.size + 1) rfl rfl rfl (by kernel_rfl)) (pi_range1 rfl m.g_range (pa_cons (pe_callB (call_minI rfl) rfl m.g_min bt_min (pa_cons (pe_op op_sub (pe_callB call_lenL rfl m.g_len bt_len (pa_cons (pv 0) pa_nil)) pe_int) (pa_cons pe_int pa_nil))) pa_nil)) (fun _ _ _ _ => (pg_name (i := 0) (show (["_law_k", "_law_rooms_here", "_law_turns", "_law_script"] : List Str).Nodup by decide +kernel) rfl (by walk_at "oi"))) (fun _ _ _ _ => pf_nil) (fun _ _ _ _ => (pe_f F__law_spec_told hr (pa_cons (pe_ix (ix_listK (K := K)) (pv 3) (pe_op op_add pe_int (pv 0)) (fun _ _ => rfl)) (pa_cons (pv 0) (pa_cons (pv 1) (pa_cons (pv 2) pa_nil)))))))
      (pss_one (ps_ret (pe_tup (pa_cons (pv 2) (pa_cons (pv 6) (pa_cons (pv 5) pa_nil))))))))))), ?_⟩
    refine rd_start (σ := [some (.ref a), none, none, none, none, none, none]) rfl ?_
    walk_at "go"
    refine comp_rng (fun i => .int (cellN ns (i : Int))) (by decide) (rest := [some (.ref a)]) (by rfl) ?_ ?_
    · intro i H1 hi s1 R hR
      walk_at "go"
      rw [Int.zero_add]
      exact hR _ (Same.refl _)
    intro H1 S1
    rw [cells4]
    walk_at "go"
    rename_i p2 H2 n2 S2 e2
    refine r_lrooms e2 fun p4 us rs H4 n4 S4 e4 hr4 ro => ?_
    have e24 := S4 _ _ e2
    walk_at "go"
    rename_i p5 H5 n5 S5 e5
    refine r_ldigits (bs := [8, 100000000000]) (SqL.of e5) (fun x hx => by
      simp only [List.mem_cons, List.not_mem_nil, or_false] at hx
      rcases hx with rfl | rfl <;> omega) (show 2 ≤ 20 by decide) fun p6 ds H6 n6 S6 e6 hds => ?_
    obtain ⟨mo, t1, rfl, hm, hds⟩ := pair_cons hds
    obtain ⟨fi, t2, rfl, hf, hds⟩ := pair_cons hds
    obtain rfl := pair_nil hds
    have e6' : H6 p6 = some (.lst [.int mo, .int fi]) := e6
    walk_at "go"
    rename_i p7 H7 n7 S7 e7
    have s07 : Same H H7 := (S1.trans S2).trans (S4.trans (S5.trans (S6.trans S7)))
    have s47 : Same H4 H7 := S5.trans (S6.trans S7)
    have hS7 := s07.seq hS
    have e47 := s47 _ _ e4
    have hr7 := rowr_sm hr4 s47
    walk_at "go"
    rw [List.length_map]
    refine comp_R (fun i y H => ∃ s c, SpecAt H y s ∧ SpecOk rs fi s ∧ s.n = wnF c (20 + (i : Nat))) (fun _ _ _ _ ⟨s, c, ⟨q, h1, h2⟩, h3⟩ s2 => ⟨s, c, ⟨q, h1, s2 _ _ h2⟩, h3⟩) (by rw [sizeLine_eq]; omega) (rest := [some (.ref p4), some (.ref p7), some (.ref a)]) (by rfl) ?_ ?_
    · intro i H8 hi s8 R hR
      have h47 := len47 hi
      have hS8 := s8.seq hS7
      have e48 := s8 _ _ e47
      have e78 := s8 _ _ e7
      have hr8 := rowr_sm hr7 s8
      walk_at "go"
      refine rd_ixM hS8 (by omega) (by rw [List.length_map]; omega) fun v hv => ?_
      obtain ⟨c, hc, rfl⟩ := List.mem_map.mp hv
      walk_at "go"
      refine r_lspec (by omega) (by omega) (SqL.of e48) hr8 ro e78 fun q s H9 S9 hs so hn => ?_
      rw [Int.zero_add] at hn
      exact hR _ _ ⟨s, c, hs, so, hn⟩ S9
    intro ys H8 s8 hys
    obtain ⟨ss, g1, g2, g3, g4, g5⟩ := specs_of hys (fun i hi => (len47 (List.mem_range.mp hi)).2) List.nodup_range
    rw [List.length_range] at g5
    walk_at "go"
    rename_i p9 H9 n9 S9 e9 pA HA nA SA eA
    have s79 : Same H7 HA := s8.trans (S9.trans SA)
    refine k _ _ _ _ _ _ _ _ _ _ _ (s07.trans s79) ⟨eA, s79 _ _ e47, SA _ _ e9, s79 _ _ e7, rowr_sm hr7 s79, spec_sm g1 (S9.trans SA), ro, g2, g3, by omega, hf.1, hf.2, by omega, by omega⟩
theorem fc__law_drawn_told (m : M K mg) : Fc P w K mg base "_law_drawn_told" 4 ["_law_script"] (sp_ldrawn K) := ⟨_, _, m.m__law_drawn_told, m.F__law_drawn_told.kp, m.b__law_drawn_told, ok__law_drawn_told m⟩
theorem ok__law_drawn (m : M K mg) : FnOk P w K mg base CX0 5 m.a__law_drawn m.d__law_drawn ["_law_script"] (sp_ldrawn K) := by
  refine m.F__law_drawn.ok sc__law_drawn (fun vs H Q E h => ?_) (fun cdv A outer s H vs Q E hr h => ?_)
  · obtain ⟨a, ns, rfl, hS, hlen, k⟩ := h
    rfl
  · obtain ⟨a, ns, rfl, hS, hlen, k⟩ := h
    have nd := sc__law_drawn.nd
    have hu0 := Room.units0 hr
    have hu1 := Room.units1 hr
    have hu9 := Room.units9 hr
    have F__law_cell_at := fc__law_cell_at (P := P) (w := w) (base := base) m
    have F__law_drawn_told := fc__law_drawn_told (P := P) (w := w) (base := base) m
    have F__law_mixed := fc__law_mixed (P := P) (w := w) (base := base) m
    have F__law_rooms := fc__law_rooms (P := P) (w := w) (base := base) m
    have F__law_spec := fc__law_spec (P := P) (w := w) (base := base) m
    refine ⟨_, (pss_cons (ps_if (pt_cmpR op_eq (pe_op op_mod (pe_f F__law_cell_at hr (pa_cons (pv 0) (pa_cons pe_int pa_nil))) pe_int) pe_int (nomark _)) (pss_one (ps_ret (pe_f F__law_drawn_told hr (pa_cons (pv 0) pa_nil)))) pss_nil)
      (pss_cons (ps_setComp (i := 1) nd rfl (by walk_at "oi") (N := ["_law_k", "_law_script"]) (nl := 1) (ci := [0]) rfl (blk (s.heap.objs.size + 1) rfl rfl rfl (by kernel_rfl)) (pi_range1 rfl m.g_range (pa_cons pe_int pa_nil)) (fun _ _ _ _ => (pg_name (i := 0) (show (["_law_k", "_law_script"] : List Str).Nodup by decide +kernel) rfl (by walk_at "oi"))) (fun _ _ _ _ => pf_nil) (fun _ _ _ _ => (pe_f F__law_cell_at hr (pa_cons (pv 1) (pa_cons (pv 0) pa_nil)))))
      (pss_cons (ps_set (i := 2) nd rfl (by walk_at "oi") (pe_f F__law_rooms hr (pa_cons (pv 1) pa_nil)))
      (pss_cons (ps_set (i := 3) nd rfl (by walk_at "oi") (pe_ix ix_list (pe_lst (pa_cons pe_int (pa_cons (pe_op op_mod (pe_f F__law_mixed hr (pa_cons (pe_ix ix_list (pv 1) pe_int (fun _ _ => rfl)) (pa_cons pe_int pa_nil))) pe_int) pa_nil))) (pe_op op_mod (pe_ix ix_list (pv 1) pe_int (fun _ _ => rfl)) pe_int) (fun _ _ => rfl)))
      (pss_cons (ps_if (pt_cmpR op_eq (pe_op op_mod (pe_op op_fdiv (pe_ix ix_list (pv 1) pe_int (fun _ _ => rfl)) pe_int) pe_int) pe_int (nomark _)) (pss_one (ps_set (i := 3) nd rfl (by walk_at "oi") (pe_op op_mod (pe_op op_fdiv (pe_ix ix_list (pv 1) pe_int (fun _ _ => rfl)) pe_int) (pe_powc 100000000000 (by decide) ⟨by decide, by decide, by decide⟩)))) pss_nil)
      (pss_cons (ps_set (i := 4) nd rfl (by walk_at "oi") (pe_tup (pa_cons (pv 3) (pa_cons (pe_op op_add (pv 3) (pe_op op_mod (pe_f F__law_mixed hr (pa_cons (pe_ix ix_list (pv 1) pe_int (fun _ _ => rfl)) (pa_cons pe_int pa_nil))) pe_int)) pa_nil))))
      (pss_cons (ps_setComp (i := 5) nd rfl (by walk_at "oi") (N := ["_law_k", "_law_rooms_here", "_law_turns", "_law_script"]) (nl := 1) (ci := [2, 4, 0]) rfl (blk (s.heap.objs.size + 1) rfl rfl rfl (by kernel_rfl)) (pi_range1 rfl m.g_range (pa_cons (pe_callB (call_minI rfl) rfl m.g_min bt_min (pa_cons (pe_op op_sub (pe_callB call_lenL rfl m.g_len bt_len (pa_cons (pv 0) pa_nil)) pe_int) (pa_cons pe_int pa_nil))) pa_nil)) (fun _ _ _ _ => (pg_name (i := 0) (show (["_law_k", "_law_rooms_here", "_law_turns", "_law_script"] : List Str).Nodup by decide +kernel) rfl (by walk_at "oi"))) (fun _ _ _ _ => pf_nil) (fun _ _ _ _ => (pe_f F__law_spec hr (pa_cons (pe_ix (ix_listK (K := K)) (pv 3) (pe_op op_add pe_int (pv 0)) (fun _ _ => rfl)) (pa_cons (pv 0) (pa_cons (pv 1) (pa_cons (pv 2) pa_nil)))))))
      (pss_one (ps_ret (pe_tup (pa_cons (pv 2) (pa_cons (pv 5) (pa_cons (pv 4) pa_nil))))))))))))), ?_⟩
    refine rd_start (σ := [some (.ref a), none, none, none, none, none]) rfl ?_
    walk_at "go"
    refine rd_if2 (fun hc => ?_) (fun hc => ?_)
    · walk_at "go"
      refine r_ldrawn hS hlen fun q p1 p2 p3 us ws rs ss f l H1 S1 dr => ?_
      exact k _ _ _ _ _ _ _ _ _ _ _ S1 dr
    walk_at "go"
    refine comp_rng (fun i => .int (cellN ns (i : Int))) (by decide) (rest := [some (.ref a)]) (by rfl) ?_ ?_
    · intro i H1 hi s1 R hR
      walk_at "go"
      rw [Int.zero_add]
      exact hR _ (Same.refl _)
    intro H1 S1
    rw [cells4]
    walk_at "gs"
    rename_i p2 H2 n2 S2 e2
    refine r_lrooms e2 fun p4 us rs H4 n4 S4 e4 hr4 ro => ?_
    have e24 := S4 _ _ e2
    walk_at "gs"
    rename_i n5 h50 h51 p5 H5 m5 S5 e5 v5 hv5
    refine rd_seqR (fun σ' G => H5 = G ∧ ∃ f6, 0 ≤ f6 ∧ f6 < 100000000000 ∧ σ' = [some (.ref a), some (.ref p2), some (.ref p4), some (.int f6), none, none]) ?_ ?_
    rotate_left
    · intro nx' hnx
      have e25 := S5 _ _ e24
      walk_at "go"
      refine rd_if2 (fun hc => ?_) (fun hc => ?_)
      · walk_at "go"
        exact hnx _ _ ⟨rfl, _, by omega, by omega, rfl⟩
      · walk_at "go"
        exact hnx _ _ ⟨rfl, _, by omega, by omega, rfl⟩
    rintro _ G ⟨hG, f6, hf0, hf1, rfl⟩
    subst hG
    have e25 := S5 _ _ e24
    walk_at "go"
    rename_i n6 h60 h61 p7 H7 n7 S7 e7
    have s07 : Same H H7 := (S1.trans S2).trans (S4.trans (S5.trans S7))
    have s47 : Same H4 H7 := S5.trans S7
    have hS7 := s07.seq hS
    have e47 := s47 _ _ e4
    have hr7 := rowr_sm hr4 s47
    walk_at "go"
    rw [List.length_map]
    refine comp_R (fun i y H => ∃ s c, SpecAt H y s ∧ SpecOk rs f6 s ∧ s.n = wnF c (20 + (i : Nat))) (fun _ _ _ _ ⟨s, c, ⟨q, h1, h2⟩, h3⟩ s2 => ⟨s, c, ⟨q, h1, s2 _ _ h2⟩, h3⟩) (by rw [sizeLine_eq]; omega) (rest := [some (.ref p4), some (.ref p7), some (.ref a)]) (by rfl) ?_ ?_
    · intro i H8 hi s8 R hR
      have h47 := len47 hi
      have hS8 := s8.seq hS7
      have e48 := s8 _ _ e47
      have e78 := s8 _ _ e7
      have hr8 := rowr_sm hr7 s8
      walk_at "go"
      refine rd_ixM hS8 (by omega) (by rw [List.length_map]; omega) fun v hv => ?_
      obtain ⟨c, hc, rfl⟩ := List.mem_map.mp hv
      walk_at "go"
      refine r_lspec (by omega) (by omega) (SqL.of e48) hr8 ro e78 fun q s H9 S9 hs so hn => ?_
      rw [Int.zero_add] at hn
      exact hR _ _ ⟨s, c, hs, so, hn⟩ S9
    intro ys H8 s8 hys
    obtain ⟨ss, g1, g2, g3, g4, g5⟩ := specs_of hys (fun i hi => (len47 (List.mem_range.mp hi)).2) List.nodup_range
    rw [List.length_range] at g5
    walk_at "go"
    rename_i p9 H9 n9 S9 e9 pA HA nA SA eA
    have s79 : Same H7 HA := s8.trans (S9.trans SA)
    refine k _ _ _ _ _ _ _ _ _ _ _ (s07.trans s79) ⟨eA, s79 _ _ e47, SA _ _ e9, s79 _ _ e7, rowr_sm hr7 s79, spec_sm g1 (S9.trans SA), ro, g2, g3, by omega, hf0, hf1, by omega, by omega⟩
theorem fc__law_drawn (m : M K mg) : Fc P w K mg base "_law_drawn" 5 ["_law_script"] (sp_ldrawn K) := ⟨_, _, m.m__law_drawn, m.F__law_drawn.kp, m.b__law_drawn, ok__law_drawn m⟩
def rzOf (rs : List RowR) : List (Str × Int) := rs.map fun r => (r.1, r.2.1)
def psOf (rs : List RowR) : List (Str × Int) := (rs.filter fun r => decide (0 < r.2.2)).map fun r => (r.1, r.2.2)
theorem rz_names (rs : List RowR) : (rzOf rs).map (·.1) = rs.map (·.1) := by unfold rzOf; rw [List.map_map]; rfl
theorem ds_names (ss : List SpecD) : (ss.map doorS).map (·.1) = ss.map (·.n) := by rw [List.map_map]; rfl
theorem psum_zero {rs : List RowR} {z : Str} (h : z ∉ rs.map (·.1)) : psum (psOf rs) z = 0 := by
  have e : (psOf rs).filter (fun p => decide (p.1 = z)) = [] := by
    rw [List.filter_eq_nil_iff]
    intro p hp
    unfold psOf at hp
    obtain ⟨r, hr, rfl⟩ := List.mem_map.mp hp
    have hr' := (List.mem_filter.mp hr).1
    intro hz
    exact h (List.mem_map.mpr ⟨r, hr', by simpa using hz⟩)
  unfold psum
  rw [e]; rfl
theorem psum_at {r : RowR} : ∀ {rs : List RowR}, (rs.map (·.1)).Nodup → (∀ r ∈ rs, 0 ≤ r.2.2) → r ∈ rs → psum (psOf rs) r.1 = r.2.2
  | a :: rs, nd, h0, hm => by
    have nd' := List.nodup_cons.mp nd
    have ha := h0 a (.head _)
    have hz := psum_zero nd'.1
    rcases List.mem_cons.mp hm with rfl | hm
    · by_cases hc : 0 < r.2.2
      · unfold psum psOf at hz ⊢
        rw [List.filter_cons_of_pos (by simpa using hc), List.map_cons, List.filter_cons_of_pos (by simp), List.map_cons, List.sum_cons, hz]
        exact Int.add_zero _
      · have : r.2.2 = 0 := by omega
        rw [this]
        unfold psum psOf at hz ⊢
        rw [List.filter_cons_of_neg (by simpa using hc)]
        exact hz
    · have ih := psum_at nd'.2 (fun x hx => h0 x (List.mem_cons_of_mem _ hx)) hm
      have hne : ¬ a.1 = r.1 := fun z => nd'.1 (show a.1 ∈ _ by rw [z]; exact List.mem_map.mpr ⟨r, hm, rfl⟩)
      by_cases hc : 0 < a.2.2
      · unfold psum psOf at ih ⊢
        rw [List.filter_cons_of_pos (by simpa using hc), List.map_cons, List.filter_cons_of_neg (by simpa using hne)]
        exact ih
      · unfold psum psOf at ih ⊢
        rw [List.filter_cons_of_neg (by simpa using hc)]
        exact ih
theorem fits_of {rs : List RowR} (ro : RowsOk rs) : Fits (rzOf rs) (psOf rs) := by
  refine ⟨fun p hp => ?_, fun e he => ?_⟩
  · unfold psOf at hp
    obtain ⟨r, hr, rfl⟩ := List.mem_map.mp hp
    exact (ro.ok r (List.mem_filter.mp hr).1).1
  · unfold rzOf at he
    obtain ⟨r, hr, rfl⟩ := List.mem_map.mp he
    rw [show ((r.1, r.2.1) : Str × Int).1 = r.1 from rfl, psum_at ro.nd (fun x hx => (ro.ok x hx).1) hr]
    exact (ro.ok r hr).2
theorem drawn_t {H H' : Hp} {q p1 p2 p3 : Addr} {us ws : List V} {rs : List RowR} {ss : List SpecD} {f l : Int} (x : DrawnAt H q p1 p2 p3 us ws rs ss f l) (T : SameT H H') : DrawnAt H' q p1 p2 p3 us ws rs ss f l :=
  ⟨T.tup x.eq, T.lst x.e1, T.lst x.e2, T.tup x.e3, rowr_t x.ru T, spec_t x.sw T, x.ro, x.so, x.nd, x.l7, x.f0, x.f1, x.fl, x.fl7⟩
theorem drawn_sm {H H' : Hp} {q p1 p2 p3 : Addr} {us ws : List V} {rs : List RowR} {ss : List SpecD} {f l : Int} (x : DrawnAt H q p1 p2 p3 us ws rs ss f l) (s : Same H H') : DrawnAt H' q p1 p2 p3 us ws rs ss f l := drawn_t x s.t
def TabR (PL : Addr) (A B : Hp) : Prop := SameT A B ∧ (TabS A PL pL qL → TabS B PL pL qL)
theorem TabR.refl (PL : Addr) (H : Hp) : TabR PL H H := ⟨SameT.refl _, id⟩
theorem TabR.trans {PL : Addr} {A B C : Hp} (x : TabR PL A B) (y : TabR PL B C) : TabR PL A C := ⟨x.1.trans y.1, fun h => y.2 (x.2 h)⟩
theorem door_mono {j k : Nat} {H : Hp} {v : V} {d : DoorG} (h : DoorAt P w K mg base (some j) H v d) (hjk : j ≤ k) : DoorAt P w K mg base (some k) H v d := by
  obtain ⟨p, C, dx, fs, fp, e, hp, dc, l1, l2, l3, l4, l5, mc, hf, lt⟩ := h
  refine ⟨p, C, dx, fs, fp, e, hp, dc, l1, l2, l3, l4, l5, mc, hf, fun kl hk => ?_⟩
  cases hk
  obtain ⟨sp, m1, m2⟩ := lt j rfl
  exact ⟨sp, Mc.mono m1 hjk, m2⟩
theorem ppl_t {H H' : Hp} {us : List V} {ss : List (Str × Int)} (h : Paired (PplAt H) us ss) (s : SameT H H') : Paired (PplAt H') us ss := Paired.imp' (fun v d ⟨q, e, h⟩ => ⟨q, e, s.tup h⟩) h
def sp_lhouse (P : Program) (w : World) (base : Heap) (m : M K mg) (PL : Addr) : Sp := fun vs H Q _ => ∃ (q p1 p2 p3 : Addr) (us ws : List V) (rs : List RowR) (ss : List SpecD) (f l : Int), vs = [.ref p1, .ref p2, .ref p3] ∧ DrawnAt H q p1 p2 p3 us ws rs ss f l ∧ TabS H PL pL qL ∧ ∀ h H', SameT H H' → TabS H' PL pL qL → HouseAt m.C_House (doorP P w K mg base (some 5)) H' h f l (rzOf rs) (psOf rs) (ss.map doorS) → Q (.ref h) H'
theorem r_lhouse {m : M K mg} {PL : Addr} {H : Hp} {Q : VK} {E : XK} {q p1 p2 p3 : Addr} {us ws : List V} {rs : List RowR} {ss : List SpecD} {f l : Int} (x : DrawnAt H q p1 p2 p3 us ws rs ss f l) (ht : TabS H PL pL qL) (k : ∀ h H', SameT H H' → TabS H' PL pL qL → HouseAt m.C_House (doorP P w K mg base (some 5)) H' h f l (rzOf rs) (psOf rs) (ss.map doorS) → Q (.ref h) H') : sp_lhouse P w base m PL [.ref p1, .ref p2, .ref p3] H Q E := ⟨_, _, _, _, _, _, _, _, _, _, rfl, x, ht, k⟩
theorem ok__law_house (m : M K mg) {cL PL : Addr} (hcL : m.d__law_door.code = .ref cL) (hCL : W.CodeHd base cL PL) (hBL : base.BuiltinsAt mg PL) : FnOk P w K mg base CX0 7 m.a__law_house m.d__law_house ["_law_rooms_here", "_law_specs", "_law_turns"] (sp_lhouse P w base m PL) := by
  refine m.F__law_house.ok sc__law_house (fun vs H Q E h => ?_) (fun cdv A outer s H vs Q E hr h => ?_)
  · obtain ⟨q, p1, p2, p3, us, ws, rs, ss, f, l, rfl, dr, hPL, k⟩ := h
    rfl
  · obtain ⟨q, p1, p2, p3, us, ws, rs, ss, f, l, rfl, dr, hPL, k⟩ := h
    have nd := sc__law_house.nd
    have hu0 := Room.units0 hr
    have hu1 := Room.units1 hr
    have hu9 := Room.units9 hr
    have F__law_door := fc__law_door (P := P) (w := w) (base := base) m hcL hCL hBL
    have K_House_0 := kc_House_0 (P := P) (w := w) (base := base) m
    have w_dc_House := m.dc_House
    refine ⟨_, (pss_cons (ps_setComp (i := 3) nd rfl (by walk_at "oi") (N := ["_law_room"]) (nl := 1) (ci := []) rfl (blk (s.heap.objs.size + 1) rfl rfl rfl (by kernel_rfl)) (pi_list (pv 0)) (fun _ _ _ _ => (pg_name (i := 0) (show (["_law_room"] : List Str).Nodup by decide +kernel) rfl (by walk_at "oi"))) (fun _ _ _ _ => (pf_one (pt_cmpR op_gt (pe_ix (ix_tupK (K := K)) (pv 0) pe_int (fun _ _ => rfl)) pe_int (nomark _)))) (fun _ _ _ _ => (pe_tup (pa_cons (pe_ix (ix_tupK (K := K)) (pv 0) pe_int (fun _ _ => rfl)) (pa_cons (pe_ix (ix_tupK (K := K)) (pv 0) pe_int (fun _ _ => rfl)) pa_nil)))))
      (pss_cons (ps_setComp (i := 4) nd rfl (by walk_at "oi") (N := ["_law_spec_here"]) (nl := 1) (ci := []) rfl (blk (s.heap.objs.size + 1) rfl rfl rfl (by kernel_rfl)) (pi_list (pv 1)) (fun _ _ _ _ => (pg_name (i := 0) (show (["_law_spec_here"] : List Str).Nodup by decide +kernel) rfl (by walk_at "oi"))) (fun _ _ _ _ => pf_nil) (fun _ _ _ _ => (pe_f F__law_door hr (pa_cons (pv 0) pa_nil))))
      (pss_one (ps_ret (pe_mk K_House_0 hr (pa_cons (pe_comp (N := ["_law_room"]) (nl := 1) (ci := []) rfl (blk (s.heap.objs.size + 1) rfl rfl rfl (by kernel_rfl)) (pi_list (pv 0)) (fun _ _ _ _ => (pg_name (i := 0) (show (["_law_room"] : List Str).Nodup by decide +kernel) rfl (by walk_at "oi"))) (fun _ _ _ _ => pf_nil) (fun _ _ _ _ => (pe_tup (pa_cons (pe_ix (ix_tupK (K := K)) (pv 0) pe_int (fun _ _ => rfl)) (pa_cons (pe_ix (ix_tupK (K := K)) (pv 0) pe_int (fun _ _ => rfl)) pa_nil))))) (pa_cons (pv 4) (pa_cons (pv 3) (pa_cons (pe_ix ix_tup (pv 2) pe_int (fun _ _ => rfl)) (pa_cons (pe_ix ix_tup (pv 2) pe_int (fun _ _ => rfl)) pa_nil)))))))))), ?_⟩
    refine rd_start (σ := [some (.ref p1), some (.ref p2), some (.ref p3), none, none]) rfl ?_
    have ro := dr.ro
    have hrl : rs.length ≤ 4 := ro.l1
    have e1 := dr.e1
    have e2 := dr.e2
    have e3 := dr.e3
    have hul : us.length = rs.length := Paired.length dr.ru
    have hwl : ws.length = ss.length := Paired.length dr.sw
    walk_at "go"
    refine comp_LA (α := RowR) (xs := rs) (vs := us) (RowRAt H) (fun r => decide (0 < r.2.2)) (fun r y H => PplAt H y (r.1, r.2.2)) (fun _ _ _ _ ⟨q, h1, h2⟩ s => ⟨q, h1, s _ _ h2⟩) (by rw [sizeLine_eq]; omega) (rest := []) (by rfl) (SqL.of e1) dr.ru ?_ ?_ ?_
    · rintro v ⟨z, i, j⟩ H2 ⟨q2, rfl, hq2⟩ hm s2 R hR
      have hq2 : H2 q2 = some (.tup [.str z, .int i, .int j]) := s2 _ _ hq2
      walk_at "go"
      refine ⟨q2, _, 2, _, rfl, rfl, SqT.of hq2, rfl, ?_⟩
      walk_at "go"
      exact hR _ (Same.refl _)
    · rintro v ⟨z, i, j⟩ H2 ⟨q2, rfl, hq2⟩ hm - s2 R hR
      have hq2 : H2 q2 = some (.tup [.str z, .int i, .int j]) := s2 _ _ hq2
      walk_at "go"
      refine ⟨q2, _, 0, _, rfl, rfl, SqT.of hq2, rfl, ?_⟩
      walk_at "go"
      refine ⟨q2, _, 2, _, rfl, rfl, SqT.of hq2, rfl, ?_⟩
      walk_at "go"
      rename_i q3 H3 n3 S3 e3'
      exact hR _ _ ⟨q3, rfl, e3'⟩ S3
    intro ys H2 s2 hys
    have hyp : Paired (PplAt H2) ys (psOf rs) := pair_map (F := PplAt H2) (fun r : RowR => (r.1, r.2.2)) hys
    walk_at "go"
    rename_i p4 H4 n4 S4 e4
    have s04 := s2.trans S4
    have dr4 := drawn_sm dr s04
    have hPL4 := hPL.same s04
    refine comp_LR (α := SpecD) (xs := ss) (vs := ws) (TabR PL) (TabR.refl PL) (fun _ _ _ => TabR.trans) (SpecAt H4) (fun s y H => (doorP P w K mg base (some 4)).at' H y (doorS s)) (fun _ _ _ _ h s => door_t h s.1) (by have := dr.l7; rw [sizeLine_eq]; omega) (rest := []) (by rfl) (fun H1 s => s.1.seq (SqL.of dr4.e2)) dr4.sw (fun v x H1 _ _ _ R hR => hR _ (TabR.refl _ _)) ?_ ?_
    · rintro v s5 H5 ⟨q5, rfl, h5⟩ hm t5 R hR
      have hs5 : SpecAt H5 (.ref q5) s5 := ⟨q5, rfl, t5.1.tup h5⟩
      walk_at "go"
      refine r_ldoor hs5 (dr.so s5 hm) dr.f0 (t5.2 hPL4) fun v6 H6 T6 hT6 hd6 => ?_
      exact hR _ _ hd6 ⟨T6, fun _ => hT6⟩
    intro zs H5 t5 hzs
    have dr5 := drawn_t dr4 t5.1
    have hPL5 := t5.2 hPL4
    have e45 := t5.1.lst e4
    have e15 := dr5.e1
    have e35 := dr5.e3
    have hyp5 := ppl_t hyp ((Same.t S4).trans t5.1)
    have hzd : Paired ((doorP P w K mg base (some 5)).at' H5) zs (ss.map doorS) := pair_map (F := (doorP P w K mg base (some 5)).at' H5) doorS (Paired.imp' (fun s y h => door_mono h (by decide)) hzs)
    walk_at "go"
    rename_i p6 H6 n6 S6 e6
    have e16 := S6 _ _ e15
    refine comp_LA (α := RowR) (xs := rs) (vs := us) (RowRAt H6) (fun _ => true) (fun r y H => PplAt H y (r.1, r.2.1)) (fun _ _ _ _ ⟨q, h1, h2⟩ s => ⟨q, h1, s _ _ h2⟩) (by rw [sizeLine_eq]; omega) (rest := []) (by rfl) (SqL.of e16) (rowr_sm dr5.ru S6) (fun v x H1 _ hx s1 R hR => hR _ (Same.refl _)) ?_ ?_
    · rintro v ⟨z, i, j⟩ H7 ⟨q2, rfl, hq2⟩ hm - s7 R hR
      have hq2 : H7 q2 = some (.tup [.str z, .int i, .int j]) := s7 _ _ hq2
      walk_at "go"
      refine ⟨q2, _, 0, _, rfl, rfl, SqT.of hq2, rfl, ?_⟩
      walk_at "go"
      refine ⟨q2, _, 1, _, rfl, rfl, SqT.of hq2, rfl, ?_⟩
      walk_at "go"
      rename_i q3 H3 n3 S3 e3'
      exact hR _ _ ⟨q3, rfl, e3'⟩ S3
    intro xs H7 s7 hxs
    rw [filt_all] at hxs
    have hxr : Paired (PplAt H7) xs (rzOf rs) := pair_map (F := PplAt H7) (fun r : RowR => (r.1, r.2.1)) hxs
    walk_at "go"
    rename_i p8 H8 n8 S8 e8
    have s58 : Same H5 H8 := S6.trans (s7.trans S8)
    have e38 := s58 _ _ e35
    refine ⟨p3, _, 1, _, rfl, rfl, SqT.of e38, rfl, ?_⟩
    walk_at "go"
    refine ⟨p3, _, 0, _, rfl, rfl, SqT.of e38, rfl, ?_⟩
    walk_at "go"
    have hin : ∀ d ∈ ss.map doorS, DoorIn ((rzOf rs).map (·.1)) d := fun d hd => by
      obtain ⟨s, hs, rfl⟩ := List.mem_map.mp hd
      rw [rz_names]
      exact ⟨(dr.so s hs).sin, (dr.so s hs).ein⟩
    have hpr : ∀ p ∈ psOf rs, p.1 ∈ (rzOf rs).map (·.1) := fun p hp => by
      unfold psOf at hp
      obtain ⟨r, hr, rfl⟩ := List.mem_map.mp hp
      rw [rz_names]
      exact List.mem_map.mpr ⟨r, (List.mem_filter.mp hr).1, rfl⟩
    have hlp : (psOf rs).length ≤ 40 := by
      have h1 : (rs.filter fun r => decide (0 < r.2.2)).length ≤ rs.length := List.length_filter_le _ _
      unfold psOf
      rw [List.length_map]; omega
    have hl7 := dr.l7
    refine r_mkHouse (f := f) (l := l) (rz := rzOf rs) (ps := psOf rs) (ds := ss.map doorS) rfl w_dc_House e8 (RoomsAt.sm hxr S8) (SqL.of (S8 _ _ (s7 _ _ e6))) (doors_sm hzd s58) (SqL.of (s58 _ _ e45)) (ppl_sm hyp5 s58) (by rw [rz_names]; exact ro.nd) (by rw [ds_names]; exact dr.nd) hin hpr (fits_of ro) (by unfold rzOf; rw [List.length_map]; omega) (by rw [List.length_map]; omega) hlp dr.f0 dr.fl fun h H9 n9 S9 hh => ?_
    exact k _ _ (((s04.t).trans t5.1).snoc (s58.trans S9)) (hPL5.same (s58.trans S9)) hh
theorem fc__law_house (m : M K mg) {cL PL : Addr} (hcL : m.d__law_door.code = .ref cL) (hCL : W.CodeHd base cL PL) (hBL : base.BuiltinsAt mg PL) : Fc P w K mg base "_law_house" 7 ["_law_rooms_here", "_law_specs", "_law_turns"] (sp_lhouse P w base m PL) := ⟨_, _, m.m__law_house, m.F__law_house.kp, m.b__law_house, ok__law_house m hcL hCL hBL⟩
def CutIn (rs : List RowR) (f l : Int) (cut : List (Str × Int)) : Prop := ∀ x ∈ cut, x.1 ∈ rs.map (·.1) ∧ f ≤ x.2 ∧ x.2 ≤ l
def sp_lcut : Sp := fun vs H Q _ => ∃ (c : Int) (p1 p3 : Addr) (us : List V) (rs : List RowR) (f l : Int), vs = [.int c, .ref p1, .ref p3] ∧ H p1 = some (.lst us) ∧ Paired (RowRAt H) us rs ∧ RowsOk rs ∧ H p3 = some (.tup [.int f, .int l]) ∧ 0 ≤ f ∧ f < 100000000000 ∧ f ≤ l ∧ l ≤ f + 7 ∧ ∀ p cs cut H', H p = none → Same H H' → H' p = some (.lst cs) → Paired (PplAt H') cs cut → cut.length ≤ 32 → CutIn rs f l cut → Q (.ref p) H'
theorem r_lcut {H : Hp} {Q : VK} {E : XK} {c : Int} {p1 p3 : Addr} {us : List V} {rs : List RowR} {f l : Int} (e1 : H p1 = some (.lst us)) (hr : Paired (RowRAt H) us rs) (ro : RowsOk rs) (e3 : H p3 = some (.tup [.int f, .int l])) (f0 : 0 ≤ f) (f1 : f < 100000000000) (fl : f ≤ l) (fl7 : l ≤ f + 7) (k : ∀ p cs cut H', H p = none → Same H H' → H' p = some (.lst cs) → Paired (PplAt H') cs cut → cut.length ≤ 32 → CutIn rs f l cut → Q (.ref p) H') : sp_lcut [.int c, .ref p1, .ref p3] H Q E := ⟨_, _, _, _, _, _, _, rfl, e1, hr, ro, e3, f0, f1, fl, fl7, k⟩
theorem ok__law_cut (m : M K mg) : FnOk P w K mg base CX0 2 m.a__law_cut m.d__law_cut ["_law_cell", "_law_rooms_here", "_law_turns"] (sp_lcut) := by
  refine m.F__law_cut.ok sc__law_cut (fun vs H Q E h => ?_) (fun cdv A outer s H vs Q E hr h => ?_)
  · obtain ⟨c, p1, p3, us, rs, f, l, rfl, e1, hr', ro, e3, f0, f1, fl, fl7, k⟩ := h
    rfl
  · obtain ⟨c, p1, p3, us, rs, f, l, rfl, e1, hr', ro, e3, f0, f1, fl, fl7, k⟩ := h
    have nd := sc__law_cut.nd
    have hu0 := Room.units0 hr
    have hu1 := Room.units1 hr
    have hu9 := Room.units9 hr
    have F__law_mixed := fc__law_mixed (P := P) (w := w) (base := base) m
    refine ⟨_, (pss_cons (ps_set (i := 3) nd rfl (by walk_at "oi") (pe_lst pa_nil))
      (pss_cons (ps_set (i := 4) nd rfl (by walk_at "oi") (pe_op op_fdiv (pv 0) pe_int))
      (pss_cons (ps_for PassesOwn.never rfl (pi_range2 rfl m.g_range (pa_cons (pe_ix ix_tup (pv 2) pe_int (fun _ _ => rfl)) (pa_cons (pe_op op_add (pe_ix ix_tup (pv 2) pe_int (fun _ _ => rfl)) pe_int) pa_nil))) (pg_name (i := 5) nd rfl (by walk_at "oi")) (pss_one (ps_for PassesOwn.never rfl (pi_range1 rfl m.g_range (pa_cons (pe_callB call_lenL rfl m.g_len bt_len (pa_cons (pv 1) pa_nil)) pa_nil)) (pg_name (i := 6) nd rfl (by walk_at "oi")) (pss_cons (ps_set (i := 7) nd rfl (by walk_at "oi") (pe_cmpR op_lt (pe_op op_mod (pe_f F__law_mixed hr (pa_cons (pv 0) (pa_cons (pe_op op_add (pe_op op_mul pe_int (pv 5)) (pv 6)) pa_nil))) pe_int) (pe_op op_add pe_int (pe_op op_mod (pe_op op_fdiv (pv 0) pe_int) pe_int)) (nomark _)))
      (pss_cons (ps_if (pt_cmpR op_eq (pe_op op_mod (pv 0) pe_int) pe_int (nomark _)) (pss_cons (ps_set (i := 7) nd rfl (by walk_at "oi") (pe_cmpR op_eq (pe_op op_mod (pv 4) pe_int) pe_int (nomark _)))
      (pss_one (ps_set (i := 4) nd rfl (by walk_at "oi") (pe_op op_fdiv (pv 4) pe_int)))) pss_nil)
      (pss_one (ps_if (pt_val (pv 7)) (pss_one (ps_expr (pe_bm PySem.F.plainAttrs_list PySem.F.slot_list_append PySem.F.type_list_append mt_append (pv 3) (pa_cons (pe_tup (pa_cons (pe_ix ix_tup (pe_ix ix_list (pv 1) (pv 6) (fun _ _ => rfl)) pe_int (fun _ _ => rfl)) (pa_cons (pv 5) pa_nil))) pa_nil)))) pss_nil)))))))
      (pss_one (ps_ret (pv 3)))))), ?_⟩
    refine rd_start (σ := [some (.int c), some (.ref p1), some (.ref p3), none, none, none, none, none]) rfl ?_
    have hul : us.length = rs.length := Paired.length hr'
    have hu4 : us.length ≤ 4 := by have := ro.l1; omega
    walk_at "go"
    rename_i p H1 n1 S1 ep
    have e31 := S1 _ _ e3
    refine ⟨p3, _, 0, _, rfl, rfl, SqT.of e31, rfl, ?_⟩
    walk_at "go"
    refine ⟨p3, _, 1, _, rfl, rfl, SqT.of e31, rfl, ?_⟩
    walk_at "go"
    refine rd_forR (fun i σ' H' => SameBut p H1 H' ∧ (∃ cs cut, H' p = some (.lst cs) ∧ Paired (PplAt H') cs cut ∧ cut.length ≤ 4 * i ∧ CutIn rs f l cut) ∧ ∃ b x y z, σ' = [some (.int c), some (.ref p1), some (.ref p3), some (.ref p), some (.int b), x, y, z]) ⟨SameBut.refl, ⟨[], [], ep, .nil, by show 0 ≤ _; omega, fun _ z => nomatch z⟩, _, _, _, _, rfl⟩ ?_ ?_
    · rintro i _ H2 hi ⟨sb2, hcut2, b2, x2, y2, z2, rfl⟩
      have s02 := SameBut.same n1 S1 sb2
      have e12 := s02 _ _ e1
      walk_at "go"
      refine rd_forR (fun j σ' H' => SameBut p H1 H' ∧ (∃ cs cut, H' p = some (.lst cs) ∧ Paired (PplAt H') cs cut ∧ cut.length ≤ 4 * i + j ∧ CutIn rs f l cut) ∧ ∃ b y z, σ' = [some (.int c), some (.ref p1), some (.ref p3), some (.ref p), some (.int b), some (.int (f + (i : Int))), y, z]) ⟨sb2, hcut2, _, _, _, rfl⟩ ?_ ?_
      · rintro j _ H3 hj ⟨sb3, ⟨cs, cut, ec, hcp, hcl, hci⟩, b3, y3, z3, rfl⟩
        have s03 := SameBut.same n1 S1 sb3
        have e13 := s03 _ _ e1
        have hr3 := rowr_sm hr' s03
        have hcs : cs.length = cut.length := Paired.length hcp
        walk_at "gs"
        rename_i nn hn0 hn1
        refine rd_seqR (fun σ' G => H3 = G ∧ ∃ b ch, σ' = [some (.int c), some (.ref p1), some (.ref p3), some (.ref p), some (.int b), some (.int (f + (i : Int))), some (.int (0 + (j : Int))), some (.bl ch)]) ?_ ?_
        rotate_left
        · intro nx' hnx
          walk_at "go"
          refine rd_if2 (fun hc => ?_) (fun hc => ?_)
          · walk_at "go"
            exact hnx _ _ ⟨rfl, _, _, rfl⟩
          · walk_at "go"
            exact hnx _ _ ⟨rfl, _, _, rfl⟩
        rintro _ G ⟨hG, b4, ch, rfl⟩
        subst hG
        walk_at "go"
        cases ch with
        | false =>
          rw [if_neg Bool.false_ne_true]
          walk_at "go"
          exact ⟨sb3, ⟨cs, cut, ec, hcp, by omega, hci⟩, _, _, _, rfl⟩
        | true =>
          rw [if_pos rfl]
          walk_at "go"
          refine rd_ixM (SqL.of e13) (by omega) (by omega) fun v hv => ?_
          obtain ⟨z, u1, u2, q5, rfl, hq5, hz⟩ := rowsr_at hr3 hv
          walk_at "go"
          refine ⟨q5, _, 0, _, rfl, rfl, SqT.of hq5, rfl, ?_⟩
          walk_at "go"
          rename_i q6 H6 n6 S6 e6
          have hq6 : q6 ≠ p := fun z => by rw [z, ec] at n6; cases n6
          refine rd_append (S6 _ _ ec) (by rw [sizeLine_eq]; omega) fun H7 B7 e7 => ?_
          refine ⟨(sb3.trans S6.but).trans B7, ⟨cs ++ [.ref q6], cut ++ [(z, f + (i : Int))], e7, ?_, by rw [List.length_append]; show cut.length + 1 ≤ _; omega, fun x hx => ?_⟩, _, _, _, rfl⟩
          · exact L2.Paired.snoc (Paired.imp' (fun w d ⟨q, e, h⟩ => ⟨q, e, B7 _ _ (S6 _ _ h) fun z => by rw [z, ec] at h; cases h⟩) hcp) ⟨q6, rfl, B7 _ _ e6 hq6⟩
          · rcases List.mem_append.mp hx with hx | hx
            · exact hci x hx
            · cases List.mem_singleton.mp hx
              exact ⟨List.mem_map.mpr ⟨_, hz, rfl⟩, by show f ≤ f + (i : Int); omega, by show f + (i : Int) ≤ l; omega⟩
      · rintro _ H3 ⟨sb3, ⟨cs, cut, ec, hcp, hcl, hci⟩, b3, y3, z3, rfl⟩
        exact ⟨sb3, ⟨cs, cut, ec, hcp, by omega, hci⟩, _, _, _, _, rfl⟩
    · rintro _ H2 ⟨sb2, ⟨cs, cut, ec, hcp, hcl, hci⟩, b2, x2, y2, z2, rfl⟩
      walk_at "go"
      exact k _ _ _ _ n1 (SameBut.same n1 S1 sb2) ec hcp (by omega) hci
theorem fc__law_cut (m : M K mg) : Fc P w K mg base "_law_cut" 2 ["_law_cell", "_law_rooms_here", "_law_turns"] (sp_lcut) := ⟨_, _, m.m__law_cut, m.F__law_cut.kp, m.b__law_cut, ok__law_cut m⟩
theorem sum_map_zero {α : Type} (f : α → Int) : ∀ l : List α, (∀ x ∈ l, f x = 0) → (l.map f).sum = 0
  | [], _ => rfl
  | a :: l, h => by rw [List.map_cons, List.sum_cons, h a (.head _), sum_map_zero f l fun x hx => h x (List.mem_cons_of_mem _ hx)]; rfl
theorem sum_map_eq {α : Type} {f g : α → Int} {l : List α} (h : ∀ x ∈ l, f x = g x) : (l.map f).sum = (l.map g).sum := by rw [List.map_congr_left h]
theorem sum_range_succ (g : Nat → Int) (n : Nat) : ((List.range (n + 1)).map g).sum = ((List.range n).map g).sum + g n := by
  rw [List.range_succ, List.map_append, List.sum_append]
  show _ + (g n + 0) = _
  rw [Int.add_zero]
theorem bound_first {rz ps : List (Str × Int)} {ds : List DoorG} {f l : Int} {cut : List (Str × Int)} : boundF rz ps ds f l cut f = 0 := by unfold boundF; rw [if_pos rfl]
def widerF (a i0 : Int) (lt : Int → Int) (t : Int) : Int := if a ≤ t ∧ 0 < lt t then lt t + i0 else lt t
theorem sum_le {α : Type} {f g : α → Int} : ∀ {l : List α}, (∀ x ∈ l, f x ≤ g x) → (l.map f).sum ≤ (l.map g).sum
  | [], _ => Int.le_refl _
  | a :: l, h => by
    have h1 := h a (.head _)
    have h2 := sum_le fun x hx => h x (List.mem_cons_of_mem _ hx)
    rw [List.map_cons, List.map_cons, List.sum_cons, List.sum_cons]; omega
theorem sum_nn {α : Type} {f : α → Int} {l : List α} (h : ∀ x ∈ l, 0 ≤ f x) : 0 ≤ (l.map f).sum := by
  have := sum_le (f := fun _ => (0 : Int)) (g := f) h
  rw [sum_map_zero _ _ fun _ _ => rfl] at this
  exact this
theorem sum_filter {α : Type} (c : α → Bool) (g : α → Int) : ∀ l : List α, ((l.filter c).map g).sum = (l.map fun x => if c x = true then g x else 0).sum
  | [] => rfl
  | a :: l => by
    rw [List.map_cons, List.sum_cons, ← sum_filter c g l]
    cases h : c a with
    | true => rw [List.filter_cons_of_pos h, List.map_cons, List.sum_cons, if_pos rfl]
    | false => rw [List.filter_cons_of_neg (by rw [h]; exact Bool.false_ne_true), if_neg Bool.false_ne_true, Int.zero_add]
theorem sum_add {α : Type} (f g : α → Int) : ∀ l : List α, (l.map fun x => f x + g x).sum = (l.map f).sum + (l.map g).sum
  | [] => rfl
  | a :: l => by rw [List.map_cons, List.map_cons, List.map_cons, List.sum_cons, List.sum_cons, List.sum_cons, sum_add f g l]; omega
theorem letS_nn {s : SpecD} (h : 0 ≤ s.wd) (t : Int) : 0 ≤ letS s t := by
  unfold letS
  split
  · exact Int.le_refl _
  · split
    · exact Int.le_refl _
    · split
      · exact Int.le_refl _
      · exact h
def PosD (ds : List DoorG) : Prop := ∀ d ∈ ds, ∀ t, 0 ≤ d.2.2.2 t
theorem letF_nn {f l t : Int} {d : DoorG} (h : ∀ t, 0 ≤ d.2.2.2 t) : 0 ≤ letF f l d t := by
  unfold letF
  split
  · exact h t
  · exact Int.le_refl _
theorem letOut_nn {ds : List DoorG} {f l t : Int} {cut : List (Str × Int)} (h : PosD ds) : 0 ≤ letOutF ds f l cut t := by
  unfold letOutF
  exact sum_nn fun d hd => letF_nn (h d (List.mem_filter.mp (List.mem_filter.mp hd).1).1)
theorem letIn_nn {ds : List DoorG} {f l t : Int} {cut : List (Str × Int)} {z : Str} (h : PosD ds) : 0 ≤ letInF ds f l cut z t := by
  unfold letInF
  exact sum_nn fun d hd => letF_nn (h d (List.mem_filter.mp (List.mem_filter.mp hd).1).1)
theorem going_nn {rz : List (Str × Int)} {ds : List DoorG} {f l t hz : Int} {cut : List (Str × Int)} {z : Str} (h : PosD ds) (h0 : 0 ≤ hz) : 0 ≤ goingF rz ds f l cut z hz t := by
  have := letIn_nn (f := f) (l := l) (t := t) (cut := cut) (z := z) h
  unfold goingF
  split
  · exact Int.le_refl _
  · split
    · exact h0
    · omega
theorem bound_grow {rz ps : List (Str × Int)} {ds : List DoorG} {f l : Int} {cut : List (Str × Int)} (i : Nat) (h : PosD ds) (h0 : ∀ e ∈ rz, 0 ≤ e.2) (h1 : ∀ e ∈ rz, 0 ≤ psum ps e.1) : boundF rz ps ds f l cut (f + (i : Int)) ≤ boundF rz ps ds f l cut (f + ((i + 1 : Nat) : Int)) := by
  have hb : 0 ≤ beyondF rz ps f cut := by
    unfold beyondF
    exact sum_nn fun e he => h1 e (List.mem_filter.mp he).1
  have hg : ∀ i : Nat, 0 ≤ (rz.map fun e => goingF rz ds f l cut e.1 e.2 (f + (i : Int))).sum := fun i => sum_nn fun e he => going_nn h (h0 e he)
  have ho : ∀ i : Nat, 0 ≤ letOutF ds f l cut (f + (i : Int)) := fun i => letOut_nn h
  unfold boundF
  rw [if_neg (show ¬ f + ((i + 1 : Nat) : Int) = f by omega)]
  rw [show (f + ((i + 1 : Nat) : Int) - f).toNat = i + 1 by omega, show (f + ((i + 1 : Nat) : Int) - 1 - f).toNat = i by omega]
  have g1 := sum_nn (l := List.range i) (f := fun i : Nat => (rz.map fun e => goingF rz ds f l cut e.1 e.2 (f + (i : Int))).sum) fun j _ => hg j
  have g2 := sum_nn (l := List.range (i + 1)) (f := fun i : Nat => letOutF ds f l cut (f + (i : Int))) fun j _ => ho j
  by_cases hi : i = 0
  · rw [if_pos (by omega)]; omega
  · rw [if_neg (by omega), show (f + (i : Int) - f).toNat = i by omega, sum_range_succ (fun i : Nat => letOutF ds f l cut (f + (i : Int)))]
    obtain ⟨m, rfl⟩ : ∃ m, i = m + 1 := ⟨i - 1, by omega⟩
    rw [show (f + ((m + 1 : Nat) : Int) - 1 - f).toNat = m by omega, sum_range_succ (fun i : Nat => (rz.map fun e => goingF rz ds f l cut e.1 e.2 (f + (i : Int))).sum)]
    have := hg m
    have := ho (m + 1)
    omega
def delta (f l mo : Int) (lt : Int → Int) (t : Int) : Int := if f ≤ t ∧ t < l ∧ 0 < lt t then mo else 0
theorem letF_wider {f l mo t : Int} {n st : Str} {e : V} {lt : Int → Int} : letF f l (n, st, e, widerF f mo lt) t = letF f l (n, st, e, lt) t + delta f l mo lt t := by
  unfold letF delta widerF
  by_cases h : f ≤ t ∧ t < l
  · rw [if_pos h, if_pos h]
    show (if f ≤ t ∧ 0 < lt t then lt t + mo else lt t) = lt t + _
    by_cases h2 : 0 < lt t
    · rw [if_pos ⟨h.1, h2⟩, if_pos ⟨h.1, h.2, h2⟩]
    · rw [if_neg fun z => h2 z.2, if_neg fun z => h2 z.2.2]; omega
  · rw [if_neg h, if_neg h, if_neg fun z => h ⟨z.1, z.2.1⟩]; rfl
theorem doors_wider {f l mo t : Int} {n st : Str} {e : V} {lt : Int → Int} {A B : List DoorG} (c1 c2 : DoorG → Bool) (b : Bool) (h1 : (c1 (n, st, e, widerF f mo lt) && c2 (n, st, e, widerF f mo lt)) = b) (h2 : (c1 (n, st, e, lt) && c2 (n, st, e, lt)) = b) :
    ((((A ++ (n, st, e, widerF f mo lt) :: B).filter c1).filter c2).map fun d => letF f l d t).sum = ((((A ++ (n, st, e, lt) :: B).filter c1).filter c2).map fun d => letF f l d t).sum + if b = true then delta f l mo lt t else 0 := by
  rw [List.filter_filter, List.filter_filter, sum_filter, sum_filter, List.map_append, List.map_append, List.sum_append, List.sum_append, List.map_cons, List.map_cons, List.sum_cons, List.sum_cons, letF_wider]
  rw [show (c2 (n, st, e, widerF f mo lt) && c1 (n, st, e, widerF f mo lt)) = b from (Bool.and_comm _ _).trans h1, show (c2 (n, st, e, lt) && c1 (n, st, e, lt)) = b from (Bool.and_comm _ _).trans h2]
  cases b with
  | true => rw [if_pos rfl, if_pos rfl, if_pos rfl]; omega
  | false => rw [if_neg Bool.false_ne_true, if_neg Bool.false_ne_true, if_neg Bool.false_ne_true]; omega
theorem sum_one {x : V} {c : Int} (h : 0 ≤ c) : ∀ {rz : List (Str × Int)}, (rz.map (·.1)).Nodup → (rz.map fun e => if x = .str e.1 then c else 0).sum ≤ if x = .non then 0 else c
  | [], _ => by
    show (0 : Int) ≤ _
    split
    · exact Int.le_refl _
    · exact h
  | a :: l, nd => by
    have nd' := List.nodup_cons.mp nd
    have ih := sum_one (x := x) h nd'.2
    rw [List.map_cons, List.sum_cons]
    by_cases hx : x = .str a.1
    · subst hx
      rw [if_pos rfl, if_neg (fun z => nomatch z), sum_map_zero _ l fun e he => if_neg fun z => nd'.1 (show a.1 ∈ _ by rw [V.str.inj z]; exact List.mem_map.mpr ⟨e, he, rfl⟩)]
      omega
    · rw [if_neg hx, Int.zero_add]; exact ih
theorem bound_wider {rz ps : List (Str × Int)} {f l mo : Int} {n st : Str} {e : V} {lt : Int → Int} {A B : List DoorG} {cut : List (Str × Int)} (i : Nat) (nr : (rz.map (·.1)).Nodup) (hm : 0 ≤ mo) :
    boundF rz ps (A ++ (n, st, e, lt) :: B) f l cut (f + (i : Int)) ≤ boundF rz ps (A ++ (n, st, e, widerF f mo lt) :: B) f l cut (f + (i : Int)) ∧
    boundF rz ps (A ++ (n, st, e, widerF f mo lt) :: B) f l cut (f + (i : Int)) ≤ boundF rz ps (A ++ (n, st, e, lt) :: B) f l cut (f + (i : Int)) + ((List.range i).map fun j : Nat => delta f l mo lt (f + (j : Int))).sum := by
  have hd : ∀ t, 0 ≤ delta f l mo lt t := fun t => by
    unfold delta
    split
    · exact hm
    · exact Int.le_refl _
  have ho : ∀ t, letOutF (A ++ (n, st, e, widerF f mo lt) :: B) f l cut t = letOutF (A ++ (n, st, e, lt) :: B) f l cut t + if (decide (e = .non) && decide ((st, t) ∈ cut)) = true then delta f l mo lt t else 0 := fun t => doors_wider _ _ _ rfl rfl
  have hn : ∀ z t, letInF (A ++ (n, st, e, widerF f mo lt) :: B) f l cut z t = letInF (A ++ (n, st, e, lt) :: B) f l cut z t + if (decide (e = .str z) && decide ((st, t) ∈ cut)) = true then delta f l mo lt t else 0 := fun z t => doors_wider _ _ _ rfl rfl
  have ho1 : ∀ t, letOutF (A ++ (n, st, e, lt) :: B) f l cut t ≤ letOutF (A ++ (n, st, e, widerF f mo lt) :: B) f l cut t ∧ letOutF (A ++ (n, st, e, widerF f mo lt) :: B) f l cut t ≤ letOutF (A ++ (n, st, e, lt) :: B) f l cut t + if e = .non then delta f l mo lt t else 0 := fun t => by
    have := hd t
    rw [ho t]
    by_cases he : e = .non
    · rw [if_pos he]
      split <;> omega
    · rw [if_neg he, decide_eq_false he, Bool.false_and, if_neg Bool.false_ne_true]; omega
  have hg1 : ∀ z hz t, goingF rz (A ++ (n, st, e, lt) :: B) f l cut z hz t ≤ goingF rz (A ++ (n, st, e, widerF f mo lt) :: B) f l cut z hz t ∧ goingF rz (A ++ (n, st, e, widerF f mo lt) :: B) f l cut z hz t ≤ goingF rz (A ++ (n, st, e, lt) :: B) f l cut z hz t + if e = .str z then delta f l mo lt t else 0 := fun z hz t => by
    have h1 := hd t
    have h2 : 0 ≤ (if e = .str z then delta f l mo lt t else 0 : Int) := by split <;> omega
    have h3 : letInF (A ++ (n, st, e, lt) :: B) f l cut z t ≤ letInF (A ++ (n, st, e, widerF f mo lt) :: B) f l cut z t ∧ letInF (A ++ (n, st, e, widerF f mo lt) :: B) f l cut z t ≤ letInF (A ++ (n, st, e, lt) :: B) f l cut z t + if e = .str z then delta f l mo lt t else 0 := by
      rw [hn z t]
      by_cases he : e = .str z
      · rw [if_pos he]
        split <;> omega
      · rw [if_neg he, decide_eq_false he, Bool.false_and, if_neg Bool.false_ne_true]; omega
    unfold goingF
    by_cases c1 : (z, t + 1) ∈ cut
    · rw [if_pos c1, if_pos c1]; omega
    · rw [if_neg c1, if_neg c1]
      by_cases c2 : (z, t) ∈ cut
      · rw [if_pos c2, if_pos c2]; omega
      · rw [if_neg c2, if_neg c2]; omega
  have hG : ∀ t, (rz.map fun x => goingF rz (A ++ (n, st, e, lt) :: B) f l cut x.1 x.2 t).sum ≤ (rz.map fun x => goingF rz (A ++ (n, st, e, widerF f mo lt) :: B) f l cut x.1 x.2 t).sum ∧ (rz.map fun x => goingF rz (A ++ (n, st, e, widerF f mo lt) :: B) f l cut x.1 x.2 t).sum ≤ (rz.map fun x => goingF rz (A ++ (n, st, e, lt) :: B) f l cut x.1 x.2 t).sum + if e = .non then 0 else delta f l mo lt t := fun t => by
    refine ⟨sum_le fun x _ => (hg1 _ _ _).1, ?_⟩
    have h1 := sum_le (l := rz) fun x _ => (hg1 x.1 x.2 t).2
    rw [sum_add] at h1
    have h2 := sum_one (x := e) (hd t) nr
    omega
  unfold boundF
  by_cases h0 : i = 0
  · subst h0
    rw [if_pos (by omega), if_pos (by omega)]
    exact ⟨Int.le_refl _, by show (0 : Int) ≤ 0 + 0; omega⟩
  · rw [if_neg (by omega), if_neg (by omega), show (f + (i : Int) - f).toNat = i by omega]
    obtain ⟨m, rfl⟩ : ∃ m, i = m + 1 := ⟨i - 1, by omega⟩
    rw [show (f + ((m + 1 : Nat) : Int) - 1 - f).toNat = m by omega]
    have a1 := sum_le (l := List.range m) fun j _ => (hG (f + (j : Nat))).1
    have a2 := sum_le (l := List.range m) fun j _ => (hG (f + (j : Nat))).2
    have b1 := sum_le (l := List.range (m + 1)) fun j _ => (ho1 (f + (j : Nat))).1
    have b2 := sum_le (l := List.range (m + 1)) fun j _ => (ho1 (f + (j : Nat))).2
    rw [sum_add] at a2 b2
    refine ⟨by omega, ?_⟩
    have hdm := hd (f + (m : Int))
    rw [sum_range_succ (fun j : Nat => delta f l mo lt (f + (j : Int)))]
    rw [sum_range_succ (fun j : Nat => if e = .non then delta f l mo lt (f + (j : Int)) else 0)] at b2
    by_cases he : e = .non
    · simp only [if_pos he] at a2 b2
      rw [sum_map_zero _ _ fun _ _ => rfl] at a2
      omega
    · simp only [if_neg he] at a2 b2
      rw [sum_map_zero _ _ fun _ _ => rfl] at b2
      omega
theorem bound_ps {rz ps ps' : List (Str × Int)} {ds : List DoorG} {f l t : Int} {cut : List (Str × Int)} (h : ∀ e ∈ rz, psum ps e.1 = psum ps' e.1) : boundF rz ps ds f l cut t = boundF rz ps' ds f l cut t := by
  unfold boundF
  have : beyondF rz ps f cut = beyondF rz ps' f cut := by
    unfold beyondF
    exact sum_map_eq fun e he => h e (List.mem_filter.mp he).1
  rw [this]
def psAll (rs : List RowR) : List (Str × Int) := rs.map fun r => (r.1, r.2.2)
theorem psum_zero' {rs : List RowR} {z : Str} (h : z ∉ rs.map (·.1)) : psum (psAll rs) z = 0 := by
  have e : (psAll rs).filter (fun p => decide (p.1 = z)) = [] := by
    rw [List.filter_eq_nil_iff]
    intro p hp
    unfold psAll at hp
    obtain ⟨r, hr, rfl⟩ := List.mem_map.mp hp
    intro hz
    exact h (List.mem_map.mpr ⟨r, hr, by simpa using hz⟩)
  unfold psum
  rw [e]; rfl
theorem psum_all {r : RowR} : ∀ {rs : List RowR}, (rs.map (·.1)).Nodup → r ∈ rs → psum (psAll rs) r.1 = r.2.2
  | a :: rs, nd, hm => by
    have nd' := List.nodup_cons.mp nd
    have hz := psum_zero' nd'.1
    rcases List.mem_cons.mp hm with rfl | hm
    · unfold psum psAll at hz ⊢
      rw [List.map_cons, List.filter_cons_of_pos (by simp), List.map_cons, List.sum_cons, hz]
      exact Int.add_zero _
    · have ih := psum_all nd'.2 hm
      have hne : ¬ a.1 = r.1 := fun z => nd'.1 (show a.1 ∈ _ by rw [z]; exact List.mem_map.mpr ⟨r, hm, rfl⟩)
      unfold psum psAll at ih ⊢
      rw [List.map_cons, List.filter_cons_of_neg (by simpa using hne)]
      exact ih
theorem fits_all {rs : List RowR} (ro : RowsOk rs) : Fits (rzOf rs) (psAll rs) := by
  refine ⟨fun p hp => ?_, fun e he => ?_⟩
  · unfold psAll at hp
    obtain ⟨r, hr, rfl⟩ := List.mem_map.mp hp
    exact (ro.ok r hr).1
  · unfold rzOf at he
    obtain ⟨r, hr, rfl⟩ := List.mem_map.mp he
    rw [show ((r.1, r.2.1) : Str × Int).1 = r.1 from rfl, psum_all ro.nd hr]
    exact (ro.ok r hr).2
abbrev WiderFs (q n s e a i0 : V) : List (Str × V) := putF "more" i0 (putF "turn" a (putF "inner" q (doorFs n s e (.int 1))))
def sp_Wider_init (K : W.Frag) : Sp := fun vs H Q _ => ∃ (p q C dx D dxq : Addr) (fsq : List (Str × V)) (n s : Str) (e : V) (a i0 : Int), vs = [.ref p, .ref q, .int a, .int i0] ∧ DCls K C ∧ DCls K D ∧ H p = some (.ins C dx []) ∧ H q = some (.ins D dxq fsq) ∧
  fsq.lookup ("name" : Str) = some (.str n) ∧ fsq.lookup ("start" : Str) = some (.str s) ∧ fsq.lookup ("end" : Str) = some e ∧ nameB n = true ∧ nameB s = true ∧ EndOk e ∧ 0 ≤ a ∧ 0 ≤ i0 ∧ ∀ H', SameBut p H H' → H' p = some (.ins C dx (WiderFs (.ref q) (.str n) (.str s) e (.int a) (.int i0))) → Q .non H'
theorem r_Wider_init {H : Hp} {Q : VK} {E : XK} {p q C dx D dxq : Addr} {fsq : List (Str × V)} {n s : Str} {e : V} {a i0 : Int} (dc : DCls K C) (dd : DCls K D) (hp : H p = some (.ins C dx [])) (hq : H q = some (.ins D dxq fsq)) (l1 : fsq.lookup ("name" : Str) = some (.str n)) (l2 : fsq.lookup ("start" : Str) = some (.str s)) (l3 : fsq.lookup ("end" : Str) = some e) (hn : nameB n = true) (hs : nameB s = true) (he : EndOk e) (ha : 0 ≤ a) (b0 : 0 ≤ i0)
    (k : ∀ H', SameBut p H H' → H' p = some (.ins C dx (WiderFs (.ref q) (.str n) (.str s) e (.int a) (.int i0))) → Q .non H') : sp_Wider_init K [.ref p, .ref q, .int a, .int i0] H Q E := ⟨_, _, _, _, _, _, _, _, _, _, _, _, rfl, dc, dd, hp, hq, l1, l2, l3, hn, hs, he, ha, b0, k⟩
theorem ok_Wider___init__ (m : M K mg) : FnOk P w K mg base CX0 4 m.a_Wider___init__ m.d_Wider___init__ ["self", "door", "turn", "more"] (sp_Wider_init K) := by
  refine m.F_Wider___init__.ok sc_Wider___init__ (fun vs H Q E h => ?_) (fun cdv A outer s H vs Q E hr h => ?_)
  · obtain ⟨p, q, C, dx, D, dxq, fsq, n, st, e, a, i0, rfl, dc, dd, hp, hq, l1, l2, l3, hn, hs, he, ha, b0, k⟩ := h
    rfl
  · obtain ⟨p, q, C, dx, D, dxq, fsq, n, st, e, a, i0, rfl, dc, dd, hp, hq, l1, l2, l3, hn, hs, he, ha, b0, k⟩ := h
    have nd := sc_Wider___init__.nd
    have hu0 := Room.units0 hr
    have hu1 := Room.units1 hr
    have hu9 := Room.units9 hr
    have F_need_whole := fc_need_whole (P := P) (w := w) (base := base) m
    have DD_Door___init___1 := dcallD_Door___init___1 (P := P) (w := w) (base := base) m
    refine ⟨_, (pss_cons (ps_expr (pe_dmD DD_Door___init___1 hr (pa_cons (pv 0) (pa_cons (pe_fld (pv 1) rfl) (pa_cons (pe_fld (pv 1) rfl) (pa_cons (pe_fld (pv 1) rfl) pa_nil))))))
      (pss_cons (ps_expr (pe_f F_need_whole hr (pa_cons pe_str (pa_cons (pv 2) (pa_cons pe_int pa_nil)))))
      (pss_cons (ps_expr (pe_f F_need_whole hr (pa_cons pe_str (pa_cons (pv 3) (pa_cons pe_int pa_nil)))))
      (pss_cons (ps_fld (pv 0) (pv 1) rfl)
      (pss_cons (ps_fld (pv 0) (pv 2) rfl)
      (pss_one (ps_fld (pv 0) (pv 3) rfl))))))), ?_⟩
    refine rd_start (σ := [some (.ref p), some (.ref q), some (.int a), some (.int i0)]) rfl ?_
    walk_at "go"
    refine rd_callD ?_
    walk_at "go"
    show sp_Door_init K [.ref p, .str n, .str st, e, .int 1] _ _ _
    refine r_Door_init dc hp hn hs he (by decide) fun H2 B2 e2 => ?_
    walk_at "go"
    exact k _ (by walk_at "sb") (by assumption)
theorem kc_Wider_0 (m : M K mg) : Kc P w K mg base "Wider" m.C_Wider 4 [] (sp_Wider_init K) := ⟨_, _, _, _, m.m_Wider, m.mk_Wider, .nil, m.b_Wider___init__, ok_Wider___init__ m⟩
theorem r_mkWider {H : Hp} {Q : VK} {E : XK} {C q D dxq : Addr} {fsq : List (Str × V)} {vs dvs : List V} {n s : Str} {e : V} {a i0 : Int} (ev : vs ++ dvs = [.ref q, .int a, .int i0]) (dc : DCls K C) (dd : DCls K D) (hq : H q = some (.ins D dxq fsq)) (l1 : fsq.lookup ("name" : Str) = some (.str n)) (l2 : fsq.lookup ("start" : Str) = some (.str s)) (l3 : fsq.lookup ("end" : Str) = some e) (hn : nameB n = true) (hs : nameB s = true) (he : EndOk e) (ha : 0 ≤ a) (b0 : 0 ≤ i0)
    (k : ∀ p dx H', H p = none → Same H H' → H' p = some (.ins C dx (WiderFs (.ref q) (.str n) (.str s) e (.int a) (.int i0))) → Q (.ref p) H') : MakeP C (sp_Wider_init K) dvs E Q vs H :=
  rd_makeV (fun p dx H0 Q' h k' s0 => by rw [ev]; exact r_Wider_init dc dd h (s0 _ _ hq) l1 l2 l3 hn hs he ha b0 k') k
def sp_Wider_lets (P : Program) (w : World) (K : W.Frag) (mg : Str → Option Value) (base : Heap) : Sp := fun vs H Q _ => ∃ (p C dx : Addr) (fs : List (Str × V)) (q D dxq : Addr) (fsq : List (Str × V)) (t a i i0 : Int) (sp : Sp), vs = [.ref p, .int t] ∧ DCls K C ∧ H p = some (.ins C dx fs) ∧ fs.lookup ("inner" : Str) = some (.ref q) ∧ fs.lookup ("turn" : Str) = some (.int a) ∧ fs.lookup ("more" : Str) = some (.int i0) ∧
  H q = some (.ins D dxq fsq) ∧ fsq.lookup ("lets" : Str) = none ∧ Mc P w K mg base D "lets" 4 sp ∧ (∀ Q' : VK, (∀ H'', Same H H'' → Q' (.int i) H'') → sp [.ref q, .int t] H Q' E0) ∧ ∀ H'', Same H H'' → Q (.int (if a ≤ t ∧ 0 < i then i + i0 else i)) H''
theorem ok_Wider_lets (m : M K mg) : FnOk P w K mg base CX0 5 m.a_Wider_lets m.d_Wider_lets ["self", "turn"] (sp_Wider_lets P w K mg base) := by
  refine m.F_Wider_lets.ok sc_Wider_lets (fun vs H Q E h => ?_) (fun cdv A outer s H vs Q E hr h => ?_)
  · obtain ⟨p, C, dx, fs, q, D, dxq, fsq, t, a, i, i0, sp, rfl, dc, hp, l1, l2, l4, hq, l3, mc, hs, k⟩ := h
    rfl
  · obtain ⟨p, C, dx, fs, q, D, dxq, fsq, t, a, i, i0, sp, rfl, dc, hp, l1, l2, l4, hq, l3, mc, hs, k⟩ := h
    have nd := sc_Wider_lets.nd
    have hu0 := Room.units0 hr
    have hu1 := Room.units1 hr
    have hu9 := Room.units9 hr
    refine ⟨_, (pss_cons (ps_set (i := 2) nd rfl (by walk_at "oi") (pe_md 4 hr (pe_fld (pv 0) rfl) (pa_cons (pv 1) pa_nil) (Nat.le_refl _)))
      (pss_one (ps_ret (pe_ifExp (PW.pt (pw_and (pt_cmpR op_ge (pv 1) (pe_fld (pv 0) rfl) (nomark _)) (pw_and1 (pt_cmpR op_gt (pv 2) pe_int (nomark _))))) (pe_op op_add (pv 2) (pe_fld (pv 0) rfl)) (pv 2))))), ?_⟩
    refine rd_start (σ := [some (.ref p), some (.int t), none]) rfl ?_
    walk_at "go"
    refine hs _ fun H2 S2 => ?_
    have hp2 := S2 _ _ hp
    have k2 := k _ S2
    walk_at "go"
    refine rd_if2 (fun h1 => ?_) (fun h1 => ?_)
    · walk_at "go"
      refine rd_if2 (fun h2 => ?_) (fun h2 => ?_)
      · walk_at "go"
        rw [if_pos ⟨h1, h2⟩] at k2
        exact k2
      · walk_at "go"
        rw [if_neg (fun z => h2 z.2)] at k2
        exact k2
    · walk_at "go"
      rw [if_neg (fun z => h1 z.1)] at k2
      exact k2
theorem mc_Wider_lets (m : M K mg) : Mc P w K mg base m.C_Wider "lets" 5 (sp_Wider_lets P w K mg base) := ⟨_, _, _, m.dc_Wider.ic.cl, m.mt_Wider_lets, m.b_Wider_lets, ok_Wider_lets m⟩
theorem Wider_at (m : M K mg) {H : Hp} {p q dx : Addr} {n st : Str} {e : V} {a i0 : Int} {lt : Int → Int} (hp : H p = some (.ins m.C_Wider dx (WiderFs (.ref q) (.str n) (.str st) e (.int a) (.int i0)))) (hd : (doorP P w K mg base (some 4)).at' H (.ref q) (n, st, e, lt)) : (doorP P w K mg base (some 5)).at' H (.ref p) (n, st, e, widerF a i0 lt) := by
  obtain ⟨q', C9, dx9, fs, fp, hq', hq, dcC, l1, l2, l3, l4, l5, mcE, hfp, hlt⟩ := DoorAt.ex hd
  cases hq'
  refine ⟨p, _, dx, _, (q, .ins C9 dx9 fs) :: fp, rfl, hp, m.dc_Wider, by walk_at "lk", by walk_at "lk", by walk_at "lk", by walk_at "lk", by walk_at "lk", mc_Wider_is_exit m, ?_, fun kl hk => ?_⟩
  · intro x hx
    rcases List.mem_cons.mp hx with rfl | hx
    · exact ⟨hq, fun z => by
        have z : fs = [] := z
        rw [z] at l1; cases l1⟩
    · exact hfp x hx
  · cases hk
    obtain ⟨sp, m1, m2⟩ := hlt 4 rfl
    refine ⟨_, mc_Wider_lets m, fun H' t Q hp' hfp' ht k => ?_⟩
    exact ⟨p, _, _, _, q, C9, dx9, fs, t, a, lt t, i0, sp, rfl, m.dc_Wider, hp', by walk_at "lk", by walk_at "lk", by walk_at "lk", hfp' _ (.head _), l5, m1, fun Q' k' => m2 H' t Q' (hfp' _ (.head _)) (fun x hx => hfp' x (List.mem_cons_of_mem _ hx)) ht k', k⟩
theorem paired_split {α β : Type} {F : α → β → Prop} : ∀ {A : List β} {l : List α} {x : β} {B : List β}, Paired F l (A ++ x :: B) → ∃ la a lb, l = la ++ a :: lb ∧ Paired F la A ∧ F a x ∧ Paired F lb B
  | [], _, _, _, .cons r t => ⟨[], _, _, rfl, .nil, r, t⟩
  | y :: A, _, _, _, .cons r t => by
    obtain ⟨la, a, lb, rfl, h1, h2, h3⟩ := paired_split t
    exact ⟨_ :: la, a, lb, rfl, .cons r h1, h2, h3⟩
theorem split_at {α : Type} : ∀ {l : List α} {j : Nat}, j < l.length → ∃ A x B, l = A ++ x :: B ∧ A.length = j
  | x :: l, 0, _ => ⟨[], x, l, rfl, rfl⟩
  | y :: l, j + 1, h => by
    obtain ⟨A, x, B, rfl, h2⟩ := split_at (l := l) (j := j) (by simpa using h)
    exact ⟨y :: A, x, B, rfl, by rw [List.length_cons, h2]⟩
theorem set_mid {α : Type} {A B : List α} {x y : α} : (A ++ x :: B).set A.length y = A ++ y :: B := by
  induction A with
  | nil => rfl
  | cons a A ih => rw [List.cons_append, List.length_cons, List.set_cons_succ, ih]; rfl
theorem get_mid {α : Type} {A B : List α} {x : α} : (A ++ x :: B)[A.length]? = some x := by
  rw [List.getElem?_append_right (Nat.le_refl _), Nat.sub_self]; rfl
def WiderOf (ss : List SpecD) (f at' mo : Int) (ds : List DoorG) : Prop := (ss = [] ∧ ds = []) ∨ ∃ A s B, ss = A ++ s :: B ∧ (A.length : Int) = at' % (ss.length : Int) ∧ ds = A.map doorS ++ (s.n, s.st, s.e, widerF f mo (letS s)) :: B.map doorS
def sp_lwid (P : Program) (w : World) (base : Heap) (m : M K mg) (PL : Addr) : Sp := fun vs H Q _ => ∃ (q p1 p2 p3 : Addr) (us ws : List V) (rs : List RowR) (ss : List SpecD) (f l at' mo : Int), vs = [.ref p1, .ref p2, .ref p3, .int at', .int mo] ∧ DrawnAt H q p1 p2 p3 us ws rs ss f l ∧ TabS H PL pL qL ∧ 0 ≤ mo ∧ ∀ h ds H', SameT H H' → TabS H' PL pL qL → HouseAt m.C_House (doorP P w K mg base (some 5)) H' h f l (rzOf rs) (psAll rs) ds → WiderOf ss f at' mo ds → Q (.ref h) H'
theorem r_lwid {m : M K mg} {PL : Addr} {H : Hp} {Q : VK} {E : XK} {q p1 p2 p3 : Addr} {us ws : List V} {rs : List RowR} {ss : List SpecD} {f l at' mo : Int} (x : DrawnAt H q p1 p2 p3 us ws rs ss f l) (ht : TabS H PL pL qL) (hm : 0 ≤ mo) (k : ∀ h ds H', SameT H H' → TabS H' PL pL qL → HouseAt m.C_House (doorP P w K mg base (some 5)) H' h f l (rzOf rs) (psAll rs) ds → WiderOf ss f at' mo ds → Q (.ref h) H') : sp_lwid P w base m PL [.ref p1, .ref p2, .ref p3, .int at', .int mo] H Q E := ⟨_, _, _, _, _, _, _, _, _, _, _, _, rfl, x, ht, hm, k⟩
theorem wid_names {ss : List SpecD} {f at' mo : Int} {ds : List DoorG} (h : WiderOf ss f at' mo ds) : ds.map (fun d => (d.1, d.2.1, d.2.2.1)) = (ss.map doorS).map fun d => (d.1, d.2.1, d.2.2.1) := by
  rcases h with ⟨rfl, rfl⟩ | ⟨A, s, B, rfl, _, rfl⟩
  · rfl
  · rw [List.map_append, List.map_append, List.map_append, List.map_cons, List.map_cons, List.map_cons]; rfl
theorem doors_smI {H H' : Hp} {us : List V} {ds : List DoorG} (h : Paired ((doorP P w K mg base (some 4)).at' H) us ds) (s : Same H H') : Paired ((doorP P w K mg base (some 4)).at' H') us ds := Paired.imp' (fun v d h => (doorP P w K mg base (some 4)).same h s) h
theorem ok__law_widened (m : M K mg) {cL PL : Addr} (hcL : m.d__law_door.code = .ref cL) (hCL : W.CodeHd base cL PL) (hBL : base.BuiltinsAt mg PL) : FnOk P w K mg base CX0 7 m.a__law_widened m.d__law_widened ["_law_rooms_here", "_law_specs", "_law_turns", "_law_at", "_law_more"] (sp_lwid P w base m PL) := by
  refine m.F__law_widened.ok sc__law_widened (fun vs H Q E h => ?_) (fun cdv A outer s H vs Q E hr h => ?_)
  · obtain ⟨q, p1, p2, p3, us, ws, rs, ss, f, l, at', mo, rfl, dr, hPL, hmo, k⟩ := h
    rfl
  · obtain ⟨q, p1, p2, p3, us, ws, rs, ss, f, l, at', mo, rfl, dr, hPL, hmo, k⟩ := h
    have nd := sc__law_widened.nd
    have hu0 := Room.units0 hr
    have hu1 := Room.units1 hr
    have hu9 := Room.units9 hr
    have F__law_door := fc__law_door (P := P) (w := w) (base := base) m hcL hCL hBL
    have K_House_0 := kc_House_0 (P := P) (w := w) (base := base) m
    have K_Wider_0 := kc_Wider_0 (P := P) (w := w) (base := base) m
    have w_dc_House := m.dc_House
    have w_dc_Wider := m.dc_Wider
    refine ⟨_, (pss_cons (ps_setComp (i := 5) nd rfl (by walk_at "oi") (N := ["_law_spec_here"]) (nl := 1) (ci := []) rfl (blk (s.heap.objs.size + 1) rfl rfl rfl (by kernel_rfl)) (pi_list (pv 1)) (fun _ _ _ _ => (pg_name (i := 0) (show (["_law_spec_here"] : List Str).Nodup by decide +kernel) rfl (by walk_at "oi"))) (fun _ _ _ _ => pf_nil) (fun _ _ _ _ => (pe_f F__law_door hr (pa_cons (pv 0) pa_nil))))
      (pss_cons (ps_if (pt_cmpR op_gt (pe_callB call_lenL rfl m.g_len bt_len (pa_cons (pv 5) pa_nil)) pe_int (nomark _)) (pss_one (ps_asg (pe_mk K_Wider_0 hr (pa_cons (pe_ix ix_list (pv 5) (pe_op op_mod (pv 3) (pe_callB call_lenL rfl m.g_len bt_len (pa_cons (pv 5) pa_nil))) (fun _ _ => rfl)) (pa_cons (pe_ix ix_tup (pv 2) pe_int (fun _ _ => rfl)) (pa_cons (pv 4) pa_nil)))) (pg_sub (pv 5) (pe_op op_mod (pv 3) (pe_callB call_lenL rfl m.g_len bt_len (pa_cons (pv 5) pa_nil))) set_list))) pss_nil)
      (pss_cons (ps_setComp (i := 6) nd rfl (by walk_at "oi") (N := ["_law_room"]) (nl := 1) (ci := []) rfl (blk (s.heap.objs.size + 1) rfl rfl rfl (by kernel_rfl)) (pi_list (pv 0)) (fun _ _ _ _ => (pg_name (i := 0) (show (["_law_room"] : List Str).Nodup by decide +kernel) rfl (by walk_at "oi"))) (fun _ _ _ _ => pf_nil) (fun _ _ _ _ => (pe_tup (pa_cons (pe_ix (ix_tupK (K := K)) (pv 0) pe_int (fun _ _ => rfl)) (pa_cons (pe_ix (ix_tupK (K := K)) (pv 0) pe_int (fun _ _ => rfl)) pa_nil)))))
      (pss_one (ps_ret (pe_mk K_House_0 hr (pa_cons (pe_comp (N := ["_law_room"]) (nl := 1) (ci := []) rfl (blk (s.heap.objs.size + 1) rfl rfl rfl (by kernel_rfl)) (pi_list (pv 0)) (fun _ _ _ _ => (pg_name (i := 0) (show (["_law_room"] : List Str).Nodup by decide +kernel) rfl (by walk_at "oi"))) (fun _ _ _ _ => pf_nil) (fun _ _ _ _ => (pe_tup (pa_cons (pe_ix (ix_tupK (K := K)) (pv 0) pe_int (fun _ _ => rfl)) (pa_cons (pe_ix (ix_tupK (K := K)) (pv 0) pe_int (fun _ _ => rfl)) pa_nil))))) (pa_cons (pv 5) (pa_cons (pv 6) (pa_cons (pe_ix ix_tup (pv 2) pe_int (fun _ _ => rfl)) (pa_cons (pe_ix ix_tup (pv 2) pe_int (fun _ _ => rfl)) pa_nil))))))))))), ?_⟩
    refine rd_start (σ := [some (.ref p1), some (.ref p2), some (.ref p3), some (.int at'), some (.int mo), none, none]) rfl ?_
    have ro := dr.ro
    have hrl : rs.length ≤ 4 := ro.l1
    have hl7 := dr.l7
    have e1 := dr.e1
    have e2 := dr.e2
    have hul : us.length = rs.length := Paired.length dr.ru
    have hwl : ws.length = ss.length := Paired.length dr.sw
    walk_at "gs"
    refine comp_LR (α := SpecD) (xs := ss) (vs := ws) (TabR PL) (TabR.refl PL) (fun _ _ _ => TabR.trans) (SpecAt H) (fun s y H => (doorP P w K mg base (some 4)).at' H y (doorS s)) (fun _ _ _ _ h s => door_t h s.1) (by rw [sizeLine_eq]; omega) (rest := []) (by rfl) (fun H1 s => s.1.seq (SqL.of dr.e2)) dr.sw (fun v x H1 _ _ _ R hR => hR _ (TabR.refl _ _)) ?_ ?_
    · rintro v s5 H5 ⟨q5, rfl, h5⟩ hm t5 R hR
      have hs5 : SpecAt H5 (.ref q5) s5 := ⟨q5, rfl, t5.1.tup h5⟩
      walk_at "go"
      refine r_ldoor hs5 (dr.so s5 hm) dr.f0 (t5.2 hPL) fun v6 H6 T6 hT6 hd6 => ?_
      exact hR _ _ hd6 ⟨T6, fun _ => hT6⟩
    intro zs H5 t5 hzs
    have dr5 := drawn_t dr t5.1
    have hPL5 := t5.2 hPL
    have hzd : Paired ((doorP P w K mg base (some 4)).at' H5) zs (ss.map doorS) := pair_map (F := (doorP P w K mg base (some 4)).at' H5) doorS hzs
    have hzl : zs.length = ss.length := by rw [Paired.length hzd, List.length_map]
    have hmd : ss.length ≠ 0 → 0 ≤ at' % (ss.length : Int) ∧ at' % (ss.length : Int) < (ss.length : Int) := fun h => ⟨Int.emod_nonneg _ (by omega), Int.emod_lt_of_pos _ (by omega)⟩
    walk_at "gs"
    rename_i pd H6 n6 S6 e6
    have hz6 := doors_smI hzd S6
    have dr6 := drawn_sm dr5 S6
    have hPL6 := hPL5.same S6
    refine rd_seqR (fun σ' G => SameT H G ∧ TabS G PL pL qL ∧ (∃ zs' ds', G pd = some (.lst zs') ∧ Paired ((doorP P w K mg base (some 5)).at' G) zs' ds' ∧ WiderOf ss f at' mo ds') ∧ σ' = [some (.ref p1), some (.ref p2), some (.ref p3), some (.int at'), some (.int mo), some (.ref pd), none]) ?_ ?_
    rotate_left
    · intro nx' hnx
      walk_at "go"
      refine rd_if2 (fun hc => ?_) (fun hc => ?_)
      · have hne : ss.length ≠ 0 := by omega
        obtain ⟨hm0, hm1⟩ := hmd hne
        obtain ⟨A, s, B, hss, hA⟩ := split_at (l := ss) (j := (at' % (ss.length : Int)).toNat) (by omega)
        have hAi : (A.length : Int) = at' % (ss.length : Int) := by omega
        have hz7 := hz6
        rw [hss, List.map_append, List.map_cons] at hz7
        obtain ⟨za, v, zb, rfl, q1, q2, q3⟩ := paired_split hz7
        have hzal : za.length = A.length := by rw [Paired.length q1, List.length_map]
        have hsm : s ∈ ss := by rw [hss]; exact List.mem_append_right _ (.head _)
        have so := dr.so s hsm
        obtain ⟨q9, C9, dx9, fs9, fp9, rfl, hq9, dc9, l1, l2, l3, l4, l5, mcE, hfp, hlt⟩ := DoorAt.ex q2
        have hpos : (0 : Int) < ((za ++ V.ref q9 :: zb).length : Int) := by rw [hzl]; omega
        walk_at "go"
        rw [show at' % ((za ++ V.ref q9 :: zb).length : Int) = (za.length : Int) from by rw [hzl, ← hAi, hzal]]
        refine rd_ixN (SqL.of e6) get_mid ?_
        walk_at "go"
        refine ⟨p3, _, 0, _, rfl, rfl, SqT.of dr6.e3, rfl, ?_⟩
        walk_at "go"
        refine r_mkWider rfl w_dc_Wider dc9 hq9 l1 l2 l3 so.nm so.sm so.eo dr.f0 hmo fun pw dxw H8 n8 S8 e8 => ?_
        have e68 := S8 _ _ e6
        walk_at "go"
        rw [show at' % ((za ++ V.ref q9 :: zb).length : Int) = (za.length : Int) from by rw [hzl, ← hAi, hzal]]
        refine rd_setLm (j := za.length) e68 (by unfold ixN; rw [if_pos (by omega), if_pos (by rw [List.length_append, List.length_cons]; omega), Int.toNat_natCast]) fun H9 B9 e9 => ?_
        rw [set_mid] at e9
        have hbut : ∀ {v : V} {d : DoorG}, (doorP P w K mg base (some 5)).at' H8 v d → (doorP P w K mg base (some 5)).at' H9 v d := fun h => (doorP P w K mg base (some 5)).but h e68 trivial B9
        have s59 : Same H5 H9 := fun b u e => B9 b u (S8 _ _ (S6 _ _ e)) fun z => by rw [z, n6] at e; cases e
        have q1' : Paired ((doorP P w K mg base (some 5)).at' H9) za (A.map doorS) := Paired.imp' (fun v d h => hbut (door_mono ((doorP P w K mg base (some 4)).same h S8) (by decide))) q1
        have q3' : Paired ((doorP P w K mg base (some 5)).at' H9) zb (B.map doorS) := Paired.imp' (fun v d h => hbut (door_mono ((doorP P w K mg base (some 4)).same h S8) (by decide))) q3
        have qw : (doorP P w K mg base (some 5)).at' H9 (.ref pw) (s.n, s.st, s.e, widerF f mo (letS s)) := hbut (Wider_at (P := P) (w := w) (base := base) m e8 ((doorP P w K mg base (some 4)).same q2 S8))
        exact hnx _ _ ⟨t5.1.snoc s59, hPL5.same s59, ⟨_, A.map doorS ++ (s.n, s.st, s.e, widerF f mo (letS s)) :: B.map doorS, e9, paired_app q1' (.cons qw q3'), .inr ⟨A, s, B, hss, hAi, rfl⟩⟩, rfl⟩
      · have hs0 : ss = [] := List.eq_nil_of_length_eq_zero (by omega)
        subst hs0
        walk_at "go"
        exact hnx _ _ ⟨t5.1.snoc S6, hPL6, ⟨zs, [], e6, (by cases hz6; exact .nil), .inl ⟨rfl, rfl⟩⟩, rfl⟩
    rintro _ G ⟨TG, hTG, ⟨zs', ds', eG, hdG, hwo⟩, rfl⟩
    have drG := drawn_t dr TG
    have e1G := drG.e1
    have hwn := wid_names hwo
    have hwnn : ds'.map (·.1) = ss.map (·.n) := by
      have := congrArg (List.map fun x : Str × Str × V => x.1) hwn
      rw [List.map_map, List.map_map] at this
      rw [← ds_names]; exact this
    have hwin : ∀ d ∈ ds', DoorIn ((rzOf rs).map (·.1)) d := fun d hd => by
      have h1 : (d.1, d.2.1, d.2.2.1) ∈ ds'.map (fun d : DoorG => (d.1, d.2.1, d.2.2.1)) := List.mem_map.mpr ⟨d, hd, rfl⟩
      rw [hwn] at h1
      obtain ⟨d2, hd2, e⟩ := List.mem_map.mp h1
      obtain ⟨s, hs, rfl⟩ := List.mem_map.mp hd2
      have e1 : s.st = d.2.1 := congrArg (fun x : Str × Str × V => x.2.1) e
      have e2 : s.e = d.2.2.1 := congrArg (fun x : Str × Str × V => x.2.2) e
      rw [rz_names]
      unfold DoorIn
      rw [← e1, ← e2]
      exact ⟨(dr.so s hs).sin, (dr.so s hs).ein⟩
    have hwl' : ds'.length ≤ 20 := by
      rw [← List.length_map (f := fun d : DoorG => d.1), hwnn, List.length_map]; omega
    walk_at "go"
    refine comp_LA (α := RowR) (xs := rs) (vs := us) (RowRAt G) (fun _ => true) (fun r y H => PplAt H y (r.1, r.2.2)) (fun _ _ _ _ ⟨q, h1, h2⟩ s => ⟨q, h1, s _ _ h2⟩) (by rw [sizeLine_eq]; omega) (rest := []) (by rfl) (SqL.of e1G) drG.ru (fun v x H1 _ hx s1 R hR => hR _ (Same.refl _)) ?_ ?_
    · rintro v ⟨z, i, j⟩ H7 ⟨q2, rfl, hq2⟩ hm - s7 R hR
      have hq2 : H7 q2 = some (.tup [.str z, .int i, .int j]) := s7 _ _ hq2
      walk_at "go"
      refine ⟨q2, _, 0, _, rfl, rfl, SqT.of hq2, rfl, ?_⟩
      walk_at "go"
      refine ⟨q2, _, 2, _, rfl, rfl, SqT.of hq2, rfl, ?_⟩
      walk_at "go"
      rename_i q3 H3 n3 S3 e3'
      exact hR _ _ ⟨q3, rfl, e3'⟩ S3
    intro ys H7 s7 hys
    rw [filt_all] at hys
    have hyp : Paired (PplAt H7) ys (psAll rs) := pair_map (F := PplAt H7) (fun r : RowR => (r.1, r.2.2)) hys
    walk_at "go"
    rename_i p8 H8 n8 S8 e8
    have sG8 := s7.trans S8
    have e18 := sG8 _ _ e1G
    refine comp_LA (α := RowR) (xs := rs) (vs := us) (RowRAt H8) (fun _ => true) (fun r y H => PplAt H y (r.1, r.2.1)) (fun _ _ _ _ ⟨q, h1, h2⟩ s => ⟨q, h1, s _ _ h2⟩) (by rw [sizeLine_eq]; omega) (rest := []) (by rfl) (SqL.of e18) (rowr_sm drG.ru sG8) (fun v x H1 _ hx s1 R hR => hR _ (Same.refl _)) ?_ ?_
    · rintro v ⟨z, i, j⟩ H9 ⟨q2, rfl, hq2⟩ hm - s9 R hR
      have hq2 : H9 q2 = some (.tup [.str z, .int i, .int j]) := s9 _ _ hq2
      walk_at "go"
      refine ⟨q2, _, 0, _, rfl, rfl, SqT.of hq2, rfl, ?_⟩
      walk_at "go"
      refine ⟨q2, _, 1, _, rfl, rfl, SqT.of hq2, rfl, ?_⟩
      walk_at "go"
      rename_i q3 H3 n3 S3 e3'
      exact hR _ _ ⟨q3, rfl, e3'⟩ S3
    intro xs H9 s9 hxs
    rw [filt_all] at hxs
    have hxr : Paired (PplAt H9) xs (rzOf rs) := pair_map (F := PplAt H9) (fun r : RowR => (r.1, r.2.1)) hxs
    walk_at "go"
    rename_i pA HA nA SA eA
    have s8A := s9.trans SA
    have sGA : Same G HA := sG8.trans s8A
    have e3A := sGA _ _ drG.e3
    refine ⟨p3, _, 1, _, rfl, rfl, SqT.of e3A, rfl, ?_⟩
    walk_at "go"
    refine ⟨p3, _, 0, _, rfl, rfl, SqT.of e3A, rfl, ?_⟩
    walk_at "go"
    have hpr : ∀ p ∈ psAll rs, p.1 ∈ (rzOf rs).map (·.1) := fun p hp => by
      unfold psAll at hp
      obtain ⟨r, hr, rfl⟩ := List.mem_map.mp hp
      rw [rz_names]
      exact List.mem_map.mpr ⟨r, hr, rfl⟩
    refine r_mkHouse (f := f) (l := l) (rz := rzOf rs) (ps := psAll rs) (ds := ds') rfl w_dc_House eA (RoomsAt.sm hxr SA) (SqL.of (sGA _ _ eG)) (doors_sm hdG sGA) (SqL.of (s8A _ _ e8)) (ppl_sm hyp (S8.trans s8A)) (by rw [rz_names]; exact ro.nd) (by rw [hwnn]; exact dr.nd) hwin hpr (fits_all ro) (by unfold rzOf; rw [List.length_map]; omega) hwl' (by unfold psAll; rw [List.length_map]; omega) dr.f0 dr.fl fun h HB nB SB hh => ?_
    exact k _ _ _ (TG.snoc (sGA.trans SB)) (hTG.same (sGA.trans SB)) hh hwo
theorem fc__law_widened (m : M K mg) {cL PL : Addr} (hcL : m.d__law_door.code = .ref cL) (hCL : W.CodeHd base cL PL) (hBL : base.BuiltinsAt mg PL) : Fc P w K mg base "_law_widened" 7 ["_law_rooms_here", "_law_specs", "_law_turns", "_law_at", "_law_more"] (sp_lwid P w base m PL) := ⟨_, _, m.m__law_widened, m.F__law_widened.kp, m.b__law_widened, ok__law_widened m hcL hCL hBL⟩
theorem house_t {C h : Addr} {f l : Int} {rz ps : List (Str × Int)} {ds : List DoorG} {H H' : Hp} (x : HouseAt C (doorP P w K mg base (some 5)) H h f l rz ps ds) (T : SameT H H') : HouseAt C (doorP P w K mg base (some 5)) H' h f l rz ps ds := by
  obtain ⟨dx, qs, qp, qd, nk, kvs, e1, e2, e3, e4, e5, e6, e7⟩ := x.ex
  exact ⟨dx, qs, qp, qd, nk, kvs, T _ _ e1 (fun ps z => by cases z), T _ _ e2 (fun ps z => by cases z), T _ _ e3 (fun ps z => by cases z), e4, e5, T _ _ e6 (fun ps z => by cases z), Paired.imp' (fun e d h => ⟨h.1, door_t h.2 T⟩) e7⟩
def selS (ss : List SpecD) (c : Int) : Option SpecD := ss[(c % (ss.length : Int)).toNat]?
def gainS (ss : List SpecD) (c mo t : Int) : Int := match selS ss c with | some s => if 0 < letS s t then mo else 0 | none => 0
def roomF (ss : List SpecD) (c mo f : Int) (i : Nat) : Int := ((List.range i).map fun j : Nat => gainS ss c mo (f + (j : Int))).sum
theorem sel_mid {A B : List SpecD} {s : SpecD} {c : Int} (h : (A.length : Int) = c % ((A ++ s :: B).length : Int)) : selS (A ++ s :: B) c = some s := by
  unfold selS
  rw [← h, Int.toNat_natCast, get_mid]
theorem wider_both {rs : List RowR} {ss : List SpecD} {f l c mo : Int} {ds : List DoorG} {cut : List (Str × Int)} (hw : WiderOf ss f c mo ds) (ro : RowsOk rs) (hm : 0 ≤ mo) (i : Nat) :
    boundF (rzOf rs) (psOf rs) (ss.map doorS) f l cut (f + (i : Int)) ≤ boundF (rzOf rs) (psAll rs) ds f l cut (f + (i : Int)) ∧ boundF (rzOf rs) (psAll rs) ds f l cut (f + (i : Int)) ≤ boundF (rzOf rs) (psOf rs) (ss.map doorS) f l cut (f + (i : Int)) + roomF ss c mo f i := by
  have hps : ∀ e ∈ rzOf rs, psum (psAll rs) e.1 = psum (psOf rs) e.1 := fun e he => by
    unfold rzOf at he
    obtain ⟨r, hr, rfl⟩ := List.mem_map.mp he
    show psum (psAll rs) r.1 = psum (psOf rs) r.1
    rw [psum_all ro.nd hr, psum_at ro.nd (fun x hx => (ro.ok x hx).1) hr]
  rw [bound_ps hps]
  rcases hw with ⟨rfl, rfl⟩ | ⟨A, s, B, rfl, hA, rfl⟩
  · have h0 : roomF [] c mo f i = 0 := by
      unfold roomF
      exact sum_map_zero _ _ fun j _ => rfl
    rw [h0]
    exact ⟨Int.le_refl _, by show _ ≤ _ + (0 : Int); rw [Int.add_zero]; exact Int.le_refl _⟩
  · rw [List.map_append, List.map_cons]
    have hb := bound_wider (rz := rzOf rs) (ps := psOf rs) (f := f) (l := l) (mo := mo) (n := s.n) (st := s.st) (e := s.e) (lt := letS s) (A := A.map doorS) (B := B.map doorS) (cut := cut) i (by rw [rz_names]; exact ro.nd) hm
    refine ⟨hb.1, Int.le_trans hb.2 (Int.add_le_add_left ?_ _)⟩
    unfold roomF
    refine sum_le fun j _ => ?_
    unfold gainS
    rw [sel_mid hA]
    unfold delta
    show (if _ then mo else 0) ≤ if 0 < letS s (f + (j : Int)) then mo else 0
    by_cases h : 0 < letS s (f + (j : Int))
    · rw [if_pos h]; split <;> omega
    · rw [if_neg h, if_neg fun z => h z.2.2]; omega
def befS (rs : List RowR) (ss : List SpecD) (f l : Int) (cut : List (Str × Int)) : Nat → Int
  | 0 => 0
  | i + 1 => boundF (rzOf rs) (psOf rs) (ss.map doorS) f l cut (f + (i : Int))
theorem bef_le {rs : List RowR} {ss : List SpecD} {f l : Int} {cut : List (Str × Int)} (ro : RowsOk rs) (so : ∀ s ∈ ss, 0 ≤ s.wd) (i : Nat) : befS rs ss f l cut i ≤ boundF (rzOf rs) (psOf rs) (ss.map doorS) f l cut (f + (i : Int)) := by
  cases i with
  | zero => rw [show f + ((0 : Nat) : Int) = f by omega, bound_first]; exact Int.le_refl _
  | succ i =>
    refine bound_grow i (fun d hd t => ?_) (fun e he => ?_) fun e he => ?_
    · obtain ⟨s, hs, rfl⟩ := List.mem_map.mp hd
      exact letS_nn (so s hs) t
    · unfold rzOf at he
      obtain ⟨r, hr, rfl⟩ := List.mem_map.mp he
      have := ro.ok r hr
      show 0 ≤ r.2.1
      omega
    · unfold rzOf at he
      obtain ⟨r, hr, rfl⟩ := List.mem_map.mp he
      show 0 ≤ psum (psOf rs) r.1
      rw [psum_at ro.nd (fun x hx => (ro.ok x hx).1) hr]
      exact (ro.ok r hr).1
def sp_law (K : W.Frag) (PL : Addr) : Sp := fun vs H Q _ => ∃ (a : Addr) (ns : List Int), vs = [.ref a] ∧ SqL K H a (ns.map V.int) ∧ ns.length ≤ 63 ∧ H PL = some (.tbl #[]) ∧ ∀ H', Q (.bl true) H'
theorem ok_law (m : M K mg) {cL PL : Addr} (hcL : m.d__law_door.code = .ref cL) (hCL : W.CodeHd base cL PL) (hBL : base.BuiltinsAt mg PL) : FnOk P w K mg base CX0 20 m.a_law m.d_law ["_law_script"] (sp_law K PL) := by
  refine m.F_law.ok sc_law (fun vs H Q E h => ?_) (fun cdv A outer s H vs Q E hr h => ?_)
  · obtain ⟨a, ns, rfl, hS, hlen, hPL, k⟩ := h
    rfl
  · obtain ⟨a, ns, rfl, hS, hlen, hPL, k⟩ := h
    have nd := sc_law.nd
    have hu0 := Room.units0 hr
    have hu1 := Room.units1 hr
    have hu9 := Room.units9 hr
    have F__law_cell_at := fc__law_cell_at (P := P) (w := w) (base := base) m
    have F__law_cut := fc__law_cut (P := P) (w := w) (base := base) m
    have F__law_drawn := fc__law_drawn (P := P) (w := w) (base := base) m
    have F__law_house := fc__law_house (P := P) (w := w) (base := base) m hcL hCL hBL
    have F__law_lets := fc__law_lets (P := P) (w := w) (base := base) m
    have F__law_widened := fc__law_widened (P := P) (w := w) (base := base) m hcL hCL hBL
    have F_bound := fc_bound (P := P) (w := w) (base := base) m
    have w_dc_House := m.dc_House
    refine ⟨_, (pss_cons (ps_asg (pe_f F__law_drawn hr (pa_cons (pv 0) pa_nil)) (pg_tup rfl (pgs_cons (pg_name (i := 1) nd rfl (by walk_at "oi")) (pgs_cons (pg_name (i := 2) nd rfl (by walk_at "oi")) (pgs_cons (pg_name (i := 3) nd rfl (by walk_at "oi")) pgs_nil)))))
      (pss_cons (ps_set (i := 4) nd rfl (by walk_at "oi") (pe_f F__law_house hr (pa_cons (pv 1) (pa_cons (pv 2) (pa_cons (pv 3) pa_nil)))))
      (pss_cons (ps_set (i := 5) nd rfl (by walk_at "oi") (pe_f F__law_cell_at hr (pa_cons (pv 0) (pa_cons pe_int pa_nil))))
      (pss_cons (ps_set (i := 6) nd rfl (by walk_at "oi") (pe_op op_add pe_int (pe_op op_mod (pv 5) pe_int)))
      (pss_cons (ps_set (i := 7) nd rfl (by walk_at "oi") (pe_f F__law_widened hr (pa_cons (pv 1) (pa_cons (pv 2) (pa_cons (pv 3) (pa_cons (pe_op op_fdiv (pv 5) pe_int) (pa_cons (pv 6) pa_nil)))))))
      (pss_cons (ps_set (i := 8) nd rfl (by walk_at "oi") (pe_f F__law_cut hr (pa_cons (pv 5) (pa_cons (pv 1) (pa_cons (pv 3) pa_nil)))))
      (pss_cons (ps_set (i := 9) nd rfl (by walk_at "oi") pe_int)
      (pss_cons (ps_set (i := 10) nd rfl (by walk_at "oi") pe_int)
      (pss_cons (ps_for PassesOwn.never rfl (pi_range2 rfl m.g_range (pa_cons (pe_ix ix_tup (pv 3) pe_int (fun _ _ => rfl)) (pa_cons (pe_op op_add (pe_ix ix_tup (pv 3) pe_int (fun _ _ => rfl)) pe_int) pa_nil))) (pg_name (i := 11) nd rfl (by walk_at "oi")) (pss_cons (ps_set (i := 12) nd rfl (by walk_at "oi") (pe_f F_bound hr (pa_cons (pv 4) (pa_cons (pv 8) (pa_cons (pv 11) pa_nil)))))
      (pss_cons (ps_set (i := 13) nd rfl (by walk_at "oi") (pe_f F_bound hr (pa_cons (pv 7) (pa_cons (pv 8) (pa_cons (pv 11) pa_nil)))))
      (pss_cons (ps_if (PW.pt (pw_or (pt_cmpR op_lt (pv 12) (pv 9) (nomark _)) (pw_or (pt_cmpR op_lt (pv 13) (pv 12) (nomark _)) (pw_or1 (pt_cmpR op_gt (pv 13) (pe_op op_add (pv 12) (pv 10)) (nomark _)))))) (pss_one (ps_ret pe_bl)) pss_nil)
      (pss_cons (ps_set (i := 9) nd rfl (by walk_at "oi") (pv 12))
      (pss_one (ps_if (PW.pt (pw_and (pt_cmpR op_gt (pe_callB call_lenL rfl m.g_len bt_len (pa_cons (pv 2) pa_nil)) pe_int (nomark _)) (pw_and1 (pt_cmpR op_gt (pe_f F__law_lets hr (pa_cons (pe_ix ix_list (pv 2) (pe_op op_mod (pe_op op_fdiv (pv 5) pe_int) (pe_callB call_lenL rfl m.g_len bt_len (pa_cons (pv 2) pa_nil))) (fun _ _ => rfl)) (pa_cons (pv 11) pa_nil))) pe_int (nomark _))))) (pss_one (ps_set (i := 10) nd rfl (by walk_at "oi") (pe_op op_add (pv 10) (pv 6)))) pss_nil)))))))
      (pss_one (ps_ret pe_bl))))))))))), ?_⟩
    refine rd_start (σ := [some (.ref a), none, none, none, none, none, none, none, none, none, none, none, none, none]) rfl ?_
    walk_at "go"
    refine r_ldrawn hS hlen fun q p1 p2 p3 us ws rs ss f l H1 S1 dr => ?_
    have eq := dr.eq
    walk_at "go"
    refine r_lhouse dr (.inl (S1 _ _ hPL)) fun h H2 T2 hT2 hh => ?_
    have dr2 := drawn_t dr T2
    have hS2 := T2.seq (S1.seq hS)
    have f0 := dr.f0
    have f1 := dr.f1
    have fl := dr.fl
    have fl7 := dr.fl7
    have ro := dr.ro
    have hr4 := ro.l1
    have hl7 := dr.l7
    have hwl : ws.length = ss.length := Paired.length dr.sw
    have nr : ((rzOf rs).map (·.1)).Nodup := by rw [rz_names]; exact ro.nd
    have lr : (rzOf rs).length ≤ 20 := by unfold rzOf; rw [List.length_map]; omega
    have ndd : ((ss.map doorS).map (·.1)).Nodup := by rw [ds_names]; exact dr.nd
    have ld : (ss.map doorS).length ≤ 20 := by rw [List.length_map]; omega
    have hin : ∀ d ∈ ss.map doorS, DoorIn ((rzOf rs).map (·.1)) d := fun d hd => by
      obtain ⟨s, hs, rfl⟩ := List.mem_map.mp hd
      rw [rz_names]
      exact ⟨(dr.so s hs).sin, (dr.so s hs).ein⟩
    walk_at "go"
    generalize hce : cellN ns 0 = ce
    refine r_lwid (mo := 1 + ce % 9) dr2 hT2 (by omega) fun h2 ds' H3 T3 hT3 hh2 hwo => ?_
    have hh3 := house_t hh T3
    have dr3 := drawn_t dr2 T3
    have hwn := wid_names hwo
    have hwnn : ds'.map (·.1) = ss.map (·.n) := by
      have := congrArg (List.map fun x : Str × Str × V => x.1) hwn
      rw [List.map_map, List.map_map] at this
      rw [← ds_names]; exact this
    have ndd' : (ds'.map (·.1)).Nodup := by rw [hwnn]; exact dr.nd
    have hin' : ∀ d ∈ ds', DoorIn ((rzOf rs).map (·.1)) d := fun d hd => by
      have h1 : (d.1, d.2.1, d.2.2.1) ∈ ds'.map (fun d : DoorG => (d.1, d.2.1, d.2.2.1)) := List.mem_map.mpr ⟨d, hd, rfl⟩
      rw [hwn] at h1
      obtain ⟨d2, hd2, e⟩ := List.mem_map.mp h1
      have e1 : d2.2.1 = d.2.1 := congrArg (fun x : Str × Str × V => x.2.1) e
      have e2 : d2.2.2.1 = d.2.2.1 := congrArg (fun x : Str × Str × V => x.2.2) e
      have := hin d2 hd2
      unfold DoorIn at this ⊢
      rw [← e1, ← e2]
      exact this
    have ld' : ds'.length ≤ 20 := by
      rw [← List.length_map (f := fun d : DoorG => d.1), hwnn, List.length_map]; omega
    walk_at "go"
    refine r_lcut dr3.e1 dr3.ru ro dr3.e3 f0 f1 fl fl7 fun pc cs cut H4 n4 S4 ec hcp hcl hci => ?_
    have dr4 := drawn_sm dr3 S4
    walk_at "go"
    refine ⟨p3, _, 0, _, rfl, rfl, SqT.of dr4.e3, rfl, ?_⟩
    walk_at "go"
    refine ⟨p3, _, 1, _, rfl, rfl, SqT.of dr4.e3, rfl, ?_⟩
    walk_at "go"
    refine rd_forR (fun i σ' H' => Same H4 H' ∧ ∃ x y z, σ' = [some (.ref a), some (.ref p1), some (.ref p2), some (.ref p3), some (.ref h), some (.int ce), some (.int (1 + ce % 9)), some (.ref h2), some (.ref pc), some (.int (befS rs ss f l cut i)), some (.int (roomF ss (ce / 9) (1 + ce % 9) f i)), x, y, z]) ⟨Same.refl _, _, _, _, rfl⟩ ?_ ?_
    · rintro i _ H5 hi ⟨s5, x1, x2, x3, rfl⟩
      have s35 := S4.trans s5
      have hb1 := bef_le (f := f) (l := l) (cut := cut) ro (fun s hs => (dr.so s hs).w0) i
      have hb2 := wider_both (l := l) (cut := cut) hwo ro (by omega) i
      have hro : roomF ss (ce / 9) (1 + ce % 9) f (i + 1) = roomF ss (ce / 9) (1 + ce % 9) f i + gainS ss (ce / 9) (1 + ce % 9) (f + (i : Int)) := by
        unfold roomF
        rw [sum_range_succ]
      walk_at "go"
      refine r_bound (cs := cs) (cut := cut) (house_sm hh3 s35) nr ndd lr ld hin f0 (by omega) (by omega) (SqL.of (s5 _ _ ec)) (ppl_sm hcp s5) (by omega) fun H6 S6 => ?_
      have s36 := s35.trans S6
      walk_at "go"
      refine r_bound (cs := cs) (cut := cut) (house_sm hh2 s36) nr ndd' lr ld' hin' f0 (by omega) (by omega) (SqL.of (S6 _ _ (s5 _ _ ec))) (ppl_sm hcp (s5.trans S6)) (by omega) fun H7 S7 => ?_
      have s37 := s36.trans S7
      have dr7 := drawn_sm dr3 s37
      have e27 := dr7.e2
      walk_at "go"
      have s47 : Same H4 H7 := s5.trans (S6.trans S7)
      rcases id hwo with ⟨hs0, _⟩ | ⟨A, s, B, hss, hA, _⟩
      · have hw0 : ws.length = 0 := by rw [hwl, hs0]; rfl
        have hg0 : gainS ss (ce / 9) (1 + ce % 9) (f + (i : Int)) = 0 := by rw [hs0]; rfl
        refine rd_ifN (by omega) ?_
        walk_at "go"
        exact ⟨s47, _, _, _, by rw [hro, hg0, Int.add_zero]; rfl⟩
      · have hsw := dr7.sw
        rw [hss] at hsw
        obtain ⟨wa, v, wb, hws, w1, w2, w3⟩ := paired_split hsw
        have hwal : wa.length = A.length := Paired.length w1
        have hsm : s ∈ ss := by rw [hss]; exact List.mem_append_right _ (.head _)
        obtain ⟨qs, rfl, hqs⟩ := id w2
        have hpos : (0 : Int) < (ws.length : Int) := by rw [hws, List.length_append, List.length_cons]; omega
        have hge : gainS ss (ce / 9) (1 + ce % 9) (f + (i : Int)) = if 0 < letS s (f + (i : Int)) then 1 + ce % 9 else 0 := by
          unfold gainS
          rw [hss, sel_mid (by rw [← hss]; exact hA)]
        refine rd_ifP hpos ?_
        walk_at "go"
        rw [show ce / 9 % (ws.length : Int) = (wa.length : Int) from by rw [hwl, ← hA, hwal]]
        refine rd_ixN (SqL.of e27) (by rw [hws]; exact get_mid) ?_
        walk_at "go"
        refine ⟨qs, s, f + (i : Int), rfl, ⟨qs, rfl, hqs⟩, by omega, (dr.so s hsm).m1, (dr.so s hsm).m0, fun H8 S8 => ?_⟩
        walk_at "go"
        refine rd_if2 (fun hc => ?_) (fun hc => ?_)
        · walk_at "go"
          exact ⟨s47.trans S8, _, _, _, by rw [hro, hge, if_pos hc]; rfl⟩
        · walk_at "go"
          exact ⟨s47.trans S8, _, _, _, by rw [hro, hge, if_neg hc, Int.add_zero]; rfl⟩
    · rintro _ H5 ⟨s5, x1, x2, x3, rfl⟩
      walk_at "go"
      exact k _
end
theorem all_mk {l : W.OpenLaw} {w : World} {K : W.Frag} {h : Heap} {mg : Str → Option Value} {fa : Addr} (X : K.In h) (G : h.Ns mainGlobals mg) (hfa : mg "law" = some (.ref fa))
    {zaa : Addr}
    {zab : Addr}
    {zac : Addr}
    {zad : Addr}
    {zae : Addr}
    {zaf : Addr}
    {zag : Addr}
    {zah : Addr}
    {zai : Addr}
    {zaj : Addr}
    {zak : Addr}
    {zal : Addr}
    {zam : Addr}
    {zan : Addr}
    {zao : Addr}
    {zap : Addr}
    {zaq : Addr}
    {zar : Addr}
    {zas : Addr}
    {zat : Addr}
    {zau : Addr}
    {zav : Addr}
    {zaw : Addr}
    {zax : Addr}
    {zay : Addr}
    {zaz : Addr}
    {zba : Addr}
    {zbb : Addr}
    {zbc : Addr}
    {zbd : Addr}
    {zbe : Addr}
    {zbf : Addr}
    {zbg : Addr}
    {zbh : Addr}
    {zbi : Addr}
    {zbj : Addr}
    {zbk : Addr}
    {zbl : Addr}
    {zbm : Addr}
    {zbn : Addr}
    {zbo : Addr}
    {zbp : Addr}
    {zbq : Addr}
    {zbr : Addr}
    {zbs : Addr}
    {zbt : Addr}
    {zbu : Addr}
    {zbv : Addr}
    {zbw : Addr}
    {zbx : Addr}
    {zby : Addr}
    {zbz : Addr}
    {zca : Addr}
    {zcb : Addr}
    {zcc : Addr}
    {zcd : Addr}
    {zce : Addr}
    {zcf : Addr}
    {zcg : Addr}
    {zch : Addr}
    {zci : Addr}
    {zcj : Addr}
    {zck : Addr}
    {zcl : Addr}
    {zcm : Addr}
    {zcn : Addr}
    {zco : Addr}
    {zcp : Addr}
    {zcq : Addr}
    {zcr : Addr}
    {zcs : Addr}
    {zct : Addr}
    {zcu : Addr}
    {zcv : Addr}
    {zcw : Addr}
    {zcx : Addr}
    {zcy : Addr}
    {zcz : Addr}
    {zda : Addr}
    {zdb : Addr}
    {zdc : Addr}
    {zdd zde : Option Addr} {zdf : Array (Option Value)} {zdg zdh zdi zdj zdk zdl : Value}
    {zdm zdn : Option Addr} {zdo : Array (Option Value)} {zdp zdq zdr zds zdt zdu : Value}
    {zdv zdw : Option Addr} {zdx : Array (Option Value)} {zdy zdz zea zeb zec zed : Value}
    {zee zef : Option Addr} {zeg : Array (Option Value)} {zeh zei zej zek zel zem : Value}
    {zen zeo : Option Addr} {zep : Array (Option Value)} {zeq zer zes zet zeu zev : Value}
    {zew zex : Option Addr} {zey : Array (Option Value)} {zez zfa zfb zfc zfd zfe : Value}
    {zff zfg : Option Addr} {zfh : Array (Option Value)} {zfi zfj zfk zfl zfm zfn : Value}
    {zfo zfp : Option Addr} {zfq : Array (Option Value)} {zfr zfs zft zfu zfv zfw : Value}
    {zfx zfy : Option Addr} {zfz : Array (Option Value)} {zga zgb zgc zgd zge zgf : Value}
    {zgg zgh : Option Addr} {zgi : Array (Option Value)} {zgj zgk zgl zgm zgn zgo : Value}
    {zgp zgq : Option Addr} {zgr : Array (Option Value)} {zgs zgt zgu zgv zgw zgx : Value}
    {zgy zgz : Option Addr} {zha : Array (Option Value)} {zhb zhc zhd zhe zhf zhg : Value}
    {zhh zhi : Option Addr} {zhj : Array (Option Value)} {zhk zhl zhm zhn zho zhp : Value}
    {zhq zhr : Option Addr} {zhs : Array (Option Value)} {zht zhu zhv zhw zhx zhy : Value}
    {zhz zia : Option Addr} {zib : Array (Option Value)} {zic zid zie zif zig zih : Value}
    {zii zij : Option Addr} {zik : Array (Option Value)} {zil zim zin zio ziq zir : Value}
    {zis zit : Option Addr} {ziu : Array (Option Value)} {ziv ziw zix ziy ziz zja : Value}
    {zjb zjc : Option Addr} {zjd : Array (Option Value)} {zje zjf zjg zjh zji zjj : Value}
    {zjk zjl : Option Addr} {zjm : Array (Option Value)} {zjn zjo zjp zjq zjr zjs : Value}
    {zjt zju : Option Addr} {zjv : Array (Option Value)} {zjw zjx zjy zjz zka zkb : Value}
    {zkc zkd : Option Addr} {zke : Array (Option Value)} {zkf zkg zkh zki zkj zkk : Value}
    {zkl zkm : Option Addr} {zkn : Array (Option Value)} {zko zkp zkq zkr zks zkt : Value}
    {zku zkv : Option Addr} {zkw : Array (Option Value)} {zkx zky zkz zla zlb zlc : Value}
    {zld zle : Option Addr} {zlf : Array (Option Value)} {zlg zlh zli zlj zlk zll : Value}
    {zlm zln : Option Addr} {zlo : Array (Option Value)} {zlp zlq zlr zls zlt zlu : Value}
    {zlv zlw : Option Addr} {zlx : Array (Option Value)} {zly zlz zma zmb zmc zmd : Value}
    {zme zmf : Option Addr} {zmg : Array (Option Value)} {zmh zmi zmj zmk zml zmm : Value}
    {zmn zmo : Option Addr} {zmp : Array (Option Value)} {zmq zmr zms zmt zmu zmv : Value}
    {zmw zmx : Option Addr} {zmy : Array (Option Value)} {zmz zna znb znc znd zne : Value}
    {znf zng : Option Addr} {znh : Array (Option Value)} {zni znj znk znl znm znn : Value}
    {zno znp : Option Addr} {znq : Array (Option Value)} {znr zns znt znu znv znw : Value}
    {znx zny : Option Addr} {znz : Array (Option Value)} {zoa zob zoc zod zoe zof : Value}
    {zog zoh : Option Addr} {zoi : Array (Option Value)} {zoj zok zol zom zon zoo : Value}
    {zop : Addr}
    {zoq : Tok}
    {zor : Value} {zos : Option Addr} {zot : Nat} {zou : Array (Option Value)}
    {zov zow : Option Addr} {zox : Array (Option Value)} {zoy zoz zpa zpb zpc zpd : Value}
    {zpe zpf : Option Addr} {zpg : Array (Option Value)} {zph zpi zpj zpk zpl zpm : Value}
    {zpn zpo : Option Addr} {zpp : Array (Option Value)} {zpq zpr zps zpt zpu zpv : Value}
    {zpw zpx : Option Addr} {zpy : Array (Option Value)} {zpz zqa zqb zqc zqd zqe : Value}
    {zqf zqg : Option Addr} {zqh : Array (Option Value)} {zqi zqj zqk zql zqm zqn : Value}
    {zqo zqp : Option Addr} {zqq : Array (Option Value)} {zqr zqs zqt zqu zqv zqw : Value}
    {zqx zqy : Option Addr} {zqz : Array (Option Value)} {zra zrb zrc zrd zre zrf : Value}
    {zrg zrh : Option Addr} {zri : Array (Option Value)} {zrj zrk zrl zrm zrn zro : Value}
    {zrp zrq : Option Addr} {zrr : Array (Option Value)} {zrs zrt zru zrv zrw zrx : Value}
    {zry zrz : Option Addr} {zsa : Array (Option Value)} {zsb zsc zsd zse zsf zsg : Value}
    {zsh : Addr}
    {zsi : Tok}
    {zsj : Value} {zsk : Option Addr} {zsl : Nat} {zsm : Array (Option Value)}
    {zsn zso : Option Addr} {zsp : Array (Option Value)} {zsq zsr zss zst zsu zsv : Value}
    {zsw zsx : Option Addr} {zsy : Array (Option Value)} {zsz zta ztb ztc ztd zte : Value}
    {ztf ztg : Option Addr} {zth : Array (Option Value)} {zti ztj ztk ztl ztm ztn : Value}
    {zto ztp : Option Addr} {ztq : Array (Option Value)} {ztr zts ztt ztu ztv ztw : Value}
    {ztx zty : Option Addr} {ztz : Array (Option Value)} {zua zub zuc zud zue zuf : Value}
    {zug zuh : Option Addr} {zui : Array (Option Value)} {zuj zuk zul zum zun zuo : Value}
    {zup zuq : Option Addr} {zur : Array (Option Value)} {zus zut zuu zuv zuw zux : Value}
    {zuy zuz : Option Addr} {zva : Array (Option Value)} {zvb zvc zvd zve zvf zvg : Value}
    {zvh zvi : Option Addr} {zvj : Array (Option Value)} {zvk zvl zvm zvn zvo zvp : Value}
    {zvq zvr : Option Addr} {zvs : Array (Option Value)} {zvt zvu zvv zvw zvx zvy : Value}
    {zvz zwa : Option Addr} {zwb : Array (Option Value)} {zwc zwd zwe zwf zwg zwh : Value}
    {zwi zwj : Option Addr} {zwk : Array (Option Value)} {zwl zwm zwn zwo zwp zwq : Value}
    {zwr : Addr}
    {zws : Tok}
    {zwt : Value} {zwu : Option Addr} {zwv : Nat} {zww : Array (Option Value)}
    {zwx zwy : Option Addr} {zwz : Array (Option Value)} {zxa zxb zxc zxd zxe zxf : Value}
    {zxg zxh : Option Addr} {zxi : Array (Option Value)} {zxj zxk zxl zxm zxn zxo : Value}
    {zxp zxq : Option Addr} {zxr : Array (Option Value)} {zxs zxt zxu zxv zxw zxx : Value}
    {zxy zxz : Option Addr} {zya : Array (Option Value)} {zyb zyc zyd zye zyf zyg : Value}
    {zyh zyi : Option Addr} {zyj : Array (Option Value)} {zyk zyl zym zyn zyo zyp : Value}
    {zyq zyr : Option Addr} {zys : Array (Option Value)} {zyt zyu zyv zyw zyx zyy : Value}
    {zyz zza : Option Addr} {zzb : Array (Option Value)} {zzc zzd zze zzf zzg zzh : Value}
    {zzi zzj : Option Addr} {zzk : Array (Option Value)} {zzl zzm zzn zzo zzp zzq : Value}
    {zzr zzs : Option Addr} {zzt : Array (Option Value)} {zzu zzv zzw zzx zzy zzz : Value}
    {zbaa zbab : Option Addr} {zbac : Array (Option Value)} {zbad zbae zbaf zbag zbah zbai : Value}
    {zbaj zbak : Option Addr} {zbal : Array (Option Value)} {zbam zban zbao zbap zbaq zbar : Value}
    {zbas : Tok}
    (zbat : W.nsIn K mainGlobals "_wall" = some (some (.ref zaa)))
    (zbau : W.nsIn K mainGlobals "found_beyond" = some (some (.ref zab)))
    (zbav : W.nsIn K mainGlobals "let_in" = some (some (.ref zac)))
    (zbaw : W.nsIn K mainGlobals "going_beyond" = some (some (.ref zad)))
    (zbax : W.nsIn K mainGlobals "let_out" = some (some (.ref zae)))
    (zbay : W.nsIn K mainGlobals "bound" = some (some (.ref zaf)))
    (zbaz : W.nsIn K mainGlobals "is_whole" = some (some (.ref zag)))
    (zbba : W.nsIn K mainGlobals "is_name" = some (some (.ref zah)))
    (zbbb : W.nsIn K mainGlobals "need_name" = some (some (.ref zai)))
    (zbbc : W.nsIn K mainGlobals "need_whole" = some (some (.ref zaj)))
    (zbbd : W.nsIn K mainGlobals "need_turns" = some (some (.ref zak)))
    (zbbe : W.nsIn K mainGlobals "need_each_once" = some (some (.ref zal)))
    (zbbf : W.nsIn K mainGlobals "rooms_spoken_of" = some (some (.ref zam)))
    (zbbg : W.nsIn K mainGlobals "need_rooms" = some (some (.ref zan)))
    (zbbh : W.nsIn K mainGlobals "added_people" = some (some (.ref zao)))
    (zbbi : W.nsIn K mainGlobals "need_space" = some (some (.ref zap)))
    (zbbj : W.nsIn K mainGlobals "_law_cell_at" = some (some (.ref zaq)))
    (zbbk : W.nsIn K mainGlobals "_law_mixed" = some (some (.ref zar)))
    (zbbl : W.nsIn K mainGlobals "_law_name" = some (some (.ref zas)))
    (zbbm : W.nsIn K mainGlobals "_law_rooms" = some (some (.ref zat)))
    (zbbn : W.nsIn K mainGlobals "_law_spec" = some (some (.ref zau)))
    (zbbo : W.nsIn K mainGlobals "_law_lets" = some (some (.ref zav)))
    (zbbp : W.nsIn K mainGlobals "_law_door" = some (some (.ref zaw)))
    (zbbq : W.nsIn K mainGlobals "_law_digits" = some (some (.ref zax)))
    (zbbr : W.nsIn K mainGlobals "_law_rooms_told" = some (some (.ref zay)))
    (zbbs : W.nsIn K mainGlobals "_law_spec_told" = some (some (.ref zaz)))
    (zbbt : W.nsIn K mainGlobals "_law_drawn_told" = some (some (.ref zba)))
    (zbbu : W.nsIn K mainGlobals "_law_drawn" = some (some (.ref zbb)))
    (zbbv : W.nsIn K mainGlobals "_law_house" = some (some (.ref zbc)))
    (zbbw : W.nsIn K mainGlobals "_law_cut" = some (some (.ref zbd)))
    (zbbx : W.nsIn K mainGlobals "_law_widened" = some (some (.ref zbe)))
    (zbby : W.nsIn K mainGlobals "law" = some (some (.ref zbf)))
    (zbbz : W.nsIn K mainGlobals "Door" = some (some (.ref zbg)))
    (zbca : W.nsIn K mainGlobals "Since" = some (some (.ref zbh)))
    (zbcb : W.nsIn K mainGlobals "Until" = some (some (.ref zbi)))
    (zbcc : W.nsIn K mainGlobals "Beat" = some (some (.ref zbj)))
    (zbcd : W.nsIn K mainGlobals "Marked" = some (some (.ref zbk)))
    (zbce : W.nsIn K mainGlobals "Told" = some (some (.ref zbl)))
    (zbcf : W.nsIn K mainGlobals "Wider" = some (some (.ref zbm)))
    (zbcg : W.nsIn K mainGlobals "House" = some (some (.ref zbn)))
    (zbch : W.nsIn K mainGlobals "OutError" = some (some (.ref zbo)))
    (zbci : W.nsIn K mainGlobals "NoDoor" = some (some (.ref zbp)))
    (zbcj : W.nsIn K mainGlobals "NoHouse" = some (some (.ref zbq)))
    (zbck : W.nsIn K mainGlobals "NoTurn" = some (some (.ref zbr)))
    (zbcl : W.nsIn K mainGlobals "Twice" = some (some (.ref zbs)))
    (zbcm : W.nsIn K mainGlobals "NoRoom" = some (some (.ref zbt)))
    (zbcn : W.nsIn K mainGlobals "Unknown" = some (some (.ref zbu)))
    (zbco : W.findIn K (.ref zbg) "__init__" = some (some (.ref zbv)))
    (zbcp : W.findIn K (.ref zbg) "lets" = some (some (.ref zbw)))
    (zbcq : W.findIn K (.ref zbg) "is_exit" = some (some (.ref zbx)))
    (zbcr : W.findIn K (.ref zbg) "words" = some (some (.ref zby)))
    (zbcs : W.findIn K (.ref zbh) "__init__" = some (some (.ref zbz)))
    (zbct : W.findIn K (.ref zbh) "lets" = some (some (.ref zca)))
    (zbcu : W.findIn K (.ref zbh) "words" = some (some (.ref zcb)))
    (zbcv : W.findIn K (.ref zbi) "__init__" = some (some (.ref zcc)))
    (zbcw : W.findIn K (.ref zbi) "lets" = some (some (.ref zcd)))
    (zbcx : W.findIn K (.ref zbi) "words" = some (some (.ref zce)))
    (zbcy : W.findIn K (.ref zbj) "__init__" = some (some (.ref zcf)))
    (zbcz : W.findIn K (.ref zbj) "lets" = some (some (.ref zcg)))
    (zbda : W.findIn K (.ref zbj) "words" = some (some (.ref zch)))
    (zbdb : W.findIn K (.ref zbk) "__init__" = some (some (.ref zci)))
    (zbdc : W.findIn K (.ref zbk) "lets" = some (some (.ref zcj)))
    (zbdd : W.findIn K (.ref zbk) "words" = some (some (.ref zck)))
    (zbde : W.findIn K (.ref zbl) "__init__" = some (some (.ref zcl)))
    (zbdf : W.findIn K (.ref zbl) "lets" = some (some (.ref zcm)))
    (zbdg : W.findIn K (.ref zbl) "words" = some (some (.ref zcn)))
    (zbdh : W.findIn K (.ref zbm) "__init__" = some (some (.ref zco)))
    (zbdi : W.findIn K (.ref zbm) "lets" = some (some (.ref zcp)))
    (zbdj : W.findIn K (.ref zbm) "words" = some (some (.ref zcq)))
    (zbdk : W.findIn K (.ref zbn) "__init__" = some (some (.ref zcr)))
    (zbdl : W.findIn K (.ref zbn) "rooms" = some (some (.ref zcs)))
    (zbdm : W.findIn K (.ref zbn) "doors" = some (some (.ref zct)))
    (zbdn : W.findIn K (.ref zbn) "need_room" = some (some (.ref zcu)))
    (zbdo : W.findIn K (.ref zbn) "holds" = some (some (.ref zcv)))
    (zbdp : W.findIn K (.ref zbn) "found" = some (some (.ref zcw)))
    (zbdq : W.findIn K (.ref zbn) "into" = some (some (.ref zcx)))
    (zbdr : W.findIn K (.ref zbn) "from_room" = some (some (.ref zcy)))
    (zbds : W.findIn K (.ref zbn) "door" = some (some (.ref zcz)))
    (zbdt : W.findIn K (.ref zbn) "lets" = some (some (.ref zda)))
    (zbdu : W.findIn K (.ref zbn) "total" = some (some (.ref zdb)))
    (zbdv : W.findIn K (.ref zbn) "pairs" = some (some (.ref zdc)))
    (zbdw : K.lookup zaa = some ⟨zdg, zdd, .func (W.fnOf "_wall" "_wall" (defArgs s__wall) (defBody s__wall) (defScope s__wall) .none zdh zdi zdj zde zdk zdl), zdf⟩)
    (zbdx : W.codeIn K zdk "_wall" = true)
    (zbdy : W.keepIn K (.ref zaa) = true)
    (zbdz : K.lookup zab = some ⟨zdp, zdm, .func (W.fnOf "found_beyond" "found_beyond" (defArgs s_found_beyond) (defBody s_found_beyond) (defScope s_found_beyond) .none zdq zdr zds zdn zdt zdu), zdo⟩)
    (zbea : W.codeIn K zdt "found_beyond" = true)
    (zbeb : W.keepIn K (.ref zab) = true)
    (zbec : K.lookup zac = some ⟨zdy, zdv, .func (W.fnOf "let_in" "let_in" (defArgs s_let_in) (defBody s_let_in) (defScope s_let_in) .none zdz zea zeb zdw zec zed), zdx⟩)
    (zbed : W.codeIn K zec "let_in" = true)
    (zbee : W.keepIn K (.ref zac) = true)
    (zbef : K.lookup zad = some ⟨zeh, zee, .func (W.fnOf "going_beyond" "going_beyond" (defArgs s_going_beyond) (defBody s_going_beyond) (defScope s_going_beyond) .none zei zej zek zef zel zem), zeg⟩)
    (zbeg : W.codeIn K zel "going_beyond" = true)
    (zbeh : W.keepIn K (.ref zad) = true)
    (zbei : K.lookup zae = some ⟨zeq, zen, .func (W.fnOf "let_out" "let_out" (defArgs s_let_out) (defBody s_let_out) (defScope s_let_out) .none zer zes zet zeo zeu zev), zep⟩)
    (zbej : W.codeIn K zeu "let_out" = true)
    (zbek : W.keepIn K (.ref zae) = true)
    (zbel : K.lookup zaf = some ⟨zez, zew, .func (W.fnOf "bound" "bound" (defArgs s_bound) (defBody s_bound) (defScope s_bound) .none zfa zfb zfc zex zfd zfe), zey⟩)
    (zbem : W.codeIn K zfd "bound" = true)
    (zben : W.keepIn K (.ref zaf) = true)
    (zbeo : K.lookup zag = some ⟨zfi, zff, .func (W.fnOf "is_whole" "is_whole" (defArgs s_is_whole) (defBody s_is_whole) (defScope s_is_whole) .none zfj zfk zfl zfg zfm zfn), zfh⟩)
    (zbep : W.codeIn K zfm "is_whole" = true)
    (zbeq : W.keepIn K (.ref zag) = true)
    (zber : K.lookup zah = some ⟨zfr, zfo, .func (W.fnOf "is_name" "is_name" (defArgs s_is_name) (defBody s_is_name) (defScope s_is_name) .none zfs zft zfu zfp zfv zfw), zfq⟩)
    (zbes : W.codeIn K zfv "is_name" = true)
    (zbet : W.keepIn K (.ref zah) = true)
    (zbeu : K.lookup zai = some ⟨zga, zfx, .func (W.fnOf "need_name" "need_name" (defArgs s_need_name) (defBody s_need_name) (defScope s_need_name) .none zgb zgc zgd zfy zge zgf), zfz⟩)
    (zbev : W.codeIn K zge "need_name" = true)
    (zbew : W.keepIn K (.ref zai) = true)
    (zbex : K.lookup zaj = some ⟨zgj, zgg, .func (W.fnOf "need_whole" "need_whole" (defArgs s_need_whole) (defBody s_need_whole) (defScope s_need_whole) .none zgk zgl zgm zgh zgn zgo), zgi⟩)
    (zbey : W.codeIn K zgn "need_whole" = true)
    (zbez : W.keepIn K (.ref zaj) = true)
    (zbfa : K.lookup zak = some ⟨zgs, zgp, .func (W.fnOf "need_turns" "need_turns" (defArgs s_need_turns) (defBody s_need_turns) (defScope s_need_turns) .none zgt zgu zgv zgq zgw zgx), zgr⟩)
    (zbfb : W.codeIn K zgw "need_turns" = true)
    (zbfc : W.keepIn K (.ref zak) = true)
    (zbfd : K.lookup zal = some ⟨zhb, zgy, .func (W.fnOf "need_each_once" "need_each_once" (defArgs s_need_each_once) (defBody s_need_each_once) (defScope s_need_each_once) .none zhc zhd zhe zgz zhf zhg), zha⟩)
    (zbfe : W.codeIn K zhf "need_each_once" = true)
    (zbff : W.keepIn K (.ref zal) = true)
    (zbfg : K.lookup zam = some ⟨zhk, zhh, .func (W.fnOf "rooms_spoken_of" "rooms_spoken_of" (defArgs s_rooms_spoken_of) (defBody s_rooms_spoken_of) (defScope s_rooms_spoken_of) .none zhl zhm zhn zhi zho zhp), zhj⟩)
    (zbfh : W.codeIn K zho "rooms_spoken_of" = true)
    (zbfi : W.keepIn K (.ref zam) = true)
    (zbfj : K.lookup zan = some ⟨zht, zhq, .func (W.fnOf "need_rooms" "need_rooms" (defArgs s_need_rooms) (defBody s_need_rooms) (defScope s_need_rooms) .none zhu zhv zhw zhr zhx zhy), zhs⟩)
    (zbfk : W.codeIn K zhx "need_rooms" = true)
    (zbfl : W.keepIn K (.ref zan) = true)
    (zbfm : K.lookup zao = some ⟨zic, zhz, .func (W.fnOf "added_people" "added_people" (defArgs s_added_people) (defBody s_added_people) (defScope s_added_people) .none zid zie zif zia zig zih), zib⟩)
    (zbfn : W.codeIn K zig "added_people" = true)
    (zbfo : W.keepIn K (.ref zao) = true)
    (zbfp : K.lookup zap = some ⟨zil, zii, .func (W.fnOf "need_space" "need_space" (defArgs s_need_space) (defBody s_need_space) (defScope s_need_space) .none zim zin zio zij ziq zir), zik⟩)
    (zbfq : W.codeIn K ziq "need_space" = true)
    (zbfr : W.keepIn K (.ref zap) = true)
    (zbfs : K.lookup zaq = some ⟨ziv, zis, .func (W.fnOf "_law_cell_at" "_law_cell_at" (defArgs s__law_cell_at) (defBody s__law_cell_at) (defScope s__law_cell_at) .none ziw zix ziy zit ziz zja), ziu⟩)
    (zbft : W.codeIn K ziz "_law_cell_at" = true)
    (zbfu : W.keepIn K (.ref zaq) = true)
    (zbfv : K.lookup zar = some ⟨zje, zjb, .func (W.fnOf "_law_mixed" "_law_mixed" (defArgs s__law_mixed) (defBody s__law_mixed) (defScope s__law_mixed) .none zjf zjg zjh zjc zji zjj), zjd⟩)
    (zbfw : W.codeIn K zji "_law_mixed" = true)
    (zbfx : W.keepIn K (.ref zar) = true)
    (zbfy : K.lookup zas = some ⟨zjn, zjk, .func (W.fnOf "_law_name" "_law_name" (defArgs s__law_name) (defBody s__law_name) (defScope s__law_name) .none zjo zjp zjq zjl zjr zjs), zjm⟩)
    (zbfz : W.codeIn K zjr "_law_name" = true)
    (zbga : W.keepIn K (.ref zas) = true)
    (zbgb : K.lookup zat = some ⟨zjw, zjt, .func (W.fnOf "_law_rooms" "_law_rooms" (defArgs s__law_rooms) (defBody s__law_rooms) (defScope s__law_rooms) .none zjx zjy zjz zju zka zkb), zjv⟩)
    (zbgc : W.codeIn K zka "_law_rooms" = true)
    (zbgd : W.keepIn K (.ref zat) = true)
    (zbge : K.lookup zau = some ⟨zkf, zkc, .func (W.fnOf "_law_spec" "_law_spec" (defArgs s__law_spec) (defBody s__law_spec) (defScope s__law_spec) .none zkg zkh zki zkd zkj zkk), zke⟩)
    (zbgf : W.codeIn K zkj "_law_spec" = true)
    (zbgg : W.keepIn K (.ref zau) = true)
    (zbgh : K.lookup zav = some ⟨zko, zkl, .func (W.fnOf "_law_lets" "_law_lets" (defArgs s__law_lets) (defBody s__law_lets) (defScope s__law_lets) .none zkp zkq zkr zkm zks zkt), zkn⟩)
    (zbgi : W.codeIn K zks "_law_lets" = true)
    (zbgj : W.keepIn K (.ref zav) = true)
    (zbgk : K.lookup zaw = some ⟨zkx, zku, .func (W.fnOf "_law_door" "_law_door" (defArgs s__law_door) (defBody s__law_door) (defScope s__law_door) .none zky zkz zla zkv zlb zlc), zkw⟩)
    (zbgl : W.codeIn K zlb "_law_door" = true)
    (zbgm : W.keepIn K (.ref zaw) = true)
    (zbgn : K.lookup zax = some ⟨zlg, zld, .func (W.fnOf "_law_digits" "_law_digits" (defArgs s__law_digits) (defBody s__law_digits) (defScope s__law_digits) .none zlh zli zlj zle zlk zll), zlf⟩)
    (zbgo : W.codeIn K zlk "_law_digits" = true)
    (zbgp : W.keepIn K (.ref zax) = true)
    (zbgq : K.lookup zay = some ⟨zlp, zlm, .func (W.fnOf "_law_rooms_told" "_law_rooms_told" (defArgs s__law_rooms_told) (defBody s__law_rooms_told) (defScope s__law_rooms_told) .none zlq zlr zls zln zlt zlu), zlo⟩)
    (zbgr : W.codeIn K zlt "_law_rooms_told" = true)
    (zbgs : W.keepIn K (.ref zay) = true)
    (zbgt : K.lookup zaz = some ⟨zly, zlv, .func (W.fnOf "_law_spec_told" "_law_spec_told" (defArgs s__law_spec_told) (defBody s__law_spec_told) (defScope s__law_spec_told) .none zlz zma zmb zlw zmc zmd), zlx⟩)
    (zbgu : W.codeIn K zmc "_law_spec_told" = true)
    (zbgv : W.keepIn K (.ref zaz) = true)
    (zbgw : K.lookup zba = some ⟨zmh, zme, .func (W.fnOf "_law_drawn_told" "_law_drawn_told" (defArgs s__law_drawn_told) (defBody s__law_drawn_told) (defScope s__law_drawn_told) .none zmi zmj zmk zmf zml zmm), zmg⟩)
    (zbgx : W.codeIn K zml "_law_drawn_told" = true)
    (zbgy : W.keepIn K (.ref zba) = true)
    (zbgz : K.lookup zbb = some ⟨zmq, zmn, .func (W.fnOf "_law_drawn" "_law_drawn" (defArgs s__law_drawn) (defBody s__law_drawn) (defScope s__law_drawn) .none zmr zms zmt zmo zmu zmv), zmp⟩)
    (zbha : W.codeIn K zmu "_law_drawn" = true)
    (zbhb : W.keepIn K (.ref zbb) = true)
    (zbhc : K.lookup zbc = some ⟨zmz, zmw, .func (W.fnOf "_law_house" "_law_house" (defArgs s__law_house) (defBody s__law_house) (defScope s__law_house) .none zna znb znc zmx znd zne), zmy⟩)
    (zbhd : W.codeIn K znd "_law_house" = true)
    (zbhe : W.keepIn K (.ref zbc) = true)
    (zbhf : K.lookup zbd = some ⟨zni, znf, .func (W.fnOf "_law_cut" "_law_cut" (defArgs s__law_cut) (defBody s__law_cut) (defScope s__law_cut) .none znj znk znl zng znm znn), znh⟩)
    (zbhg : W.codeIn K znm "_law_cut" = true)
    (zbhh : W.keepIn K (.ref zbd) = true)
    (zbhi : K.lookup zbe = some ⟨znr, zno, .func (W.fnOf "_law_widened" "_law_widened" (defArgs s__law_widened) (defBody s__law_widened) (defScope s__law_widened) .none zns znt znu znp znv znw), znq⟩)
    (zbhj : W.codeIn K znv "_law_widened" = true)
    (zbhk : W.keepIn K (.ref zbe) = true)
    (zbhl : K.lookup zbf = some ⟨zoa, znx, .func (W.fnOf "law" "law" (defArgs s_law) (defBody s_law) (defScope s_law) .none zob zoc zod zny zoe zof), znz⟩)
    (zbhm : W.codeIn K zoe "law" = true)
    (zbhn : W.keepIn K (.ref zbf) = true)
    (zbho : K.lookup zbv = some ⟨zoj, zog, .func (W.fnOf "__init__" "Door.__init__" (defArgs s_Door___init__) (defBody s_Door___init__) (defScope s_Door___init__) (.ref zop) zok zol zom zoh zon zoo), zoi⟩)
    (zbhp : W.codeIn K zon "Door.__init__" = true)
    (zbhq : W.keepIn K (.ref zbv) = true)
    (zbhr : K.lookup zop = some ⟨zor, zos, .seq #[.none, .int 1 zoq] zot, zou⟩)
    (zbhs : K.lookup zbw = some ⟨zoy, zov, .func (W.fnOf "lets" "Door.lets" (defArgs s_Door_lets) (defBody s_Door_lets) (defScope s_Door_lets) .none zoz zpa zpb zow zpc zpd), zox⟩)
    (zbht : W.codeIn K zpc "Door.lets" = true)
    (zbhu : W.keepIn K (.ref zbw) = true)
    (zbhv : K.lookup zbx = some ⟨zph, zpe, .func (W.fnOf "is_exit" "Door.is_exit" (defArgs s_Door_is_exit) (defBody s_Door_is_exit) (defScope s_Door_is_exit) .none zpi zpj zpk zpf zpl zpm), zpg⟩)
    (zbhw : W.codeIn K zpl "Door.is_exit" = true)
    (zbhx : W.keepIn K (.ref zbx) = true)
    (zbhy : K.lookup zby = some ⟨zpq, zpn, .func (W.fnOf "words" "Door.words" (defArgs s_Door_words) (defBody s_Door_words) (defScope s_Door_words) .none zpr zps zpt zpo zpu zpv), zpp⟩)
    (zbhz : W.codeIn K zpu "Door.words" = true)
    (zbia : W.keepIn K (.ref zby) = true)
    (zbib : K.lookup zbz = some ⟨zpz, zpw, .func (W.fnOf "__init__" "Since.__init__" (defArgs s_Since___init__) (defBody s_Since___init__) (defScope s_Since___init__) .none zqa zqb zqc zpx zqd zqe), zpy⟩)
    (zbic : W.codeIn K zqd "Since.__init__" = true)
    (zbid : W.keepIn K (.ref zbz) = true)
    (zbie : K.lookup zca = some ⟨zqi, zqf, .func (W.fnOf "lets" "Since.lets" (defArgs s_Since_lets) (defBody s_Since_lets) (defScope s_Since_lets) .none zqj zqk zql zqg zqm zqn), zqh⟩)
    (zbif : W.codeIn K zqm "Since.lets" = true)
    (zbig : W.keepIn K (.ref zca) = true)
    (zbih : K.lookup zcb = some ⟨zqr, zqo, .func (W.fnOf "words" "Since.words" (defArgs s_Since_words) (defBody s_Since_words) (defScope s_Since_words) .none zqs zqt zqu zqp zqv zqw), zqq⟩)
    (zbii : W.codeIn K zqv "Since.words" = true)
    (zbij : W.keepIn K (.ref zcb) = true)
    (zbik : K.lookup zcc = some ⟨zra, zqx, .func (W.fnOf "__init__" "Until.__init__" (defArgs s_Until___init__) (defBody s_Until___init__) (defScope s_Until___init__) .none zrb zrc zrd zqy zre zrf), zqz⟩)
    (zbil : W.codeIn K zre "Until.__init__" = true)
    (zbim : W.keepIn K (.ref zcc) = true)
    (zbin : K.lookup zcd = some ⟨zrj, zrg, .func (W.fnOf "lets" "Until.lets" (defArgs s_Until_lets) (defBody s_Until_lets) (defScope s_Until_lets) .none zrk zrl zrm zrh zrn zro), zri⟩)
    (zbio : W.codeIn K zrn "Until.lets" = true)
    (zbip : W.keepIn K (.ref zcd) = true)
    (zbiq : K.lookup zce = some ⟨zrs, zrp, .func (W.fnOf "words" "Until.words" (defArgs s_Until_words) (defBody s_Until_words) (defScope s_Until_words) .none zrt zru zrv zrq zrw zrx), zrr⟩)
    (zbir : W.codeIn K zrw "Until.words" = true)
    (zbis : W.keepIn K (.ref zce) = true)
    (zbit : K.lookup zcf = some ⟨zsb, zry, .func (W.fnOf "__init__" "Beat.__init__" (defArgs s_Beat___init__) (defBody s_Beat___init__) (defScope s_Beat___init__) (.ref zsh) zsc zsd zse zrz zsf zsg), zsa⟩)
    (zbiu : W.codeIn K zsf "Beat.__init__" = true)
    (zbiv : W.keepIn K (.ref zcf) = true)
    (zbiw : K.lookup zsh = some ⟨zsj, zsk, .seq #[.int 0 zsi] zsl, zsm⟩)
    (zbix : K.lookup zcg = some ⟨zsq, zsn, .func (W.fnOf "lets" "Beat.lets" (defArgs s_Beat_lets) (defBody s_Beat_lets) (defScope s_Beat_lets) .none zsr zss zst zso zsu zsv), zsp⟩)
    (zbiy : W.codeIn K zsu "Beat.lets" = true)
    (zbiz : W.keepIn K (.ref zcg) = true)
    (zbja : K.lookup zch = some ⟨zsz, zsw, .func (W.fnOf "words" "Beat.words" (defArgs s_Beat_words) (defBody s_Beat_words) (defScope s_Beat_words) .none zta ztb ztc zsx ztd zte), zsy⟩)
    (zbjb : W.codeIn K ztd "Beat.words" = true)
    (zbjc : W.keepIn K (.ref zch) = true)
    (zbjd : K.lookup zci = some ⟨zti, ztf, .func (W.fnOf "__init__" "Marked.__init__" (defArgs s_Marked___init__) (defBody s_Marked___init__) (defScope s_Marked___init__) .none ztj ztk ztl ztg ztm ztn), zth⟩)
    (zbje : W.codeIn K ztm "Marked.__init__" = true)
    (zbjf : W.keepIn K (.ref zci) = true)
    (zbjg : K.lookup zcj = some ⟨ztr, zto, .func (W.fnOf "lets" "Marked.lets" (defArgs s_Marked_lets) (defBody s_Marked_lets) (defScope s_Marked_lets) .none zts ztt ztu ztp ztv ztw), ztq⟩)
    (zbjh : W.codeIn K ztv "Marked.lets" = true)
    (zbji : W.keepIn K (.ref zcj) = true)
    (zbjj : K.lookup zck = some ⟨zua, ztx, .func (W.fnOf "words" "Marked.words" (defArgs s_Marked_words) (defBody s_Marked_words) (defScope s_Marked_words) .none zub zuc zud zty zue zuf), ztz⟩)
    (zbjk : W.codeIn K zue "Marked.words" = true)
    (zbjl : W.keepIn K (.ref zck) = true)
    (zbjm : K.lookup zcl = some ⟨zuj, zug, .func (W.fnOf "__init__" "Told.__init__" (defArgs s_Told___init__) (defBody s_Told___init__) (defScope s_Told___init__) .none zuk zul zum zuh zun zuo), zui⟩)
    (zbjn : W.codeIn K zun "Told.__init__" = true)
    (zbjo : W.keepIn K (.ref zcl) = true)
    (zbjp : K.lookup zcm = some ⟨zus, zup, .func (W.fnOf "lets" "Told.lets" (defArgs s_Told_lets) (defBody s_Told_lets) (defScope s_Told_lets) .none zut zuu zuv zuq zuw zux), zur⟩)
    (zbjq : W.codeIn K zuw "Told.lets" = true)
    (zbjr : W.keepIn K (.ref zcm) = true)
    (zbjs : K.lookup zcn = some ⟨zvb, zuy, .func (W.fnOf "words" "Told.words" (defArgs s_Told_words) (defBody s_Told_words) (defScope s_Told_words) .none zvc zvd zve zuz zvf zvg), zva⟩)
    (zbjt : W.codeIn K zvf "Told.words" = true)
    (zbju : W.keepIn K (.ref zcn) = true)
    (zbjv : K.lookup zco = some ⟨zvk, zvh, .func (W.fnOf "__init__" "Wider.__init__" (defArgs s_Wider___init__) (defBody s_Wider___init__) (defScope s_Wider___init__) .none zvl zvm zvn zvi zvo zvp), zvj⟩)
    (zbjw : W.codeIn K zvo "Wider.__init__" = true)
    (zbjx : W.keepIn K (.ref zco) = true)
    (zbjy : K.lookup zcp = some ⟨zvt, zvq, .func (W.fnOf "lets" "Wider.lets" (defArgs s_Wider_lets) (defBody s_Wider_lets) (defScope s_Wider_lets) .none zvu zvv zvw zvr zvx zvy), zvs⟩)
    (zbjz : W.codeIn K zvx "Wider.lets" = true)
    (zbka : W.keepIn K (.ref zcp) = true)
    (zbkb : K.lookup zcq = some ⟨zwc, zvz, .func (W.fnOf "words" "Wider.words" (defArgs s_Wider_words) (defBody s_Wider_words) (defScope s_Wider_words) .none zwd zwe zwf zwa zwg zwh), zwb⟩)
    (zbkc : W.codeIn K zwg "Wider.words" = true)
    (zbkd : W.keepIn K (.ref zcq) = true)
    (zbke : K.lookup zcr = some ⟨zwl, zwi, .func (W.fnOf "__init__" "House.__init__" (defArgs s_House___init__) (defBody s_House___init__) (defScope s_House___init__) (.ref zwr) zwm zwn zwo zwj zwp zwq), zwk⟩)
    (zbkf : W.codeIn K zwp "House.__init__" = true)
    (zbkg : W.keepIn K (.ref zcr) = true)
    (zbkh : K.lookup zwr = some ⟨zwt, zwu, .seq #[.int 0 zws] zwv, zww⟩)
    (zbki : K.lookup zcs = some ⟨zxa, zwx, .func (W.fnOf "rooms" "House.rooms" (defArgs s_House_rooms) (defBody s_House_rooms) (defScope s_House_rooms) .none zxb zxc zxd zwy zxe zxf), zwz⟩)
    (zbkj : W.codeIn K zxe "House.rooms" = true)
    (zbkk : W.keepIn K (.ref zcs) = true)
    (zbkl : K.lookup zct = some ⟨zxj, zxg, .func (W.fnOf "doors" "House.doors" (defArgs s_House_doors) (defBody s_House_doors) (defScope s_House_doors) .none zxk zxl zxm zxh zxn zxo), zxi⟩)
    (zbkm : W.codeIn K zxn "House.doors" = true)
    (zbkn : W.keepIn K (.ref zct) = true)
    (zbko : K.lookup zcu = some ⟨zxs, zxp, .func (W.fnOf "need_room" "House.need_room" (defArgs s_House_need_room) (defBody s_House_need_room) (defScope s_House_need_room) .none zxt zxu zxv zxq zxw zxx), zxr⟩)
    (zbkp : W.codeIn K zxw "House.need_room" = true)
    (zbkq : W.keepIn K (.ref zcu) = true)
    (zbkr : K.lookup zcv = some ⟨zyb, zxy, .func (W.fnOf "holds" "House.holds" (defArgs s_House_holds) (defBody s_House_holds) (defScope s_House_holds) .none zyc zyd zye zxz zyf zyg), zya⟩)
    (zbks : W.codeIn K zyf "House.holds" = true)
    (zbkt : W.keepIn K (.ref zcv) = true)
    (zbku : K.lookup zcw = some ⟨zyk, zyh, .func (W.fnOf "found" "House.found" (defArgs s_House_found) (defBody s_House_found) (defScope s_House_found) .none zyl zym zyn zyi zyo zyp), zyj⟩)
    (zbkv : W.codeIn K zyo "House.found" = true)
    (zbkw : W.keepIn K (.ref zcw) = true)
    (zbkx : K.lookup zcx = some ⟨zyt, zyq, .func (W.fnOf "into" "House.into" (defArgs s_House_into) (defBody s_House_into) (defScope s_House_into) .none zyu zyv zyw zyr zyx zyy), zys⟩)
    (zbky : W.codeIn K zyx "House.into" = true)
    (zbkz : W.keepIn K (.ref zcx) = true)
    (zbla : K.lookup zcy = some ⟨zzc, zyz, .func (W.fnOf "from_room" "House.from_room" (defArgs s_House_from_room) (defBody s_House_from_room) (defScope s_House_from_room) .none zzd zze zzf zza zzg zzh), zzb⟩)
    (zblb : W.codeIn K zzg "House.from_room" = true)
    (zblc : W.keepIn K (.ref zcy) = true)
    (zbld : K.lookup zcz = some ⟨zzl, zzi, .func (W.fnOf "door" "House.door" (defArgs s_House_door) (defBody s_House_door) (defScope s_House_door) .none zzm zzn zzo zzj zzp zzq), zzk⟩)
    (zble : W.codeIn K zzp "House.door" = true)
    (zblf : W.keepIn K (.ref zcz) = true)
    (zblg : K.lookup zda = some ⟨zzu, zzr, .func (W.fnOf "lets" "House.lets" (defArgs s_House_lets) (defBody s_House_lets) (defScope s_House_lets) .none zzv zzw zzx zzs zzy zzz), zzt⟩)
    (zblh : W.codeIn K zzy "House.lets" = true)
    (zbli : W.keepIn K (.ref zda) = true)
    (zblj : K.lookup zdb = some ⟨zbad, zbaa, .func (W.fnOf "total" "House.total" (defArgs s_House_total) (defBody s_House_total) (defScope s_House_total) .none zbae zbaf zbag zbab zbah zbai), zbac⟩)
    (zblk : W.codeIn K zbah "House.total" = true)
    (zbll : W.keepIn K (.ref zdb) = true)
    (zblm : K.lookup zdc = some ⟨zbam, zbaj, .func (W.fnOf "pairs" "House.pairs" (defArgs s_House_pairs) (defBody s_House_pairs) (defScope s_House_pairs) .none zban zbao zbap zbak zbaq zbar), zbal⟩)
    (zbln : W.codeIn K zbaq "House.pairs" = true)
    (zblo : W.keepIn K (.ref zdc) = true)
    (zblp : W.plainGet K zbg Str.empty = true)
    (zblq : W.hasDictIn K zbg = true)
    (zblr : W.plainOver K zbg = true)
    (zbls : W.findIn K (.ref zbg) "__setattr__" = some (some (.builtin "object.__setattr__")))
    (zblt : W.makesIn K zbg = true)
    (zblu : W.keepIn K (.ref zbg) = true)
    (zblv : W.findIn K (.ref zbg) "__class__" = some (some (.builtin "object.__class__")))
    (zblw : W.mroIn K zbg (.type "object") = some true)
    (zblx : W.findIn K (.ref zbg) "name" = some none)
    (zbly : W.findIn K (.ref zbg) "start" = some none)
    (zblz : W.findIn K (.ref zbg) "end" = some none)
    (zbma : W.findIn K (.ref zbg) "wide" = some none)
    (zbmb : W.findIn K (.ref zbg) "since" = some none)
    (zbmc : W.findIn K (.ref zbg) "until" = some none)
    (zbmd : W.findIn K (.ref zbg) "every" = some none)
    (zbme : W.findIn K (.ref zbg) "bits" = some none)
    (zbmf : W.findIn K (.ref zbg) "letting" = some none)
    (zbmg : W.findIn K (.ref zbg) "inner" = some none)
    (zbmh : W.findIn K (.ref zbg) "turn" = some none)
    (zbmi : W.findIn K (.ref zbg) "more" = some none)
    (zbmj : W.findIn K (.ref zbg) "first" = some none)
    (zbmk : W.findIn K (.ref zbg) "last" = some none)
    (zbml : W.findIn K (.ref zbg) "sizes" = some none)
    (zbmm : W.findIn K (.ref zbg) "people" = some none)
    (zbmn : W.findIn K (.ref zbg) "named_doors" = some none)
    (zbmo : W.findIn K (.ref zbg) "__init__" = some (some (.ref zbv)))
    (zbmp : W.isFn K (.ref zbv) = true)
    (zbmq : W.findIn K (.ref zbg) "lets" = some (some (.ref zbw)))
    (zbmr : W.isFn K (.ref zbw) = true)
    (zbms : W.findIn K (.ref zbg) "is_exit" = some (some (.ref zbx)))
    (zbmt : W.isFn K (.ref zbx) = true)
    (zbmu : W.findIn K (.ref zbg) "words" = some (some (.ref zby)))
    (zbmv : W.isFn K (.ref zby) = true)
    (zbmw : W.plainGet K zbh Str.empty = true)
    (zbmx : W.hasDictIn K zbh = true)
    (zbmy : W.plainOver K zbh = true)
    (zbmz : W.findIn K (.ref zbh) "__setattr__" = some (some (.builtin "object.__setattr__")))
    (zbna : W.makesIn K zbh = true)
    (zbnb : W.keepIn K (.ref zbh) = true)
    (zbnc : W.findIn K (.ref zbh) "__class__" = some (some (.builtin "object.__class__")))
    (zbnd : W.mroIn K zbh (.type "object") = some true)
    (zbne : W.findIn K (.ref zbh) "name" = some none)
    (zbnf : W.findIn K (.ref zbh) "start" = some none)
    (zbng : W.findIn K (.ref zbh) "end" = some none)
    (zbnh : W.findIn K (.ref zbh) "wide" = some none)
    (zbni : W.findIn K (.ref zbh) "since" = some none)
    (zbnj : W.findIn K (.ref zbh) "until" = some none)
    (zbnk : W.findIn K (.ref zbh) "every" = some none)
    (zbnl : W.findIn K (.ref zbh) "bits" = some none)
    (zbnm : W.findIn K (.ref zbh) "letting" = some none)
    (zbnn : W.findIn K (.ref zbh) "inner" = some none)
    (zbno : W.findIn K (.ref zbh) "turn" = some none)
    (zbnp : W.findIn K (.ref zbh) "more" = some none)
    (zbnq : W.findIn K (.ref zbh) "first" = some none)
    (zbnr : W.findIn K (.ref zbh) "last" = some none)
    (zbns : W.findIn K (.ref zbh) "sizes" = some none)
    (zbnt : W.findIn K (.ref zbh) "people" = some none)
    (zbnu : W.findIn K (.ref zbh) "named_doors" = some none)
    (zbnv : W.findIn K (.ref zbh) "__init__" = some (some (.ref zbz)))
    (zbnw : W.isFn K (.ref zbz) = true)
    (zbnx : W.findIn K (.ref zbh) "lets" = some (some (.ref zca)))
    (zbny : W.isFn K (.ref zca) = true)
    (zbnz : W.findIn K (.ref zbh) "words" = some (some (.ref zcb)))
    (zboa : W.isFn K (.ref zcb) = true)
    (zbob : W.findIn K (.ref zbh) "is_exit" = some (some (.ref zbx)))
    (zboc : W.isFn K (.ref zbx) = true)
    (zbod : W.plainGet K zbi Str.empty = true)
    (zboe : W.hasDictIn K zbi = true)
    (zbof : W.plainOver K zbi = true)
    (zbog : W.findIn K (.ref zbi) "__setattr__" = some (some (.builtin "object.__setattr__")))
    (zboh : W.makesIn K zbi = true)
    (zboi : W.keepIn K (.ref zbi) = true)
    (zboj : W.findIn K (.ref zbi) "__class__" = some (some (.builtin "object.__class__")))
    (zbok : W.mroIn K zbi (.type "object") = some true)
    (zbol : W.findIn K (.ref zbi) "name" = some none)
    (zbom : W.findIn K (.ref zbi) "start" = some none)
    (zbon : W.findIn K (.ref zbi) "end" = some none)
    (zboo : W.findIn K (.ref zbi) "wide" = some none)
    (zbop : W.findIn K (.ref zbi) "since" = some none)
    (zboq : W.findIn K (.ref zbi) "until" = some none)
    (zbor : W.findIn K (.ref zbi) "every" = some none)
    (zbos : W.findIn K (.ref zbi) "bits" = some none)
    (zbot : W.findIn K (.ref zbi) "letting" = some none)
    (zbou : W.findIn K (.ref zbi) "inner" = some none)
    (zbov : W.findIn K (.ref zbi) "turn" = some none)
    (zbow : W.findIn K (.ref zbi) "more" = some none)
    (zbox : W.findIn K (.ref zbi) "first" = some none)
    (zboy : W.findIn K (.ref zbi) "last" = some none)
    (zboz : W.findIn K (.ref zbi) "sizes" = some none)
    (zbpa : W.findIn K (.ref zbi) "people" = some none)
    (zbpb : W.findIn K (.ref zbi) "named_doors" = some none)
    (zbpc : W.findIn K (.ref zbi) "__init__" = some (some (.ref zcc)))
    (zbpd : W.isFn K (.ref zcc) = true)
    (zbpe : W.findIn K (.ref zbi) "lets" = some (some (.ref zcd)))
    (zbpf : W.isFn K (.ref zcd) = true)
    (zbpg : W.findIn K (.ref zbi) "words" = some (some (.ref zce)))
    (zbph : W.isFn K (.ref zce) = true)
    (zbpi : W.findIn K (.ref zbi) "is_exit" = some (some (.ref zbx)))
    (zbpj : W.isFn K (.ref zbx) = true)
    (zbpk : W.plainGet K zbj Str.empty = true)
    (zbpl : W.hasDictIn K zbj = true)
    (zbpm : W.plainOver K zbj = true)
    (zbpn : W.findIn K (.ref zbj) "__setattr__" = some (some (.builtin "object.__setattr__")))
    (zbpo : W.makesIn K zbj = true)
    (zbpp : W.keepIn K (.ref zbj) = true)
    (zbpq : W.findIn K (.ref zbj) "__class__" = some (some (.builtin "object.__class__")))
    (zbpr : W.mroIn K zbj (.type "object") = some true)
    (zbps : W.findIn K (.ref zbj) "name" = some none)
    (zbpt : W.findIn K (.ref zbj) "start" = some none)
    (zbpu : W.findIn K (.ref zbj) "end" = some none)
    (zbpv : W.findIn K (.ref zbj) "wide" = some none)
    (zbpw : W.findIn K (.ref zbj) "since" = some none)
    (zbpx : W.findIn K (.ref zbj) "until" = some none)
    (zbpy : W.findIn K (.ref zbj) "every" = some none)
    (zbpz : W.findIn K (.ref zbj) "bits" = some none)
    (zbqa : W.findIn K (.ref zbj) "letting" = some none)
    (zbqb : W.findIn K (.ref zbj) "inner" = some none)
    (zbqc : W.findIn K (.ref zbj) "turn" = some none)
    (zbqd : W.findIn K (.ref zbj) "more" = some none)
    (zbqe : W.findIn K (.ref zbj) "first" = some none)
    (zbqf : W.findIn K (.ref zbj) "last" = some none)
    (zbqg : W.findIn K (.ref zbj) "sizes" = some none)
    (zbqh : W.findIn K (.ref zbj) "people" = some none)
    (zbqi : W.findIn K (.ref zbj) "named_doors" = some none)
    (zbqj : W.findIn K (.ref zbj) "__init__" = some (some (.ref zcf)))
    (zbqk : W.isFn K (.ref zcf) = true)
    (zbql : W.findIn K (.ref zbj) "lets" = some (some (.ref zcg)))
    (zbqm : W.isFn K (.ref zcg) = true)
    (zbqn : W.findIn K (.ref zbj) "words" = some (some (.ref zch)))
    (zbqo : W.isFn K (.ref zch) = true)
    (zbqp : W.findIn K (.ref zbj) "is_exit" = some (some (.ref zbx)))
    (zbqq : W.isFn K (.ref zbx) = true)
    (zbqr : W.plainGet K zbk Str.empty = true)
    (zbqs : W.hasDictIn K zbk = true)
    (zbqt : W.plainOver K zbk = true)
    (zbqu : W.findIn K (.ref zbk) "__setattr__" = some (some (.builtin "object.__setattr__")))
    (zbqv : W.makesIn K zbk = true)
    (zbqw : W.keepIn K (.ref zbk) = true)
    (zbqx : W.findIn K (.ref zbk) "__class__" = some (some (.builtin "object.__class__")))
    (zbqy : W.mroIn K zbk (.type "object") = some true)
    (zbqz : W.findIn K (.ref zbk) "name" = some none)
    (zbra : W.findIn K (.ref zbk) "start" = some none)
    (zbrb : W.findIn K (.ref zbk) "end" = some none)
    (zbrc : W.findIn K (.ref zbk) "wide" = some none)
    (zbrd : W.findIn K (.ref zbk) "since" = some none)
    (zbre : W.findIn K (.ref zbk) "until" = some none)
    (zbrf : W.findIn K (.ref zbk) "every" = some none)
    (zbrg : W.findIn K (.ref zbk) "bits" = some none)
    (zbrh : W.findIn K (.ref zbk) "letting" = some none)
    (zbri : W.findIn K (.ref zbk) "inner" = some none)
    (zbrj : W.findIn K (.ref zbk) "turn" = some none)
    (zbrk : W.findIn K (.ref zbk) "more" = some none)
    (zbrl : W.findIn K (.ref zbk) "first" = some none)
    (zbrm : W.findIn K (.ref zbk) "last" = some none)
    (zbrn : W.findIn K (.ref zbk) "sizes" = some none)
    (zbro : W.findIn K (.ref zbk) "people" = some none)
    (zbrp : W.findIn K (.ref zbk) "named_doors" = some none)
    (zbrq : W.findIn K (.ref zbk) "__init__" = some (some (.ref zci)))
    (zbrr : W.isFn K (.ref zci) = true)
    (zbrs : W.findIn K (.ref zbk) "lets" = some (some (.ref zcj)))
    (zbrt : W.isFn K (.ref zcj) = true)
    (zbru : W.findIn K (.ref zbk) "words" = some (some (.ref zck)))
    (zbrv : W.isFn K (.ref zck) = true)
    (zbrw : W.findIn K (.ref zbk) "is_exit" = some (some (.ref zbx)))
    (zbrx : W.isFn K (.ref zbx) = true)
    (zbry : W.plainGet K zbl Str.empty = true)
    (zbrz : W.hasDictIn K zbl = true)
    (zbsa : W.plainOver K zbl = true)
    (zbsb : W.findIn K (.ref zbl) "__setattr__" = some (some (.builtin "object.__setattr__")))
    (zbsc : W.makesIn K zbl = true)
    (zbsd : W.keepIn K (.ref zbl) = true)
    (zbse : W.findIn K (.ref zbl) "__class__" = some (some (.builtin "object.__class__")))
    (zbsf : W.mroIn K zbl (.type "object") = some true)
    (zbsg : W.findIn K (.ref zbl) "name" = some none)
    (zbsh : W.findIn K (.ref zbl) "start" = some none)
    (zbsi : W.findIn K (.ref zbl) "end" = some none)
    (zbsj : W.findIn K (.ref zbl) "wide" = some none)
    (zbsk : W.findIn K (.ref zbl) "since" = some none)
    (zbsl : W.findIn K (.ref zbl) "until" = some none)
    (zbsm : W.findIn K (.ref zbl) "every" = some none)
    (zbsn : W.findIn K (.ref zbl) "bits" = some none)
    (zbso : W.findIn K (.ref zbl) "letting" = some none)
    (zbsp : W.findIn K (.ref zbl) "inner" = some none)
    (zbsq : W.findIn K (.ref zbl) "turn" = some none)
    (zbsr : W.findIn K (.ref zbl) "more" = some none)
    (zbss : W.findIn K (.ref zbl) "first" = some none)
    (zbst : W.findIn K (.ref zbl) "last" = some none)
    (zbsu : W.findIn K (.ref zbl) "sizes" = some none)
    (zbsv : W.findIn K (.ref zbl) "people" = some none)
    (zbsw : W.findIn K (.ref zbl) "named_doors" = some none)
    (zbsx : W.findIn K (.ref zbl) "__init__" = some (some (.ref zcl)))
    (zbsy : W.isFn K (.ref zcl) = true)
    (zbsz : W.findIn K (.ref zbl) "lets" = some (some (.ref zcm)))
    (zbta : W.isFn K (.ref zcm) = true)
    (zbtb : W.findIn K (.ref zbl) "words" = some (some (.ref zcn)))
    (zbtc : W.isFn K (.ref zcn) = true)
    (zbtd : W.findIn K (.ref zbl) "is_exit" = some (some (.ref zbx)))
    (zbte : W.isFn K (.ref zbx) = true)
    (zbtf : W.plainGet K zbm Str.empty = true)
    (zbtg : W.hasDictIn K zbm = true)
    (zbth : W.plainOver K zbm = true)
    (zbti : W.findIn K (.ref zbm) "__setattr__" = some (some (.builtin "object.__setattr__")))
    (zbtj : W.makesIn K zbm = true)
    (zbtk : W.keepIn K (.ref zbm) = true)
    (zbtl : W.findIn K (.ref zbm) "__class__" = some (some (.builtin "object.__class__")))
    (zbtm : W.mroIn K zbm (.type "object") = some true)
    (zbtn : W.findIn K (.ref zbm) "name" = some none)
    (zbto : W.findIn K (.ref zbm) "start" = some none)
    (zbtp : W.findIn K (.ref zbm) "end" = some none)
    (zbtq : W.findIn K (.ref zbm) "wide" = some none)
    (zbtr : W.findIn K (.ref zbm) "since" = some none)
    (zbts : W.findIn K (.ref zbm) "until" = some none)
    (zbtt : W.findIn K (.ref zbm) "every" = some none)
    (zbtu : W.findIn K (.ref zbm) "bits" = some none)
    (zbtv : W.findIn K (.ref zbm) "letting" = some none)
    (zbtw : W.findIn K (.ref zbm) "inner" = some none)
    (zbtx : W.findIn K (.ref zbm) "turn" = some none)
    (zbty : W.findIn K (.ref zbm) "more" = some none)
    (zbtz : W.findIn K (.ref zbm) "first" = some none)
    (zbua : W.findIn K (.ref zbm) "last" = some none)
    (zbub : W.findIn K (.ref zbm) "sizes" = some none)
    (zbuc : W.findIn K (.ref zbm) "people" = some none)
    (zbud : W.findIn K (.ref zbm) "named_doors" = some none)
    (zbue : W.findIn K (.ref zbm) "__init__" = some (some (.ref zco)))
    (zbuf : W.isFn K (.ref zco) = true)
    (zbug : W.findIn K (.ref zbm) "lets" = some (some (.ref zcp)))
    (zbuh : W.isFn K (.ref zcp) = true)
    (zbui : W.findIn K (.ref zbm) "words" = some (some (.ref zcq)))
    (zbuj : W.isFn K (.ref zcq) = true)
    (zbuk : W.findIn K (.ref zbm) "is_exit" = some (some (.ref zbx)))
    (zbul : W.isFn K (.ref zbx) = true)
    (zbum : W.plainGet K zbn Str.empty = true)
    (zbun : W.hasDictIn K zbn = true)
    (zbuo : W.plainOver K zbn = true)
    (zbup : W.findIn K (.ref zbn) "__setattr__" = some (some (.builtin "object.__setattr__")))
    (zbuq : W.makesIn K zbn = true)
    (zbur : W.keepIn K (.ref zbn) = true)
    (zbus : W.findIn K (.ref zbn) "__class__" = some (some (.builtin "object.__class__")))
    (zbut : W.mroIn K zbn (.type "object") = some true)
    (zbuu : W.findIn K (.ref zbn) "name" = some none)
    (zbuv : W.findIn K (.ref zbn) "start" = some none)
    (zbuw : W.findIn K (.ref zbn) "end" = some none)
    (zbux : W.findIn K (.ref zbn) "wide" = some none)
    (zbuy : W.findIn K (.ref zbn) "since" = some none)
    (zbuz : W.findIn K (.ref zbn) "until" = some none)
    (zbva : W.findIn K (.ref zbn) "every" = some none)
    (zbvb : W.findIn K (.ref zbn) "bits" = some none)
    (zbvc : W.findIn K (.ref zbn) "letting" = some none)
    (zbvd : W.findIn K (.ref zbn) "inner" = some none)
    (zbve : W.findIn K (.ref zbn) "turn" = some none)
    (zbvf : W.findIn K (.ref zbn) "more" = some none)
    (zbvg : W.findIn K (.ref zbn) "first" = some none)
    (zbvh : W.findIn K (.ref zbn) "last" = some none)
    (zbvi : W.findIn K (.ref zbn) "sizes" = some none)
    (zbvj : W.findIn K (.ref zbn) "people" = some none)
    (zbvk : W.findIn K (.ref zbn) "named_doors" = some none)
    (zbvl : W.findIn K (.ref zbn) "__init__" = some (some (.ref zcr)))
    (zbvm : W.isFn K (.ref zcr) = true)
    (zbvn : W.findIn K (.ref zbn) "rooms" = some (some (.ref zcs)))
    (zbvo : W.isFn K (.ref zcs) = true)
    (zbvp : W.findIn K (.ref zbn) "doors" = some (some (.ref zct)))
    (zbvq : W.isFn K (.ref zct) = true)
    (zbvr : W.findIn K (.ref zbn) "need_room" = some (some (.ref zcu)))
    (zbvs : W.isFn K (.ref zcu) = true)
    (zbvt : W.findIn K (.ref zbn) "holds" = some (some (.ref zcv)))
    (zbvu : W.isFn K (.ref zcv) = true)
    (zbvv : W.findIn K (.ref zbn) "found" = some (some (.ref zcw)))
    (zbvw : W.isFn K (.ref zcw) = true)
    (zbvx : W.findIn K (.ref zbn) "into" = some (some (.ref zcx)))
    (zbvy : W.isFn K (.ref zcx) = true)
    (zbvz : W.findIn K (.ref zbn) "from_room" = some (some (.ref zcy)))
    (zbwa : W.isFn K (.ref zcy) = true)
    (zbwb : W.findIn K (.ref zbn) "door" = some (some (.ref zcz)))
    (zbwc : W.isFn K (.ref zcz) = true)
    (zbwd : W.findIn K (.ref zbn) "lets" = some (some (.ref zda)))
    (zbwe : W.isFn K (.ref zda) = true)
    (zbwf : W.findIn K (.ref zbn) "total" = some (some (.ref zdb)))
    (zbwg : W.isFn K (.ref zdb) = true)
    (zbwh : W.findIn K (.ref zbn) "pairs" = some (some (.ref zdc)))
    (zbwi : W.isFn K (.ref zdc) = true)
    (zbwj : W.specialIn K (.builtin "object.__class__") "__get__" = some (some (.builtin "getset_descriptor.__get__")))
    (zbwk : W.takesIn K (.builtin "object.__class__") = some true)
    (zbwl : W.specialIn K (.ref zbg) "__getattribute__" = some (some (.builtin "type.__getattribute__")))
    (zbwm : W.readsIn K zbg (.type "type") = true)
    (zbwn : W.findCls K (.ref zbg) (.type "type") "__init__" = some (.val (.ref zbv)))
    (zbwo : W.nsIn K mainGlobals "ValueError" = some none)
    (zbwp : W.nsIn K mainGlobals "sum" = some none)
    (zbwq : W.nsIn K mainGlobals "min" = some none)
    (zbwr : W.nsIn K mainGlobals "range" = some none)
    (zbws : W.nsIn K mainGlobals "any" = some none)
    (zbwt : W.nsIn K mainGlobals "len" = some none)
    (zbwu : W.nsIn K mainGlobals "isinstance" = some none)
    (zbwv : W.nsIn K mainGlobals "int" = some none)
    (zbww : W.nsIn K mainGlobals "str" = some none)
    (zbwx : W.nsIn K mainGlobals "all" = some none)
    (zbwy : W.nsIn K mainGlobals "dict" = some none)
    (zbwz : W.nsIn K mainGlobals "list" = some none)
    (zbxa : W.nsIn K mainGlobals "bool" = some none)
    (zbxb : W.nsIn K mainGlobals "LONGEST_NAME" = some (some (.int 8 zbas))) :
    ∃ (fd : FuncData) (f2 : Addr) (fd2 : FuncData), mg "_law_door" = some (.ref f2) ∧ (∃ oc od osl, K.lookup f2 = some ⟨oc, od, .func fd2, osl⟩) ∧ (∀ (s : Shared) (v : Value), BindsTo s fd ⟨[v], []⟩ [("_law_script", v)]) ∧ ∀ (zbxc : Heap) (cL PL : Addr), fd2.code = .ref cL → W.CodeHd zbxc cL PL → zbxc.BuiltinsAt mg PL → FnOk l.prog w K mg zbxc CX0 20 fa fd ["_law_script"] (sp_law K PL) := by
  have e := hfa.symm.trans (W.mg_of X G zbby)
  cases e
  have zbxd := funV_mk (st := s__wall) zbdw zbdx zbdy
  have zbxe := binds_n (K := K) (x := "_wall") (qual := "_wall") (st := s__wall) (kV := zdh) (doc := zdi) (pm := zdj) (an := zde) (cdv := zdk) (ct := zdl) (ps := ["k"]) <| of_allN 1 _ fun _ => rfl
  have zbxf := funV_mk (st := s_found_beyond) zbdz zbea zbeb
  have zbxg := binds_n (K := K) (x := "found_beyond") (qual := "found_beyond") (st := s_found_beyond) (kV := zdq) (doc := zdr) (pm := zds) (an := zdn) (cdv := zdt) (ct := zdu) (ps := ["house", "kept"]) <| of_allN 2 _ fun _ _ => rfl
  have zbxh := funV_mk (st := s_let_in) zbec zbed zbee
  have zbxi := binds_n (K := K) (x := "let_in") (qual := "let_in") (st := s_let_in) (kV := zdz) (doc := zea) (pm := zeb) (an := zdw) (cdv := zec) (ct := zed) (ps := ["house", "kept", "room", "turn"]) <| of_allN 4 _ fun _ _ _ _ => rfl
  have zbxj := funV_mk (st := s_going_beyond) zbef zbeg zbeh
  have zbxk := binds_n (K := K) (x := "going_beyond") (qual := "going_beyond") (st := s_going_beyond) (kV := zei) (doc := zej) (pm := zek) (an := zef) (cdv := zel) (ct := zem) (ps := ["house", "kept", "room", "turn"]) <| of_allN 4 _ fun _ _ _ _ => rfl
  have zbxl := funV_mk (st := s_let_out) zbei zbej zbek
  have zbxm := binds_n (K := K) (x := "let_out") (qual := "let_out") (st := s_let_out) (kV := zer) (doc := zes) (pm := zet) (an := zeo) (cdv := zeu) (ct := zev) (ps := ["house", "kept", "turn"]) <| of_allN 3 _ fun _ _ _ => rfl
  have zbxn := funV_mk (st := s_bound) zbel zbem zben
  have zbxo := binds_n (K := K) (x := "bound") (qual := "bound") (st := s_bound) (kV := zfa) (doc := zfb) (pm := zfc) (an := zex) (cdv := zfd) (ct := zfe) (ps := ["house", "cut", "turn"]) <| of_allN 3 _ fun _ _ _ => rfl
  have zbxp := funV_mk (st := s_is_whole) zbeo zbep zbeq
  have zbxq := binds_n (K := K) (x := "is_whole") (qual := "is_whole") (st := s_is_whole) (kV := zfj) (doc := zfk) (pm := zfl) (an := zfg) (cdv := zfm) (ct := zfn) (ps := ["thing"]) <| of_allN 1 _ fun _ => rfl
  have zbxr := funV_mk (st := s_is_name) zber zbes zbet
  have zbxs := binds_n (K := K) (x := "is_name") (qual := "is_name") (st := s_is_name) (kV := zfs) (doc := zft) (pm := zfu) (an := zfp) (cdv := zfv) (ct := zfw) (ps := ["thing"]) <| of_allN 1 _ fun _ => rfl
  have zbxt := funV_mk (st := s_need_name) zbeu zbev zbew
  have zbxu := binds_n (K := K) (x := "need_name") (qual := "need_name") (st := s_need_name) (kV := zgb) (doc := zgc) (pm := zgd) (an := zfy) (cdv := zge) (ct := zgf) (ps := ["part", "thing"]) <| of_allN 2 _ fun _ _ => rfl
  have zbxv := funV_mk (st := s_need_whole) zbex zbey zbez
  have zbxw := binds_n (K := K) (x := "need_whole") (qual := "need_whole") (st := s_need_whole) (kV := zgk) (doc := zgl) (pm := zgm) (an := zgh) (cdv := zgn) (ct := zgo) (ps := ["part", "thing", "least"]) <| of_allN 3 _ fun _ _ _ => rfl
  have zbxx := funV_mk (st := s_need_turns) zbfa zbfb zbfc
  have zbxy := binds_n (K := K) (x := "need_turns") (qual := "need_turns") (st := s_need_turns) (kV := zgt) (doc := zgu) (pm := zgv) (an := zgq) (cdv := zgw) (ct := zgx) (ps := ["first", "last"]) <| of_allN 2 _ fun _ _ => rfl
  have zbxz := funV_mk (st := s_need_each_once) zbfd zbfe zbff
  have zbya := binds_n (K := K) (x := "need_each_once") (qual := "need_each_once") (st := s_need_each_once) (kV := zhc) (doc := zhd) (pm := zhe) (an := zgz) (cdv := zhf) (ct := zhg) (ps := ["names"]) <| of_allN 1 _ fun _ => rfl
  have zbyb := funV_mk (st := s_rooms_spoken_of) zbfg zbfh zbfi
  have zbyc := binds_n (K := K) (x := "rooms_spoken_of") (qual := "rooms_spoken_of") (st := s_rooms_spoken_of) (kV := zhl) (doc := zhm) (pm := zhn) (an := zhi) (cdv := zho) (ct := zhp) (ps := ["doors", "people"]) <| of_allN 2 _ fun _ _ => rfl
  have zbyd := funV_mk (st := s_need_rooms) zbfj zbfk zbfl
  have zbye := binds_n (K := K) (x := "need_rooms") (qual := "need_rooms") (st := s_need_rooms) (kV := zhu) (doc := zhv) (pm := zhw) (an := zhr) (cdv := zhx) (ct := zhy) (ps := ["names", "sizes"]) <| of_allN 2 _ fun _ _ => rfl
  have zbyf := funV_mk (st := s_added_people) zbfm zbfn zbfo
  have zbyg := binds_n (K := K) (x := "added_people") (qual := "added_people") (st := s_added_people) (kV := zid) (doc := zie) (pm := zif) (an := zia) (cdv := zig) (ct := zih) (ps := ["sizes", "people"]) <| of_allN 2 _ fun _ _ => rfl
  have zbyh := funV_mk (st := s_need_space) zbfp zbfq zbfr
  have zbyi := binds_n (K := K) (x := "need_space") (qual := "need_space") (st := s_need_space) (kV := zim) (doc := zin) (pm := zio) (an := zij) (cdv := ziq) (ct := zir) (ps := ["sizes", "people"]) <| of_allN 2 _ fun _ _ => rfl
  have zbyj := funV_mk (st := s__law_cell_at) zbfs zbft zbfu
  have zbyk := binds_n (K := K) (x := "_law_cell_at") (qual := "_law_cell_at") (st := s__law_cell_at) (kV := ziw) (doc := zix) (pm := ziy) (an := zit) (cdv := ziz) (ct := zja) (ps := ["_law_script", "_law_k"]) <| of_allN 2 _ fun _ _ => rfl
  have zbyl := funV_mk (st := s__law_mixed) zbfv zbfw zbfx
  have zbym := binds_n (K := K) (x := "_law_mixed") (qual := "_law_mixed") (st := s__law_mixed) (kV := zjf) (doc := zjg) (pm := zjh) (an := zjc) (cdv := zji) (ct := zjj) (ps := ["_law_cell", "_law_k"]) <| of_allN 2 _ fun _ _ => rfl
  have zbyn := funV_mk (st := s__law_name) zbfy zbfz zbga
  have zbyo := binds_n (K := K) (x := "_law_name") (qual := "_law_name") (st := s__law_name) (kV := zjo) (doc := zjp) (pm := zjq) (an := zjl) (cdv := zjr) (ct := zjs) (ps := ["_law_cell", "_law_k"]) <| of_allN 2 _ fun _ _ => rfl
  have zbyp := funV_mk (st := s__law_rooms) zbgb zbgc zbgd
  have zbyq := binds_n (K := K) (x := "_law_rooms") (qual := "_law_rooms") (st := s__law_rooms) (kV := zjx) (doc := zjy) (pm := zjz) (an := zju) (cdv := zka) (ct := zkb) (ps := ["_law_cells"]) <| of_allN 1 _ fun _ => rfl
  have zbyr := funV_mk (st := s__law_spec) zbge zbgf zbgg
  have zbys := binds_n (K := K) (x := "_law_spec") (qual := "_law_spec") (st := s__law_spec) (kV := zkg) (doc := zkh) (pm := zki) (an := zkd) (cdv := zkj) (ct := zkk) (ps := ["_law_cell", "_law_k", "_law_rooms_here", "_law_turns"]) <| of_allN 4 _ fun _ _ _ _ => rfl
  have zbyt := funV_mk (st := s__law_lets) zbgh zbgi zbgj
  have zbyu := binds_n (K := K) (x := "_law_lets") (qual := "_law_lets") (st := s__law_lets) (kV := zkp) (doc := zkq) (pm := zkr) (an := zkm) (cdv := zks) (ct := zkt) (ps := ["_law_spec_here", "_law_turn"]) <| of_allN 2 _ fun _ _ => rfl
  have zbyv := funV_mk (st := s__law_door) zbgk zbgl zbgm
  have zbyw := binds_n (K := K) (x := "_law_door") (qual := "_law_door") (st := s__law_door) (kV := zky) (doc := zkz) (pm := zla) (an := zkv) (cdv := zlb) (ct := zlc) (ps := ["_law_spec_here"]) <| of_allN 1 _ fun _ => rfl
  have zbyx := funV_mk (st := s__law_digits) zbgn zbgo zbgp
  have zbyy := binds_n (K := K) (x := "_law_digits") (qual := "_law_digits") (st := s__law_digits) (kV := zlh) (doc := zli) (pm := zlj) (an := zle) (cdv := zlk) (ct := zll) (ps := ["_law_cell", "_law_bases"]) <| of_allN 2 _ fun _ _ => rfl
  have zbyz := funV_mk (st := s__law_rooms_told) zbgq zbgr zbgs
  have zbza := binds_n (K := K) (x := "_law_rooms_told") (qual := "_law_rooms_told") (st := s__law_rooms_told) (kV := zlq) (doc := zlr) (pm := zls) (an := zln) (cdv := zlt) (ct := zlu) (ps := ["_law_cells"]) <| of_allN 1 _ fun _ => rfl
  have zbzb := funV_mk (st := s__law_spec_told) zbgt zbgu zbgv
  have zbzc := binds_n (K := K) (x := "_law_spec_told") (qual := "_law_spec_told") (st := s__law_spec_told) (kV := zlz) (doc := zma) (pm := zmb) (an := zlw) (cdv := zmc) (ct := zmd) (ps := ["_law_cell", "_law_k", "_law_rooms_here", "_law_turns"]) <| of_allN 4 _ fun _ _ _ _ => rfl
  have zbzd := funV_mk (st := s__law_drawn_told) zbgw zbgx zbgy
  have zbze := binds_n (K := K) (x := "_law_drawn_told") (qual := "_law_drawn_told") (st := s__law_drawn_told) (kV := zmi) (doc := zmj) (pm := zmk) (an := zmf) (cdv := zml) (ct := zmm) (ps := ["_law_script"]) <| of_allN 1 _ fun _ => rfl
  have zbzf := funV_mk (st := s__law_drawn) zbgz zbha zbhb
  have zbzg := binds_n (K := K) (x := "_law_drawn") (qual := "_law_drawn") (st := s__law_drawn) (kV := zmr) (doc := zms) (pm := zmt) (an := zmo) (cdv := zmu) (ct := zmv) (ps := ["_law_script"]) <| of_allN 1 _ fun _ => rfl
  have zbzh := funV_mk (st := s__law_house) zbhc zbhd zbhe
  have zbzi := binds_n (K := K) (x := "_law_house") (qual := "_law_house") (st := s__law_house) (kV := zna) (doc := znb) (pm := znc) (an := zmx) (cdv := znd) (ct := zne) (ps := ["_law_rooms_here", "_law_specs", "_law_turns"]) <| of_allN 3 _ fun _ _ _ => rfl
  have zbzj := funV_mk (st := s__law_cut) zbhf zbhg zbhh
  have zbzk := binds_n (K := K) (x := "_law_cut") (qual := "_law_cut") (st := s__law_cut) (kV := znj) (doc := znk) (pm := znl) (an := zng) (cdv := znm) (ct := znn) (ps := ["_law_cell", "_law_rooms_here", "_law_turns"]) <| of_allN 3 _ fun _ _ _ => rfl
  have zbzl := funV_mk (st := s__law_widened) zbhi zbhj zbhk
  have zbzm := binds_n (K := K) (x := "_law_widened") (qual := "_law_widened") (st := s__law_widened) (kV := zns) (doc := znt) (pm := znu) (an := znp) (cdv := znv) (ct := znw) (ps := ["_law_rooms_here", "_law_specs", "_law_turns", "_law_at", "_law_more"]) <| of_allN 5 _ fun _ _ _ _ _ => rfl
  have zbzn := funV_mk (st := s_law) zbhl zbhm zbhn
  have zbzo := binds_n (K := K) (x := "law") (qual := "law") (st := s_law) (kV := zob) (doc := zoc) (pm := zod) (an := zny) (cdv := zoe) (ct := zof) (ps := ["_law_script"]) <| of_allN 1 _ fun _ => rfl
  have zbzp := funV_mk (st := s_Door___init__) zbho zbhp zbhq
  have zbzq := binds_d 5 (K := K) (x := "__init__") (qual := "Door.__init__") (st := s_Door___init__) (kV := zok) (doc := zol) (pm := zom) (an := zoh) (cdv := zon) (ct := zoo) (ps := ["self", "name", "start", "end", "wide"]) (ds := []) zbhr <| of_allN 5 _ fun _ _ _ _ _ => ⟨_, rfl, rfl⟩
  have zbzr := binds_d 4 (K := K) (x := "__init__") (qual := "Door.__init__") (st := s_Door___init__) (kV := zok) (doc := zol) (pm := zom) (an := zoh) (cdv := zon) (ct := zoo) (ps := ["self", "name", "start", "end", "wide"]) (ds := [.int 1 zoq]) zbhr <| of_allN 4 _ fun _ _ _ _ => ⟨_, rfl, rfl⟩
  have zbzs := binds_d 3 (K := K) (x := "__init__") (qual := "Door.__init__") (st := s_Door___init__) (kV := zok) (doc := zol) (pm := zom) (an := zoh) (cdv := zon) (ct := zoo) (ps := ["self", "name", "start", "end", "wide"]) (ds := [.none, .int 1 zoq]) zbhr <| of_allN 3 _ fun _ _ _ => ⟨_, rfl, rfl⟩
  have zbzt := funV_mk (st := s_Door_lets) zbhs zbht zbhu
  have zbzu := binds_n (K := K) (x := "lets") (qual := "Door.lets") (st := s_Door_lets) (kV := zoz) (doc := zpa) (pm := zpb) (an := zow) (cdv := zpc) (ct := zpd) (ps := ["self", "turn"]) <| of_allN 2 _ fun _ _ => rfl
  have zbzv := funV_mk (st := s_Door_is_exit) zbhv zbhw zbhx
  have zbzw := binds_n (K := K) (x := "is_exit") (qual := "Door.is_exit") (st := s_Door_is_exit) (kV := zpi) (doc := zpj) (pm := zpk) (an := zpf) (cdv := zpl) (ct := zpm) (ps := ["self"]) <| of_allN 1 _ fun _ => rfl
  have zbzx := funV_mk (st := s_Door_words) zbhy zbhz zbia
  have zbzy := binds_n (K := K) (x := "words") (qual := "Door.words") (st := s_Door_words) (kV := zpr) (doc := zps) (pm := zpt) (an := zpo) (cdv := zpu) (ct := zpv) (ps := ["self"]) <| of_allN 1 _ fun _ => rfl
  have zbzz := funV_mk (st := s_Since___init__) zbib zbic zbid
  have zcaa := binds_n (K := K) (x := "__init__") (qual := "Since.__init__") (st := s_Since___init__) (kV := zqa) (doc := zqb) (pm := zqc) (an := zpx) (cdv := zqd) (ct := zqe) (ps := ["self", "name", "start", "end", "wide", "since"]) <| of_allN 6 _ fun _ _ _ _ _ _ => rfl
  have zcab := funV_mk (st := s_Since_lets) zbie zbif zbig
  have zcac := binds_n (K := K) (x := "lets") (qual := "Since.lets") (st := s_Since_lets) (kV := zqj) (doc := zqk) (pm := zql) (an := zqg) (cdv := zqm) (ct := zqn) (ps := ["self", "turn"]) <| of_allN 2 _ fun _ _ => rfl
  have zcad := funV_mk (st := s_Since_words) zbih zbii zbij
  have zcae := binds_n (K := K) (x := "words") (qual := "Since.words") (st := s_Since_words) (kV := zqs) (doc := zqt) (pm := zqu) (an := zqp) (cdv := zqv) (ct := zqw) (ps := ["self"]) <| of_allN 1 _ fun _ => rfl
  have zcaf := funV_mk (st := s_Until___init__) zbik zbil zbim
  have zcag := binds_n (K := K) (x := "__init__") (qual := "Until.__init__") (st := s_Until___init__) (kV := zrb) (doc := zrc) (pm := zrd) (an := zqy) (cdv := zre) (ct := zrf) (ps := ["self", "name", "start", "end", "wide", "until"]) <| of_allN 6 _ fun _ _ _ _ _ _ => rfl
  have zcah := funV_mk (st := s_Until_lets) zbin zbio zbip
  have zcai := binds_n (K := K) (x := "lets") (qual := "Until.lets") (st := s_Until_lets) (kV := zrk) (doc := zrl) (pm := zrm) (an := zrh) (cdv := zrn) (ct := zro) (ps := ["self", "turn"]) <| of_allN 2 _ fun _ _ => rfl
  have zcaj := funV_mk (st := s_Until_words) zbiq zbir zbis
  have zcak := binds_n (K := K) (x := "words") (qual := "Until.words") (st := s_Until_words) (kV := zrt) (doc := zru) (pm := zrv) (an := zrq) (cdv := zrw) (ct := zrx) (ps := ["self"]) <| of_allN 1 _ fun _ => rfl
  have zcal := funV_mk (st := s_Beat___init__) zbit zbiu zbiv
  have zcam := binds_d 7 (K := K) (x := "__init__") (qual := "Beat.__init__") (st := s_Beat___init__) (kV := zsc) (doc := zsd) (pm := zse) (an := zrz) (cdv := zsf) (ct := zsg) (ps := ["self", "name", "start", "end", "wide", "every", "since"]) (ds := []) zbiw <| of_allN 7 _ fun _ _ _ _ _ _ _ => ⟨_, rfl, rfl⟩
  have zcan := binds_d 6 (K := K) (x := "__init__") (qual := "Beat.__init__") (st := s_Beat___init__) (kV := zsc) (doc := zsd) (pm := zse) (an := zrz) (cdv := zsf) (ct := zsg) (ps := ["self", "name", "start", "end", "wide", "every", "since"]) (ds := [.int 0 zsi]) zbiw <| of_allN 6 _ fun _ _ _ _ _ _ => ⟨_, rfl, rfl⟩
  have zcao := funV_mk (st := s_Beat_lets) zbix zbiy zbiz
  have zcap := binds_n (K := K) (x := "lets") (qual := "Beat.lets") (st := s_Beat_lets) (kV := zsr) (doc := zss) (pm := zst) (an := zso) (cdv := zsu) (ct := zsv) (ps := ["self", "turn"]) <| of_allN 2 _ fun _ _ => rfl
  have zcaq := funV_mk (st := s_Beat_words) zbja zbjb zbjc
  have zcar := binds_n (K := K) (x := "words") (qual := "Beat.words") (st := s_Beat_words) (kV := zta) (doc := ztb) (pm := ztc) (an := zsx) (cdv := ztd) (ct := zte) (ps := ["self"]) <| of_allN 1 _ fun _ => rfl
  have zcas := funV_mk (st := s_Marked___init__) zbjd zbje zbjf
  have zcat := binds_n (K := K) (x := "__init__") (qual := "Marked.__init__") (st := s_Marked___init__) (kV := ztj) (doc := ztk) (pm := ztl) (an := ztg) (cdv := ztm) (ct := ztn) (ps := ["self", "name", "start", "end", "wide", "bits"]) <| of_allN 6 _ fun _ _ _ _ _ _ => rfl
  have zcau := funV_mk (st := s_Marked_lets) zbjg zbjh zbji
  have zcav := binds_n (K := K) (x := "lets") (qual := "Marked.lets") (st := s_Marked_lets) (kV := zts) (doc := ztt) (pm := ztu) (an := ztp) (cdv := ztv) (ct := ztw) (ps := ["self", "turn"]) <| of_allN 2 _ fun _ _ => rfl
  have zcaw := funV_mk (st := s_Marked_words) zbjj zbjk zbjl
  have zcax := binds_n (K := K) (x := "words") (qual := "Marked.words") (st := s_Marked_words) (kV := zub) (doc := zuc) (pm := zud) (an := zty) (cdv := zue) (ct := zuf) (ps := ["self"]) <| of_allN 1 _ fun _ => rfl
  have zcay := funV_mk (st := s_Told___init__) zbjm zbjn zbjo
  have zcaz := binds_n (K := K) (x := "__init__") (qual := "Told.__init__") (st := s_Told___init__) (kV := zuk) (doc := zul) (pm := zum) (an := zuh) (cdv := zun) (ct := zuo) (ps := ["self", "name", "start", "end", "letting"]) <| of_allN 5 _ fun _ _ _ _ _ => rfl
  have zcba := funV_mk (st := s_Told_lets) zbjp zbjq zbjr
  have zcbb := binds_n (K := K) (x := "lets") (qual := "Told.lets") (st := s_Told_lets) (kV := zut) (doc := zuu) (pm := zuv) (an := zuq) (cdv := zuw) (ct := zux) (ps := ["self", "turn"]) <| of_allN 2 _ fun _ _ => rfl
  have zcbc := funV_mk (st := s_Told_words) zbjs zbjt zbju
  have zcbd := binds_n (K := K) (x := "words") (qual := "Told.words") (st := s_Told_words) (kV := zvc) (doc := zvd) (pm := zve) (an := zuz) (cdv := zvf) (ct := zvg) (ps := ["self"]) <| of_allN 1 _ fun _ => rfl
  have zcbe := funV_mk (st := s_Wider___init__) zbjv zbjw zbjx
  have zcbf := binds_n (K := K) (x := "__init__") (qual := "Wider.__init__") (st := s_Wider___init__) (kV := zvl) (doc := zvm) (pm := zvn) (an := zvi) (cdv := zvo) (ct := zvp) (ps := ["self", "door", "turn", "more"]) <| of_allN 4 _ fun _ _ _ _ => rfl
  have zcbg := funV_mk (st := s_Wider_lets) zbjy zbjz zbka
  have zcbh := binds_n (K := K) (x := "lets") (qual := "Wider.lets") (st := s_Wider_lets) (kV := zvu) (doc := zvv) (pm := zvw) (an := zvr) (cdv := zvx) (ct := zvy) (ps := ["self", "turn"]) <| of_allN 2 _ fun _ _ => rfl
  have zcbi := funV_mk (st := s_Wider_words) zbkb zbkc zbkd
  have zcbj := binds_n (K := K) (x := "words") (qual := "Wider.words") (st := s_Wider_words) (kV := zwd) (doc := zwe) (pm := zwf) (an := zwa) (cdv := zwg) (ct := zwh) (ps := ["self"]) <| of_allN 1 _ fun _ => rfl
  have zcbk := funV_mk (st := s_House___init__) zbke zbkf zbkg
  have zcbl := binds_d 6 (K := K) (x := "__init__") (qual := "House.__init__") (st := s_House___init__) (kV := zwm) (doc := zwn) (pm := zwo) (an := zwj) (cdv := zwp) (ct := zwq) (ps := ["self", "rooms", "doors", "people", "last", "first"]) (ds := []) zbkh <| of_allN 6 _ fun _ _ _ _ _ _ => ⟨_, rfl, rfl⟩
  have zcbm := binds_d 5 (K := K) (x := "__init__") (qual := "House.__init__") (st := s_House___init__) (kV := zwm) (doc := zwn) (pm := zwo) (an := zwj) (cdv := zwp) (ct := zwq) (ps := ["self", "rooms", "doors", "people", "last", "first"]) (ds := [.int 0 zws]) zbkh <| of_allN 5 _ fun _ _ _ _ _ => ⟨_, rfl, rfl⟩
  have zcbn := funV_mk (st := s_House_rooms) zbki zbkj zbkk
  have zcbo := binds_n (K := K) (x := "rooms") (qual := "House.rooms") (st := s_House_rooms) (kV := zxb) (doc := zxc) (pm := zxd) (an := zwy) (cdv := zxe) (ct := zxf) (ps := ["self"]) <| of_allN 1 _ fun _ => rfl
  have zcbp := funV_mk (st := s_House_doors) zbkl zbkm zbkn
  have zcbq := binds_n (K := K) (x := "doors") (qual := "House.doors") (st := s_House_doors) (kV := zxk) (doc := zxl) (pm := zxm) (an := zxh) (cdv := zxn) (ct := zxo) (ps := ["self"]) <| of_allN 1 _ fun _ => rfl
  have zcbr := funV_mk (st := s_House_need_room) zbko zbkp zbkq
  have zcbs := binds_n (K := K) (x := "need_room") (qual := "House.need_room") (st := s_House_need_room) (kV := zxt) (doc := zxu) (pm := zxv) (an := zxq) (cdv := zxw) (ct := zxx) (ps := ["self", "room"]) <| of_allN 2 _ fun _ _ => rfl
  have zcbt := funV_mk (st := s_House_holds) zbkr zbks zbkt
  have zcbu := binds_n (K := K) (x := "holds") (qual := "House.holds") (st := s_House_holds) (kV := zyc) (doc := zyd) (pm := zye) (an := zxz) (cdv := zyf) (ct := zyg) (ps := ["self", "room"]) <| of_allN 2 _ fun _ _ => rfl
  have zcbv := funV_mk (st := s_House_found) zbku zbkv zbkw
  have zcbw := binds_n (K := K) (x := "found") (qual := "House.found") (st := s_House_found) (kV := zyl) (doc := zym) (pm := zyn) (an := zyi) (cdv := zyo) (ct := zyp) (ps := ["self", "room"]) <| of_allN 2 _ fun _ _ => rfl
  have zcbx := funV_mk (st := s_House_into) zbkx zbky zbkz
  have zcby := binds_n (K := K) (x := "into") (qual := "House.into") (st := s_House_into) (kV := zyu) (doc := zyv) (pm := zyw) (an := zyr) (cdv := zyx) (ct := zyy) (ps := ["self", "room"]) <| of_allN 2 _ fun _ _ => rfl
  have zcbz := funV_mk (st := s_House_from_room) zbla zblb zblc
  have zcca := binds_n (K := K) (x := "from_room") (qual := "House.from_room") (st := s_House_from_room) (kV := zzd) (doc := zze) (pm := zzf) (an := zza) (cdv := zzg) (ct := zzh) (ps := ["self", "room"]) <| of_allN 2 _ fun _ _ => rfl
  have zccb := funV_mk (st := s_House_door) zbld zble zblf
  have zccc := binds_n (K := K) (x := "door") (qual := "House.door") (st := s_House_door) (kV := zzm) (doc := zzn) (pm := zzo) (an := zzj) (cdv := zzp) (ct := zzq) (ps := ["self", "name"]) <| of_allN 2 _ fun _ _ => rfl
  have zccd := funV_mk (st := s_House_lets) zblg zblh zbli
  have zcce := binds_n (K := K) (x := "lets") (qual := "House.lets") (st := s_House_lets) (kV := zzv) (doc := zzw) (pm := zzx) (an := zzs) (cdv := zzy) (ct := zzz) (ps := ["self", "name", "turn"]) <| of_allN 3 _ fun _ _ _ => rfl
  have zccf := funV_mk (st := s_House_total) zblj zblk zbll
  have zccg := binds_n (K := K) (x := "total") (qual := "House.total") (st := s_House_total) (kV := zbae) (doc := zbaf) (pm := zbag) (an := zbab) (cdv := zbah) (ct := zbai) (ps := ["self"]) <| of_allN 1 _ fun _ => rfl
  have zcch := funV_mk (st := s_House_pairs) zblm zbln zblo
  have zcci := binds_n (K := K) (x := "pairs") (qual := "House.pairs") (st := s_House_pairs) (kV := zban) (doc := zbao) (pm := zbap) (an := zbak) (cdv := zbaq) (ct := zbar) (ps := ["self"]) <| of_allN 1 _ fun _ => rfl
  have zccj : ICls K zbg := ⟨⟨zblp, zblq, zblr, zbls⟩, zblv, zbwj, zbwk, zblw⟩
  have zcck : ICls K zbh := ⟨⟨zbmw, zbmx, zbmy, zbmz⟩, zbnc, zbwj, zbwk, zbnd⟩
  have zccl : ICls K zbi := ⟨⟨zbod, zboe, zbof, zbog⟩, zboj, zbwj, zbwk, zbok⟩
  have zccm : ICls K zbj := ⟨⟨zbpk, zbpl, zbpm, zbpn⟩, zbpq, zbwj, zbwk, zbpr⟩
  have zccn : ICls K zbk := ⟨⟨zbqr, zbqs, zbqt, zbqu⟩, zbqx, zbwj, zbwk, zbqy⟩
  have zcco : ICls K zbl := ⟨⟨zbry, zbrz, zbsa, zbsb⟩, zbse, zbwj, zbwk, zbsf⟩
  have zccp : ICls K zbm := ⟨⟨zbtf, zbtg, zbth, zbti⟩, zbtl, zbwj, zbwk, zbtm⟩
  have zccq : ICls K zbn := ⟨⟨zbum, zbun, zbuo, zbup⟩, zbus, zbwj, zbwk, zbut⟩
  exact ⟨W.fnOf "law" "law" (defArgs s_law) (defBody s_law) (defScope s_law) .none zob zoc zod zny zoe zof, zaw, W.fnOf "_law_door" "_law_door" (defArgs s__law_door) (defBody s__law_door) (defScope s__law_door) .none zky zkz zla zkv zlb zlc, W.mg_of X G zbbp, ⟨_, _, _, zbgk⟩, fun s v => .of_eq rfl, fun zbxc cL PL h1 h2 h3 => ok_law ⟨zaa, _, zbxd, zbxe,
    zab, _, zbxf, zbxg,
    zac, _, zbxh, zbxi,
    zad, _, zbxj, zbxk,
    zae, _, zbxl, zbxm,
    zaf, _, zbxn, zbxo,
    zag, _, zbxp, zbxq,
    zah, _, zbxr, zbxs,
    zai, _, zbxt, zbxu,
    zaj, _, zbxv, zbxw,
    zak, _, zbxx, zbxy,
    zal, _, zbxz, zbya,
    zam, _, zbyb, zbyc,
    zan, _, zbyd, zbye,
    zao, _, zbyf, zbyg,
    zap, _, zbyh, zbyi,
    zaq, _, zbyj, zbyk,
    zar, _, zbyl, zbym,
    zas, _, zbyn, zbyo,
    zat, _, zbyp, zbyq,
    zau, _, zbyr, zbys,
    zav, _, zbyt, zbyu,
    zaw, _, zbyv, zbyw,
    zax, _, zbyx, zbyy,
    zay, _, zbyz, zbza,
    zaz, _, zbzb, zbzc,
    zba, _, zbzd, zbze,
    zbb, _, zbzf, zbzg,
    zbc, _, zbzh, zbzi,
    zbd, _, zbzj, zbzk,
    zbe, _, zbzl, zbzm,
    fa, _, zbzn, zbzo,
    zbv, _, zbzp, zbzq,
    zbw, _, zbzt, zbzu,
    zbx, _, zbzv, zbzw,
    zby, _, zbzx, zbzy,
    zbz, _, zbzz, zcaa,
    zca, _, zcab, zcac,
    zcb, _, zcad, zcae,
    zcc, _, zcaf, zcag,
    zcd, _, zcah, zcai,
    zce, _, zcaj, zcak,
    zcf, _, zcal, zcam,
    zcg, _, zcao, zcap,
    zch, _, zcaq, zcar,
    zci, _, zcas, zcat,
    zcj, _, zcau, zcav,
    zck, _, zcaw, zcax,
    zcl, _, zcay, zcaz,
    zcm, _, zcba, zcbb,
    zcn, _, zcbc, zcbd,
    zco, _, zcbe, zcbf,
    zcp, _, zcbg, zcbh,
    zcq, _, zcbi, zcbj,
    zcr, _, zcbk, zcbl,
    zcs, _, zcbn, zcbo,
    zct, _, zcbp, zcbq,
    zcu, _, zcbr, zcbs,
    zcv, _, zcbt, zcbu,
    zcw, _, zcbv, zcbw,
    zcx, _, zcbx, zcby,
    zcy, _, zcbz, zcca,
    zcz, _, zccb, zccc,
    zda, _, zccd, zcce,
    zdb, _, zccf, zccg,
    zdc, _, zcch, zcci,
    W.mg_of X G zbat,
    W.mg_of X G zbau,
    W.mg_of X G zbav,
    W.mg_of X G zbaw,
    W.mg_of X G zbax,
    W.mg_of X G zbay,
    W.mg_of X G zbaz,
    W.mg_of X G zbba,
    W.mg_of X G zbbb,
    W.mg_of X G zbbc,
    W.mg_of X G zbbd,
    W.mg_of X G zbbe,
    W.mg_of X G zbbf,
    W.mg_of X G zbbg,
    W.mg_of X G zbbh,
    W.mg_of X G zbbi,
    W.mg_of X G zbbj,
    W.mg_of X G zbbk,
    W.mg_of X G zbbl,
    W.mg_of X G zbbm,
    W.mg_of X G zbbn,
    W.mg_of X G zbbo,
    W.mg_of X G zbbp,
    W.mg_of X G zbbq,
    W.mg_of X G zbbr,
    W.mg_of X G zbbs,
    W.mg_of X G zbbt,
    W.mg_of X G zbbu,
    W.mg_of X G zbbv,
    W.mg_of X G zbbw,
    W.mg_of X G zbbx,
    W.mg_of X G zbby,
    ⟨_, .cons ⟨_, rfl⟩ (.nil), zbzr⟩,
    ⟨_, .cons rfl (.cons ⟨_, rfl⟩ (.nil)), zbzs⟩,
    ⟨_, .cons ⟨_, rfl⟩ (.nil), zcan⟩,
    ⟨_, .cons ⟨_, rfl⟩ (.nil), zcbm⟩,
    zbg, W.mg_of X G zbbz,
    zbh, W.mg_of X G zbca,
    zbi, W.mg_of X G zbcb,
    zbj, W.mg_of X G zbcc,
    zbk, W.mg_of X G zbcd,
    zbl, W.mg_of X G zbce,
    zbm, W.mg_of X G zbcf,
    zbn, W.mg_of X G zbcg,
    zbo, W.mg_of X G zbch,
    zbp, W.mg_of X G zbci,
    zbq, W.mg_of X G zbcj,
    zbr, W.mg_of X G zbck,
    zbs, W.mg_of X G zbcl,
    zbt, W.mg_of X G zbcm,
    zbu, W.mg_of X G zbcn,
    ⟨zccj, zblx, zbly, zblz, zbma, zbmb, zbmc, zbmd, zbme, zbmf, zbmg, zbmh, zbmi, zbmj, zbmk, zbml, zbmm, zbmn⟩,
    ⟨zblt, zbmo, zbmp, zblu⟩,
    ⟨zbmq, zbmr, zbhu⟩,
    ⟨zbms, zbmt, zbhx⟩,
    ⟨zbmu, zbmv, zbia⟩,
    ⟨zcck, zbne, zbnf, zbng, zbnh, zbni, zbnj, zbnk, zbnl, zbnm, zbnn, zbno, zbnp, zbnq, zbnr, zbns, zbnt, zbnu⟩,
    ⟨zbna, zbnv, zbnw, zbnb⟩,
    ⟨zbnx, zbny, zbig⟩,
    ⟨zbnz, zboa, zbij⟩,
    ⟨zbob, zboc, zbhx⟩,
    ⟨zccl, zbol, zbom, zbon, zboo, zbop, zboq, zbor, zbos, zbot, zbou, zbov, zbow, zbox, zboy, zboz, zbpa, zbpb⟩,
    ⟨zboh, zbpc, zbpd, zboi⟩,
    ⟨zbpe, zbpf, zbip⟩,
    ⟨zbpg, zbph, zbis⟩,
    ⟨zbpi, zbpj, zbhx⟩,
    ⟨zccm, zbps, zbpt, zbpu, zbpv, zbpw, zbpx, zbpy, zbpz, zbqa, zbqb, zbqc, zbqd, zbqe, zbqf, zbqg, zbqh, zbqi⟩,
    ⟨zbpo, zbqj, zbqk, zbpp⟩,
    ⟨zbql, zbqm, zbiz⟩,
    ⟨zbqn, zbqo, zbjc⟩,
    ⟨zbqp, zbqq, zbhx⟩,
    ⟨zccn, zbqz, zbra, zbrb, zbrc, zbrd, zbre, zbrf, zbrg, zbrh, zbri, zbrj, zbrk, zbrl, zbrm, zbrn, zbro, zbrp⟩,
    ⟨zbqv, zbrq, zbrr, zbqw⟩,
    ⟨zbrs, zbrt, zbji⟩,
    ⟨zbru, zbrv, zbjl⟩,
    ⟨zbrw, zbrx, zbhx⟩,
    ⟨zcco, zbsg, zbsh, zbsi, zbsj, zbsk, zbsl, zbsm, zbsn, zbso, zbsp, zbsq, zbsr, zbss, zbst, zbsu, zbsv, zbsw⟩,
    ⟨zbsc, zbsx, zbsy, zbsd⟩,
    ⟨zbsz, zbta, zbjr⟩,
    ⟨zbtb, zbtc, zbju⟩,
    ⟨zbtd, zbte, zbhx⟩,
    ⟨zccp, zbtn, zbto, zbtp, zbtq, zbtr, zbts, zbtt, zbtu, zbtv, zbtw, zbtx, zbty, zbtz, zbua, zbub, zbuc, zbud⟩,
    ⟨zbtj, zbue, zbuf, zbtk⟩,
    ⟨zbug, zbuh, zbka⟩,
    ⟨zbui, zbuj, zbkd⟩,
    ⟨zbuk, zbul, zbhx⟩,
    ⟨zccq, zbuu, zbuv, zbuw, zbux, zbuy, zbuz, zbva, zbvb, zbvc, zbvd, zbve, zbvf, zbvg, zbvh, zbvi, zbvj, zbvk⟩,
    ⟨zbuq, zbvl, zbvm, zbur⟩,
    ⟨zbvn, zbvo, zbkk⟩,
    ⟨zbvp, zbvq, zbkn⟩,
    ⟨zbvr, zbvs, zbkq⟩,
    ⟨zbvt, zbvu, zbkt⟩,
    ⟨zbvv, zbvw, zbkw⟩,
    ⟨zbvx, zbvy, zbkz⟩,
    ⟨zbvz, zbwa, zblc⟩,
    ⟨zbwb, zbwc, zblf⟩,
    ⟨zbwd, zbwe, zbli⟩,
    ⟨zbwf, zbwg, zbll⟩,
    ⟨zbwh, zbwi, zblo⟩,
    ⟨zbwl, zbwm, zbwn⟩,
    W.mg_none_of X G zbwo,
    W.mg_none_of X G zbwp,
    W.mg_none_of X G zbwq,
    W.mg_none_of X G zbwr,
    W.mg_none_of X G zbws,
    W.mg_none_of X G zbwt,
    W.mg_none_of X G zbwu,
    W.mg_none_of X G zbwv,
    W.mg_none_of X G zbww,
    W.mg_none_of X G zbwx,
    W.mg_none_of X G zbwy,
    W.mg_none_of X G zbwz,
    W.mg_none_of X G zbxa,
    ⟨zbas, W.mg_of X G zbxb⟩⟩ h1 h2 h3⟩
theorem walk {l : W.OpenLaw} {q : Program} {loose : List Str} {XP : (Str → Option Value) → Heap → Prop} {YP : World → Heap → Prop} {d d2 : DefRec} {K : Params → W.Frag} (hn : l.most = some 63) (hdf : d.params.defaults = []) (hrec : d2 ∈ PyProof.Rows.recsOf q) (hd2 : d2.name = "_law_door") (hnt : ∀ w : World, W.noTabs (K w.params) = true)
    (hY : ∀ (w : World) (h : Heap), YP w h → (K w.params).In h)
    (F : ∀ (w : World) (mg : Str → Option Value) (fa : Addr) (h : Heap), (K w.params).In h → h.Ns mainGlobals mg → mg d.name = some (.ref fa) →
      ∃ (fd : FuncData) (f2 : Addr) (fd2 : FuncData), mg "_law_door" = some (.ref f2) ∧ (∃ oc od osl, (K w.params).lookup f2 = some ⟨oc, od, .func fd2, osl⟩) ∧ (∀ (s : Shared) (u : Value), BindsTo s fd ⟨[u], []⟩ [("_law_script", u)]) ∧ ∀ (zbxc : Heap) (cL PL : Addr), fd2.code = .ref cL → W.CodeHd zbxc cL PL → zbxc.BuiltinsAt mg PL → FnOk l.prog w (K w.params) mg zbxc CX0 20 fa fd ["_law_script"] (sp_law (K w.params) PL)) :
    W.WalkO q loose XP YP l.row.toRowW d [] (fun f vs => PySem.call f vs) :=
  L2.walk_ofT2 (d2 := d2) (n := 63) (k := 20) (x := "_law_script") (CX := fun _ => CX0) (sp := fun w PL => sp_law (K w.params) PL) hn (by decide) hdf ⟨rfl, by decide, by decide⟩ hrec hnt hY (fun w mg fa h a b c => by rw [hd2]; exact F w mg fa h a b c) (fun _ _ _ a ns hl hS hP => ⟨a, ns, rfl, hS, hl, hP, fun _ => rfl⟩) fun _ _ _ _ _ z => z
end Prf
open PySem PySem.W PyProof.Rows
set_option maxRecDepth 100000 in
set_option maxHeartbeats 0 in
theorem PySem.Challenge.cw_firstout_k35_bounds_grow_holds : PySem.Challenge.rw_firstout_k35_bounds_grow.Holds := by
  w_on; o_law; k_head; (case hw => w_witness2)
  k_fill
  refine Prf.walk (l := PySem.Challenge.rw_firstout_k35_bounds_grow) rfl rfl (List.mem_of_find?_eq_some (p := fun e => e.name == ("_law_door" : Str)) rfl) rfl (fun w => by kernel_rfl) (fun w h Y => PySem.W.km_in_of Y) ?F
  case F =>
    intro w mg fa h KX G hmg
    refine' Prf.all_mk KX G hmg ?zbat ?zbau ?zbav ?zbaw ?zbax ?zbay ?zbaz ?zbba ?zbbb ?zbbc ?zbbd ?zbbe ?zbbf ?zbbg ?zbbh ?zbbi ?zbbj ?zbbk ?zbbl ?zbbm ?zbbn ?zbbo ?zbbp ?zbbq ?zbbr ?zbbs ?zbbt ?zbbu ?zbbv ?zbbw ?zbbx ?zbby ?zbbz ?zbca ?zbcb ?zbcc ?zbcd ?zbce ?zbcf ?zbcg ?zbch ?zbci ?zbcj ?zbck ?zbcl ?zbcm ?zbcn ?zbco ?zbcp ?zbcq ?zbcr ?zbcs ?zbct ?zbcu ?zbcv ?zbcw ?zbcx ?zbcy ?zbcz ?zbda ?zbdb ?zbdc ?zbdd ?zbde ?zbdf ?zbdg ?zbdh ?zbdi ?zbdj ?zbdk ?zbdl ?zbdm ?zbdn ?zbdo ?zbdp ?zbdq ?zbdr ?zbds ?zbdt ?zbdu ?zbdv ?zbdw ?zbdx ?zbdy ?zbdz ?zbea ?zbeb ?zbec ?zbed ?zbee ?zbef ?zbeg ?zbeh ?zbei ?zbej ?zbek ?zbel ?zbem ?zben ?zbeo ?zbep ?zbeq ?zber ?zbes ?zbet ?zbeu ?zbev ?zbew ?zbex ?zbey ?zbez ?zbfa ?zbfb ?zbfc ?zbfd ?zbfe ?zbff ?zbfg ?zbfh ?zbfi ?zbfj ?zbfk ?zbfl ?zbfm ?zbfn ?zbfo ?zbfp ?zbfq ?zbfr ?zbfs ?zbft ?zbfu ?zbfv ?zbfw ?zbfx ?zbfy ?zbfz ?zbga ?zbgb ?zbgc ?zbgd ?zbge ?zbgf ?zbgg ?zbgh ?zbgi ?zbgj ?zbgk ?zbgl ?zbgm ?zbgn ?zbgo ?zbgp ?zbgq ?zbgr ?zbgs ?zbgt ?zbgu ?zbgv ?zbgw ?zbgx ?zbgy ?zbgz ?zbha ?zbhb ?zbhc ?zbhd ?zbhe ?zbhf ?zbhg ?zbhh ?zbhi ?zbhj ?zbhk ?zbhl ?zbhm ?zbhn ?zbho ?zbhp ?zbhq ?zbhr ?zbhs ?zbht ?zbhu ?zbhv ?zbhw ?zbhx ?zbhy ?zbhz ?zbia ?zbib ?zbic ?zbid ?zbie ?zbif ?zbig ?zbih ?zbii ?zbij ?zbik ?zbil ?zbim ?zbin ?zbio ?zbip ?zbiq ?zbir ?zbis ?zbit ?zbiu ?zbiv ?zbiw ?zbix ?zbiy ?zbiz ?zbja ?zbjb ?zbjc ?zbjd ?zbje ?zbjf ?zbjg ?zbjh ?zbji ?zbjj ?zbjk ?zbjl ?zbjm ?zbjn ?zbjo ?zbjp ?zbjq ?zbjr ?zbjs ?zbjt ?zbju ?zbjv ?zbjw ?zbjx ?zbjy ?zbjz ?zbka ?zbkb ?zbkc ?zbkd ?zbke ?zbkf ?zbkg ?zbkh ?zbki ?zbkj ?zbkk ?zbkl ?zbkm ?zbkn ?zbko ?zbkp ?zbkq ?zbkr ?zbks ?zbkt ?zbku ?zbkv ?zbkw ?zbkx ?zbky ?zbkz ?zbla ?zblb ?zblc ?zbld ?zble ?zblf ?zblg ?zblh ?zbli ?zblj ?zblk ?zbll ?zblm ?zbln ?zblo ?zblp ?zblq ?zblr ?zbls ?zblt ?zblu ?zblv ?zblw ?zblx ?zbly ?zblz ?zbma ?zbmb ?zbmc ?zbmd ?zbme ?zbmf ?zbmg ?zbmh ?zbmi ?zbmj ?zbmk ?zbml ?zbmm ?zbmn ?zbmo ?zbmp ?zbmq ?zbmr ?zbms ?zbmt ?zbmu ?zbmv ?zbmw ?zbmx ?zbmy ?zbmz ?zbna ?zbnb ?zbnc ?zbnd ?zbne ?zbnf ?zbng ?zbnh ?zbni ?zbnj ?zbnk ?zbnl ?zbnm ?zbnn ?zbno ?zbnp ?zbnq ?zbnr ?zbns ?zbnt ?zbnu ?zbnv ?zbnw ?zbnx ?zbny ?zbnz ?zboa ?zbob ?zboc ?zbod ?zboe ?zbof ?zbog ?zboh ?zboi ?zboj ?zbok ?zbol ?zbom ?zbon ?zboo ?zbop ?zboq ?zbor ?zbos ?zbot ?zbou ?zbov ?zbow ?zbox ?zboy ?zboz ?zbpa ?zbpb ?zbpc ?zbpd ?zbpe ?zbpf ?zbpg ?zbph ?zbpi ?zbpj ?zbpk ?zbpl ?zbpm ?zbpn ?zbpo ?zbpp ?zbpq ?zbpr ?zbps ?zbpt ?zbpu ?zbpv ?zbpw ?zbpx ?zbpy ?zbpz ?zbqa ?zbqb ?zbqc ?zbqd ?zbqe ?zbqf ?zbqg ?zbqh ?zbqi ?zbqj ?zbqk ?zbql ?zbqm ?zbqn ?zbqo ?zbqp ?zbqq ?zbqr ?zbqs ?zbqt ?zbqu ?zbqv ?zbqw ?zbqx ?zbqy ?zbqz ?zbra ?zbrb ?zbrc ?zbrd ?zbre ?zbrf ?zbrg ?zbrh ?zbri ?zbrj ?zbrk ?zbrl ?zbrm ?zbrn ?zbro ?zbrp ?zbrq ?zbrr ?zbrs ?zbrt ?zbru ?zbrv ?zbrw ?zbrx ?zbry ?zbrz ?zbsa ?zbsb ?zbsc ?zbsd ?zbse ?zbsf ?zbsg ?zbsh ?zbsi ?zbsj ?zbsk ?zbsl ?zbsm ?zbsn ?zbso ?zbsp ?zbsq ?zbsr ?zbss ?zbst ?zbsu ?zbsv ?zbsw ?zbsx ?zbsy ?zbsz ?zbta ?zbtb ?zbtc ?zbtd ?zbte ?zbtf ?zbtg ?zbth ?zbti ?zbtj ?zbtk ?zbtl ?zbtm ?zbtn ?zbto ?zbtp ?zbtq ?zbtr ?zbts ?zbtt ?zbtu ?zbtv ?zbtw ?zbtx ?zbty ?zbtz ?zbua ?zbub ?zbuc ?zbud ?zbue ?zbuf ?zbug ?zbuh ?zbui ?zbuj ?zbuk ?zbul ?zbum ?zbun ?zbuo ?zbup ?zbuq ?zbur ?zbus ?zbut ?zbuu ?zbuv ?zbuw ?zbux ?zbuy ?zbuz ?zbva ?zbvb ?zbvc ?zbvd ?zbve ?zbvf ?zbvg ?zbvh ?zbvi ?zbvj ?zbvk ?zbvl ?zbvm ?zbvn ?zbvo ?zbvp ?zbvq ?zbvr ?zbvs ?zbvt ?zbvu ?zbvv ?zbvw ?zbvx ?zbvy ?zbvz ?zbwa ?zbwb ?zbwc ?zbwd ?zbwe ?zbwf ?zbwg ?zbwh ?zbwi ?zbwj ?zbwk ?zbwl ?zbwm ?zbwn ?zbwo ?zbwp ?zbwq ?zbwr ?zbws ?zbwt ?zbwu ?zbwv ?zbww ?zbwx ?zbwy ?zbwz ?zbxa ?zbxb
    (case zbat | zbau | zbav | zbaw | zbax | zbay | zbaz | zbba | zbbb | zbbc | zbbd | zbbe | zbbf | zbbg | zbbh | zbbi | zbbj | zbbk | zbbl | zbbm | zbbn | zbbo | zbbp | zbbq | zbbr | zbbs | zbbt | zbbu | zbbv | zbbw | zbbx | zbby | zbbz | zbca | zbcb | zbcc | zbcd | zbce | zbcf | zbcg | zbch | zbci | zbcj | zbck | zbcl | zbcm | zbcn | zbco | zbcp | zbcq | zbcr | zbcs | zbct | zbcu | zbcv | zbcw | zbcx | zbcy | zbcz | zbda | zbdb | zbdc | zbdd | zbde | zbdf | zbdg | zbdh | zbdi | zbdj | zbdk | zbdl | zbdm | zbdn | zbdo | zbdp | zbdq | zbdr | zbds | zbdt | zbdu | zbdv | zbdw | zbdx | zbdy | zbdz | zbea | zbeb | zbec | zbed | zbee | zbef | zbeg | zbeh | zbei | zbej | zbek | zbel | zbem | zben | zbeo | zbep | zbeq | zber | zbes | zbet | zbeu | zbev | zbew | zbex | zbey | zbez | zbfa | zbfb | zbfc | zbfd | zbfe | zbff | zbfg | zbfh | zbfi | zbfj | zbfk | zbfl | zbfm | zbfn | zbfo | zbfp | zbfq | zbfr | zbfs | zbft | zbfu | zbfv | zbfw | zbfx | zbfy | zbfz | zbga | zbgb | zbgc | zbgd | zbge | zbgf | zbgg | zbgh | zbgi | zbgj | zbgk | zbgl | zbgm | zbgn | zbgo | zbgp | zbgq | zbgr | zbgs | zbgt | zbgu | zbgv | zbgw | zbgx | zbgy | zbgz | zbha | zbhb | zbhc | zbhd | zbhe | zbhf | zbhg | zbhh | zbhi | zbhj | zbhk | zbhl | zbhm | zbhn | zbho | zbhp | zbhq | zbhr | zbhs | zbht | zbhu | zbhv | zbhw | zbhx | zbhy | zbhz | zbia | zbib | zbic | zbid | zbie | zbif | zbig | zbih | zbii | zbij | zbik | zbil | zbim | zbin | zbio | zbip | zbiq | zbir | zbis | zbit | zbiu | zbiv | zbiw | zbix | zbiy | zbiz | zbja | zbjb | zbjc | zbjd | zbje | zbjf | zbjg | zbjh | zbji | zbjj | zbjk | zbjl | zbjm | zbjn | zbjo | zbjp | zbjq | zbjr | zbjs | zbjt | zbju | zbjv | zbjw | zbjx | zbjy | zbjz | zbka | zbkb | zbkc | zbkd | zbke | zbkf | zbkg | zbkh | zbki | zbkj | zbkk | zbkl | zbkm | zbkn | zbko | zbkp | zbkq | zbkr | zbks | zbkt | zbku | zbkv | zbkw | zbkx | zbky | zbkz | zbla | zblb | zblc | zbld | zble | zblf | zblg | zblh | zbli | zblj | zblk | zbll | zblm | zbln | zblo | zblp | zblq | zblr | zbls | zblt | zblu | zblv | zblw | zblx | zbly | zblz | zbma | zbmb | zbmc | zbmd | zbme | zbmf | zbmg | zbmh | zbmi | zbmj | zbmk | zbml | zbmm | zbmn | zbmo | zbmp | zbmq | zbmr | zbms | zbmt | zbmu | zbmv | zbmw | zbmx | zbmy | zbmz | zbna | zbnb | zbnc | zbnd | zbne | zbnf | zbng | zbnh | zbni | zbnj | zbnk | zbnl | zbnm | zbnn | zbno | zbnp | zbnq | zbnr | zbns | zbnt | zbnu | zbnv | zbnw | zbnx | zbny | zbnz | zboa | zbob | zboc | zbod | zboe | zbof | zbog | zboh | zboi | zboj | zbok | zbol | zbom | zbon | zboo | zbop | zboq | zbor | zbos | zbot | zbou | zbov | zbow | zbox | zboy | zboz | zbpa | zbpb | zbpc | zbpd | zbpe | zbpf | zbpg | zbph | zbpi | zbpj | zbpk | zbpl | zbpm | zbpn | zbpo | zbpp | zbpq | zbpr | zbps | zbpt | zbpu | zbpv | zbpw | zbpx | zbpy | zbpz | zbqa | zbqb | zbqc | zbqd | zbqe | zbqf | zbqg | zbqh | zbqi | zbqj | zbqk | zbql | zbqm | zbqn | zbqo | zbqp | zbqq | zbqr | zbqs | zbqt | zbqu | zbqv | zbqw | zbqx | zbqy | zbqz | zbra | zbrb | zbrc | zbrd | zbre | zbrf | zbrg | zbrh | zbri | zbrj | zbrk | zbrl | zbrm | zbrn | zbro | zbrp | zbrq | zbrr | zbrs | zbrt | zbru | zbrv | zbrw | zbrx | zbry | zbrz | zbsa | zbsb | zbsc | zbsd | zbse | zbsf | zbsg | zbsh | zbsi | zbsj | zbsk | zbsl | zbsm | zbsn | zbso | zbsp | zbsq | zbsr | zbss | zbst | zbsu | zbsv | zbsw | zbsx | zbsy | zbsz | zbta | zbtb | zbtc | zbtd | zbte | zbtf | zbtg | zbth | zbti | zbtj | zbtk | zbtl | zbtm | zbtn | zbto | zbtp | zbtq | zbtr | zbts | zbtt | zbtu | zbtv | zbtw | zbtx | zbty | zbtz | zbua | zbub | zbuc | zbud | zbue | zbuf | zbug | zbuh | zbui | zbuj | zbuk | zbul | zbum | zbun | zbuo | zbup | zbuq | zbur | zbus | zbut | zbuu | zbuv | zbuw | zbux | zbuy | zbuz | zbva | zbvb | zbvc | zbvd | zbve | zbvf | zbvg | zbvh | zbvi | zbvj | zbvk | zbvl | zbvm | zbvn | zbvo | zbvp | zbvq | zbvr | zbvs | zbvt | zbvu | zbvv | zbvw | zbvx | zbvy | zbvz | zbwa | zbwb | zbwc | zbwd | zbwe | zbwf | zbwg | zbwh | zbwi | zbwj | zbwk | zbwl | zbwm | zbwn | zbwo | zbwp | zbwq | zbwr | zbws | zbwt | zbwu | zbwv | zbww | zbwx | zbwy | zbwz | zbxa | zbxb => k_is)
