import PyProof.Rows.All
import Wide.All
import OpenK.AllK
import Wide.FinOn
import Lean
import PyProof.EqAt
import PyProof.EqKinds
import PyProof.TupleCall
import KE.KSortTup
import PyProof.Rows.DictUnroll
import PyProof.DictItems
import KE.LcSums
import PyProof.IsiH_list
import KE.KDictOf
import PyProof.DictWalks
import PyProof.ListRange
import PyProof.EnumStmt
import PyProof.EnumMake
import KE.KDictSum
import PyProof.StrOps2
import PyProof.Rows.CallKwBuiltin
import KE.KRevSl
import PySem.Challenge.RW_firstout_k22_all_that_is_wrong
namespace PySem.W.Fast
def tw3921872248815925667:=()
def tw4562868659162381796:=()
def tw14587671260793922340:=()
def tw6781680358003236837:=()
def tw16962292583286805895:=()
def tw14956628013412873841:=()
def tw15596442372785116404:=()
def tw12649771367038213908:=()
def tw15856998230320615125:=()
def tw6568349070058534839:=()
def tw4842186595699165209:=()
def tw4245136999796429562:=()
def tw16947507849685095707:=()
def tw18380973147652819708:=()
def tw2080049906071977085:=()
def tw3464847461729115293:=()
def tw538407967165995357:=()
def tw10994445930723610237:=()
def tw4023296250124739715:=()
def tw15488739882453212408:=()
def tw2833004141263717075:=()
def tw16029362099307366585:=()
def tw8773099768747069608:=()
def tw13492382145287646256:=()
def tw1416627230785601223:=()
def tw3942466614957465852:=()
def tw2590854002845190280:=()
def tw16995404977057911037:=()
def tw9379076355615183289:=()
def tw13534755402087739772:=()
def tw3709847713218908301:=()
def tw5626546414255372867:=()
def tw11747044934509014349:=()
def tw11701866574014238361:=()
def tw12167298314343728530:=()
def tw14030839885532015744:=()
def tw7967003100092028837:=()
def tw5773721172275127702:=()
def tw1395196510131220238:=()
def tw12452456842559807693:=()
def tw3380219223243821352:=()
def tw6715592098480864056:=()
def tw702652678696446595:=()
def tw3366323222182926301:=()
def tw860038228750358146:=()
def tw14621080753058028138:=()
def tw5481543197163798375:=()
def tw3249106221184766197:=()
def tw13141932181734059740:=()
def tw15175736987241378395:=()
def tw7807992879386100826:=()
def tw4494375662085127622:=()
def tw3155975119935391199:=()
def tw2521883217107795457:=()
def tw12502923294899917675:=()
def tw12074474857623516008:=()
def tw13670346701099135422:=()
def tw1621317505527981596:=()
def tw12522042276534197073:=()
def tw18303799582826845147:=()
def tw6107413883031605821:=()
def tw12292300926753817631:=()
def tw8832830238638601249:=()
def tw16291545261695628215:=()
def tw5835791561796468072:=()
def tw8043053939855333357:=()
def tw13698443520592005496:=()
def tw11375018618430485437:=()
def tw6363818551733588893:=()
def tw796212967097780796:=()
def tw3135187278525713112:=()
def tw9866801041389268093:=()
def tw14997603551790107489:=()
def tw13050298423915205018:=()
def tw1088690895596070395:=()
def tw9645770153248740880:=()
def tw6832014091642965384:=()
def tw7873140774325097785:=()
def tw11629655242949788062:=()
def tw7739422390531948707:=()
def tw8667510214061987682:=()
def tw17872360834689488575:=()
def tw12712948144047369379:=()
def tw8173268249930579141:=()
def tw14787049416357903336:=()
def tw2280449933805987450:=()
def tw17356749919908709672:=()
def tw13136362364382608614:=()
def tw10307655268130736855:=()
def tw4143693510015115872:=()
def tw4852521647966982434:=()
def tw17372894643337098229:=()
def tw12775612635586280920:=()
def tw4363232777681182811:=()
def tw10650084114947600593:=()
def tw11765381091075206880:=()
def tw15302432742474351393:=()
def tw14568957121587113207:=()
def tw1675898194267655238:=()
def tw17883670345782768346:=()
def tw10268379912458247176:=()
def tw14950443042982542355:=()
def tw16020133201473340433:=()
def tw4257155214368711420:=()
def tw2235525588897305063:=()
def tw15139720599990073271:=()
def tw14587531622063767670:=()
def tw17231352312860175006:=()
def tw10775552233020212642:=()
def tw1114151273287684419:=()
def tw73127236653954834:=()
def tw13138758252507647946:=()
def tw11708263369620016957:=()
def tw10502451186639002578:=()
def tw15223229500670240023:=()
def tw14797606383946510567:=()
def tw11263300076776927149:=()
def tw2600670601130124330:=()
def tw18002416463636943520:=()
def tw15541049692025776976:=()
def tw9552742284363656678:=()
def tw13219102048059952784:=()
def tw9472003898054743154:=()
def tw11577552687821768177:=()
def tw11797364529345698537:=()
def tw14263098006875284159:=()
def tw3279717709952927491:=()
def tw18395508298639818986:=()
def tw7949369716079911644:=()
def tw2743965162547575642:=()
def tw13741726311567743740:=()
def tw123142547689680764:=()
def tw1377537629013594555:=()
def tw6101835148022992510:=()
def tw15979092184176920313:=()
def tw1995069842852277872:=()
def tw17360738687166380951:=()
def tw2140081626289915000:=()
def tw5307925493230486639:=()
def tw2486693960239529889:=()
def tw10786605190545160625:=()
def tw4873352718744270436:=()
def tw9422440906676252699:=()
def tw9181823283524887753:=()
end PySem.W.Fast
set_option compiler.extract_closed false
local macro_rules| `(tactic| walk_at"oi")=> `(tactic| first|exact Or.inl rfl|exact Or.inr rfl)
set_option Elab.async false
set_option linter.all false
set_option maxRecDepth 100000
namespace L2
open PySem PySem.Spec PyProof.Rows
abbrev Key:=Sum Int Str
def uV:Key->Value->Bool
 | .inl k,v=>Value.isInt k v
 | .inr x,v=>Value.isStrOf x v
def aAc (w:World):Key->Int
 | .inl k=>hashInt k
 | .inr x=>hashStr w x
theorem cY:∀{k:Key}{v:Value},uV k v=true->(∃i t,k=Sum.inl i/\v=Value.int i t)∨(∃x t,k=Sum.inr x/\v=Value.str x t)
 | .inl i,v,h=>by
  obtain⟨t,e⟩:=Value.isInt_shape (k:=i) (v:=v) h;exact .inl ⟨i,t,rfl,e⟩
 | .inr x,v,h=>by
  obtain⟨t,e⟩:=Value.isStrOf_shape (x:=x) (v:=v) h;exact .inr ⟨x,t,rfl,e⟩
theorem K3 (i:Int)(t:Tok):uV (.inl i) (.int i t)=true:=by simp[uV,Value.isInt]
theorem MD (x:Str)(t:Tok):uV (.inr x) (.str x t)=true:=by simp[uV,Value.isStrOf]
theorem VW (a b:Int):decide ((Sum.inl a:Key)=Sum.inl b)=(a==b):=by
 by_cases e:a=b
 ·subst e;simp
 ·have h:¬(Sum.inl a:Key)=Sum.inl b:=fun q=>e (Sum.inl.inj q);rw[decide_eq_false h];exact(beq_eq_false_iff_ne.mpr e).symm
theorem WJ (a b:Str):decide ((Sum.inr a:Key)=Sum.inr b)=decide (a=b):=by
 by_cases e:a=b
 ·subst e;simp
 ·have h:¬(Sum.inr a:Key)=Sum.inr b:=fun q=>e (Sum.inr.inj q);rw[decide_eq_false h,decide_eq_false e]
theorem YG (a:Int)(b:Str):decide ((Sum.inl a:Key)=Sum.inr b)=false:=decide_eq_false (fun q=>nomatch q)
theorem XW (a:Str)(b:Int):decide ((Sum.inr a:Key)=Sum.inl b)=false:=decide_eq_false (fun q=>nomatch q)
def cA (prog:Program)(w:World):PySem.KeyKind prog w Key where
 is:=uV
 hash:=aAc w
 inj:=fun v a b ha hb=>by
  rcases cY ha with⟨i,t,rfl,rfl⟩|⟨x,t,rfl,rfl⟩
  ·rcases cY hb with⟨j,u,rfl,e⟩|⟨y,u,rfl,e⟩
   ·injection e with e1 _;rw[e1]
   ·exact nomatch e
  ·rcases cY hb with⟨j,u,rfl,e⟩|⟨y,u,rfl,e⟩
   ·exact nomatch e
   ·injection e with e1 _;rw[e1]
 byValue:=fun k v h=>by
  rcases cY h with⟨i,t,rfl,rfl⟩|⟨x,t,rfl,rfl⟩<;>rfl
 pyHash:=fun hv h=>by
  rcases cY hv with⟨i,t,rfl,rfl⟩|⟨x,t,rfl,rfl⟩
  ·exact wpAny_pyHash_int h
  ·exact wpAny_pyHash_str h
 eqBool:=fun hu hv h=>by
  rcases cY hu with⟨i,t,rfl,rfl⟩|⟨x,t,rfl,rfl⟩
  ·rcases cY hv with⟨j,u,rfl,rfl⟩|⟨y,u,rfl,rfl⟩
   ·rw[VW]at h;exact wpAny_eqBool_int h
   ·rw[YG]at h;exact SeqAt.EqAt.int_str i t y u _ _ _ _ h
  ·rcases cY hv with⟨j,u,rfl,rfl⟩|⟨y,u,rfl,rfl⟩
   ·rw[XW]at h;exact SeqAt.EqAt.str_int x t j u _ _ _ _ h
   ·rw[WJ]at h;exact wpAny_eqBool_str h
 «strs»:=fun k x t v h=>by
  rcases cY h with⟨i,u,rfl,e⟩|⟨y,u,rfl,e⟩
  ·exact nomatch e
  ·injection e with e1 _;subst e1;cases v<;>rfl
theorem FT (prog:Program)(w:World)(i:Int)(t:Tok):(cA prog w).is (.inl i) (.int i t)=true:=K3 i t
theorem FX (prog:Program)(w:World)(x:Str)(t:Tok):(cA prog w).is (.inr x) (.str x t)=true:=MD x t
end L2
namespace L2
open PySem PySem.Spec PyProof.Rows
inductive V where
 | non|bl (b:Bool)|int (i:Int)|str (x:Str)|byt (b:Array UInt8)|flt (b:UInt64)|ref (a:Addr)|ty (n:String)
 deriving DecidableEq
def RelV:V->Value->Prop
 | .non,u=>u=Value.none
 | .bl b,u=>u=Value.bool b
 | .int i,u=>∃t,u=Value.int i t
 | .str x,u=>∃t,u=Value.str x t
 | .byt b,u=>∃t,u=Value.bytes b t
 | .flt b,u=>∃t,u=Value.float b t
 | .ref a,u=>u=Value.ref a
 | .ty n,u=>u=Value.type n
abbrev Vals:List V->List Value->Prop:=Paired RelV
theorem Vals.length {xs:List V}{us:List Value} (r:Vals xs us):xs.length=us.length:=Paired.length r
theorem Vals.get:∀{xs:List V}{us:List Value}{i:Nat}{x:V},Vals xs us->xs[i]? =some x->∃u,us[i]? =some u/\RelV x u
 | _,_,_,_,.nil,e=>by simp at e
 | _,_,0,_,.cons r _,e=>by simp at e;subst e;exact⟨_,rfl,r⟩
 | _,_,i+1,x,.cons _ t,e=>by
  obtain⟨u,h1,h2⟩:=Vals.get (i:=i) (x:=x) t (by simpa using e);exact⟨u,by simpa using h1,h2⟩
theorem Vals.append:∀{xs ys:List V}{us ws:List Value},Vals xs us->Vals ys ws->Vals (xs++ys) (us++ws)
 | _,_,_,_,.nil,s=>s
 | _,_,_,_,.cons r t,s=> .cons r (Vals.append t s)
theorem Vals.take:∀{xs:List V}{us:List Value} (n:Nat),Vals xs us->Vals (xs.take n) (us.take n)
 | _,_,0,_=> .nil
 | _,_,_+1,.nil=> .nil
 | _,_,n+1,.cons r t=> .cons r (Vals.take n t)
theorem Vals.drop:∀{xs:List V}{us:List Value} (n:Nat),Vals xs us->Vals (xs.drop n) (us.drop n)
 | _,_,0,r=>r
 | _,_,_+1,.nil=> .nil
 | _,_,n+1,.cons _ t=>Vals.drop n t
def RelO:Option V->Option Value->Prop
 | some v,some u=>RelV v u
 | none,none=>True
 | _,_=>False
def KV {κ:Type}:List (κ×V)->List (κ×Value)->Prop:=Paired fun (p:κ×V) (q:κ×Value)=>p.1=q.1/\RelV p.2 q.2
def kV:Key->V
 | .inl i=> .int i
 | .inr x=> .str x
inductive HO where
  | lst (xs:List V)
  | tup (xs:List V)
  | dK (kvs:List (Key×V))|dT (kvs:List (List Key×V))
  | set (S:Int->Bool) (n:Nat)
  | ins (C dx:Addr) (fs:List (Str×V))
  | own (x:Addr)
  | xd (fs:List (Str×V))
  | met (f x:Addr)
  | rng (lo hi:Int)
  | frz (o:Obj) (u:HO)
  | tbl (ps:Array Value)
  | ext (φ:Heap->Prop)
abbrev Hp:=Addr->Option HO
def upd (H:Hp)(a:Addr)(o:HO):Hp:=fun b=>if b=a then some o else H b
theorem bK {H:Hp}{a:Addr}{o:HO}:upd H a o a=some o:=by unfold upd;rw[if_pos rfl]
theorem aT {H:Hp}{a b:Addr}{o:HO} (h:b≠a):upd H a o b=H b:=by unfold upd;rw[if_neg h]
theorem RG {H:Hp}{a:Addr}{o u:HO}:upd (upd H a o) a u=upd H a u:=by
 funext b;unfold upd;split<;>rfl
theorem ZW {H:Hp}{a b:Addr}{o u:HO} (h:H a=some o) (h':H b=some u) (d:o≠u):a≠b:=by
 intro e;subst e;rw[h]at h';exact d (Option.some.inj h')
theorem bL {H:Hp}{a b:Addr}{o:HO} (h:H a=some o) (h':H b=none):a≠b:=by
 intro e;subst e;rw[h]at h';cases h'
section
variable (P:Program)(w:World)
def ObjOk (H:Hp)(h:Heap)(a:Addr):HO->Prop
 | .lst xs=>xs.length<=sizeLine/\∃(its:List Value) (n:Nat),Vals xs its/\h.get? a=some { cls:= .type "list",data:= .seq its.toArray n }
 | .tup xs=>xs.length<=sizeLine/\∃its:List Value,Vals xs its/\IsTup h a its.toArray
 | .dK kvs=>kvs.length<=sizeLine/\(a==sysModules)=false/\∃vs,KV kvs vs/\h.DictOf (cA P w) a vs
 | .dT kvs=>kvs.length<=sizeLine/\(a==sysModules)=false/\∃xs:List (List Key×Addr×Value),
   Paired (fun (p:List Key×V) (q:List Key×Addr×Value)=>p.1=q.1/\H q.2.1=some (.tup (p.1.map kV))/\RelV p.2 q.2.2) kvs xs ∧
   ∃o es ep,h.get? a=some o/\o.ExactDict/\o.data= .dict es ep/\es.toList=xs.map (entryOfKey (tupleKind (cA P w)))/\(xs.map (·.1)).Nodup
 | .set S n=>h.SetOf (intKind P w) a S n
 | .ins C dx fs=>H dx=some (.own a)/\fs.length<=1000/\dx≠a/\h.get? a=some (PySem.W.instObj C dx) ∧
   ∃mA,h.Ns1 dx mA/\(∀f,RelO (fs.lookup f) (mA f))/\PySem.Within mA (fs.map (·.1))
 | .own _=>∃o,h.get? a=some o
 | .xd fs=>∃mA,h.Ns1 a mA/\∀f,RelO (fs.lookup f) (mA f)
 | .rng lo hi=>∃t u v,h.get? a=some { cls:= .type "range",data:= .fields #[.int lo t,.int hi u,.int 1 v] }
 | .frz o u=>h.get? a=some o/\ObjOk H h a u
 | .tbl ps=>h.get? a=some { cls:= .none,data:= .fields ps }
 | .met f x=>h.get? a=some (PySem.W.methodObj (.ref f) (.ref x))
 | .ext φ=>φ h/\(∃o,h.get? a=some o)/\∀h1 h2:Heap,φ h1->(∀o,h1.get? a=some o->h2.get? a=some o)->φ h2
def HOk (H:Hp)(h:Heap):Prop:=∀a o,H a=some o->ObjOk P w H h a o
end
section
variable {P:Program}{w:World}{H H':Hp}{h h':Heap}{a:Addr}{o:HO}
theorem ObjOk.lt (x:ObjOk P w H h a o):a<h.objs.size:=by
 cases o with
 | lst xs=>obtain⟨_,_,_,_,e⟩:=x;exact Heap.lt_size e
 | tup xs=>obtain⟨_,_,_,p⟩:=x;exact p.lt
 | dK kvs=>obtain⟨_,_,_,_,o,_,_,e,_⟩:=x;exact Heap.lt_size e
 | dT kvs=>obtain⟨_,_,_,_,o,_,_,e,_⟩:=x;exact Heap.lt_size e
 | set S n=>obtain⟨o,_,_,_,e,_⟩:=x;exact Heap.lt_size e
 | ins C dx fs=>obtain⟨_,_,_,e,_⟩:=x;exact Heap.lt_size e
 | own y=>obtain⟨_,e⟩:=x;exact Heap.lt_size e
 | xd fs=>obtain⟨_,⟨_,_,_,e,_⟩,_⟩:=x;exact Heap.lt_size e
 | rng lo hi=>obtain⟨_,_,_,e⟩:=x;exact Heap.lt_size e
 | frz ob u=>obtain⟨e,_⟩:=x;exact Heap.lt_size e
 | tbl ps=>exact Heap.lt_size (show h.get? a=some _ from x)
 | met f y=>exact Heap.lt_size (show h.get? a=some _ from x)
 | ext φ=>obtain⟨_,⟨_,e⟩,_⟩:=x;exact Heap.lt_size e
theorem Paired.mapP {α β:Type}{F G:α->β->Prop}:∀{l₁:List α}{l₂:List β},Paired F l₁ l₂->(∀a b,F a b->G a b)->Paired G l₁ l₂
 | _,_,.nil,_=> .nil
 | _,_,.cons r t,f=> .cons (f _ _ r) (Paired.mapP t f)
theorem Paired.imp' {α β:Type}{F G:α->β->Prop} (f:∀a b,F a b->G a b) {l₁:List α}{l₂:List β} (r:Paired F l₁ l₂):Paired G l₁ l₂:=Paired.mapP r f
theorem ObjOk.stay (x:ObjOk P w H h a o)(k:∀b u,(b=a∨H b=some (.own a))->h.get? b=some u->h'.get? b=some u)
  (ho:∀b,H b=some (.own a)->H' b=some (.own a))(ht:∀b xs,H b=some (.tup xs)->H' b=some (.tup xs)):ObjOk P w H' h' a o:=by
 induction o with
 | lst xs=>obtain⟨z,its,n,r,e⟩:=x;exact⟨z,its,n,r,k _ _ (.inl rfl) e⟩
 | tup xs=>obtain⟨z,its,r,ob,e,c⟩:=x;exact⟨z,its,r,ob,k _ _ (.inl rfl) e,c⟩
 | dK kvs=>obtain⟨z,y,vs,r,ob,es,ep,e,c⟩:=x;exact⟨z,y,vs,r,ob,es,ep,k _ _ (.inl rfl) e,c⟩
 | dT kvs =>
  obtain⟨z,y,xs,r,ob,es,ep,e,c⟩:=x;exact⟨z,y,xs,Paired.mapP r fun p q z=>⟨z.1,ht _ _ z.2.1,z.2.2⟩,ob,es,ep,k _ _ (.inl rfl) e,c⟩
 | set S n=>obtain⟨ob,es,ep,t,e,c⟩:=x;exact⟨ob,es,ep,t,k _ _ (.inl rfl) e,c⟩
 | ins C dx fs =>
  obtain⟨d,z,ne,e,mA,⟨od,es,ep,e2,c⟩,r⟩:=x;exact⟨ho _ d,z,ne,k _ _ (.inl rfl) e,mA,⟨od,es,ep,k _ _ (.inr d) e2,c⟩,r⟩
 | own y=>obtain⟨ob,e⟩:=x;exact⟨ob,k _ _ (.inl rfl) e⟩
 | xd fs=>obtain⟨mA,⟨od,es,ep,e,c⟩,r⟩:=x;exact⟨mA,⟨od,es,ep,k _ _ (.inl rfl) e,c⟩,r⟩
 | rng lo hi=>obtain⟨t,u,v,e⟩:=x;exact⟨t,u,v,k _ _ (.inl rfl) e⟩
 | frz ob u ih=>obtain⟨e,q⟩:=x;exact⟨k _ _ (.inl rfl) e,ih q⟩
 | tbl ps =>
  have e:h.get? a=some { cls:= .none,data:= .fields ps }:=x;show h'.get? a=some { cls:= .none,data:= .fields ps };exact k a _ (.inl rfl) e
 | met f y =>
  have e:h.get? a=some (PySem.W.methodObj (.ref f) (.ref y)):=x;show h'.get? a=some (PySem.W.methodObj (.ref f) (.ref y));exact k a _ (.inl rfl) e
 | ext φ=>obtain⟨p,⟨o,e⟩,st⟩:=x;exact⟨st _ _ p fun o q=>k _ _ (.inl rfl) q,⟨o,k _ _ (.inl rfl) e⟩,st⟩
theorem HOk.lt (x:HOk P w H h)(e:H a=some o):a<h.objs.size:=(x a o e).lt
theorem HOk.fresh (x:HOk P w H h)(e:h.objs.size<=a):H a=none:=by
 cases q:H a with
 | none=>rfl
 | some u=>exact absurd (Nat.lt_of_lt_of_le (x.lt q) e) (Nat.lt_irrefl _)
theorem HOk.kept (x:HOk P w H h)(k:∀b u,h.get? b=some u->h'.get? b=some u):HOk P w H h':=fun a o e =>
 (x a o e).stay (fun b u _ q=>k b u q) (fun _ q=>q) fun _ _ q=>q
theorem HOk.laid (x:HOk P w H h)(k:∀b u,h.get? b=some u->h'.get? b=some u)(hp:h.objs.size<=a)(new:ObjOk P w (upd H a o) h' a o):HOk P w (upd H a o) h':=fun b u e=>by
 have hn:=x.fresh hp
 by_cases hb:b=a
 ·subst hb;rw[bK]at e;cases e;exact new
 ·rw[aT hb]at e;exact(x b u e).stay (fun c v _ q=>k c v q) (fun c q=>by rw[aT (bL q hn)];exact q) fun c xs q=>by rw[aT (bL q hn)];exact q
end
def Rd (H:Hp)(a:Addr)(u:HO):Prop:=H a=some u∨∃o,H a=some (.frz o u)
theorem Rd.ok {P:Program}{w:World}{H:Hp}{h:Heap}{a:Addr}{u:HO} (r:Rd H a u) (x:HOk P w H h):ObjOk P w H h a u:=by
 rcases r with r|⟨o,r⟩
 ·exact x a u r
 ·obtain⟨_,q⟩:=x a _ r;exact q
def Mut:Option HO->Prop
 | some (.lst _)=>True
 | some (.dK _)=>True
 | some (.dT _)=>True
 | some (.set _ _)=>True
 | some (.ins _ _ _)=>True
 | some (.ext _)=>True
 | _=>False
section
variable {P:Program}{w:World}{H:Hp}{h h':Heap}{x e:Addr}{o':HO}
theorem HOk.write (ok:HOk P w H h)(mu:Mut (H x))(he:e=x∨H e=some (.own x))(k:∀b u,b≠e->h.get? b=some u->h'.get? b=some u)(heo:∃u,h'.get? e=some u)
  (new:ObjOk P w (upd H x o') h' x o'):HOk P w (upd H x o') h':=fun b u q=>by
 have nown:∀c y,H c=some (.own y)->c≠x:=fun c y r z=>by subst z;rw[r]at mu;exact mu
 have ntup:∀c xs,H c=some (.tup xs)->c≠x:=fun c xs r z=>by subst z;rw[r]at mu;exact mu
 by_cases hb:b=x
 ·subst hb;rw[bK]at q;cases q;exact new
 ·rw[aT hb]at q
  by_cases hbe:b=e
  ·have q':H b=some (.own x):=by
    rcases he with z|z
    ·exact absurd (hbe.trans z) hb
    ·rw[hbe];exact z
   rw[q]at q';cases q';obtain⟨v,hv⟩:=heo;exact⟨v,by rw[hbe];exact hv⟩
  ·refine(ok b u q).stay (fun c v hc r=>k c v ?_ r) (fun c r=>by rw[aT (nown c b r)];exact r) fun c xs r=>by rw[aT (ntup c xs r)];exact r
   rcases hc with rfl|hc
   ·exact hbe
   ·rintro rfl;rcases he with z|z
    ·exact nown c b hc z
    ·rw[hc]at z;cases z;exact hb rfl
end
structure Un (fs ex:List Addr)(H H':Hp)(h h':Heap):Prop where
 keep:∀b o,h.get? b=some o->H b=none->b∉fs->b∉ex->h'.get? b=some o
 slot:∀b o,h.get? b=some o->H b=none->b∈fs->b∉ex->∃sl,h'.get? b=some { o with slots:=sl }
 free:∀b o,h.get? b=some o->H b=none->b∉ex->H' b=none
 there:∀b o,h.get? b=some o->b∉ex->∃o',h'.get? b=some o'
 tups:∀b xs,H b=some (.tup xs)->H' b=some (.tup xs)
 frzs:∀b o u,H b=some (.frz o u)->H' b=some (.frz o u)
 tbls:∀b ps,H b=some (.tbl ps)->∃more,H' b=some (.tbl (ps++more))
section
variable {fs fs' ex ex':List Addr}{H H1 H2:Hp}{h h1 h2 h':Heap}{a x e:Addr}{o:HO}
theorem Un.any (u:Un fs ex H H1 h h1){b:Addr}{ob:Obj} (q:h.get? b=some ob) (n:H b=none) (hx:b∉ex):∃sl,h1.get? b=some { ob with slots:=sl }:=by
 by_cases hb:b∈fs
 ·exact u.slot b ob q n hb hx
 ·exact⟨ob.slots,u.keep b ob q n hb hx⟩
theorem Un.kept (k:∀b u,h.get? b=some u->h'.get? b=some u):Un fs ex H H h h' :=
 ⟨fun b ob q _ _ _=>k b ob q,fun b ob q _ _ _=>⟨ob.slots,k b ob q⟩,fun _ _ _ n _=>n,fun b ob q _=>⟨ob,k b ob q⟩,fun _ _ q=>q,fun _ _ _ q=>q,fun _ ps q=>⟨#[],by rw[q];simp⟩⟩
theorem Un.refl:Un fs ex H H h h:=Un.kept fun _ _ q=>q
theorem Un.laid (k:∀b u,h.get? b=some u->h'.get? b=some u)(hp:h.objs.size<=a)(hn:H a=none):Un fs ex H (upd H a o) h h' where
 keep:=fun b u q _ _ _=>k b u q
 slot:=fun b u q _ _ _=>⟨u.slots,k b u q⟩
 free:=fun b u q n _=>by rw[aT (Nat.ne_of_lt (Nat.lt_of_lt_of_le (Heap.lt_size q) hp))];exact n
 there:=fun b u q _=>⟨u,k b u q⟩
 tups:=fun b xs q=>by rw[aT (bL q hn)];exact q
 frzs:=fun b u xs q=>by rw[aT (bL q hn)];exact q
 tbls:=fun b ps q=>⟨#[],by rw[aT (bL q hn),q];simp⟩
theorem Un.write (mu:Mut (H x))(he:e=x∨H e=some (.own x))(k:∀b u,b≠e->h.get? b=some u->h'.get? b=some u)(heo:∃u,h'.get? e=some u):Un fs ex H (upd H x o) h h':=by
 have hx:∀b,H b=none->b≠x:=fun b n z=>by subst z;rw[n]at mu;exact mu
 have hb:∀b,H b=none->b≠e:=fun b n z=>by
  subst z;rcases he with r|r
  ·exact hx b n r
  ·rw[n]at r;cases r
 have hm:∀b u,H b=some u->¬Mut (some u)->b≠x:=fun b u q nm z=>by subst z;rw[q]at mu;exact nm mu
 refine⟨fun b u q n _ _=>k b u (hb b n) q,fun b u q n _ _=>⟨u.slots,k b u (hb b n) q⟩,fun b u q n _=>by rw[aT (hx b n)];exact n,fun b u q _=> ?_,
  fun b xs q=>by rw[aT (hm b _ q fun z=>z)];exact q,fun b u xs q=>by rw[aT (hm b _ q fun z=>z)];exact q,fun b ps q=>⟨#[],by rw[aT (hm b _ q fun z=>z),q];simp⟩⟩
 by_cases hbe:b=e
 ·subst hbe;exact heo
 ·exact⟨u,k b u hbe q⟩
end
def trk (h:Heap)(H:Hp):List Addr:=(List.range h.objs.size).filter fun a=>(H a).isSome
def rU (h:Heap)(H:Hp):Heap:=PySem.W.hideAll h (trk h H)
theorem KJ (h:Heap)(H:Hp):(rU h H).objs.size=h.objs.size:=PySem.W.hideAll_size _ _
theorem N1 {h:Heap}{H:Hp}{b:Addr}{o:Obj} (e:h.get? b=some o) (n:H b=none):(rU h H).get? b=some o :=
 PySem.W.hideAll_get _ e fun hm=>by
  have q:(H b).isSome=true:=(List.mem_filter.mp hm).2;rw[n]at q;simp at q
theorem R3 {h:Heap}{H:Hp}{b:Addr}{o:Obj} (e:(rU h H).get? b=some o):h.get? b=some o/\H b=none:=by
 have e':h.get? b=some o:=PySem.W.of_hideAll (trk h H) e;refine⟨e',?_⟩;cases q:H b with
 | none=>rfl
 | some x =>
  have hm:b∈trk h H:=List.mem_filter.mpr ⟨List.mem_range.mpr (Heap.lt_size e'),by simp[q]⟩;have z:(rU h H).get? b=none:=PySem.W.hideAll_none (trk h H) hm;rw[z]at e;cases e
end L2
namespace L2
open PySem PySem.Spec PyProof.Rows
structure Mod (K:PySem.W.Frag)(mg:Str->Option Value)(base:Heap):Prop where
 kin:K.In base
 glob:base.Ns mainGlobals mg
 blt:∃mb,base.Ns builtinsNs mb/\∀x:Str,x≠ "__name__" ->mb x=bootBuiltins x
 nolimit:base.NoLimit
structure Cx where
 prog:Program
 w:World
 K:PySem.W.Frag
 mg:Str->Option Value
 base:Heap
 A:Around
 N:List Str
 s₀:Shared
 H₀:Hp
 env:Env
 outer:List Env
 stack:List Env
 ex:List Addr
 fn:Str->Bool
 calm:Bool
 pn:List (Addr×Obj)
 xe:Value->Shared->Prop
def frs (l:List Env):List Addr:=l.filterMap (·.frame)
abbrev Cx.fs (X:Cx):List Addr:=frs X.outer
def Vis (sc:Scope)(x:Str):Prop:=sc.names.lookup x=some .local∨sc.names.lookup x=some .cell∨sc.names.lookup x=some .free
def Loc (sc:Scope)(x:Str):Prop:=sc.names.lookup x=some .local∨sc.names.lookup x=some .cell
def aAd (env:Env)(h:Heap)(m:Str->Option Value)(x:Str)(u:Value):Prop :=
 (env.kindOf x=some .local/\m x=some u)∨((env.kindOf x=some .cell∨env.kindOf x=some .free)/\∃c,env.cells.lookup x=some c/\h.IsCell c (some u))
structure Cx.Ok (X:Cx):Prop where
 mod:Mod X.K X.mg X.base
 kind:X.env.scope.kind= .function
 glob:X.env.globals=mainGlobals
 blt:X.env.builtins=builtinsNs
 above:X.s₀.heap.objs.size<=X.env.locals
 inj:∀x y c,X.env.cells.lookup x=some c->X.env.cells.lookup y=some c->x=y
 has:∀x,(X.env.kindOf x=some .cell∨X.env.kindOf x=some .free)->∃c,X.env.cells.lookup x=some c
 cab:∀x c,X.fn x=true->X.env.cells.lookup x=some c->X.s₀.heap.objs.size<=c
 hd:X.calm=true->X.A.handled=none
 frames:X.A.frames=some X.stack
 stk:X.stack=X.outer∨(X.stack=X.env::X.outer/\X.env.frame=some X.env.locals)
 exf:∀b∈X.ex,b≠X.env.locals/\∀x c,X.env.cells.lookup x=some c->c≠b
 bs:∀b o,X.base.get? b=some o->X.s₀.heap.get? b=some o/\X.H₀ b=none
 bsz:X.base.objs.size<=X.s₀.heap.objs.size
 noex:∀b o,X.base.get? b=some o->b∉X.ex
 exfs:∀b∈X.ex,b∉X.fs
 funs:X.s₀.heap.FunFrames X.base X.outer
 frf:∀b∈X.fs,X.H₀ b=none
structure Inv (X:Cx)(pins:List (Addr×Obj))(σ:List (Option V))(H:Hp)(s:Shared):Prop where
 ok:X.Ok
 os:s.os=X.s₀.os
 bare:AllBare s.gens
 base:Un X.fs X.ex X.H₀ H X.s₀.heap s.heap
 loc:∃m,s.heap.Ns X.env.locals m/\∀(i:Nat) (x:Str) (v:V),X.N[i]? =some x->σ[i]? =some (some v)->Vis X.env.scope x->∃u,RelV v u/\aAd X.env s.heap m x u
 cell:∀x c,X.env.cells.lookup x=some c->∃v,s.heap.IsCell c v
 free:H X.env.locals=none
 freeC:∀x c,X.env.cells.lookup x=some c->H c=none
 pin:∀p∈X.pn++pins,s.heap.get? p.1=some p.2/\H p.1=none/\p.1≠X.env.locals/\p.1∉X.fs/\∀v,p.2.data≠ .cell v
 hok:HOk X.prog X.w H s.heap
 len:σ.length=X.N.length
section
variable {X:Cx}{pins:List (Addr×Obj)}{σ:List (Option V)}{H H':Hp}{s:Shared}{h':Heap}
theorem Cx.Ok.nofr (ok:X.Ok){b:Addr}{o:Obj} (e:X.base.get? b=some o):b∉X.fs:=fun hb=>by
 have:=(ok.funs.mem hb).1;rw[e]at this;cases this
theorem Inv.bs (I:Inv X pins σ H s):∀b o,X.base.get? b=some o->s.heap.get? b=some o/\H b=none:=fun b o e =>
 ⟨I.base.keep b o (I.ok.bs b o e).1 (I.ok.bs b o e).2 (I.ok.nofr e) (I.ok.noex b o e),I.base.free b o (I.ok.bs b o e).1 (I.ok.bs b o e).2 (I.ok.noex b o e)⟩
theorem Inv.bk (I:Inv X pins σ H s):∀b o,X.base.get? b=some o->s.heap.get? b=some o:=fun b o e=>(I.bs b o e).1
theorem Inv.mod (I:Inv X pins σ H s):Mod X.K X.mg X.base:=I.ok.mod
theorem Inv.kIn (I:Inv X pins σ H s):X.K.In s.heap:=I.ok.mod.kin.keeps I.bk
theorem Inv.lt (I:Inv X pins σ H s):X.env.locals<s.heap.objs.size:=let ⟨_,hn,_⟩:=I.loc;hn.lt
theorem Inv.sz (I:Inv X pins σ H s):X.s₀.heap.objs.size<=s.heap.objs.size:=Nat.le_trans I.ok.above (Nat.le_of_lt I.lt)
theorem Inv.nofs (I:Inv X pins σ H s){a:Addr}(h:s.heap.objs.size<=a):a∉X.fs:=fun hb=>by
 obtain⟨_,o,ho,_⟩:=I.ok.funs.mem hb;exact absurd (Nat.lt_of_lt_of_le (Heap.lt_size ho) (Nat.le_trans I.sz h)) (Nat.lt_irrefl _)
theorem Inv.cne (I:Inv X pins σ H s):∀x c,X.env.cells.lookup x=some c->c≠X.env.locals:=fun x c e z=>by
 obtain⟨v,o,ho,hd⟩:=I.cell x c e;obtain⟨m,⟨o',es,ep,ho',hd',_⟩,_⟩:=I.loc;rw[z,ho']at ho;cases ho;rw[hd']at hd;cases hd
theorem Inv.funs (I:Inv X pins σ H s):s.heap.FunFrames X.base X.outer:=by
 have all:∀(l:List Env),(∀b∈frs l,b∈X.fs)->X.s₀.heap.FunFrames X.base l->s.heap.FunFrames X.base l:=by
  intro l
  induction l with
  | nil=>intro _ _;trivial
  | cons env r ih =>
   intro hs hl;obtain⟨hk,⟨L,o,hf,hn,ho,hd⟩,hr⟩:=hl;have hL:L∈X.fs:=hs L (by unfold frs;rw[List.filterMap_cons,hf];exact List.mem_cons_self);obtain⟨sl,e⟩:=I.base.slot L o ho (I.ok.frf L hL) hL fun z=>I.ok.exfs L z hL;exact⟨hk,⟨L,_,hf,hn,e,hd⟩,ih (fun b hb=>hs b (by unfold frs;rw[List.filterMap_cons,hf];exact List.mem_cons_of_mem _ hb)) hr⟩
 exact all X.outer (fun _ hb=>hb) I.ok.funs
theorem Inv.stack (I:Inv X pins σ H s):s.heap.FunFrames X.base X.stack:=by
 rcases I.ok.stk with e|⟨e,hf⟩
 ·rw[e];exact I.funs
 ·rw[e];obtain⟨m,hn,_⟩:=I.loc;refine .cons (by rw[I.ok.kind];decide) hf hn ?_ I.funs;exact Heap.get?_none_of_le (Nat.le_trans I.ok.bsz I.ok.above)
theorem Inv.stkSub (I:Inv X pins σ H s):∀b∈frs X.stack,b∈X.env.locals::X.fs:=fun b hb=>by
 rcases I.ok.stk with e|⟨e,hf⟩
 ·rw[e]at hb;exact List.mem_cons_of_mem _ hb
 ·rw[e]at hb;unfold frs at hb;rw[List.filterMap_cons,hf]at hb;exact hb
theorem Inv.stkFree (I:Inv X pins σ H s):∀b∈frs X.stack,H b=none:=fun b hb=>by
 rcases List.mem_cons.mp (I.stkSub b hb) with e|hb
 ·rw[e];exact I.free
 ·obtain⟨_,o,ho,_⟩:=I.ok.funs.mem hb;exact I.base.free b o ho (I.ok.frf b hb) fun z=>I.ok.exfs b z hb
theorem Inv.step {g':Array GenState}{t':Nat}{d':Drawn}{ch:List Addr} (I:Inv X pins σ H s)
  (hch:∀b∈ch,(b∈X.ex∨X.s₀.heap.objs.size<=b)/\b≠X.env.locals/\(∀x c,X.env.cells.lookup x=some c->c≠b)/\∀p∈X.pn++pins,p.1≠b)
  (keep:∀b o,b≠X.env.locals->b∉X.fs->b∉ch->s.heap.get? b=some o->H b=none->h'.get? b=some o)
  (slot:∀b o,b≠X.env.locals->b∈X.fs->b∉ch->s.heap.get? b=some o->H b=none->∃sl,h'.get? b=some { o with slots:=sl })(free:∀b o,b∉ch->s.heap.get? b=some o->H b=none->H' b=none)
  (there:∀b o,b∉ch->s.heap.get? b=some o->∃o',h'.get? b=some o')
  (tups:∀b xs,H b=some (.tup xs)->H' b=some (.tup xs))(frzs:∀b o u,H b=some (.frz o u)->H' b=some (.frz o u))(tbls:∀b ps,H b=some (.tbl ps)->∃more,H' b=some (.tbl (ps++more)))
  (ns:∀m,s.heap.Ns X.env.locals m->h'.Ns X.env.locals m)(hok:HOk X.prog X.w H' h')(hg:AllBare g') :
  Inv X pins σ H' { s with heap:=h',gens:=g',drawn:=d',toks:=t' }:=by
 have neL:∀b o,X.s₀.heap.get? b=some o->b≠X.env.locals:=fun b o e=>Nat.ne_of_lt (Nat.lt_of_lt_of_le (Heap.lt_size e) I.ok.above);have neC:∀b o,X.s₀.heap.get? b=some o->b∉X.ex->b∉ch:=fun b o e hx hb=>by
  rcases (hch b hb).1 with z|z
  ·exact hx z
  ·exact absurd (Nat.lt_of_lt_of_le (Heap.lt_size e) z) (Nat.lt_irrefl _)
 have cellK:∀x c,X.env.cells.lookup x=some c->∀v,s.heap.IsCell c v->h'.IsCell c v:=fun x c e v ⟨o,ho,hd⟩=>by
  have nch:c∉ch:=fun z=>(hch c z).2.2.1 x c e rfl
  by_cases hc:c∈X.fs
  ·obtain⟨sl,q⟩:=slot c o (I.cne x c e) hc nch ho (I.freeC x c e);exact⟨_,q,hd⟩
  ·exact⟨o,keep c o (I.cne x c e) hc nch ho (I.freeC x c e),hd⟩
 refine⟨I.ok,I.os,hg,⟨fun b o e n hb hx=> ?_,fun b o e n hb hx=> ?_,fun b o e n hx=> ?_,fun b o e hx=> ?_,fun b xs e=>tups b xs (I.base.tups b xs e),fun b o xs e=>frzs b o xs (I.base.frzs b o xs e),fun b ps e=> ?_⟩,?_,fun x c e=> ?_,?_,fun x c e=> ?_,fun p hp=> ?_,hok,I.len⟩
 ·exact keep b o (neL b o e) hb (neC b o e hx) (I.base.keep b o e n hb hx) (I.base.free b o e n hx)
 ·obtain⟨sl,e1⟩:=I.base.slot b o e n hb hx;obtain⟨sl',e2⟩:=slot b _ (neL b o e) hb (neC b o e hx) e1 (I.base.free b o e n hx);exact⟨sl',e2⟩
 ·obtain⟨o',e1⟩:=I.base.there b o e hx;exact free b o' (neC b o e hx) e1 (I.base.free b o e n hx)
 ·obtain⟨o',e1⟩:=I.base.there b o e hx;exact there b o' (neC b o e hx) e1
 ·obtain⟨m1,e1⟩:=I.base.tbls b ps e;obtain⟨m2,e2⟩:=tbls b _ e1;exact⟨m1++m2,by rw[e2,Array.append_assoc]⟩
 ·obtain⟨m,hn,hl⟩:=I.loc;refine⟨m,ns m hn,fun i x v e1 e2 e3=> ?_⟩;obtain⟨u,r,l⟩:=hl i x v e1 e2 e3;refine⟨u,r,?_⟩;rcases l with l|⟨k,c,e,z⟩
  ·exact .inl l
  ·exact .inr ⟨k,c,e,cellK x c e _ z⟩
 ·obtain⟨v,z⟩:=I.cell x c e;exact⟨v,cellK x c e v z⟩
 ·obtain⟨m,⟨o,_,_,ho,_⟩,_⟩:=I.loc;exact free _ o (fun z=>(hch _ z).2.1 rfl) ho I.free
 ·obtain⟨v,o,ho,hd⟩:=I.cell x c e;exact free c o (fun z=>(hch c z).2.2.1 x c e rfl) ho (I.freeC x c e)
 ·obtain⟨e,n,ne,nf,d⟩:=I.pin p hp;have nch:p.1∉ch:=fun z=>(hch p.1 z).2.2.2 p hp rfl;exact⟨keep p.1 p.2 ne nf nch e n,free p.1 p.2 nch e n,ne,nf,d⟩
theorem Inv.un {t':Nat}(I:Inv X pins σ H s)(u:Un X.fs [] H H' s.heap h')(hok:HOk X.prog X.w H' h'):Inv X pins σ H' { s with heap:=h',toks:=t' }:=by
 obtain⟨m,⟨o,es,ep,ho,r⟩,_⟩:=id I.loc;obtain⟨sl,hL⟩:=u.any ho I.free (by simp);exact I.step (g':=s.gens) (d':=s.drawn) (ch:=[]) (fun _ z=>nomatch z) (fun b o _ hb _ e n=>u.keep b o e n hb (by simp)) (fun b o _ hb _ e n=>u.slot b o e n hb (by simp)) (fun b o _ e n=>u.free b o e n (by simp)) (fun b o _ e=>u.there b o e (by simp)) u.tups u.frzs u.tbls (fun m' hm=>by
  obtain⟨o',es',ep',ho',r'⟩:=hm;rw[ho]at ho';cases ho';exact⟨_,es',ep',hL,r'⟩) hok I.bare
theorem Inv.call {g':Array GenState}{t':Nat}{d':Drawn}{ch:List Addr} (I:Inv X pins σ H s) (u:Un (frs X.stack) ch H H' s.heap h') (hok:HOk X.prog X.w H' h') (hg:AllBare g')
  (hch:∀b∈ch,(b∈X.ex∨X.s₀.heap.objs.size<=b)/\b≠X.env.locals/\(∀x c,X.env.cells.lookup x=some c->c≠b)/\∀p∈X.pn++pins,p.1≠b) :
  Inv X pins σ H' { s with heap:=h',gens:=g',drawn:=d',toks:=t' }:=by
 obtain⟨m,⟨o,es,ep,ho,r⟩,_⟩:=id I.loc;obtain⟨sl,hL⟩:=u.any ho I.free fun z=>(hch _ z).2.1 rfl;exact I.step (ch:=ch) hch (fun b o hL hb hc e n=>u.keep b o e n (fun z=>(List.mem_cons.mp (I.stkSub b z)).elim hL hb) hc) (fun b o _ _ hc e n=>u.any e n hc) (fun b o hc e n=>u.free b o e n hc) (fun b o hc e=>u.there b o e hc) u.tups u.frzs u.tbls (fun m' hm=>by
  obtain⟨o',es',ep',ho',r'⟩:=hm;rw[ho]at ho';cases ho';exact⟨_,es',ep',hL,r'⟩) hok hg
theorem Inv.turned {t':Nat}{it:Addr} (I:Inv X pins σ H s) (k:∀b o,b≠it->s.heap.get? b=some o->h'.get? b=some o) (hn:H it=none) (hL:it≠X.env.locals)
  (h1:it∈X.ex∨X.s₀.heap.objs.size<=it)(h2:∀x c,X.env.cells.lookup x=some c->c≠it)(h3:∀p∈X.pn++pins,p.1≠it):Inv X pins σ H { s with heap:=h',toks:=t' }:=by
 have nit:∀b u,H b=some u->b≠it:=fun b u e z=>by rw[z,hn]at e;cases e
 refine I.step (g':=s.gens) (d':=s.drawn) (ch:=[it]) (fun b hb=> ?_) (fun b o _ _ hc e _=>k b o (fun z=>hc (by simp[z])) e) (fun b o _ _ hc e _=>⟨o.slots,k b o (fun z=>hc (by simp[z])) e⟩) (fun _ _ _ _ n=>n)
  (fun b o hc e=>⟨o,k b o (fun z=>hc (by simp[z])) e⟩) (fun _ _ e=>e) (fun _ _ _ e=>e) (fun b ps e=>⟨#[],by rw[e];simp⟩) (fun m hm=> ?_) (fun b u e=> ?_) I.bare
 ·have e:b=it:=by simpa using hb
  subst e;exact⟨h1,hL,h2,h3⟩
 ·obtain⟨o,es,ep,ho,r⟩:=hm;exact⟨o,es,ep,k _ o (Ne.symm hL) ho,r⟩
 ·refine(I.hok b u e).stay (fun c v hc q=>k c v ?_ q) (fun _ q=>q) fun _ _ q=>q;rcases hc with z|z
  ·rw[z];exact nit b u e
  ·exact nit c _ z
theorem Inv.tok (I:Inv X pins σ H s)(t:Nat):Inv X pins σ H { s with toks:=t }:=I.un (h':=s.heap) (t':=t) Un.refl I.hok
theorem Inv.kept {t':Nat}(I:Inv X pins σ H s)(k:∀b u,s.heap.get? b=some u->h'.get? b=some u):Inv X pins σ H { s with heap:=h',toks:=t' }:=I.un (Un.kept k) (I.hok.kept k)
theorem Inv.laid {a:Addr}{o:HO}{t':Nat} (I:Inv X pins σ H s) (k:∀b u,s.heap.get? b=some u->h'.get? b=some u) (hp:s.heap.objs.size<=a) (new:ObjOk X.prog X.w (upd H a o) h' a o) :
  Inv X pins σ (upd H a o) { s with heap:=h',toks:=t' }:=I.un (Un.laid k hp (I.hok.fresh hp)) (I.hok.laid k hp new)
theorem Inv.write {x e:Addr}{o:HO}{t':Nat} (I:Inv X pins σ H s) (mu:Mut (H x)) (he:e=x∨H e=some (.own x)) (k:∀b u,b≠e->s.heap.get? b=some u->h'.get? b=some u) (heo:∃u,h'.get? e=some u)
  (new:ObjOk X.prog X.w (upd H x o) h' x o):Inv X pins σ (upd H x o) { s with heap:=h',toks:=t' }:=I.un (Un.write mu he k heo) (I.hok.write mu he k heo new)
theorem Inv.weak {σ':List (Option V)}(I:Inv X pins σ H s)(hl:σ'.length=σ.length)(w:∀(i:Nat) v,σ'[i]? =some (some v)->σ[i]? =some (some v)):Inv X pins σ' H s :=
 ⟨I.ok,I.os,I.bare,I.base,let ⟨m,hn,hl'⟩:=I.loc;⟨m,hn,fun i x v e1 e2 e3=>hl' i x v e1 (w i v e2) e3⟩,I.cell,I.free,I.freeC,I.pin,I.hok,hl.trans I.len⟩
theorem Inv.pins_of {pins':List (Addr×Obj)}(I:Inv X pins σ H s)(h:∀p∈pins',s.heap.get? p.1=some p.2/\H p.1=none/\p.1≠X.env.locals/\p.1∉X.fs/\∀v,p.2.data≠ .cell v):Inv X pins' σ H s :=
 ⟨I.ok,I.os,I.bare,I.base,I.loc,I.cell,I.free,I.freeC,fun p hp=>(List.mem_append.mp hp).elim (fun z=>I.pin p (List.mem_append_left _ z)) (h p),I.hok,I.len⟩
theorem DH {N:List Str}(hN:N.Nodup){i j:Nat}{x:Str} (a:N[i]? =some x) (b:N[j]? =some x):i=j:=by
 obtain⟨h1,e1⟩:=List.getElem?_eq_some_iff.mp a;obtain⟨h2,e2⟩:=List.getElem?_eq_some_iff.mp b;exact(List.getElem_inj hN).mp (e1.trans e2.symm)
theorem KA {M:Model}{A:Around}{E:Value->Shared->Prop}{i:Nat}{x:Str}{v:V}{u:Value}{Q:Unit->Shared->Prop} (I:Inv X pins σ H s) (hN:X.N.Nodup) (hi:X.N[i]? =some x) (hx:Loc X.env.scope x) (r:RelV v u)
  (h:∀s',Inv X pins (σ.set i (some v)) H s'->(∃a,Heap.SameBut a s.heap s'.heap/\(a=X.env.locals∨X.env.cells.lookup x=some a))->Q () s')(hf:X.fn x=true∨X.env.scope.names.lookup x=some .local:=by first|exact .inl rfl|exact .inr rfl|assumption):wpAny M A (storeName X.env x u) Q E s:=by
 obtain⟨m,hn,hl⟩:=id I.loc;have hcls:(X.env.scope.kind== .class||(X.env.scope.kind== .module&&X.env.locals !=X.env.globals))=false:=by rw[I.ok.kind];rfl
 have hiσ:i<σ.length:=by rw[I.len];exact(List.getElem?_eq_some_iff.mp hi).1
 have cne:=I.cne;have tracked:∀{a:Addr}{h':Heap},(∃o,s.heap.get? a=some o/\H a=none)->Heap.SameBut a s.heap h'->HOk X.prog X.w H h':=fun {a h'} ha hs b ob e=>by
  obtain⟨_,_,hfree⟩:=ha;refine(I.hok b ob e).stay (fun c w' hc q=>(hs.2 c ?_).trans q) (fun _ q=>q) fun _ _ q=>q;rintro rfl;rcases hc with rfl|hc
  ·rw[hfree]at e;cases e
  ·rw[hfree]at hc;cases hc
 rcases hx with hk|hk
 ·refine wpAny_storeName_local hk hn (fun h' hn' hs=> ?_) hcls;obtain⟨oL,_,_,hoL,_⟩:=id hn;refine h _ ⟨I.ok,I.os,I.bare,⟨fun b o e n hb hx=> ?_,fun b o e n hb hx=> ?_,I.base.free,fun b o e hx=> ?_,I.base.tups,I.base.frzs,I.base.tbls⟩,⟨_,hn',fun j y v' e1 e2 e3=> ?_⟩,fun y c e=> ?_,I.free,I.freeC,fun p hp=> ?_,tracked ⟨oL,hoL,I.free⟩ hs,by simpa using I.len⟩ ⟨_,hs,.inl rfl⟩
  ·exact(hs.2 b (Nat.ne_of_lt (Nat.lt_of_lt_of_le (Heap.lt_size e) I.ok.above))).trans (I.base.keep b o e n hb hx)
  ·obtain⟨sl,e1⟩:=I.base.slot b o e n hb hx;exact⟨sl,(hs.2 b (Nat.ne_of_lt (Nat.lt_of_lt_of_le (Heap.lt_size e) I.ok.above))).trans e1⟩
  ·obtain⟨o',e1⟩:=I.base.there b o e hx;exact⟨o',(hs.2 b (Nat.ne_of_lt (Nat.lt_of_lt_of_le (Heap.lt_size e) I.ok.above))).trans e1⟩
  ·by_cases hj:j=i
   ·subst hj;rw[hi]at e1;cases e1;rw[List.getElem?_set_self hiσ]at e2;cases e2;exact⟨u,r,.inl ⟨hk,by simp⟩⟩
   ·rw[List.getElem?_set_ne (Ne.symm hj)]at e2;obtain⟨u',r',q⟩:=hl j y v' e1 e2 e3;refine⟨u',r',?_⟩;rcases q with⟨k,e⟩|⟨k,c,e,z⟩
    ·refine .inl ⟨k,?_⟩;have:y≠x:=fun e=>hj (DH hN e1 (e▸hi));simp[this,e]
    ·exact .inr ⟨k,c,e,z.sameBut hs (cne y c e)⟩
  ·obtain⟨w',z⟩:=I.cell y c e;exact⟨w',z.sameBut hs (cne y c e)⟩
  ·obtain⟨e,n,ne,nf,d⟩:=I.pin p hp;exact⟨(hs.2 p.1 ne).trans e,n,ne,nf,d⟩
 ·have hfn:X.fn x=true:=by
   rcases hf with z|z
   ·exact z
   ·rw[z]at hk;cases hk
  obtain⟨c,hc⟩:=I.ok.has x (.inl hk);obtain⟨w',z⟩:=I.cell x c hc;refine wpAny_storeName_cell I.ok.kind hk hc z (fun h' hc' hs=> ?_);obtain⟨oc,hoc,hocd⟩:=id z;refine h { s with heap:=h' } ⟨I.ok,I.os,I.bare,⟨fun b o e n hb hx=> ?_,fun b o e n hb hx=> ?_,I.base.free,fun b o e hx=> ?_,I.base.tups,I.base.frzs,I.base.tbls⟩,⟨m,hn.sameBut hs (Ne.symm (cne x c hc)),fun j y v' e1 e2 e3=> ?_⟩,fun y c' e=> ?_,I.free,I.freeC,fun p hp=> ?_,tracked ⟨oc,hoc,I.freeC x c hc⟩ hs,by simpa using I.len⟩ ⟨c,hs,.inr hc⟩
  ·exact(hs.2 b (Nat.ne_of_lt (Nat.lt_of_lt_of_le (Heap.lt_size e) (I.ok.cab x c hfn hc)))).trans (I.base.keep b o e n hb hx)
  ·obtain⟨sl,e1⟩:=I.base.slot b o e n hb hx;exact⟨sl,(hs.2 b (Nat.ne_of_lt (Nat.lt_of_lt_of_le (Heap.lt_size e) (I.ok.cab x c hfn hc)))).trans e1⟩
  ·obtain⟨o',e1⟩:=I.base.there b o e hx;exact⟨o',(hs.2 b (Nat.ne_of_lt (Nat.lt_of_lt_of_le (Heap.lt_size e) (I.ok.cab x c hfn hc)))).trans e1⟩
  ·by_cases hj:j=i
   ·subst hj;rw[hi]at e1;cases e1;rw[List.getElem?_set_self hiσ]at e2;cases e2;exact⟨u,r,.inr ⟨.inl hk,c,hc,hc'⟩⟩
   ·rw[List.getElem?_set_ne (Ne.symm hj)]at e2;obtain⟨u',r',q⟩:=hl j y v' e1 e2 e3;refine⟨u',r',?_⟩;rcases q with q|⟨k,c',e,z'⟩
    ·exact .inl q
    ·refine .inr ⟨k,c',e,z'.sameBut hs ?_⟩;rintro rfl;exact hj (DH hN e1 (I.ok.inj _ _ _ e hc▸hi))
  ·by_cases hcc:c'=c
   ·subst hcc;exact⟨_,hc'⟩
   ·obtain⟨w2,z2⟩:=I.cell y c' e;exact⟨w2,z2.sameBut hs hcc⟩
  ·obtain⟨e,n,ne,nf,d⟩:=I.pin p hp;refine⟨(hs.2 p.1 ?_).trans e,n,ne,nf,d⟩;intro q;rw[q,hoc]at e;have q':oc=p.2:=Option.some.inj e;exact d w' (by rw[←q'];exact hocd)
theorem EH {M:Model}{A:Around}{E:Value->Shared->Prop}{i:Nat}{x:Str}{v:V}{u:Value}{Q:Unit->Shared->Prop} (I:Inv X pins σ H s) (hN:X.N.Nodup) (hi:X.N[i]? =some x) (hx:Loc X.env.scope x) (r:RelV v u)
  (h:∀s',Inv X pins (σ.set i (some v)) H s'->Q () s')(hf:X.fn x=true∨X.env.scope.names.lookup x=some .local:=by first|exact .inl rfl|exact .inr rfl|assumption):wpAny M A (storeName X.env x u) Q E s :=
 KA I hN hi hx r (fun s' I' _=>h s' I') hf
theorem Inv.call' {s':Shared}{ch:List Addr} (I:Inv X pins σ H s) (ho:s'.os=s.os) (u:Un (frs X.stack) ch H H' s.heap s'.heap) (hok:HOk X.prog X.w H' s'.heap) (hg:AllBare s'.gens)
  (hch:∀b∈ch,(b∈X.ex∨X.s₀.heap.objs.size<=b)/\b≠X.env.locals/\(∀x c,X.env.cells.lookup x=some c->c≠b)/\∀p∈X.pn++pins,p.1≠b):Inv X pins σ H' s':=by
 obtain⟨h',g',d',t',o'⟩:=s';have e:o'=s.os:=ho;subst e;exact I.call (g':=g') (t':=t') (d':=d') u hok hg hch
end
abbrev XK:=Value->Option Addr->Hp->Prop
abbrev St:=List (Option V)
abbrev VK:=V->Hp->Prop
abbrev TE:=St->Hp->VK->Prop
abbrev TT:=St->Hp->(Bool->Hp->Prop)->Prop
abbrev TA:=St->Hp->(List V->Hp->Prop)->Prop
structure pK where
 nx:St->Hp->Prop
 rt:VK
 bk:St->Hp->Prop:=fun _ _=>False
 ct:St->Hp->Prop:=fun _ _=>False
abbrev TS:=pK->St->Hp->Prop
def EP (X:Cx)(pins:List (Addr×Obj))(σ:St)(Q:VK)(u:Value)(s':Shared):Prop:=∃v H',Inv X pins σ H' s'/\RelV v u/\Q v H'
def TP (X:Cx)(pins:List (Addr×Obj))(σ:St)(Q:Bool->Hp->Prop)(b:Bool)(s':Shared):Prop:=∃H',Inv X pins σ H' s'/\Q b H'
def AP (X:Cx)(pins:List (Addr×Obj))(σ:St)(Q:List V->Hp->Prop)(us:List Value)(s':Shared):Prop:=∃vs H',Inv X pins σ H' s'/\Vals vs us/\Q vs H'
def SP (X:Cx)(pins:List (Addr×Obj))(D:pK)(f:Flow)(s':Shared):Prop :=
 match f with
 | .next=>∃σ' H',Inv X pins σ' H' s'/\D.nx σ' H'
 | .brk=>∃σ' H',Inv X pins σ' H' s'/\D.bk σ' H'
 | .cont=>∃σ' H',Inv X pins σ' H' s'/\D.ct σ' H'
 | .ret u=>∃v σ' H',Inv X pins σ' H' s'/\RelV v u/\D.rt v H'
def PE (X:Cx)(e:Expr)(t:TE):Prop :=
 ∀(pins:List (Addr×Obj)) (s:Shared) (σ:St) (H:Hp) (Q:VK),Inv X pins σ H s->t σ H Q->wpAny (model X.prog X.w) X.A (eval e X.env) (EP X pins σ Q) X.xe s
def PT (X:Cx)(e:Expr)(t:TT):Prop :=
 ∀(pins:List (Addr×Obj)) (s:Shared) (σ:St) (H:Hp) (Q:Bool->Hp->Prop),Inv X pins σ H s->t σ H Q->wpAny (model X.prog X.w) X.A (isTrue e X.env (eval e X.env)) (TP X pins σ Q) X.xe s
def PW (X:Cx)(e:Expr)(t:TT):Prop :=
 ∀(whole:Sem Value) (pins:List (Addr×Obj)) (s:Shared) (σ:St) (H:Hp) (Q:Bool->Hp->Prop),Inv X pins σ H s->t σ H Q->wpAny (model X.prog X.w) X.A (isTrue e X.env whole) (TP X pins σ Q) X.xe s
theorem PW.pt {X:Cx}{e:Expr}{t:TT} (h:PW X e t):PT X e t:=h _
def PA (X:Cx)(es:List Expr)(t:TA):Prop :=
 ∀(pos:Pos) (pins:List (Addr×Obj)) (s:Shared) (σ:St) (H:Hp) (Q:List V->Hp->Prop),Inv X pins σ H s->t σ H Q->wpAny (model X.prog X.w) X.A (spliced (backTo pos (starEach es X.env))) (AP X pins σ Q) X.xe s
def PS (X:Cx)(st:Stmt)(t:TS):Prop :=
 ∀(pins:List (Addr×Obj)) (s:Shared) (σ:St) (H:Hp) (D:pK),Inv X pins σ H s->t D σ H->wpAny (model X.prog X.w) X.A (exec st X.env) (SP X pins D) X.xe s
def PSs (X:Cx)(st:List Stmt)(t:TS):Prop :=
 ∀(pins:List (Addr×Obj)) (s:Shared) (σ:St) (H:Hp) (D:pK),Inv X pins σ H s->t D σ H->wpAny (model X.prog X.w) X.A (execs st X.env) (SP X pins D) X.xe s
theorem thn {α:Type}{t:Sem α}{Q Q':α->Shared->Prop}{M:Model}{A:Around}{E:Value->Shared->Prop}{s:Shared} (h:wpAny M A t Q E s) (hQ:∀a s,Q a s->Q' a s):wpAny M A t Q' E s:=wpAny_mono h hQ fun _ _ x=>x
end L2
namespace L2
open PySem PySem.Spec PyProof.Rows
section
variable {X:Cx}
def jX (i:Nat):TE:=fun σ H Q=>∃v,σ[i]? =some (some v)/\Q v H
def tC (v:V):TE:=fun _ H Q=>Q v H
theorem W8 {i:Nat}{x:Str}{pos:Pos} (hN:X.N[i]? =some x) (hv:Vis X.env.scope x) (hd:(x==("__debug__" :Str))=false:=by decide) (hcd:(x==("__classdict__" :Str))=false:=by decide):PE X (.Name x pos) (jX i):=by
 intro pins s σ H Q I h;obtain⟨v,e,h⟩:=h;obtain⟨m,hn,hl⟩:=I.loc;obtain⟨u,r,l⟩:=hl i x v hN e hv;have fin:EP X pins σ Q u s:=⟨v,H,I,r,h⟩
 rcases l with⟨hk,hm⟩|⟨hk,c,hc,hcell⟩
 ·exact wpAny_Name (wpAny_loadName_local I.ok.kind hk hn hm fin) hd
 ·rcases hk with hk|hk
  ·exact wpAny_Name (wpAny_loadName_cell I.ok.kind hk hc hcell fin) hd
  ·exact wpAny_Name (wpAny_loadName_free I.ok.kind hk hc hcell fin hcd) hd
theorem aF {i j pos}:PE X (.Constant (.int i) j pos) (tC (.int i)):=fun _ _ _ H _ I h=>wpAny_Constant_int ⟨.int i,H,I.tok _,⟨_,rfl⟩,h⟩
theorem uS {b j pos}:PE X (.Constant (.bool b) j pos) (tC (.bl b)):=fun _ _ _ H _ I h=>Constant_bool ⟨.bl b,H,I,rfl,h⟩
theorem DE {j pos}:PE X (.Constant .none j pos) (tC .non):=fun _ _ _ H _ I h=>Constant_none ⟨.non,H,I,rfl,h⟩
theorem c3 {x j pos}:PE X (.Constant (.str x) j pos) (tC (.str x)):=fun _ _ _ H _ I h=>Calls.Constant_str ⟨.str x,H,I.tok _,⟨_,rfl⟩,h⟩
def Gl (X:Cx)(x:Str):Prop:=X.env.kindOf x=some .globalImplicit
theorem uJ {E:Value->Shared->Prop}{pins:List (Addr×Obj)}{s:Shared}{σ:St}{H:Hp}{x:Str}{u:Value}{pos:Pos}{Q:Value->Shared->Prop} (I:Inv X pins σ H s) (hg:Gl X x) (hm:X.mg x=some u) (h:Q u s)
  (hd:(x==("__debug__" :Str))=false:=by decide):wpAny (model X.prog X.w) X.A (eval (.Name x pos) X.env) Q E s :=
 Calls.Name_function_global I.ok.kind hg (Calls.loadGlobal_global (by rw[I.ok.glob];exact I.mod.glob.keeps I.bk) hm h) hd
theorem p9 {E:Value->Shared->Prop}{pins:List (Addr×Obj)}{s:Shared}{σ:St}{H:Hp}{x:Str}{u:Value}{pos:Pos}{Q:Value->Shared->Prop} (I:Inv X pins σ H s) (hg:Gl X x) (hm:X.mg x=none) (hv:bootBuiltins x=some u) (h:Q u s)
  (hn:x≠ "__name__" :=by decide)(hd:(x==("__debug__" :Str))=false:=by decide):wpAny (model X.prog X.w) X.A (eval (.Name x pos) X.env) Q E s:=by
 obtain⟨mb,h1,h2⟩:=I.mod.blt;exact Calls.Name_function_global I.ok.kind hg (Calls.loadGlobal_builtin (by rw[I.ok.glob];exact I.mod.glob.keeps I.bk) hm (by rw[I.ok.blt];exact h1.keeps I.bk) ((h2 x hn).trans hv) h) hd
theorem SV {x:Str}{v:V}{u:Value}{pos:Pos} (hg:Gl X x) (hm:X.mg x=some u) (r:RelV v u) (hd:(x==("__debug__" :Str))=false:=by decide):PE X (.Name x pos) (tC v) :=
 fun _ _ _ H _ I h=>uJ I hg hm ⟨v,H,I,r,h⟩ hd
theorem T0 {x:Str}{v:V}{u:Value}{pos:Pos} (hg:Gl X x) (hm:X.mg x=none) (hv:bootBuiltins x=some u) (r:RelV v u) (hn:x≠ "__name__" :=by decide) (hd:(x==("__debug__" :Str))=false:=by decide):PE X (.Name x pos) (tC v) :=
 fun _ _ _ H _ I h=>p9 I hg hm hv ⟨v,H,I,r,h⟩ hn hd
variable {a b:Expr}{ta tb:TE}{pos:Pos}
def PC (X:Cx)(op:CmpOp)(a b:Expr)(t:TE):Prop :=
 ∀(pins:List (Addr×Obj)) (s:Shared) (σ:St) (H:Hp) (Q:VK),Inv X pins σ H s->t σ H Q →
  wpAny (model X.prog X.w) X.A (eval a X.env) (fun v s₁=>wpAny (model X.prog X.w) X.A (eval b X.env) (fun u s₂=>wpAny (model X.prog X.w) X.A (compareOp op v u) (EP X pins σ Q) X.xe s₂) X.xe s₁) X.xe s
def tB (t:TE):TT:=fun σ H Q=>t σ H fun x H1=>∃c,x= .bl c/\Q c H1
theorem DN {op:CmpOp}{t:TE} (h:PC X op a b t) (h1:behindInMarks op b=false:=by first|exact nobehind _ (by decide) (by decide)|rfl):PT X (.Compare a [op] [b] pos) (tB t):=by
 intro pins s σ H Q I hw;refine wpAny_isTrue_Compare1 (thn (h pins s σ H _ I hw) fun v s1 h1=>thn h1 fun u s2 h2=>thn h2 fun c s3 ⟨x,H1,I1,r1,q1⟩=> ?_) h1;obtain⟨d,rfl,q⟩:=q1;cases r1;exact wpAny_truthy_bool ⟨H1,I1,q⟩
theorem lY {e:Expr}{t:TE} (h:PE X e t) (he:∀whole,isTrue e X.env whole=(do let v ←whole;standAt e.pos;holding [v] (truthy v)):=by intro _;rfl):PT X e (tB t):=by
 intro pins s σ H Q I hw;refine isTrue_plain (thn (h pins s σ H _ I hw) fun v s1 ⟨x,H1,I1,r1,q1⟩=> ?_) (he _);obtain⟨d,rfl,q⟩:=q1;cases r1;exact wpAny_truthy_bool ⟨H1,I1,q⟩
variable {tA tB':TT}{rest:List Expr}
def WM (t u:TT):TT:=fun σ H Q=>t σ H fun c H1=>if c=true then u σ H1 Q else Q false H1
def tOr (t u:TT):TT:=fun σ H Q=>t σ H fun c H1=>if c=true then Q true H1 else u σ H1 Q
def X0 (t:TT):TT:=fun σ H Q=>t σ H fun c H1=>Q (!c) H1
theorem qK (ha:PT X a tA):PW X (.BoolOp .And [a] pos) tA:=by
 intro wh pins s σ H Q I h;refine isTrue_and (thn (ha pins s σ H Q I h) fun c s1 e=> ?_);cases c with
 | true=>exact isTrue_and_nil e
 | false=>exact e
theorem DA (ha:PT X a tA):PW X (.BoolOp .Or [a] pos) tA:=by
 intro wh pins s σ H Q I h;refine isTrue_or (thn (ha pins s σ H Q I h) fun c s1 e=> ?_);cases c with
 | false=>exact isTrue_or_nil e
 | true=>exact e
theorem tY (ha:PT X a tA)(hb:PW X (.BoolOp .And (b::rest) pos) tB'):PW X (.BoolOp .And (a::b::rest) pos) (WM tA tB'):=by
 intro wh pins s σ H Q I h;refine isTrue_and (thn (ha pins s σ H _ I h) fun c s1 ⟨H1,I1,q1⟩=> ?_);cases c with
 | true=>exact hb wh pins s1 σ H1 Q I1 q1
 | false=>exact⟨H1,I1,q1⟩
theorem CJ (ha:PT X a tA)(hb:PW X (.BoolOp .Or (b::rest) pos) tB'):PW X (.BoolOp .Or (a::b::rest) pos) (tOr tA tB'):=by
 intro wh pins s σ H Q I h;refine isTrue_or (thn (ha pins s σ H _ I h) fun c s1 ⟨H1,I1,q1⟩=> ?_);cases c with
 | true=>exact⟨H1,I1,q1⟩
 | false=>exact hb wh pins s1 σ H1 Q I1 q1
theorem qD (ha:PT X a tA):PT X (.UnaryOp .Not a pos) (X0 tA):=by
 intro pins s σ H Q I h;exact isTrue_not (ha pins s σ H (fun c H1=>Q (!c) H1) I h)
def QX (ta tb:TE):TE:=fun σ H Q=>ta σ H fun x H1=>∃c,x= .bl c/\if c=true then tb σ H1 Q else Q (.bl false) H1
def Y2 (ta:TE):TE:=fun σ H Q=>ta σ H fun x H1=>∃c,x= .bl c/\Q (.bl (!c)) H1
theorem CO {op}{t:TE} (h:PE X a t):PE X (.BoolOp op [a] pos) t:=fun pins s σ H Q I hw=>BoolOp_one (h pins s σ H Q I hw)
theorem EG (ha:PE X a ta)(hb:PE X (.BoolOp .And (b::rest) pos) tb):PE X (.BoolOp .And (a::b::rest) pos) (QX ta tb):=by
 intro pins s σ H Q I h;refine BoolOp_and (thn (ha pins s σ H _ I h) fun v s1 ⟨x,H1,I1,r1,q1⟩=> ?_);obtain⟨c,rfl,q1⟩:=q1;cases r1;refine wpAny_truthy_bool ?_;cases c with
 | true=>exact hb pins s1 σ H1 Q I1 q1
 | false=>exact⟨.bl false,H1,I1,rfl,q1⟩
theorem UZ (ha:PE X a ta):PE X (.UnaryOp .Not a pos) (Y2 ta):=by
 intro pins s σ H Q I h;refine UnaryOp_ (thn (ha pins s σ H _ I h) fun v s1 ⟨x,H1,I1,r1,q1⟩=> ?_);obtain⟨c,rfl,q1⟩:=q1;cases r1;exact not_of (wpAny_truthy_bool ⟨.bl (!c),H1,I1,rfl,q1⟩)
def tIf (t:TT)(ta tb:TE):TE:=fun σ H Q=>t σ H fun c H1=>if c=true then ta σ H1 Q else tb σ H1 Q
theorem DD {c:Expr}(hc:PT X c tA)(ha:PE X a ta)(hb:PE X b tb):PE X (.IfExp c a b pos) (tIf tA ta tb):=by
 intro pins s σ H Q I h;refine wpAny_IfExp (thn (hc pins s σ H _ I h) fun d s1 ⟨H1,I1,q1⟩=> ?_);cases d with
 | true=>exact ha pins s1 σ H1 Q I1 q1
 | false=>exact hb pins s1 σ H1 Q I1 q1
end
end L2
namespace L2
open PySem PySem.Spec PyProof.Rows
def SqL (K:PySem.W.Frag)(H:Hp)(a:Addr)(xs:List V):Prop :=
 Rd H a (.lst xs) ∨
  ∃(o:Obj) (its:Array Value) (n:Nat),K.lookup a=some o/\o.cls= .type "list" /\o.dict=none/\o.data= .seq its n/\its.size<=sizeLine/\Vals xs its.toList
def SqT (K:PySem.W.Frag)(H:Hp)(a:Addr)(xs:List V):Prop :=
 Rd H a (.tup xs) ∨
  ∃(o:Obj) (its:Array Value) (n:Nat),K.lookup a=some o/\o.cls= .type "tuple" /\o.data= .seq its n/\its.size<=sizeLine/\Vals xs its.toList
def aAl:Value->Option V
 | .none=>some .non
 | .bool b=>some (.bl b)
 | .int i _=>some (.int i)
 | .str x _=>some (.str x)
 | .bytes b _=>some (.byt b)
 | .float b _=>some (.flt b)
 | .ref a=>some (.ref a)
 | .type n=>some (.ty n)
 | _=>none
theorem RelV.abs {x:V}{u:Value} (r:RelV x u):aAl u=some x:=by
 cases x with
 | non=>cases r;rfl
 | bl _=>cases r;rfl
 | int _=>obtain⟨t,rfl⟩:=r;rfl
 | str _=>obtain⟨t,rfl⟩:=r;rfl
 | byt _=>obtain⟨t,rfl⟩:=r;rfl
 | flt _=>obtain⟨t,rfl⟩:=r;rfl
 | ref _=>cases r;rfl
 | ty _=>cases r;rfl
theorem RelV.inj {x y:V}{u:Value} (r:RelV x u) (q:RelV y u):x=y:=Option.some.inj (r.abs.symm.trans q.abs)
theorem Vals.inj:∀{xs ys:List V}{us:List Value},Vals xs us->Vals ys us->xs=ys
 | _,_,_,.nil,.nil=>rfl
 | _,_,_,.cons r t,.cons r' t'=>by rw[r.inj r',Vals.inj t t']
section
variable {X:Cx}{pins:List (Addr×Obj)}{σ:St}{H:Hp}{s:Shared}{a:Addr}{xs ys:List V}
theorem SqL.of {K:PySem.W.Frag}(h:H a=some (.lst xs)):SqL K H a xs:= .inl (.inl h)
theorem SqT.of {K:PySem.W.Frag}(h:H a=some (.tup xs)):SqT K H a xs:= .inl (.inl h)
theorem Inv.list (I:Inv X pins σ H s)(h:SqL X.K H a xs):∃its:List Value,Vals xs its/\PlainL s.heap a its.toArray/\xs.length<=sizeLine:=by
 rcases h with h|⟨o,its,n,hk,hc,hd,hs,hz,r⟩
 ·obtain⟨z,its,n,r,e⟩:=h.ok I.hok;exact⟨its,r,⟨_,n,e,rfl,rfl,rfl⟩,z⟩
 ·refine⟨its.toList,r,⟨o,n,I.kIn a o hk,hc,hd,by simpa using hs⟩,?_⟩;have e:=r.length;simp only[Array.length_toList]at e
  lia
theorem Inv.tuple (I:Inv X pins σ H s)(h:SqT X.K H a xs):∃its:List Value,Vals xs its/\IsTup s.heap a its.toArray/\xs.length<=sizeLine:=by
 rcases h with h|⟨o,its,n,hk,hc,hs,hz,r⟩
 ·obtain⟨z,its,r,p⟩:=h.ok I.hok;exact⟨its,r,p,z⟩
 ·refine⟨its.toList,r,⟨o,I.kIn a o hk,hc,n,by simpa using hs⟩,?_⟩;have e:=r.length;simp only[Array.length_toList]at e
  lia
theorem Inv.list_inj (I:Inv X pins σ H s)(h:SqL X.K H a xs)(h':SqL X.K H a ys):xs=ys:=by
 obtain⟨its,r,⟨o,n,e,_,_,d⟩,_⟩:=I.list h;obtain⟨its',r',⟨o',n',e',_,_,d'⟩,_⟩:=I.list h';rw[e]at e';cases e';rw[d]at d';injection d' with d1 _;have:its=its':=by simpa using congrArg Array.toList d1
 subst this;exact r.inj r'
end
abbrev Cx.wish (X:Cx)(E:Value->Shared->Prop):Cx:={ X with xe:=E }
abbrev Cx.nox (X:Cx):Cx:=X.wish fun _ _=>False
theorem Cx.Ok.wish {X:Cx}(ok:X.Ok)(E:Value->Shared->Prop):(X.wish E).Ok :=
 ⟨ok.mod,ok.kind,ok.glob,ok.blt,ok.above,ok.inj,ok.has,ok.cab,ok.hd,ok.frames,ok.stk,ok.exf,ok.bs,ok.bsz,ok.noex,ok.exfs,ok.funs,ok.frf⟩
theorem Cx.Ok.unwish {X:Cx}{E:Value->Shared->Prop} (ok:(X.wish E).Ok):X.Ok :=
 ⟨ok.mod,ok.kind,ok.glob,ok.blt,ok.above,ok.inj,ok.has,ok.cab,ok.hd,ok.frames,ok.stk,ok.exf,ok.bs,ok.bsz,ok.noex,ok.exfs,ok.funs,ok.frf⟩
section
variable {X:Cx}{pins:List (Addr×Obj)}{σ:St}{H:Hp}{s:Shared}{E:Value->Shared->Prop}
theorem Inv.wish (I:Inv X pins σ H s)(E:Value->Shared->Prop):Inv (X.wish E) pins σ H s:=⟨I.ok.wish E,I.os,I.bare,I.base,I.loc,I.cell,I.free,I.freeC,I.pin,I.hok,I.len⟩
theorem Inv.unwish (I:Inv (X.wish E) pins σ H s):Inv X pins σ H s:=⟨I.ok.unwish,I.os,I.bare,I.base,I.loc,I.cell,I.free,I.freeC,I.pin,I.hok,I.len⟩
theorem SP.unwish {D:pK}{f:Flow}{s':Shared} (h:SP (X.wish E) pins D f s'):SP X pins D f s':=by
 cases f with
 | next=>obtain⟨σ',H',I,q⟩:=h;exact⟨σ',H',I.unwish,q⟩
 | brk=>obtain⟨σ',H',I,q⟩:=h;exact⟨σ',H',I.unwish,q⟩
 | cont=>obtain⟨σ',H',I,q⟩:=h;exact⟨σ',H',I.unwish,q⟩
 | ret u=>obtain⟨v,σ',H',I,r,q⟩:=h;exact⟨v,σ',H',I.unwish,r,q⟩
theorem PSs.nox {st:List Stmt}{t:TS} (h:PSs X.nox st t):PSs X st t:=fun pins s σ H D I hw =>
 wpAny_mono (h pins s σ H D (I.wish _) hw) (fun _ _ q=>q.unwish) fun _ _ z=>False.elim z
end
section
variable {X:Cx}{st:Stmt}{rest:List Stmt}{t u:TS}{e:Expr}{te:TE}{pos:Pos}
def QU:TS:=fun D σ H=>D.nx σ H
def CY (t u:TS):TS:=fun D σ H=>t { D with nx:=u D } σ H
theorem bQ:PSs X [] QU:=fun _ _ σ H _ I h=>wpAny_execs_nil ⟨σ,H,I,h⟩
theorem aC (h1:PS X st t)(h2:PSs X rest u):PSs X (st::rest) (CY t u):=by
 intro pins s σ H D I h;refine wpAny_execs_cons (thn (h1 pins s σ H { D with nx:=u D } I h) fun f s1 q=> ?_);cases f with
 | next =>
  obtain⟨σ',H',I',q⟩:=q;exact h2 pins s1 σ' H' D I' q
 | ret v=>exact q
 | brk=>exact q
 | cont=>exact q
theorem aE (h1:PS X st t):PSs X [st] t:=by
 intro pins s σ H D I h;refine wpAny_execs_cons (thn (h1 pins s σ H D I h) fun f s1 q=> ?_);cases f with
 | next=>exact wpAny_execs_nil q
 | ret v=>exact q
 | brk=>exact q
 | cont=>exact q
theorem Inv.quiet {pins:List (Addr×Obj)}{σ:St}{H:Hp}{s:Shared} (I:Inv X pins σ H s):interactive X.env=false:=by simp[interactive,I.ok.kind]
def QV (te:TE):TS:=fun D σ H=>te σ H fun _ H1=>D.nx σ H1
theorem bX (he:PE X e te)(hs:swapsWith e none pos.line X.env=pure false:=by rfl):PS X (.Expr e pos) (QV te):=by
 intro pins s σ H D I h;exact wpAny_Expr_any (thn (he pins s σ H _ I h) fun v s1 ⟨x,H1,I1,r1,q1⟩=>⟨σ,H1,I1,q1⟩) I.quiet hs
def VU (te:TE):TS:=fun D σ H=>te σ H D.rt
theorem bF (he:PE X e te):PS X (.Return (some e) pos) (VU te):=by
 intro pins s σ H D I h;exact wpAny_Return_some (thn (he pins s σ H _ I h) fun v s1 ⟨x,H1,I1,r1,q1⟩=>⟨x,σ,H1,I1,r1,q1⟩)
def IV (c:TT)(t u:TS):TS:=fun D σ H=>c σ H fun b H1=>if b=true then t D σ H1 else u D σ H1
theorem cG {c:Expr}{a b:List Stmt}{tc:TT} (hc:PT X c tc) (ha:PSs X a t) (hb:PSs X b u):PS X (.If c a b pos) (IV tc t u):=by
 intro pins s σ H D I h;refine wpAny_If (thn (hc pins s σ H _ I h) fun d s1 ⟨H1,I1,q1⟩=> ?_);cases d with
 | true=>exact ha pins s1 σ H1 D I1 q1
 | false=>exact hb pins s1 σ H1 D I1 q1
def XT:TS:=fun _ _ _=>False
theorem gE:PS X st XT:=fun _ _ _ _ _ _ h=>h.elim
end
abbrev TG:=V->St->Hp->(St->Hp->Prop)->Prop
abbrev TGs:=List V->St->Hp->(St->Hp->Prop)->Prop
def PG (X:Cx)(target:Expr)(t:TG):Prop :=
 ∀(pins:List (Addr×Obj)) (s:Shared) (σ:St) (H:Hp) (v:V) (u:Value) (Q:St->Hp->Prop),Inv X pins σ H s->RelV v u->t v σ H Q →
  wpAny (model X.prog X.w) X.A (assign target X.env u) (fun _ s'=>∃σ' H',Inv X pins σ' H' s'/\Q σ' H') X.xe s
def PGs (X:Cx)(ts:List Expr)(t:TGs):Prop :=
 ∀(pins:List (Addr×Obj)) (s:Shared) (σ:St) (H:Hp) (vs:List V) (us:List Value) (Q:St->Hp->Prop),Inv X pins σ H s->Vals vs us->t vs σ H Q →
  wpAny (model X.prog X.w) X.A (assignInOrder ((assignEach ts X.env).map (·.2)) us) (fun _ s'=>∃σ' H',Inv X pins σ' H' s'/\Q σ' H') X.xe s
section
variable {X:Cx}{pos:Pos}
def cX (i:Nat):TG:=fun v σ H Q=>Q (σ.set i (some v)) H
theorem aM {i:Nat}{x:Str} (hN:X.N.Nodup) (hi:X.N[i]? =some x) (hx:Loc X.env.scope x) (hf:X.fn x=true∨X.env.scope.names.lookup x=some .local:=by first|exact .inl rfl|exact .inr rfl|assumption):PG X (.Name x pos) (cX i):=by
 intro pins s σ H v u Q I r h;exact wpAny_assign_Name (EH I hN hi hx r (fun s' I'=>⟨_,H,I',h⟩) hf)
def DB:TGs:=fun vs σ H Q=>vs=[]/\Q σ H
def m9 (t:TG)(u:TGs):TGs:=fun vs σ H Q=>∃v r,vs=v::r/\t v σ H fun σ' H'=>u r σ' H' Q
theorem dN:PGs X [] DB:=by
 intro pins s σ H vs us Q I r h;obtain⟨e,h⟩:=h;subst e;cases r;exact assignInOrder_nil ⟨σ,H,I,h⟩
theorem bB {e:Expr}{es:List Expr}{t:TG}{u:TGs} (h1:PG X e t) (h2:PGs X es u)
  (hs:(assignEach (e::es) X.env).map (·.2)=assign e X.env::(assignEach es X.env).map (·.2):=by rfl):PGs X (e::es) (m9 t u):=by
 intro pins s σ H vs us Q I r h;obtain⟨v,vr,e1,h⟩:=h;subst e1;cases r with
 | cons r rr =>
  rw[hs];refine assignInOrder_cons (thn (h1 pins s σ H _ _ _ I r h) fun _ s1 ⟨σ1,H1,I1,q1⟩=> ?_);exact h2 pins s1 σ1 H1 _ _ Q I1 rr q1
def yT (K:PySem.W.Frag)(n:Nat)(t:TGs):TG:=fun v σ H Q=>∃a xs,v= .ref a/\SqT K H a xs/\xs.length=n/\t xs σ H Q
theorem l0 {es:List Expr}{k:Nat}{t:TGs}{n:Nat} (hc:X.calm=true) (h:PGs X es t)
  (hn:(assignEach es X.env).length=n:=by rfl)(hst:(assignEach es X.env).findIdx? (·.1)=none:=by rfl):PG X (.Tuple es k pos) (yT X.K n t):=by
 intro pins s σ H v u Q I r hw;obtain⟨a,xs,e1,hq,hl,hw⟩:=hw;subst e1;cases r;obtain⟨its,rv,ht,hz⟩:=I.tuple hq;refine assign_Tuple_tuple (I.ok.hd hc) ht (by simp[hn,←hl,rv.length]) hst fun h' hx=> ?_;have I1:Inv X pins σ H { s with heap:=h' }:=I.kept (t':=s.toks) fun b o e=>hx b o (Nat.ne_of_lt (Heap.lt_size e)) e;exact h pins _ σ H xs _ Q I1 (by simpa using rv) hw
def OW (te:TE)(g:TG):TS:=fun D σ H=>te σ H fun x H1=>g x σ H1 D.nx
theorem aX {i:Nat}{x:Str}{e:Expr}{te:TE}{pos':Pos} (hN:X.N.Nodup) (hi:X.N[i]? =some x) (hx:Loc X.env.scope x) (he:PE X e te) (hs:swapsWith e (some (.Name x pos')) pos.line X.env=pure false:=by rfl) (hf:X.fn x=true∨X.env.scope.names.lookup x=some .local:=by first|exact .inl rfl|exact .inr rfl|assumption) :
  PS X (.Assign [.Name x pos'] e pos) (OW te (cX i)):=by
 intro pins s σ H D I h;refine wpAny_Assign_Name (thn (he pins s σ H _ I h) fun v s1 ⟨y,H1,I1,r1,q1⟩=> ?_) hs;exact EH I1 hN hi hx r1 (fun s2 I2=>⟨_,H1,I2,q1⟩) hf
end
section
variable {X:Cx}{pos:Pos}
end
structure It where
 go:Nat->Hp->Prop
 yld:Nat->Hp->V->Hp->Prop
 stop:Nat->Hp->Prop
def kQ (X:Cx)(pins:List (Addr×Obj))(H:Hp)(b:Addr):Prop :=
 H b=none/\b≠X.env.locals/\b∉X.fs/\(b∈X.ex∨X.s₀.heap.objs.size<=b)/\(∀x c,X.env.cells.lookup x=some c->c≠b)/\∀p∈X.pn++pins,p.1≠b
theorem Inv.fpOk {X:Cx}{pins:List (Addr×Obj)}{σ:St}{H H':Hp}{s:Shared}{b:Addr} (I:Inv X pins σ H s) (hb:s.heap.objs.size<=b) (hn:H' b=none):kQ X pins H' b:=by
 refine⟨hn,Nat.ne_of_gt (Nat.lt_of_lt_of_le I.lt hb),I.nofs hb,.inr (Nat.le_trans I.sz hb),fun x c e z=> ?_,fun p hp z=> ?_⟩
 ·obtain⟨v,q⟩:=I.cell x c e;exact absurd (Nat.lt_of_lt_of_le q.lt (by rw[z];exact hb)) (Nat.lt_irrefl _)
 ·exact absurd (Nat.lt_of_lt_of_le (Heap.lt_size (I.pin p hp).1) (by rw[z];exact hb)) (Nat.lt_irrefl _)
structure tH (P:Program)(w:World)(K:PySem.W.Frag)(tg:Expr)(J:It)(fp:List Addr)(it:Addr)(tn:Nat->Heap->Prop):Prop where
 mem:it∈fp
 obj:∀i h,tn i h->∀b∈fp,∃o,h.get? b=some o/\∀v,o.data≠ .cell v
 keep:∀i h h',tn i h->(∀b∈fp,∀o,h.get? b=some o->h'.get? b=some o)->tn i h'
 item:∀(X:Cx),X.prog=P->X.w=w->X.K=K->X.calm=true->∀(i:Nat) (pins:List (Addr×Obj)) (s:Shared) (σ:St) (H:Hp) (E:Value->Shared->Prop),Inv X pins σ H s->(∀b∈fp,kQ X pins H b)->tn i s.heap->J.go i H →
  wpAny (model P w) X.A (pyNext (.ref it)) (fun r s1=>∃u,r=some u ∧
   wpAny (model P w) X.A (letOwnedTupleGo tg (.ref it) u) (fun _ s2=>∃x H',Inv X pins σ H' s2/\RelV x u/\J.yld i H x H'/\tn (i+1) s2.heap/\∀b∈fp,H' b=none) E s1) E s
 done:∀(X:Cx),X.prog=P->X.w=w->X.K=K->X.calm=true->∀(i:Nat) (pins:List (Addr×Obj)) (s:Shared) (σ:St) (H:Hp) (E:Value->Shared->Prop),Inv X pins σ H s->(∀b∈fp,kQ X pins H b)->tn i s.heap->J.stop i H →
  wpAny (model P w) X.A (pyNext (.ref it)) (fun r s1=>r=none/\Inv X pins σ H s1) E s
 self:∀(A:Around) (i:Nat) (s:Shared) (Q:Value->Shared->Prop) (E:Value->Shared->Prop),tn i s.heap->Q (.ref it) s->wpAny (model P w) A (pyIter (.ref it)) Q E s
abbrev TI:=St->Hp->(It->Hp->Prop)->Prop
def PIE (X:Cx)(pins:List (Addr×Obj))(σ:St)(tg:Expr)(R:It->Hp->Prop)(itv:Value)(s2:Shared):Prop :=
 ∃(it:Addr) (fp:List Addr) (tn:Nat->Heap->Prop) (J:It) (H':Hp),itv= .ref it/\Inv X pins σ H' s2/\tH X.prog X.w X.K tg J fp it tn/\tn 0 s2.heap/\(∀b∈fp,kQ X pins H' b)/\R J H'
def PI (X:Cx)(tg iter:Expr)(wi:TI):Prop :=
 ∀(pins:List (Addr×Obj)) (s:Shared) (σ:St) (H:Hp) (R:It->Hp->Prop),Inv X pins σ H s->wi σ H R →
  wpAny (model X.prog X.w) X.A (eval iter X.env) (fun v s1=>wpAny (model X.prog X.w) X.A (pyIter v) (PIE X pins σ tg R) X.xe s1) X.xe s
theorem HY {M:Model}{A:Around}{E:Value->Shared->Prop}{s:Shared}{tg:Expr}{it:Addr}{u:Value}{o:Obj}{n:String}{vs:Array Value}{Q:Unit->Shared->Prop} (ho:s.heap.get? it=some o) (hc:o.cls= .type n) (hd:o.data= .fields vs)
  (hn:["enumerate","zip","dict_itemiterator","dict_reverseitemiterator","odict_iterator","itertools.zip_longest","itertools.pairwise"].contains n=false)(hQ:Q () s):wpAny M A (letOwnedTupleGo tg (.ref it) u) Q E s:=by
 unfold letOwnedTupleGo;cases tg<;>first
  | exact wpAny_pure hQ
  | (cases u<;>first
    | exact wpAny_pure hQ
    | (refine wpAny_bind (wpAny_load ho ?_);rw[hc,hd];show wpAny M A (if (["enumerate","zip","dict_itemiterator","dict_reverseitemiterator","odict_iterator","itertools.zip_longest","itertools.pairwise"].contains n&&vs[0]? ==some (rawInt _))=true then _ else _) Q E s;rw[if_neg (by intro h;rw[hn,Bool.false_and]at h;cases h)];exact wpAny_pure hQ))
def Itl (K:PySem.W.Frag)(a:Addr):It :=
 ⟨fun i H=>∃xs x,SqL K H a xs/\xs[i]? =some x,fun i H x H'=>H'=H/\∀xs,SqL K H a xs->xs[i]? =some x,fun i H=>∃xs,SqL K H a xs/\xs.length<=i⟩
def Itr (lo:Int)(n:Nat):It:=⟨fun i _=>i<n,fun i H x H'=>H'=H/\x= .int (lo+i),fun i _=>n<=i⟩
theorem MG {P:Program}{w:World}{K:PySem.W.Frag}{tg:Expr} (a it:Addr):tH P w K tg (Itl K a) [it] it (fun i h=>h.IsListIter it a i) where
 mem:=by simp
 obj:=fun i h st b hb=>by
  have e:b=it:=by simpa using hb
  subst e;obtain⟨o,e,c,d⟩:=st;exact⟨o,e,fun v z=>by rw[d]at z;cases z⟩
 keep:=fun i h h' st k=>st.at fun o e=>k it (by simp) o e
 item:=by
  intro X hP hw hK hc i pins s σ H E I hf st hg;subst hP hw hK;obtain⟨xs,x,hq,hx⟩:=hg;obtain⟨its,rv,p,hz⟩:=I.list hq;obtain⟨u,hu,ru⟩:=rv.get hx;obtain⟨f0,f1,f2,f3,f4,f5⟩:=hf it (by simp);refine wpAny_pyNext_list_item st p.isList (x:=u) (by simpa using hu) fun h' st' sb=> ?_;have I1:Inv X pins σ H { s with heap:=h' }:=I.turned (t':=s.toks) (fun b o hb e=>(sb.2 b hb).trans e) f0 f1 f3 f4 f5;obtain⟨o,e,c,d⟩:=id st';exact⟨u,rfl,HY (s:={ s with heap:=h' }) e c d (by decide) ⟨x,H,I1,ru,⟨rfl,fun ys hy=>by rw[I.list_inj hy hq];exact hx⟩,st',fun b hb=>(hf b hb).1⟩⟩
 done:=by
  intro X hP hw hK hc i pins s σ H E I hf st hg;subst hP hw hK;obtain⟨xs,hq,hx⟩:=hg;obtain⟨its,rv,p,hz⟩:=I.list hq;obtain⟨f0,f1,f2,f3,f4,f5⟩:=hf it (by simp);have hl:=rv.length;exact wpAny_pyNext_list_end (I.ok.hd hc) st p.isList (by simp;lia) fun h' eb=>⟨rfl,I.turned (t':=s.toks) (fun b o hb e=>eb b o hb e) f0 f1 f3 f4 f5⟩
 self:=fun _ _ _ _ _ st h=>wpAny_pyIter_listiter st h
theorem JI {P:Program}{w:World}{K:PySem.W.Frag}{tg:Expr} (it:Addr) (lo:Int) (n:Nat):tH P w K tg (Itr lo n) [it] it (fun i h=>IsRangeIter h it (lo+(i:Nat) * 1) ((n:Int) - (i:Nat)) 1) where
 mem:=by simp
 obj:=fun i h st b hb=>by
  have e:b=it:=by simpa using hb
  subst e;exact⟨_,st,fun v z=>by
   have z':Data.fields _=Data.cell v:=z;cases z'⟩
 keep:=fun i h h' st k=>k it (by simp) _ st
 item:=by
  intro X hP hw hK hc i pins s σ H E I hf st hg;subst hP hw hK;obtain⟨f0,f1,f2,f3,f4,f5⟩:=hf it (by simp);have W:=Walks.range (prog:=X.prog) (w:=X.w) (I.ok.hd hc) it lo 1 n;refine W.item i s _ _ hg st fun v h' tk hv st' kk=> ?_;obtain⟨t,rfl⟩:=hv;have I1:Inv X pins σ H { s with heap:=h',toks:=tk }:=I.turned (fun b o hb e=>kk b o (by simpa using hb) e) f0 f1 f3 f4 f5;refine⟨_,rfl,HY (s:={ s with heap:=h',toks:=tk }) (n:= "range_iterator") st' rfl rfl (by decide) ⟨.int (lo+i),H,I1,⟨t,?_⟩,⟨rfl,rfl⟩,st',fun b hb=>(hf b hb).1⟩⟩;rw[Int.mul_one]
 done:=by
  intro X hP hw hK hc i pins s σ H E I hf st hg;subst hP hw hK;obtain⟨f0,f1,f2,f3,f4,f5⟩:=hf it (by simp);exact wpAny_pyNext_range_end (I.ok.hd hc) st (by have:n<=i:=hg;lia) fun h' eb=>⟨rfl,I.turned (t':=s.toks) (fun b o hb e=>eb b o hb e) f0 f1 f3 f4 f5⟩
 self:=fun _ _ _ _ _ st h=>wpAny_pyIter_rangeiter st h
end L2
namespace L2
open PySem PySem.Spec PyProof.Rows
section
variable {X:Cx}{tg:Expr}
def QO (K:PySem.W.Frag)(tl:TE):TI:=fun σ H R=>tl σ H fun x H1=>∃a,x= .ref a/\(∃xs,SqL K H1 a xs)/\R (Itl K a) H1
theorem bV {l:Expr}{tl:TE} (hl:PE X l tl):PI X tg l (QO X.K tl):=by
 intro pins s σ H R I h;refine thn (hl pins s σ H _ I h) fun v s1 ⟨x,H1,I1,r1,q1⟩=> ?_;obtain⟨a,e,⟨xs,hq⟩,q⟩:=q1;subst e;cases r1;obtain⟨its,rv,p,hz⟩:=I1.list hq;refine wpAny_pyIter_list p.isList ?_;refine⟨s1.heap.objs.size,[s1.heap.objs.size],_,_,H1,rfl,I1.kept (t':=s1.toks) fun b o e=>Heap.get?_push_of_some _ e,MG a _,⟨_,Heap.get?_push_size _ rfl,rfl,rfl⟩,fun b hb=> ?_,q⟩;have e:b=s1.heap.objs.size:=by simpa using hb
 subst e;exact I1.fpOk (Nat.le_refl _) (I1.hok.fresh (Nat.le_refl _))
theorem DC {pins:List (Addr×Obj)}{σ:St}{H:Hp}{s:Shared}{R:It->Hp->Prop}{E:Value->Shared->Prop}{lo hi:Int}{t u v:Tok}{tk:Nat} (I:Inv X pins σ H s) (h1: -(2^62)<=lo) (h2:lo<2^62) (h3: -(2^62)<=hi) (h4:hi<2^62)
  (q:R (Itr lo (hi - lo).toNat) H):wpAny (model X.prog X.w) X.A (pyIter (.ref s.heap.objs.size)) (PIE X pins σ tg R) E { s with heap:=s.heap.push { cls:= .type "range",data:= .fields #[.int lo t,.int hi u,.int 1 v] },toks:=tk }:=by
 refine wpAny_pyIter_range (IsRange.new ..) (small_one h1 h2 h3 h4) ?_;have I1:Inv X pins σ H { s with heap:=s.heap.push { cls:= .type "range",data:= .fields #[.int lo t,.int hi u,.int 1 v] },toks:=tk }:=I.kept fun b o e=>Heap.get?_push_of_some _ e;refine⟨(s.heap.push { cls:= .type "range",data:= .fields #[.int lo t,.int hi u,.int 1 v] }).objs.size,[(s.heap.push { cls:= .type "range",data:= .fields #[.int lo t,.int hi u,.int 1 v] }).objs.size],_,_,H,rfl,
  I1.kept (t':=tk) fun b o e=>Heap.get?_push_of_some _ e,JI _ lo (hi - lo).toNat,?_,fun b hb=> ?_,q⟩
 ·have e1:lo+((0:Nat):Int) * 1=lo:=by simp
  have e2:(((hi - lo).toNat:Nat):Int) - ((0:Nat):Int)=Builtin.Range.rangeSize lo hi 1:=by rw[rangeSize_one];split<;>lia
  show IsRangeIter _ _ (lo+((0:Nat):Int) * 1) ((((hi - lo).toNat:Nat):Int) - ((0:Nat):Int)) 1;rw[e1,e2];exact Heap.get?_push_size _ rfl
 ·have e:b=(s.heap.push { cls:= .type "range",data:= .fields #[.int lo t,.int hi u,.int 1 v] }).objs.size:=by simpa using hb
  subst e;exact I1.fpOk (Nat.le_refl _) (I1.hok.fresh (Nat.le_refl _))
def Q0 (ta:TA):TI:=fun σ H R=>ta σ H fun vs H1=>∃j:Int,vs=[.int j]/\ -(2^62)<=j/\j<2^62/\R (Itr 0 j.toNat) H1
def Q5 (ta:TA):TI:=fun σ H R=>ta σ H fun vs H1=>∃i j:Int,vs=[.int i,.int j]/\(-(2^62)<=i/\i<2^62/\ -(2^62)<=j/\j<2^62)/\R (Itr i (j - i).toNat) H1
theorem tJ {a:Expr}{ta:TA}{p pos:Pos} (hg:Gl X "range") (hm:X.mg "range" =none) (ha:PA X [a] ta) (hs:starEach [a] X.env=[(false,eval a X.env)]:=by rfl):PI X tg (.Call (.Name "range" p) [a] [] pos) (Q0 ta):=by
 intro pins s σ H R I h;refine Call_ (p9 I hg hm boot_range (PyProof.Rows.callWith_type1 (thn (ha pos pins s σ H _ I h) fun us s1 ⟨vs,H1,I1,r1,q1⟩=> ?_) hs rfl));obtain⟨j,e,q1,q2,q⟩:=q1;subst e;cases r1 with
 | cons r rr =>
  cases rr;obtain⟨t,rfl⟩:=r;exact call_range_1 (DC I1 (by lia) (by lia) q1 q2 (by simpa using q))
theorem z8 {a b:Expr}{ta:TA}{p pos:Pos} (hg:Gl X "range") (hm:X.mg "range" =none) (ha:PA X [a,b] ta) (hs:starEach [a,b] X.env=[(false,eval a X.env),(false,eval b X.env)]:=by rfl) (hs2:starEach [b] X.env=[(false,eval b X.env)]:=by rfl) :
  PI X tg (.Call (.Name "range" p) [a,b] [] pos) (Q5 ta):=by
 intro pins s σ H R I h;refine Call_ (p9 I hg hm boot_range (PyProof.Rows.callWith_type1 (thn (ha pos pins s σ H _ I h) fun us s1 ⟨vs,H1,I1,r1,q1⟩=> ?_) (by rw[hs,hs2]) (by rw[hs2];rfl)));obtain⟨i,j,e,⟨q1,q2,q3,q4⟩,q⟩:=q1;subst e;cases r1 with
 | cons r rr =>
  cases rr with
  | cons r' rr =>
   cases rr;obtain⟨t,rfl⟩:=r;obtain⟨t',rfl⟩:=r';exact call_range_2 (DC I1 q1 q2 q3 q4 q)
def WS (wi:TI)(g:TG)(tb:TS):TS:=fun D σ H=>wi σ H fun J H1=>∃W:Nat->Nat->St->Hp->Prop,(∃m,W 0 m σ H1)/\∀i m σ H,W i m σ H →
 (J.stop i H/\D.nx σ H)∨(J.go i H/\∃N:St->Hp->Prop,(∀σ' H',N σ' H'->∃m',m'<m/\W (i+1) m' σ' H')/\∀x H',J.yld i H x H'->g x σ H' fun σ2 H2=>tb { D with nx:=N,ct:=N,bk:=D.nx } σ2 H2)
def lZ (fp:List Addr)(h:Heap):List (Addr×Obj):=fp.filterMap fun b=>(h.get? b).map fun o=>(b,o)
theorem j4 {fp:List Addr}{h:Heap}{b:Addr}{o:Obj} (hb:b∈fp) (e:h.get? b=some o):(b,o)∈lZ fp h:=List.mem_filterMap.mpr ⟨b,hb,by rw[e];rfl⟩
theorem AU {fp:List Addr}{h:Heap}{p:Addr×Obj} (hp:p∈lZ fp h):p.1∈fp/\h.get? p.1=some p.2:=by
 obtain⟨b,hb,e⟩:=List.mem_filterMap.mp hp;cases q:h.get? b with
 | none=>rw[q]at e;cases e
 | some o =>
  rw[q]at e;have e':(b,o)=p:=Option.some.inj e;subst e';exact⟨hb,q⟩
theorem Inv.pinned {pins:List (Addr×Obj)}{σ:St}{H:Hp}{s:Shared}{fp:List Addr} (I:Inv X pins σ H s) (hf:∀b∈fp,kQ X pins H b) (ho:∀b∈fp,∃o,s.heap.get? b=some o/\∀v,o.data≠ .cell v):Inv X (pins++lZ fp s.heap) σ H s :=
 I.pins_of fun p hp=>(List.mem_append.mp hp).elim (fun z=>I.pin p (List.mem_append_right _ z)) fun z=>by
  obtain⟨hb,e⟩:=AU z;obtain⟨f0,f1,f2,_⟩:=hf p.1 hb;obtain⟨o,e',d⟩:=ho p.1 hb;rw[e]at e';cases e';exact⟨e,f0,f1,f2,d⟩
theorem Inv.unpinned {pins pl:List (Addr×Obj)}{σ:St}{H:Hp}{s:Shared} (I:Inv X (pins++pl) σ H s):Inv X pins σ H s:=I.pins_of fun p hp=>I.pin p (List.mem_append_right _ (List.mem_append_left _ hp))
theorem d4 {iter:Expr}{body:List Stmt}{wi:TI}{g:TG}{tb:TS}{pos:Pos} (hp:PassesOwn (model X.prog X.w) X.A X.env X.xe) (hc:X.calm=true) (hi:PI X tg iter wi) (hg:PG X tg g) (hb:PSs X body tb)
  (hs:∀x,foldedSetIterable iter X.env x=pure x:=by intro _;rfl):PS X (.For tg iter body [] pos) (WS wi g tb):=by
 intro pins s σ H D I h;refine wpAny_For (thn (hi pins s σ H _ I h) fun v s1 h1=>thn h1 fun itv s2 h2=> ?_) hs;obtain⟨it,fp,tn,J,H2,e,I2,T,st2,f2,W,⟨m0,w0⟩,turn⟩:=h2;subst e;have stat:∀{H':Hp},(∀b∈fp,H' b=none)->∀b∈fp,kQ X pins H' b:=fun hn b hb=>⟨hn b hb,(f2 b hb).2⟩
 refine codeAny_forLoop_any (fun n s'=>∃i σ' H',Inv X pins σ' H' s'/\tn i s'.heap/\(∀b∈fp,H' b=none)/\W i n σ' H') ?_ m0 ⟨0,σ,H2,I2,st2,fun b hb=>(f2 b hb).1,w0⟩;rintro n s3 ⟨i,σ3,H3,I3,st3,fr3,w3⟩;rcases turn i n σ3 H3 w3 with⟨stop,qn⟩|⟨go,N,hN,step⟩
 ·refine wpAny_passesOwn hp (thn (T.done X rfl rfl rfl hc i pins s3 σ3 H3 X.xe I3 (stat fr3) st3 stop) fun r s4 ⟨hr,I4⟩=> ?_);subst hr;exact wpAny_execs_nil ⟨σ3,H3,I4,qn⟩
 ·refine wpAny_passesOwn hp (thn (T.item X rfl rfl rfl hc i pins s3 σ3 H3 X.xe I3 (stat fr3) st3 go) fun r s4 ⟨u,hr,h4⟩=> ?_);subst hr;refine wpAny_passesOwn hp (thn h4 fun _ s5 ⟨x,H5,I5,r5,y5,st5,fr5⟩=> ?_);have I5':=I5.pinned (stat fr5) (T.obj _ _ st5);refine wpAny_passesOwn hp (thn (hg _ s5 σ3 H5 x u _ I5' r5 (step x H5 y5)) fun _ s6 ⟨σ6,H6,I6,q6⟩=> ?_);refine wpAny_passesOwn hp (thn (hb _ s6 σ6 H6 _ I6 q6) fun f s7 q7=> ?_);have again:∀{σ7:St}{H7:Hp},Inv X (pins++lZ fp s5.heap) σ7 H7 s7->N σ7 H7->∃m,m<n/\∃i σ' H',Inv X pins σ' H' s7/\tn i s7.heap/\(∀b∈fp,H' b=none)/\W i m σ' H':=fun {σ7 H7} I7 n7=>by
   obtain⟨m',hm,w7⟩:=hN σ7 H7 n7;refine⟨m',hm,i+1,σ7,H7,I7.unpinned,T.keep _ _ _ st5 fun b hb o e=>(I7.pin (b,o) (List.mem_append_right _ (List.mem_append_right _ (j4 hb e)))).1,fun b hb=> ?_,w7⟩;obtain⟨o,e,d⟩:=T.obj _ _ st5 b hb;exact(I7.pin (b,o) (List.mem_append_right _ (List.mem_append_right _ (j4 hb e)))).2.1
  cases f with
  | next=>obtain⟨σ7,H7,I7,n7⟩:=q7;exact again I7 n7
  | cont=>obtain⟨σ7,H7,I7,n7⟩:=q7;exact again I7 n7
  | brk=>obtain⟨σ7,H7,I7,q7⟩:=q7;exact⟨σ7,H7,I7.unpinned,q7⟩
  | ret v=>obtain⟨x7,σ7,H7,I7,r7,q7⟩:=q7;exact⟨x7,σ7,H7,I7.unpinned,r7,q7⟩
end
theorem NA {K:PySem.W.Frag}{a:Addr}{xs:List V}{g:TG}{tb:TS}{D:pK}{σ:St}{H:Hp} (Pv:Nat->St->Hp->Prop) (h0:Pv 0 σ H) (hl:∀i σ H,i<=xs.length->Pv i σ H->SqL K H a xs)
  (hs:∀i x σ H,xs[i]? =some x->Pv i σ H->g x σ H fun σ2 H2=>tb { D with nx:=Pv (i+1),ct:=Pv (i+1),bk:=D.nx } σ2 H2)(hd:∀σ H,Pv xs.length σ H->D.nx σ H) :
  ∃W:Nat->Nat->St->Hp->Prop,(∃m,W 0 m σ H)/\∀i m σ H,W i m σ H →
   ((Itl K a).stop i H/\D.nx σ H)∨((Itl K a).go i H/\∃N:St->Hp->Prop,(∀σ' H',N σ' H'->∃m',m'<m/\W (i+1) m' σ' H')/\∀x H',(Itl K a).yld i H x H'->g x σ H' fun σ2 H2=>tb { D with nx:=N,ct:=N,bk:=D.nx } σ2 H2):=by
 refine⟨fun i m σ H=>m=xs.length - i/\i<=xs.length/\Pv i σ H,⟨xs.length,by simp,Nat.zero_le _,h0⟩,?_⟩;rintro i m σ H ⟨rfl,hi,p⟩;have q:=hl i σ H hi p
 by_cases hlt:i<xs.length
 ·refine .inr ⟨⟨xs,xs[i],q,by simp[hlt]⟩,Pv (i+1),fun σ' H' p'=>⟨xs.length - (i+1),by lia,rfl,hlt,p'⟩,fun x H' y=> ?_⟩;obtain⟨e,y⟩:=y;subst e;exact hs i x σ _ (y xs q) p
 ·have e:i=xs.length:=by lia
  subst e;exact .inl ⟨⟨xs,q,Nat.le_refl _⟩,hd σ H p⟩
theorem K7 {lo:Int}{n:Nat}{g:TG}{tb:TS}{D:pK}{σ:St}{H:Hp} (Pv:Nat->St->Hp->Prop) (h0:Pv 0 σ H)
  (hs:∀i σ H,i<n->Pv i σ H->g (.int (lo+i)) σ H fun σ2 H2=>tb { D with nx:=Pv (i+1),ct:=Pv (i+1),bk:=D.nx } σ2 H2)(hd:∀σ H,Pv n σ H->D.nx σ H) :
  ∃W:Nat->Nat->St->Hp->Prop,(∃m,W 0 m σ H)/\∀i m σ H,W i m σ H →
   ((Itr lo n).stop i H/\D.nx σ H)∨((Itr lo n).go i H/\∃N:St->Hp->Prop,(∀σ' H',N σ' H'->∃m',m'<m/\W (i+1) m' σ' H')/\∀x H',(Itr lo n).yld i H x H'->g x σ H' fun σ2 H2=>tb { D with nx:=N,ct:=N,bk:=D.nx } σ2 H2):=by
 refine⟨fun i m σ H=>m=n - i/\i<=n/\Pv i σ H,⟨n,by simp,Nat.zero_le _,h0⟩,?_⟩;rintro i m σ H ⟨rfl,hi,p⟩
 by_cases hlt:i<n
 ·refine .inr ⟨hlt,Pv (i+1),fun σ' H' p'=>⟨n - (i+1),by lia,rfl,hlt,p'⟩,fun x H' y=> ?_⟩;obtain⟨e,y⟩:=y;subst e y;exact hs i σ _ hlt p
 ·have e:i=n:=by lia
  subst e;exact .inl ⟨Nat.le_refl _,hd σ H p⟩
end L2
namespace L2
open PySem PySem.Spec PyProof.Rows
abbrev R2:=V->V->Hp->VK->Prop
def OpR (X:Cx)(f:Value->Value->Sem Value)(r:R2):Prop :=
 ∀(pins:List (Addr×Obj)) (s:Shared) (σ:St) (H:Hp) (x y:V) (v u:Value) (Q:VK),Inv X pins σ H s->RelV x v->RelV y u->r x y H Q →
  wpAny (model X.prog X.w) X.A (f v u) (EP X pins σ Q) X.xe s
def dO (X:Cx)(f:Value)(r:List V->Hp->VK->Prop):Prop :=
 ∀(pins:List (Addr×Obj)) (s:Shared) (σ:St) (H:Hp) (xs:List V) (us:List Value) (Q:VK),Inv X pins σ H s->Vals xs us->r xs H Q →
  wpAny (model X.prog X.w) X.A (call f us) (EP X pins σ Q) X.xe s
def tOp (r:R2)(ta tb:TE):TE:=fun σ H Q=>ta σ H fun x H1=>tb σ H1 fun y H2=>r x y H2 Q
def rI (C:Int->Int->Prop)(g:Int->Int->V):R2:=fun x y H Q=>∃i j,x= .int i/\y= .int j/\C i j/\Q (g i j) H
def rI0 (g:Int->Int->V):R2:=fun x y H Q=>∃i j,x= .int i/\y= .int j/\Q (g i j) H
section
variable {X:Cx}{a b c:Expr}{ta tb tc:TE}{pos:Pos}
theorem O3 (ha:PE X a ta)(hb:PE X b tb){pins:List (Addr×Obj)}{s:Shared}{σ:St}{H:Hp}{R:V->V->Hp->Prop} (I:Inv X pins σ H s)
  (h:ta σ H fun x H1=>tb σ H1 fun y H2=>R x y H2){Q:Value->Shared->Prop}{f:Value->Value->Sem Value}
  (hf:∀v u s2 x y H2,Inv X pins σ H2 s2->RelV x v->RelV y u->R x y H2->wpAny (model X.prog X.w) X.A (f v u) Q X.xe s2) :
  wpAny (model X.prog X.w) X.A (eval a X.env) (fun v s₁=>wpAny (model X.prog X.w) X.A (eval b X.env) (fun u s₂=>wpAny (model X.prog X.w) X.A (f v u) Q X.xe s₂) X.xe s₁) X.xe s:=by
 refine thn (ha pins s σ H _ I h) fun v s1 ⟨x,H1,I1,r1,q1⟩=> ?_;refine thn (hb pins s1 σ H1 _ I1 q1) fun u s2 ⟨y,H2,I2,r2,q2⟩=> ?_;exact hf v u s2 x y H2 I2 r1 r2 q2
theorem aL {op:Operator}{r:R2} (ho:OpR X (binaryOp op) r) (ha:PE X a ta) (hb:PE X b tb):PE X (.BinOp a op b pos) (tOp r ta tb):=by
 intro pins s σ H Q I h;exact wpAny_BinOp (O3 ha hb I h fun v u s2 x y H2 I2 rx ry q=>ho pins s2 σ H2 x y v u Q I2 rx ry q)
theorem opI {f:Value->Value->Sem Value}{C:Int->Int->Prop}{g:Int->Int->Int}
  (rule:∀(i j:Int) (t u:Tok) (s:Shared) (Q:Value->Shared->Prop) (E:Value->Shared->Prop),C i j->Q (.int (g i j) s.toks) { s with toks:=s.toks+1 }->wpAny (model X.prog X.w) X.A (f (.int i t) (.int j u)) Q E s) :
  OpR X f (rI C fun i j=> .int (g i j)):=by
 intro pins s σ H x y v u Q I rx ry h;obtain⟨i,j,rfl,rfl,hc,q⟩:=h;obtain⟨t,rfl⟩:=rx;obtain⟨t',rfl⟩:=ry;exact rule i j t t' s _ _ hc ⟨.int (g i j),H,I.tok _,⟨_,rfl⟩,q⟩
theorem YB {f:Value->Value->Sem Value}{g:Int->Int->Int}
  (rule:∀(i j:Int) (t u:Tok) (s:Shared) (Q:Value->Shared->Prop) (E:Value->Shared->Prop),Q (.int (g i j) s.toks) { s with toks:=s.toks+1 }->wpAny (model X.prog X.w) X.A (f (.int i t) (.int j u)) Q E s) :
  OpR X f (rI0 fun i j=> .int (g i j)):=by
 intro pins s σ H x y v u Q I rx ry h;obtain⟨i,j,rfl,rfl,q⟩:=h;obtain⟨t,rfl⟩:=rx;obtain⟨t',rfl⟩:=ry;exact rule i j t t' s _ _ ⟨.int (g i j),H,I.tok _,⟨_,rfl⟩,q⟩
theorem HP {f:Value->Value->Sem Value}{g:Int->Int->Bool}
  (rule:∀(i j:Int) (t u:Tok) (s:Shared) (Q:Value->Shared->Prop) (E:Value->Shared->Prop),Q (.bool (g i j)) s->wpAny (model X.prog X.w) X.A (f (.int i t) (.int j u)) Q E s) :
  OpR X f (rI0 fun i j=> .bl (g i j)):=by
 intro pins s σ H x y v u Q I rx ry h;obtain⟨i,j,rfl,rfl,q⟩:=h;obtain⟨t,rfl⟩:=rx;obtain⟨t',rfl⟩:=ry;exact rule i j t t' s _ _ ⟨.bl (g i j),H,I,rfl,q⟩
def VO (i j:Int):Prop:=0<j/\j<1073741824
def U0 (i j:Int):Prop:=0<=j/\j<=1000000/\i.natAbs<2^64
def CMul (i j:Int):Prop:=(-(2^64)<i/\i<2^64)∨(-(2^64)<j/\j<2^64)
theorem CMul.ok {i j:Int}(h:CMul i j):IntMulOk i j:=by
 rcases h with⟨h1,h2⟩|⟨h1,h2⟩
 ·exact .of_left (intBits_le_64 h1 h2)
 ·exact .of_right (intBits_le_64 h1 h2)
theorem IQ (k:Nat):(0:Int)<=2^k:=by
 rw[two_pow_cast];exact Int.natCast_nonneg _
theorem c7:OpR X (binaryOp .Add) (rI0 fun i j=> .int (i+j)):=YB fun _ _ _ _ _ _ _ q=>add_int q
theorem t5:OpR X (binaryOp .Sub) (rI0 fun i j=> .int (i - j)):=YB fun _ _ _ _ _ _ _ q=>sub_int q
theorem EC:OpR X (binaryOp .Mult) (rI CMul fun i j=> .int (i * j)):=opI fun _ _ _ _ _ _ _ hc q=>mul_int q hc.ok
theorem cF:OpR X (binaryOp .FloorDiv) (rI VO fun i j=> .int (i/j)):=opI fun i j _ _ _ _ _ hc q=>by
 have h1:(0:Int)<j:=hc.1;have h2:j<1073741824:=hc.2;exact floordiv_int (by lia) (by rw[Int.fdiv_eq_ediv_of_nonneg i (by lia)];exact q) (.inl (PyProof.noPylong_small (by lia)))
theorem b9:OpR X (binaryOp .Mod) (rI (fun _ j=>0<j) fun i j=> .int (i%j)):=opI fun i j _ _ _ _ _ hc q=>by
 have h1:(0:Int)<j:=hc;exact mod_int' (by lia) (by rw[Int.fmod_eq_emod_of_nonneg i (by lia)];exact q)
theorem XO:OpR X (binaryOp .Pow) (rI U0 fun i j=> .int (i^j.toNat)):=opI fun _ _ _ _ _ _ _ hc q=>pow_int_small hc.1 hc.2.1 hc.2.2 q
theorem XX:OpR X (binaryOp .RShift) (rI (fun _ j=>0<=j) fun i j=> .int (i/2^j.toNat)):=opI fun i j _ _ _ _ _ hc q =>
 rshift_int hc (by rw[Int.fdiv_eq_ediv_of_nonneg i (IQ _)];exact q)
end
def aAi:V->V->Bool
 | .non,.non=>true| .non,.int _=>true| .int _,.non=>true| .non,.bl _=>true| .bl _,.non=>true| .non,.str _=>true| .str _,.non=>true
 | .int _,.int _=>true| .bl _,.bl _=>true| .str _,.str _=>true| .byt _,.byt _=>true
 | .int _,.str _=>true| .str _,.int _=>true| .bl _,.str _=>true| .str _,.bl _=>true
 | _,_=>false
def rEq:R2:=fun x y H Q=>aAi x y=true/\Q (.bl (decide (x=y))) H
theorem RE {i j:Int}:decide (V.int i=V.int j)=(i==j):=by
 rw[Bool.eq_iff_iff];simp
theorem VF {i j:Bool}:decide (V.bl i=V.bl j)=(i==j):=by
 rw[Bool.eq_iff_iff];simp
theorem RQ {i j:Str}:decide (V.str i=V.str j)=(i==j):=by
 rw[Bool.eq_iff_iff];simp
theorem SB {i j:Array UInt8}:decide (V.byt i=V.byt j)=(i.toList==j.toList):=by
 rw[Bool.eq_iff_iff];cases i;cases j;simp
section
variable {X:Cx}{a b c:Expr}{ta tb tc:TE}{pos:Pos}
theorem dL {pins:List (Addr×Obj)}{σ:St}{H:Hp}{s:Shared}{Q:VK}{k k':Bool} (I:Inv X pins σ H s) (q:Q (.bl k) H) (e:k=k'):EP X pins σ Q (.bool k') s:=by
 subst e;exact⟨.bl k,H,I,rfl,q⟩
theorem o8:OpR X (compareOp .Eq) rEq:=by
 intro pins s σ H x y v u Q I rx ry h;obtain⟨hs,q⟩:=h;cases x with
 | non =>
  cases rx;cases y with
  | non=>cases ry;exact PySem.EqNone.eq_none_none (dL I q (by simp))
  | bl j=>cases ry;exact PySem.EqNone.eq_none_bool (dL I q (by simp))
  | int j=>obtain⟨t',rfl⟩:=ry;exact PySem.EqNone.eq_none_int (dL I q (by simp))
  | str j=>obtain⟨t',rfl⟩:=ry;exact PySem.EqNone.eq_none_str (dL I q (by simp))
  | _=>exact absurd (show false=true from hs) Bool.false_ne_true
 | bl i =>
  cases rx;cases y with
  | non=>cases ry;exact PySem.EqNone.eq_bool_none (dL I q (by simp))
  | bl j=>cases ry;exact eq_bool (dL I q VF)
  | str j=>obtain⟨t',rfl⟩:=ry;exact PySem.EqMixed.eq_bool_str (dL I q (by simp))
  | _=>exact absurd (show false=true from hs) Bool.false_ne_true
 | int i =>
  obtain⟨t,rfl⟩:=rx;cases y with
  | non=>cases ry;exact PySem.EqNone.eq_int_none (dL I q (by simp))
  | int j=>obtain⟨t',rfl⟩:=ry;exact eq_int (dL I q RE)
  | str j=>obtain⟨t',rfl⟩:=ry;exact PySem.EqMixed.eq_int_str (dL I q (by simp))
  | _=>exact absurd (show false=true from hs) Bool.false_ne_true
 | str i =>
  obtain⟨t,rfl⟩:=rx;cases y with
  | non=>cases ry;exact PySem.EqNone.eq_str_none (dL I q (by simp))
  | bl j=>cases ry;exact PySem.EqMixed.eq_str_bool (dL I q (by simp))
  | int j=>obtain⟨t',rfl⟩:=ry;exact PySem.EqMixed.eq_str_int (dL I q (by simp))
  | str j=>obtain⟨t',rfl⟩:=ry;exact eq_str (dL I q RQ)
  | _=>exact absurd (show false=true from hs) Bool.false_ne_true
 | byt i =>
  obtain⟨t,rfl⟩:=rx;cases y with
  | byt j=>obtain⟨t',rfl⟩:=ry;exact PySem.W.eq_bytes (dL I q SB)
  | _=>exact absurd (show false=true from hs) Bool.false_ne_true
 | _=>cases y<;>exact absurd (show false=true from hs) Bool.false_ne_true
theorem jT:OpR X (compareOp .Lt) (rI0 fun i j=> .bl (decide (i<j))):=HP fun _ _ _ _ _ _ _ q=>lt_int q
theorem CG:OpR X (compareOp .LtE) (rI0 fun i j=> .bl (decide (i<=j))):=HP fun _ _ _ _ _ _ _ q=>le_int q
theorem o7:OpR X (compareOp .Gt) (rI0 fun i j=> .bl (decide (j<i))):=HP fun _ _ _ _ _ _ _ q=>gt_int q
theorem Q7:OpR X (compareOp .GtE) (rI0 fun i j=> .bl (decide (j<=i))):=HP fun _ _ _ _ _ _ _ q=>ge_int q
theorem WP:OpR X (compareOp .Is) (fun x y H Q=>y= .non/\Q (.bl (decide (x= .non))) H):=by
 intro pins s σ H x y v u Q I rx ry h;obtain⟨rfl,q⟩:=h;cases ry;refine is_none_gen (dL I q ?_);cases x<;>first
  | (cases rx;rfl)
  | (obtain⟨t,rfl⟩:=rx;rfl)
theorem RJ:OpR X (compareOp .IsNot) (fun x y H Q=>y= .non/\Q (.bl (!decide (x= .non))) H):=by
 intro pins s σ H x y v u Q I rx ry h;obtain⟨rfl,q⟩:=h;cases ry;refine isnot_none_gen (dL I q ?_);cases x<;>first
  | (cases rx;rfl)
  | (obtain⟨t,rfl⟩:=rx;rfl)
theorem bM (b:Expr){op:CmpOp}(h:op≠ .In:=by decide)(h2:op≠ .NotIn:=by decide):behindInMarks op b=false:=by
 have e1:(op==CmpOp.In)=false:=by cases op<;>first|rfl|exact absurd rfl h
 have e2:(op==CmpOp.NotIn)=false:=by cases op<;>first|rfl|exact absurd rfl h2
 cases b<;>simp[behindInMarks,e1,e2]
theorem qM {op:CmpOp}{r:R2} (ho:OpR X (compareOp op) r) (ha:PE X a ta) (hb:PE X b tb) (hm:behindInMarks op b=false):PE X (.Compare a [op] [b] pos) (tOp r ta tb):=by
 intro pins s σ H Q I h;exact wpAny_Compare1 (O3 ha hb I h fun v u s2 x y H2 I2 rx ry q=>ho pins s2 σ H2 x y v u Q I2 rx ry q) hm
def IN (t:TE):TT:=fun σ H Q=>t σ H fun x H'=>∃k,x= .bl k/\Q k H'
theorem bH {op:CmpOp}{r:R2} (ho:OpR X (compareOp op) r) (ha:PE X a ta) (hb:PE X b tb) (hm:behindInMarks op b=false):PT X (.Compare a [op] [b] pos) (IN (tOp r ta tb)):=by
 intro pins s σ H Q I h;refine wpAny_isTrue_Compare1 (thn (ha pins s σ H _ I h) fun v s1 ⟨x,H1,I1,r1,q1⟩=>thn (hb pins s1 σ H1 _ I1 q1) fun u s2 ⟨y,H2,I2,r2,q2⟩ =>
  thn (ho pins s2 σ H2 x y v u _ I2 r1 r2 q2) fun c s3 ⟨z,H3,I3,r3,k,e,q3⟩=> ?_) hm
 subst e;cases r3;exact wpAny_truthy_bool ⟨H3,I3,q3⟩
def ET (r r':R2)(ta tb tc:TE):TE:=fun σ H Q=>ta σ H fun x H1=>tb σ H1 fun y H2=>r x y H2 fun z H3=>∃k,z= .bl k ∧
 (if k=true then tc σ H3 fun w' H4=>r' y w' H4 Q else Q (.bl false) H3)
theorem DS {op op':CmpOp}{r r':R2} (ho:OpR X (compareOp op) r) (ho':OpR X (compareOp op') r') (ha:PE X a ta) (hb:PE X b tb) (hc:PE X c tc)
  (hm:lastMarks [op,op'] [b,c]=false:=by with_unfolding_all rfl):PE X (.Compare a [op,op'] [b,c] pos) (ET r r' ta tb tc):=by
 intro pins s σ H Q I h;refine Compare_chain (thn (ha pins s σ H _ I h) fun v s1 ⟨x,H1,I1,r1,q1⟩=>chain_link (thn (hb pins s1 σ H1 _ I1 q1) fun u s2 ⟨y,H2,I2,r2,q2⟩ =>
  thn (ho pins s2 σ H2 x y v u _ I2 r1 r2 q2) fun d s3 ⟨z,H3,I3,r3,k,e,q3⟩=> ?_)) hm
 subst e;cases r3;refine wpAny_truthy_bool ?_;cases k with
 | false=>exact ite_ff ⟨.bl false,H3,I3,rfl,q3⟩
 | true=>exact ite_tt (chain_last (thn (hc pins s3 σ H3 _ I3 q3) fun w' s4 ⟨z',H4,I4,r4,q4⟩=>ho' pins s4 σ H4 y z' u w' Q I4 r2 r4 q4))
theorem EE {op op':CmpOp}{r r':R2} (ho:OpR X (compareOp op) r) (ho':OpR X (compareOp op') r') (ha:PE X a ta) (hb:PE X b tb) (hc:PE X c tc)
  (hm:lastMarks [op,op'] [b,c]=false:=by with_unfolding_all rfl):PT X (.Compare a [op,op'] [b,c] pos) (IN (ET r r' ta tb tc)):=by
 intro pins s σ H Q I h;refine isTrue_chain (thn (ha pins s σ H _ I h) fun v s1 ⟨x,H1,I1,r1,q1⟩=>test_link (thn (hb pins s1 σ H1 _ I1 q1) fun u s2 ⟨y,H2,I2,r2,q2⟩ =>
  thn (ho pins s2 σ H2 x y v u _ I2 r1 r2 q2) fun d s3 ⟨z,H3,I3,r3,k,e,q3⟩=> ?_)) hm
 subst e;cases r3;refine wpAny_truthy_bool ?_;cases k with
 | false =>
  obtain⟨k',e',q'⟩:=q3;cases e';exact ite_ff ⟨H3,I3,q'⟩
 | true =>
  refine ite_tt (test_last (thn (hc pins s3 σ H3 _ I3 q3) fun w' s4 ⟨z',H4,I4,r4,q4⟩=>thn (ho' pins s4 σ H4 y z' u w' _ I4 r2 r4 q4) fun d' s5 ⟨z2,H5,I5,r5,k2,e2,q5⟩=> ?_));subst e2;cases r5;exact wpAny_truthy_bool ⟨H5,I5,q5⟩
theorem t6:(sizeLine:Nat)<2^63:=by rw[sizeLine_eq];decide
theorem jZ {x:V}{us:List Value} (r:Vals [x] us):∃u,us=[u]/\RelV x u:=by
 cases r with
 | cons r1 r2=>cases r2;exact⟨_,rfl,r1⟩
theorem QY {x y:V}{us:List Value} (r:Vals [x,y] us):∃u w',us=[u,w']/\RelV x u/\RelV y w':=by
 cases r with
 | cons r1 r2 =>
  cases r2 with
  | cons r3 r4=>cases r4;exact⟨_,_,rfl,r1,r3⟩
theorem MU (hc:X.calm=true):dO X (.builtin "max") (fun xs H Q=>∃i j,xs=[.int i,.int j]/\Q (.int (if j>i then j else i)) H):=by
 intro pins s σ H xs us Q I r h;obtain⟨i,j,rfl,q⟩:=h;obtain⟨u,w',rfl,⟨t,rfl⟩,⟨t',rfl⟩⟩:=QY r;refine max_two_ints (I.ok.hd hc) fun h' tk k=>⟨_,H,I.kept k,?_,q⟩
 by_cases hj:j>i
 ·rw[if_pos hj,if_pos hj];exact⟨_,rfl⟩
 ·rw[if_neg hj,if_neg hj];exact⟨_,rfl⟩
end
end L2
namespace L2
open PySem PySem.Spec PyProof.Rows
structure ObjM (h:Heap)(x dx C:Addr)(mA:Str->Option Value):Prop where
 obj:h.get? x=some (PySem.W.instObj C dx)
 ns:h.Ns1 dx mA
 ne:dx≠x
theorem KN {h:Heap}{dx:Addr}{mA:Str->Option Value} (n:h.Ns1 dx mA):∃od,h.get? dx=some od/\∀name,PySem.W.lookIn name od=some (mA name):=by
 obtain⟨o,es,ep,ho,hd,hk,_,hm⟩:=n;refine⟨o,ho,fun name=> ?_⟩;have e:=hm name;unfold nsFind findBy at e;rw[←Array.find?_toList]at e;unfold PySem.W.lookIn;rw[hd]
 dsimp only
 split
 ·rename_i y q;rw[q]at e;exact congrArg some e
 ·rename_i q;rw[q]at e;have a:es.toList.any (·.refKey)=false:=by
   rw[List.any_eq_false];intro y hy;obtain⟨z,t,hkey⟩:=hk y (Array.mem_toList_iff.mp hy);simp[DictEntry.refKey,hkey]
  have a':¬es.toList.any (·.refKey)=true:=by rw[a];exact Bool.false_ne_true
  rw[if_neg a'];exact congrArg some e
theorem ObjM.look {h:Heap}{x dx C:Addr}{mA:Str->Option Value} (I:ObjM h x dx C mA):∃od,PySem.W.InstAt h x (PySem.W.instObj C dx) C (some od)/\∀name,PySem.W.lookIn name od=some (mA name) :=
 let ⟨od,ho,hl⟩:=KN I.ns
 ⟨od,⟨I.obj,rfl,rfl,ho⟩,hl⟩
section
variable {prog:Program}{w:World}{A:Around}{E:Value->Shared->Prop}{s:Shared}{K:PySem.W.Frag}{x dx C f:Addr}{mA:Str->Option Value}{name:Str}{v:Value}
theorem S0 {expr:Bool}{Q:Value->Shared->Prop} (X:K.In s.heap) (I:ObjM s.heap x dx C mA) (hg:PySem.W.plainGet K C name=true) (hh:PySem.W.hasDictIn K C=true)
  (ha:PySem.W.findIn K (.ref C) name=some none)(hv:mA name=some v)(hv':PySem.W.handedIn v=true)(h:Q v { s with toks:=s.toks+1 }) :
  wpAny (model prog w) A (getAttr (.ref x) name expr) Q E s:=by
 obtain⟨od,J,hl⟩:=I.look;exact PySem.W.get_value X J (PySem.W.plainGet_of hg).1 (PySem.W.findObj_own hh ha rfl (by rw[hl,hv])) hv' h
theorem P1 {pl:Sem Bool}{Q:Value×List Value->Shared->Prop} (X:K.In s.heap) (I:ObjM s.heap x dx C mA) (hg:PySem.W.plainGet K C name=true)
  (hf:PySem.W.findIn K (.ref C) name=some (some (.ref f)))(ht:PySem.W.isFn K (.ref f)=true)(hv:mA name=none)(h:Q (.ref f,[.ref x]) s) :
  wpAny (model prog w) A (getMethod (.ref x) name pl) Q E s:=by
 obtain⟨od,J,hl⟩:=I.look;exact PySem.W.method_fn X J (PySem.W.plainGet_of hg).1 (PySem.W.plainGet_of hg).2 hf (beq_iff_eq.mp ht) (by show (PySem.W.lookIn name od).map (·.isSome)=some false;rw[hl,hv];rfl) h
theorem SR {ns:List Str}{Q:Unit->Shared->Prop} (X:K.In s.heap) (I:ObjM s.heap x dx C mA)
  (hs:PySem.W.findIn K (.ref C) "__setattr__" =some (some (.builtin "object.__setattr__")))(hp:PySem.W.plainOver K C=true)(ht:PySem.W.takerIn K C name=some none)(hh:PySem.W.hasDictIn K C=true)
  (hw:PySem.Within mA ns)(hsz:ns.length<=sizeLine)
  (h:∀h',ObjM h' x dx C (fun y=>if y=name then some v else mA y)->Heap.SameBut dx s.heap h'->Q () { s with heap:=h',toks:=s.toks+2 }) :
  wpAny (model prog w) A (setAttr (.ref x) name v) Q E s:=by
 obtain⟨od,J,hl⟩:=I.look;refine PySem.W.set_plain X J hs (PySem.W.osa_open (s:={ s with toks:=s.toks+1 }) (r:=none) X J hp ht fun b=> ?_);obtain⟨cd,hc,hd'⟩:=PySem.W.any_some hh;have hx:s.heap.get? x=some ⟨.ref C,some dx,.plain,#[]⟩:=I.obj;refine wpAny_bind (wpAny_pure (wpAny_bind (wpAny_bind (wpAny_loadPart hx (wpAny_bind (PySem.W.Looks.here (s:={ s with toks:=s.toks+1 }) (PySem.W.looks_clsIn X hc) ?_))))));rw[hd'];refine wpAny_pure (a:=some dx) (wpAny_bind (wpAny_pure (wpAny_bind ?_)));refine wpAny_nsSet1 (s:={ s with toks:=s.toks+1 }) I.ns fun h' hn2 hs2=> ?_;obtain⟨oD,esD,epD,hoD,hdD,hcD⟩:=hn2.count (PySem.Within.cons name v hw);refine wpAny_bind (wpAny_lookBehind hoD (by rw[hdD];exact pastItsLine_dict (Nat.le_trans hcD (by rw[List.length_cons];lia))) ?_);exact wpAny_pure (h _ ⟨(hs2.2 _ (Ne.symm I.ne)).trans I.obj,hn2,I.ne⟩ hs2)
theorem NH {R:Result->Shared->Prop}{vs:List Value}{kw:List (Str×Value)} (X:K.In s.heap) (hm:PySem.W.makesIn K C=true)
  (hi:PySem.W.findIn K (.ref C) "__init__" =some (some (.ref f)))(hf:PySem.W.typeIn K (.ref f)=some (.type "function"))
  (h:codeAny (model prog w) (A.under (.builtin "type.__call__" ⟨.ref C::vs,kw⟩)) (.call (.ref f) ⟨.ref (s.heap.objs.size+1)::vs,kw⟩) (PySem.W.InitBack (s.heap.objs.size+1) R)
   { s with heap:=(s.heap.push PySem.W.emptyDict).push (PySem.W.instObj C s.heap.objs.size) }) :
  codeAny (model prog w) A (.call (.ref C) ⟨vs,kw⟩) R s:=by
 obtain⟨hh,g,d,t,os⟩:=s;exact PySem.W.make_core (PySem.W.makes_of X hm) (PySem.W.looks_findIn X hi) (fun self=>PySem.W.bind_fn X self hf) (.inl rfl) h
end
def cU (f:Str)(v:V):List (Str×V)->List (Str×V)
 | []=>[(f,v)]
 | (g,x)::r=>if g=f then (g,v)::r else (g,x)::cU f v r
theorem lQ (f g:Str)(v:V):∀fs:List (Str×V),(cU f v fs).lookup g=if g=f then some v else fs.lookup g
 | []=>by
  show List.lookup g [(f,v)]=_
  by_cases h:g=f
  ·have hb:(g==f)=true:=beq_iff_eq.mpr h;simp only[List.lookup,hb,if_pos h]
  ·have hb:(g==f)=false:=beq_eq_false_iff_ne.mpr h;simp only[List.lookup,hb,if_neg h]
 | (k,x)::r=>by
  have ih:=lQ f g v r;rw[show cU f v ((k,x)::r)=(if k=f then (k,v)::r else (k,x)::cU f v r) from rfl]
  by_cases hk:k=f
  ·rw[if_pos hk]
   by_cases h:g=k
   ·have hb:(g==k)=true:=beq_iff_eq.mpr h;simp only[List.lookup,hb,if_pos (h.trans hk)]
   ·have hb:(g==k)=false:=beq_eq_false_iff_ne.mpr h;simp only[List.lookup,hb,if_neg (fun e:g=f=>h (e.trans hk.symm))]
  ·rw[if_neg hk]
   by_cases h:g=k
   ·have hb:(g==k)=true:=beq_iff_eq.mpr h;simp only[List.lookup,hb,if_neg (fun e:g=f=>hk (h.symm.trans e))]
   ·have hb:(g==k)=false:=beq_eq_false_iff_ne.mpr h;simp only[List.lookup,hb];exact ih
theorem t8 (f:Str)(v:V):∀fs:List (Str×V),f∈(cU f v fs).map (·.1)/\∀g,g∈fs.map (·.1)->g∈(cU f v fs).map (·.1)
 | []=>⟨by simp[cU],fun g h=>by simp at h⟩
 | (k,x)::r=>by
  obtain⟨i1,i2⟩:=t8 f v r;rw[show cU f v ((k,x)::r)=(if k=f then (k,v)::r else (k,x)::cU f v r) from rfl]
  by_cases hk:k=f
  ·rw[if_pos hk];subst hk;exact⟨by simp,fun g h=>by simpa using h⟩
  ·rw[if_neg hk];refine⟨?_,fun g h=> ?_⟩
   ·rw[List.map_cons];exact List.mem_cons_of_mem _ i1
   ·rw[List.map_cons]at h ⊢;rcases List.mem_cons.mp h with e|e
    ·exact List.mem_cons.mpr (.inl e)
    ·exact List.mem_cons_of_mem _ (i2 g e)
theorem vQ (f:Str)(v:V):∀fs:List (Str×V),(cU f v fs).length<=fs.length+1
 | []=>by simp[cU]
 | (k,x)::r=>by
  have ih:=vQ f v r;rw[show cU f v ((k,x)::r)=(if k=f then (k,v)::r else (k,x)::cU f v r) from rfl]
  by_cases hk:k=f
  ·rw[if_pos hk,List.length_cons,List.length_cons];lia
  ·rw[if_neg hk,List.length_cons,List.length_cons];lia
theorem RelO.some_of {v:V}{o:Option Value} (r:RelO (some v) o):∃u,o=some u/\RelV v u:=by
 cases o with
 | none=>exact(show False from r).elim
 | some u=>exact⟨u,rfl,r⟩
theorem RelO.none_of {o:Option Value}(r:RelO none o):o=none:=by
 cases o with
 | none=>rfl
 | some u=>exact(show False from r).elim
theorem AQ {v:V}{u:Value} (r:RelV v u):PySem.W.handedIn u=true:=by
 cases v with
 | non=>cases (show u=Value.none from r);rfl
 | bl b=>cases (show u=Value.bool b from r);rfl
 | int i=>obtain⟨t,e⟩:=(show ∃t,u=Value.int i t from r);cases e;rfl
 | str x=>obtain⟨t,e⟩:=(show ∃t,u=Value.str x t from r);cases e;rfl
 | byt b=>obtain⟨t,e⟩:=(show ∃t,u=Value.bytes b t from r);cases e;rfl
 | flt b=>obtain⟨t,e⟩:=(show ∃t,u=Value.float b t from r);cases e;rfl
 | ref a=>cases (show u=Value.ref a from r);rfl
 | ty n=>cases (show u=Value.type n from r);rfl
section
variable {P:Program}{w:World}{H H':Hp}{h h':Heap}{a C dx:Addr}{fs fs':List (Str×V)}
theorem u4 (hok:HOk P w H h)(e:H a=some (.ins C dx fs)):∃mA,ObjM h a dx C mA/\(∀f,RelO (fs.lookup f) (mA f))/\PySem.Within mA (fs.map (·.1))/\fs.length<=1000/\H dx=some (.own a):=by
 obtain⟨d,z,ne,ob,mA,n,r,q⟩:=(show ObjOk P w H h a (.ins C dx fs) from hok a _ e)
 exact⟨mA,⟨ob,n,ne⟩,r,q,z,d⟩
end
structure Cls (K:PySem.W.Frag)(C:Addr):Prop where
 pg:PySem.W.plainGet K C Str.empty=true
 hd:PySem.W.hasDictIn K C=true
 po:PySem.W.plainOver K C=true
 sa:PySem.W.findIn K (.ref C) "__setattr__" =some (some (.builtin "object.__setattr__"))
theorem Cls.get {K:PySem.W.Frag}{C:Addr} (c:Cls K C) (f:Str):PySem.W.plainGet K C f=true:=c.pg
def NoAttr (K:PySem.W.Frag)(C:Addr)(f:Str):Prop:=PySem.W.findIn K (.ref C) f=some none
theorem NoAttr.taker {K:PySem.W.Frag}{C:Addr}{f:Str} (n:NoAttr K C f):PySem.W.takerIn K C f=some none:=by
 unfold PySem.W.takerIn;rw[show PySem.W.findIn K (.ref C) f=some none from n];rfl
structure eY (K:PySem.W.Frag)(C:Addr)(m:Str)(f:Addr):Prop where
 at_:PySem.W.findIn K (.ref C) m=some (some (.ref f))
 fn:PySem.W.isFn K (.ref f)=true
 kp:PySem.W.keepIn K (.ref f)=true
section
variable {X:Cx}{pins:List (Addr×Obj)}{σ:St}{H:Hp}{s:Shared}{a C dx:Addr}{fs:List (Str×V)}{f:Str}{v:V}{A:Around}{E:Value->Shared->Prop}
theorem IF {b:Bool}{Q:Value->Shared->Prop} (I:Inv X pins σ H s) (e:H a=some (.ins C dx fs)) (c:Cls X.K C) (n:NoAttr X.K C f) (l:fs.lookup f=some v)
  (h:∀u s',Inv X pins σ H s'->RelV v u->Q u s'):wpAny (model X.prog X.w) A (getAttr (.ref a) f b) Q E s:=by
 obtain⟨mA,O,r,_,_,_⟩:=u4 I.hok e;obtain⟨u,hu,ru⟩:=RelO.some_of (v:=v) (o:=mA f) (by rw[←l];exact r f);exact S0 I.kIn O (c.get f) c.hd n hu (AQ ru) (h u _ (I.tok _) ru)
theorem xC {m:Str}{g:Addr}{pl:Sem Bool}{Q:Value×List Value->Shared->Prop} (I:Inv X pins σ H s) (e:H a=some (.ins C dx fs)) (c:Cls X.K C) (k:eY X.K C m g) (l:fs.lookup m=none)
  (h:Q (.ref g,[.ref a]) s):wpAny (model X.prog X.w) A (getMethod (.ref a) m pl) Q E s:=by
 obtain⟨mA,O,r,_,_,_⟩:=u4 I.hok e;have hn:mA m=none:=RelO.none_of (by rw[←l];exact r m);exact P1 I.kIn O (c.get m) k.at_ k.fn hn h
theorem IZ {y:V}{u:Value}{Q:Unit->Shared->Prop} (I:Inv X pins σ H s) (e:H a=some (.ins C dx fs)) (c:Cls X.K C) (n:NoAttr X.K C f) (hl:fs.length<1000) (ry:RelV y u)
  (h:∀s',Inv X pins σ (upd H a (.ins C dx (cU f y fs))) s'->Q () s'):wpAny (model X.prog X.w) A (setAttr (.ref a) f u) Q E s:=by
 obtain⟨mA,O,r,wi,_,ho⟩:=u4 I.hok e;have hz:(fs.map (·.1)).length<=sizeLine:=by rw[List.length_map,sizeLine_eq];lia
 refine SR I.kIn O c.sa c.po n.taker c.hd wi hz fun h' O' sb=>h _ ?_;have hd:∃o,h'.get? dx=some o:=let ⟨o,_,_,e',_⟩:=O'.ns;⟨o,e'⟩;refine I.write (x:=a) (e:=dx) (by rw[e];exact True.intro) (.inr ho) (fun b q hb z=>(sb.2 b hb).trans z) hd ?_;refine⟨by rw[aT O.ne];exact ho,?_,O.ne,O'.obj,_,O'.ns,fun g=> ?_,fun g hg=> ?_⟩
 ·have:=vQ f y fs;lia
 ·show RelO ((cU f y fs).lookup g) (if g=f then some u else mA g);rw[lQ]
  by_cases q:g=f
  ·rw[if_pos q,if_pos q];exact ry
  ·rw[if_neg q,if_neg q];exact r g
 ·by_cases q:g=f
  ·rw[q];exact(t8 f y fs).1
  ·refine(t8 f y fs).2 g (wi g fun z=>hg ?_);show (if g=f then some u else mA g)=none;rw[if_neg q];exact z
theorem Inv.made (I:Inv X pins σ H s):Inv X pins σ (upd (upd H s.heap.objs.size (.own (s.heap.objs.size+1))) (s.heap.objs.size+1) (.ins C s.heap.objs.size []))
  { s with heap:=(s.heap.push PySem.W.emptyDict).push (PySem.W.instObj C s.heap.objs.size) }:=by
 have e1:(s.heap.push PySem.W.emptyDict).get? s.heap.objs.size=some PySem.W.emptyDict:=Heap.get?_push_size s.heap rfl;have e2:((s.heap.push PySem.W.emptyDict).push (PySem.W.instObj C s.heap.objs.size)).get? (s.heap.objs.size+1)=some (PySem.W.instObj C s.heap.objs.size):=by
  have:=Heap.get?_push_size (s.heap.push PySem.W.emptyDict) (o:=PySem.W.instObj C s.heap.objs.size) rfl
  rwa [Heap.size_push]at this
 have e3:(s.heap.push PySem.W.emptyDict).Ns s.heap.objs.size (fun _=>none):=⟨PySem.W.emptyDict,#[],_,e1,rfl,(fun e he=>absurd he (by simp)),fun _=>rfl⟩
 have I1:=I.laid (a:=s.heap.objs.size) (o:= .own (s.heap.objs.size+1)) (h':=s.heap.push PySem.W.emptyDict) (t':=s.toks) (fun b u q=>Heap.get?_push_of_some _ q) (Nat.le_refl _) ⟨_,e1⟩;refine I1.laid (a:=s.heap.objs.size+1) (o:= .ins C s.heap.objs.size []) (t':=s.toks) (fun b u q=>Heap.get?_push_of_some _ q) (Nat.le_of_eq (Heap.size_push _ _)) ?_;have ne:s.heap.objs.size≠s.heap.objs.size+1:=Nat.ne_of_lt (Nat.lt_succ_self _);refine⟨by rw[aT ne,bK],Nat.zero_le _,ne,e2,fun _=>none,(Heap.Ns1.of_empty e3).at fun o q=>Heap.get?_push_of_some _ q,fun _=>True.intro,fun y hy=>absurd rfl hy⟩
theorem TM {prog:Program}{w:World}{env:Env}{e:Expr}{f:Str}{pos:Pos}{s:Shared}{Q:Value->Shared->Prop} (hb:attributeBase e f env (eval e env)=eval e env)
  (h:wpAny (model prog w) A (eval e env) (fun o s₁=>wpAny (model prog w) A (getAttr o f true) Q E s₁) E s):wpAny (model prog w) A (eval (.Attribute e f pos) env) Q E s :=
 Attribute_any_ h (by rw[arm_eval_Attribute,hb])
end
def OI (K:PySem.W.Frag)(ta:TE)(f:Str):TE:=fun σ H Q=>ta σ H fun x H1=>∃a C dx fs v,x= .ref a/\H1 a=some (.ins C dx fs)/\Cls K C/\NoAttr K C f/\fs.lookup f=some v/\Q v H1
def XY (K:PySem.W.Frag)(ta tv:TE)(f:Str):TS:=fun D σ H=>tv σ H fun y H1=>ta σ H1 fun x H2=>∃a C dx fs,x= .ref a/\H2 a=some (.ins C dx fs)/\Cls K C/\NoAttr K C f/\fs.length<1000 ∧
 D.nx σ (upd H2 a (.ins C dx (cU f y fs)))
def YA (X:Cx)(op:Operator)(rd:V->V->Hp->VK->Prop):Prop :=
 ∀(pins:List (Addr×Obj)) (s:Shared) (σ:St) (H:Hp) (x y:V) (u v:Value) (Q:VK),Inv X pins σ H s->RelV x u->RelV y v->rd x y H Q->wpAny (model X.prog X.w) X.A (inplaceOp op u v) (EP X pins σ Q) X.xe s
section
variable {X:Cx}{o e value:Expr}{f:Str}{pos pos' tpos:Pos}{ta tv:TE}
theorem bJ (he:PE X e ta)(hb:attributeBase e f X.env (eval e X.env)=eval e X.env):PE X (.Attribute e f pos) (OI X.K ta f):=by
 intro pins s σ H Q I h;refine TM hb (thn (he pins s σ H _ I h) fun u s1 ⟨x,H1,I1,rx,a,C,dx,fs,v,ex,ea,c,n,l,q⟩=> ?_);subst ex;obtain rfl:u=Value.ref a:=rx;exact IF I1 ea c n l fun u' s2 I2 ru=>⟨v,H1,I2,ru,q⟩
theorem gY (ha:PE X o ta)(hv:PE X value tv)(hs:swapsWith value (some (.Attribute o f pos')) pos.line X.env=pure false):PS X (.Assign [.Attribute o f pos'] value pos) (XY X.K ta tv f):=by
 intro pins s σ H D I h;refine plainObj_wpAny_Assign_Attribute (thn (hv pins s σ H _ I h) fun u s1 ⟨y,H1,I1,ry,q⟩=>thn (ha pins s1 σ H1 _ I1 q) fun ov s2 ⟨x,H2,I2,rx,a,C,dx,fs,ex,ea,c,n,l,q2⟩=> ?_) hs;subst ex;obtain rfl:ov=Value.ref a:=rx;exact IZ I2 ea c n l ry fun s3 I3=>⟨σ,_,I3,q2⟩
def WT:V->V->Hp->VK->Prop:=fun x y H Q=>∃i j,x= .int i/\y= .int j/\Q (.int (i+j)) H
theorem WN:YA X .Add WT:=by
 rintro pins s σ H x y u v Q I rx ry ⟨i,j,rfl,rfl,q⟩;obtain⟨t,rfl⟩:=(show ∃t,u=Value.int i t from rx)
 obtain⟨t',rfl⟩:=(show ∃t',v=Value.int j t' from ry)
 exact PyProof.Rows.iadd_int ⟨.int (i+j),H,I.tok _,⟨_,rfl⟩,q⟩
end
section
variable {X:Cx}{pins:List (Addr×Obj)}{σ:St}{H:Hp}{s:Shared}{A:Around}{E:Value->Shared->Prop}{Q:Value->Shared->Prop}{c:Value}{b:Bool}
inductive i5 (K:PySem.W.Frag)(H:Hp):V->Value->Prop where
 | non:i5 K H .non (.type "NoneType")
 | bl (x:Bool):i5 K H (.bl x) (.type "bool")
 | int (i:Int):i5 K H (.int i) (.type "int")
 | str (x:Str):i5 K H (.str x) (.type "str")
 | flt (x:UInt64):i5 K H (.flt x) (.type "float")
 | lst {a:Addr}{xs:List V} (e:H a=some (.lst xs)):i5 K H (.ref a) (.type "list")
 | frz {a:Addr}{o:Obj}{xs:List V} (e:H a=some (.frz o (.lst xs))):i5 K H (.ref a) (.type "list")
 | tup {a:Addr}{xs:List V} (e:H a=some (.tup xs)):i5 K H (.ref a) (.type "tuple")
 | dK {a:Addr}{kvs:List (Key×V)} (e:H a=some (.dK kvs)):i5 K H (.ref a) (.type "dict")
 | dT {a:Addr}{kvs:List (List Key×V)} (e:H a=some (.dT kvs)):i5 K H (.ref a) (.type "dict")
 | ins {a C dx:Addr}{fs:List (Str×V)} (e:H a=some (.ins C dx fs)) (cl:Cls K C) (ha:PySem.W.findIn K (.ref C) "__class__" =some (some (.builtin "object.__class__")))
   (hn:PySem.W.specialIn K (.builtin "object.__class__") "__get__" =some (some (.builtin "getset_descriptor.__get__")))(htk:PySem.W.takesIn K (.builtin "object.__class__")=some true)
   (hm:PySem.W.mroIn K C (.type "object")=some true):i5 K H (.ref a) (.ref C)
theorem KL {x:V}{u t:Value} (I:Inv X pins σ H s) (rx:RelV x u) (ty:i5 X.K H x t) (e:PySem.W.kitOne X.K t c=some b) (h:∀tk,Q (.bool b) { s with toks:=tk }) :
  wpAny (model X.prog X.w) A (call (.builtin "isinstance") [u,c]) Q E s:=by
 cases ty with
 | non=>cases (show u=Value.none from rx);exact PySem.W.kia_one PySem.W.kitx_none I.kIn True.intro e (fun z=>nomatch z) h
 | bl y=>cases (show u=Value.bool y from rx);exact PySem.W.kia_one PySem.W.kitx_bool I.kIn True.intro e (fun z=>nomatch z) h
 | int i=>obtain⟨t,q⟩:=(show ∃t,u=Value.int i t from rx);cases q;exact PySem.W.kia_one PySem.W.kitx_int I.kIn True.intro e (fun z=>nomatch z) h
 | str y=>obtain⟨t,q⟩:=(show ∃t,u=Value.str y t from rx);cases q;exact PySem.W.kia_one PySem.W.kitx_str I.kIn True.intro e (fun z=>nomatch z) h
 | flt y=>obtain⟨t,q⟩:=(show ∃t,u=Value.float y t from rx);cases q;exact PySem.W.kia_one PySem.W.kitx_float I.kIn True.intro e (fun z=>nomatch z) h
 | @lst a xs ea =>
  cases (show u=Value.ref a from rx);obtain⟨_,_,n,_,h1⟩:=(show ObjOk X.prog X.w H s.heap a (.lst xs) from I.hok a _ ea)
  exact PySem.W.kia_one PySem.W.kitx_list I.kIn ⟨_,h1,rfl⟩ e (fun z=>nomatch z) h
 | @frz a ob xs ea =>
  cases (show u=Value.ref a from rx);obtain⟨_,_,_,n,_,h1⟩:=(show ObjOk X.prog X.w H s.heap a (.frz ob (.lst xs)) from I.hok a _ ea)
  exact PySem.W.kia_one PySem.W.kitx_list I.kIn ⟨_,h1,rfl⟩ e (fun z=>nomatch z) h
 | @tup a xs ea =>
  cases (show u=Value.ref a from rx);obtain⟨_,_,_,p⟩:=(show ObjOk X.prog X.w H s.heap a (.tup xs) from I.hok a _ ea)
  obtain⟨o,h1,h2,_⟩:=p;exact PySem.W.kia_one PySem.W.kitx_tuple I.kIn ⟨o,h1,h2⟩ e (fun z=>nomatch z) h
 | @dK a kvs ea =>
  cases (show u=Value.ref a from rx);obtain⟨_,_,vs,_,p⟩:=(show ObjOk X.prog X.w H s.heap a (.dK kvs) from I.hok a _ ea)
  obtain⟨o,es,ep,h1,h2,_⟩:=p;exact PySem.W.kia_one PySem.W.kitx_dict I.kIn ⟨o,h1,h2.1⟩ e (fun z=>nomatch z) h
 | @dT a kvs ea =>
  cases (show u=Value.ref a from rx);obtain⟨_,_,xs,_,o,es,ep,h1,h2,_⟩:=(show ObjOk X.prog X.w H s.heap a (.dT kvs) from I.hok a _ ea)
  exact PySem.W.kia_one PySem.W.kitx_dict I.kIn ⟨o,h1,h2.1⟩ e (fun z=>nomatch z) h
 | @ins a C dx fs ea cl ha hn htk hm =>
  cases (show u=Value.ref a from rx);obtain⟨mA,O,_⟩:=u4 I.hok ea;obtain⟨od,J,_⟩:=O.look;exact PySem.W.kia_one (PySem.W.kitx_own (cl.get _) cl.hd ha hn htk hm) I.kIn J e (fun z=>nomatch z) h
end
end L2
namespace L2
open PySem PySem.Spec PyProof.Rows
structure Room (k:Nat)(A:Around):Prop where
 hd:A.handled=none
 dp:A.depth+3 * k+5<recursionLimit
 un:A.units+16 * k+200<cLine
theorem Room.mono {j k:Nat}{A:Around} (r:Room k A) (h:j<=k):Room j A:=⟨r.hd,by have:=r.dp;lia,by have:=r.un;lia⟩
theorem Room.deeper {k:Nat}{A:Around} (r:Room (k+1) A) (env:Env):Room k (A.deeper env) :=
 ⟨r.hd,by have:=r.dp;show A.depth+1+3 * k+5<_;lia,by have:=r.un;show A.units+3+16 * k+200<_;lia⟩
theorem IC {A:Around}{C:Addr}{us:List Value}{kw:List (Str×Value)}:(A.under (.builtin "type.__call__" ⟨.ref C::us,kw⟩)).depth=A.depth+1:=by
 first|rfl|simp[Around.under,Code.weight,Code.isCreation,Code.isGuard,Code.isCaller,Code.frames,Code.isFrame,guardIds]
theorem IY {A:Around}{C:Addr}{us:List Value}{kw:List (Str×Value)}:(A.under (.builtin "type.__call__" ⟨.ref C::us,kw⟩)).units=A.units+1:=by
 first|rfl|simp[Around.under,Code.cUnits,Code.frames,Code.isFrame]
theorem Room.make {k:Nat}{A:Around} (r:Room (k+1) A) (C:Addr) (us:List Value) (kw:List (Str×Value)):Room k (A.under (.builtin "type.__call__" ⟨.ref C::us,kw⟩)) :=
 ⟨r.hd,by have:=r.dp;rw[IC];lia,by have:=r.un;rw[IY];lia⟩
theorem Room.depth {k:Nat}{A:Around} (r:Room k A):A.depth<recursionLimit:=by have:=r.dp;lia
theorem Room.units0 {k:Nat}{A:Around} (r:Room k A):A.units<cLine:=by have:=r.un;lia
def O5:TA:=fun _ H Q=>Q [] H
def Q3 (ta:TE)(tr:TA):TA:=fun σ H Q=>ta σ H fun x H1=>tr σ H1 fun xs H2=>Q (x::xs) H2
section
variable {X:Cx}{e:Expr}{es:List Expr}{te:TE}{t:TA}{pos:Pos}
theorem aD:PA X [] O5:=fun _ _ _ _ H Q I h=>Calls.spliced_nil ⟨[],H,I,.nil,h⟩
theorem aA (ha:PE X e te)(hr:PA X es t)(hs:starEach (e::es) X.env=(false,eval e X.env)::starEach es X.env:=by rfl):PA X (e::es) (Q3 te t):=by
 intro pos pins s σ H Q I h;rw[hs];show wpAny _ _ (spliced ((false,eval e X.env)::backTo pos (starEach es X.env))) _ _ s;refine Calls.spliced_cons (thn (ha pins s σ H _ I h) fun u s1 ⟨x,H1,I1,r1,q1⟩=> ?_);exact thn (hr pos pins s1 σ H1 _ I1 q1) fun us s2 ⟨xs,H2,I2,r2,q2⟩=>⟨x::xs,H2,I2,.cons r1 r2,q2⟩
def YE (t:TA):TE:=fun σ H Q=>t σ H fun xs H1=>xs.length<=sizeLine/\∀p,H1 p=none->Q (.ref p) (upd H1 p (.tup xs))
def WD (t:TA):TE:=fun σ H Q=>t σ H fun xs H1=>xs.length<=sizeLine/\∀p,H1 p=none->Q (.ref p) (upd H1 p (.lst xs))
theorem cI {x1}(h:PA X es t):PE X (.Tuple es x1 pos) (YE t):=by
 intro pins s σ H Q I hq;refine wpAny_Tuple_spliced (thn (h pos pins s σ H _ I hq) fun us s1 ⟨xs,H1,I1,r,z,q⟩=>⟨by rw[←r.length];exact z,?_⟩);have hf:H1 s1.heap.objs.size=none:=I1.hok.fresh (Nat.le_refl _);refine⟨.ref s1.heap.objs.size,upd H1 s1.heap.objs.size (.tup xs),I1.laid (t':=s1.toks) (fun b u e=>Heap.get?_push_of_some _ e) (Nat.le_refl _) ?_,rfl,q _ hf⟩;exact⟨z,us,r,⟨_,Heap.get?_push_size _ rfl,rfl,_,rfl⟩⟩
theorem fQ (h:PA X es t):PE X (.List es pos) (WD t):=by
 intro pins s σ H Q I hq;refine wpAny_List_spliced (thn (h pos pins s σ H _ I hq) fun us s1 ⟨xs,H1,I1,r,z,q⟩=>⟨by rw[←r.length];exact z,?_⟩);have hf:H1 s1.heap.objs.size=none:=I1.hok.fresh (Nat.le_refl _);refine⟨.ref s1.heap.objs.size,upd H1 s1.heap.objs.size (.lst xs),I1.laid (t':=s1.toks) (fun b u e=>Heap.get?_push_of_some _ e) (Nat.le_refl _) ?_,rfl,q _ hf⟩;exact⟨z,us,0,r,Heap.get?_push_size _ rfl⟩
end
abbrev Sp:=List V->Hp->VK->XK->Prop
abbrev CXT:=List Env->Hp->Shared->XK->Value->Shared->Prop
structure Env0 (P:Program)(w:World)(K:PySem.W.Frag)(mg:Str->Option Value)(base:Heap)(A:Around)(outer:List Env)(s:Shared)(H:Hp):Prop where
 frames:A.frames=some outer
 mod:Mod K mg base
 bs:∀b o,base.get? b=some o->s.heap.get? b=some o/\H b=none
 bsz:base.objs.size<=s.heap.objs.size
 funs:s.heap.FunFrames base outer
 frf:∀b∈frs outer,H b=none
 hok:HOk P w H s.heap
 bare:AllBare s.gens
def CE (outer:List Env)(P:Program)(w:World)(H:Hp)(s:Shared)(Q:VK)(u:Value)(s':Shared):Prop :=
 ∃v H',s'.os=s.os/\AllBare s'.gens/\Un (frs outer) [] H H' s.heap s'.heap/\HOk P w H' s'.heap/\RelV v u/\Q v H'
def CR (CX:CXT)(outer:List Env)(P:Program)(w:World)(H:Hp)(s:Shared)(Q:VK)(E:XK)(r:Result)(s':Shared):Prop :=
 match r with
 | .ok (.ret u)=>CE outer P w H s Q u s'
 | .ok _=>False
 | .error e=>CX outer H s E e s'
structure bI (P:Program)(w:World)(K:PySem.W.Frag)(mg:Str->Option Value)(base:Heap)(CX:CXT)(k:Nat)(f:Addr)(fd:FuncData)(ps:List Str)(sp:Sp):Prop where
 len:∀vs H Q E,sp vs H Q E->vs.length=ps.length
 run:∀(A:Around) (outer:List Env) (s:Shared) (H:Hp) (args:Args) (us:List Value) (vs:List V) (Q:VK) (E:XK),Room k A->Env0 P w K mg base A outer s H->BindsTo s fd args (ps.zip us)->Vals vs us->sp vs H Q E →
  codeAny (model P w) A (.call (.ref f) args) (CR CX outer P w H s Q E) s
theorem Env0.make {P:Program}{w:World}{K:PySem.W.Frag}{mg:Str->Option Value}{base:Heap}{A:Around}{outer:List Env}{s:Shared}{H:Hp} (e:Env0 P w K mg base A outer s H) (C:Addr) (us:List Value) (kw:List (Str×Value)) :
  Env0 P w K mg base (A.under (.builtin "type.__call__" ⟨.ref C::us,kw⟩)) outer s H:=⟨by first|exact e.frames|(simpa [Around.under,Code.envs,Code.isFrame,pushEnvs] using e.frames),e.mod,e.bs,e.bsz,e.funs,e.frf,e.hok,e.bare⟩
section
variable {X:Cx}{pins:List (Addr×Obj)}{σ:St}{H:Hp}{s s':Shared}
theorem Inv.env0 (I:Inv X pins σ H s):Env0 X.prog X.w X.K X.mg X.base X.A X.stack s H :=
 ⟨I.ok.frames,I.ok.mod,I.bs,Nat.le_trans I.ok.bsz I.sz,I.stack,I.stkFree,I.hok,I.bare⟩
theorem Inv.after {Q:VK}{u:Value} (I:Inv X pins σ H s) (h:CE X.stack X.prog X.w H s Q u s'):EP X pins σ Q u s':=by
 obtain⟨v,H',os,bare,un,hok,r,q⟩:=h;obtain⟨hh,g,d,t,os'⟩:=s';obtain rfl:os'=s.os:=os;exact⟨v,H',I.call (h':=hh) (g':=g) (d':=d) (t':=t) (ch:=[]) un hok bare (fun b z=>absurd z (by simp)),r,q⟩
end
def xV (sp:Sp)(dvs:List V)(E:XK)(t:TA):TE:=fun σ H Q=>t σ H fun vs H1=>sp (vs++dvs) H1 Q E
def IB (C:Addr)(sp:Sp)(dvs:List V)(E:XK)(t:TA):TE:=fun σ H Q=>t σ H fun vs H1=>∀x dx,H1 x=none->H1 dx=none->dx≠x →
 sp (.ref x::(vs++dvs)) (upd (upd H1 dx (.own x)) x (.ins C dx [])) (fun v H2=>v= .non/\Q (.ref x) H2) E
def Binds (K:PySem.W.Frag)(fd:FuncData)(ps:List Str)(ds:List Value):Prop :=
 ∀(s:Shared) (us:List Value),K.In s.heap->(us++ds).length=ps.length->BindsTo s fd ⟨us,[]⟩ (ps.zip (us++ds))
theorem Binds.all {K:PySem.W.Frag}{fd:FuncData}{ps:List Str} (h:∀us:List Value,us.length=ps.length->bindArgs fd ⟨us,[]⟩=pure (ps.zip us)):Binds K fd ps []:=fun s us _ hl=>by
 rw[List.append_nil]at hl ⊢;exact .of_eq (h us hl)
def tZ (CX:CXT)(X:Cx)(E:XK):Prop:=∀(pins:List (Addr×Obj)) (σ:St) (H:Hp) (s:Shared) (e:Value) (s':Shared),Inv X pins σ H s->CX X.stack H s E e s'->X.xe e s'
section
variable {X:Cx}{CX:CXT}{k:Nat}{f C:Addr}{fd:FuncData}{ps:List Str}{sp:Sp}{dvs:List V}{ds:List Value}{E:XK}{x m:Str}{p pos apos:Pos}{e o:Expr}{es:List Expr}{ta:TE}{t:TA}
theorem xL {pins:List (Addr×Obj)}{σ:St}{H:Hp}{s:Shared}{Q:VK}{us:List Value}{vs:List V} (F:bI X.prog X.w X.K X.mg X.base CX k f fd ps sp) (hr:Room k X.A) (hb:Binds X.K fd ps ds) (hd:Vals dvs ds) (hx:tZ CX X E)
  (I:Inv X pins σ H s)(r:Vals vs us)(h:sp (vs++dvs) H Q E):wpAny (model X.prog X.w) X.A (call (.ref f) us) (EP X pins σ Q) X.xe s:=by
 have r2:Vals (vs++dvs) (us++ds):=r.append hd;have hl:(us++ds).length=ps.length:=by rw[←r2.length];exact F.len _ _ _ _ h
 refine wpAny_call (codeAny_mono (F.run X.A X.stack s H ⟨us,[]⟩ (us++ds) (vs++dvs) Q E hr I.env0 (hb s us I.kIn hl) r2 h) fun r s' hq=> ?_);cases r with
 | error e=>exact hx pins σ H s e s' I hq
 | ok fl =>
  cases fl with
  | ret u=>exact I.after hq
  | next=>exact False.elim hq
  | brk=>exact False.elim hq
  | cont=>exact False.elim hq
theorem TN (F:bI X.prog X.w X.K X.mg X.base CX k f fd ps sp)(hr:Room k X.A)(hg:Gl X x)(hm:X.mg x=some (.ref f))(hk:PySem.W.keepIn X.K (.ref f)=true)(hb:Binds X.K fd ps ds)(hd:Vals dvs ds)(hx:tZ CX X E)
  (ha:PA X (e::es) t)(hdb:(x==("__debug__" :Str))=false:=by decide)(he:starEach (e::es) X.env=(false,eval e X.env)::starEach es X.env:=by rfl)(hpl:(backTo pos (starEach es X.env)).any (·.1)=false:=by rfl) :
  PE X (.Call (.Name x p) (e::es) [] pos) (xV sp dvs E t):=by
 intro pins s σ H Q I h;refine wpAny_Call_Name_kw (uJ I hg hm ?_ hdb);refine PySem.W.callWith_K (h₀:=X.base) I.ok.mod.kin hk (thn (ha pos pins s σ H _ I h) fun us s1 ⟨vs,H1,I1,r,q⟩=>⟨I1.kIn,?_⟩) he hpl;exact xL F hr hb hd hx I1 r q
structure Mk (K:PySem.W.Frag)(C f:Addr):Prop where
 makes:PySem.W.makesIn K C=true
 init:PySem.W.findIn K (.ref C) "__init__" =some (some (.ref f))
 fn:PySem.W.isFn K (.ref f)=true
 kp:PySem.W.keepIn K (.ref C)=true
theorem OB {pins:List (Addr×Obj)}{σ:St}{H:Hp}{s:Shared}{Q:VK}{us:List Value}{vs:List V} (M:Mk X.K C f) (F:bI X.prog X.w X.K X.mg X.base CX k f fd ps sp) (hr:Room (k+1) X.A) (hb:Binds X.K fd ps ds) (hd:Vals dvs ds)
  (hx:tZ CX X E)(I:Inv X pins σ H s)(r:Vals vs us)
  (h:∀x dx,H x=none->H dx=none->dx≠x->sp (.ref x::(vs++dvs)) (upd (upd H dx (.own x)) x (.ins C dx [])) (fun v H2=>v= .non/\Q (.ref x) H2) E) :
  wpAny (model X.prog X.w) X.A (call (.ref C) us) (EP X pins σ Q) X.xe s:=by
 have hq:=h (s.heap.objs.size+1) s.heap.objs.size (I.hok.fresh (Nat.le_succ _)) (I.hok.fresh (Nat.le_refl _)) (Nat.ne_of_lt (Nat.lt_succ_self _));have I2:=Inv.made (C:=C) I;have r2:Vals (V.ref (s.heap.objs.size+1)::(vs++dvs)) (Value.ref (s.heap.objs.size+1)::(us++ds)):= .cons rfl (r.append hd);have hl:(Value.ref (s.heap.objs.size+1)::us++ds).length=ps.length:=by
  have e:=r2.length;rw[F.len _ _ _ _ hq]at e;exact e.symm
 refine wpAny_call (NH (f:=f) I.kIn M.makes M.init (beq_iff_eq.mp M.fn) (codeAny_mono (F.run _ X.stack _ _ ⟨Value.ref (s.heap.objs.size+1)::us,[]⟩ (Value.ref (s.heap.objs.size+1)::(us++ds)) _ _ E (hr.make C us [])
  (I2.env0.make C us []) (hb _ (Value.ref (s.heap.objs.size+1)::us) I2.kIn hl) r2 hq) fun r s' hq'=> ?_))
 cases r with
 | error e=>exact hx pins σ _ _ e s' I2 hq'
 | ok fl =>
  cases fl with
  | ret u =>
   obtain⟨v,H',I3,rv,ev,q3⟩:=I2.after hq';subst ev;exact⟨rv,⟨V.ref (s.heap.objs.size+1),H',I3,rfl,q3⟩⟩
  | next=>exact False.elim hq'
  | brk=>exact False.elim hq'
  | cont=>exact False.elim hq'
theorem RV (M:Mk X.K C f)(F:bI X.prog X.w X.K X.mg X.base CX k f fd ps sp)(hr:Room (k+1) X.A)(hg:Gl X x)(hm:X.mg x=some (.ref C))(hb:Binds X.K fd ps ds)(hd:Vals dvs ds)(hx:tZ CX X E)
  (ha:PA X (e::es) t)(hdb:(x==("__debug__" :Str))=false:=by decide)(he:starEach (e::es) X.env=(false,eval e X.env)::starEach es X.env:=by rfl)(hpl:(backTo pos (starEach es X.env)).any (·.1)=false:=by rfl) :
  PE X (.Call (.Name x p) (e::es) [] pos) (IB C sp dvs E t):=by
 intro pins s σ H Q I h;refine wpAny_Call_Name_kw (uJ I hg hm ?_ hdb);refine PySem.W.callWith_K (h₀:=X.base) I.ok.mod.kin M.kp (thn (ha pos pins s σ H _ I h) fun us s1 ⟨vs,H1,I1,r,q⟩=>⟨I1.kIn,?_⟩) he hpl;exact OB M F hr hb hd hx I1 r q
end
section
variable {X:Cx}{CX:CXT}{k:Nat}{f C:Addr}{fd:FuncData}{ps ks:List Str}{sp:Sp}{E:XK}{x m:Str}{p pos apos kpos:Pos}{e o:Expr}{es:List Expr}{kws:List Keyword}{te ta:TE}{t tk:TA}{nm:Option Str}
variable {g:List Value->List Value->List Value}{gV:List V->List V->List V}
end
structure aU (N P:List Str)(sc:Scope):Prop where
 kind:sc.kind= .function
 co:sc.isCoroutine=false
 gen:sc.isGenerator=false
 nd:N.Nodup
 pre:N.take P.length=P
 par:∀x∈P,sc.names.lookup x=some .local∨sc.names.lookup x=some .cell
 nofree:∀y∈sc.names,y.2≠ .free
theorem AX {kindOf:Str->Option NameKind}{x:Str}:∀{binds:List (Str×Value)}{m:Str->Option Value},(∀v,(x,v)∉binds)->bindL kindOf binds m x=m x
 | [],_,_=>rfl
 | (n,v)::r,m,h=>by
  unfold bindL;rw[AX fun w hw=>h w (List.mem_cons_of_mem _ hw)]
  split
  ·have:x≠n:=by rintro rfl;exact h v List.mem_cons_self
   simp[this]
  ·rfl
theorem AW {kindOf:Str->Option NameKind}{x:Str}:∀{binds:List (Str×Value)}{m:Str->Option Value},(∀v,(x,v)∉binds)->bindC kindOf binds m x=m x
 | [],_,_=>rfl
 | (n,v)::r,m,h=>by
  unfold bindC;rw[AW fun w hw=>h w (List.mem_cons_of_mem _ hw)]
  split
  ·rfl
  ·have:x≠n:=by rintro rfl;exact h v List.mem_cons_self
   simp[this]
theorem AC {kindOf:Str->Option NameKind}{x:Str}{v:Value}:∀{P:List Str}{vs:List Value}{i:Nat}{m:Str->Option Value},P.Nodup->P[i]? =some x->vs[i]? =some v->kindOf x=some .local →
  bindL kindOf (P.zip vs) m x=some v
 | [],_,_,_,_,h,_,_=>by simp at h
 | _::_,[],_,_,_,_,h,_=>by simp at h
 | p::P,w::vs,0,m,nd,h1,h2,hk=>by
  simp at h1 h2;subst h1;subst h2;show bindL kindOf ((p,w)::P.zip vs) m p=_;unfold bindL;rw[AX fun v hv=>(List.nodup_cons.mp nd).1 (List.of_mem_zip hv).1,if_pos hk];simp
 | p::P,w::vs,i+1,m,nd,h1,h2,hk=>by
  show bindL kindOf ((p,w)::P.zip vs) m x=_;unfold bindL;exact AC (i:=i) (List.nodup_cons.mp nd).2 (by simpa using h1) (by simpa using h2) hk
theorem AE {kindOf:Str->Option NameKind}{x:Str}{v:Value}:∀{P:List Str}{vs:List Value}{i:Nat}{m:Str->Option Value},P.Nodup->P[i]? =some x->vs[i]? =some v->kindOf x≠some .local →
  bindC kindOf (P.zip vs) m x=some v
 | [],_,_,_,_,h,_,_=>by simp at h
 | _::_,[],_,_,_,_,h,_=>by simp at h
 | p::P,w::vs,0,m,nd,h1,h2,hk=>by
  simp at h1 h2;subst h1;subst h2;show bindC kindOf ((p,w)::P.zip vs) m p=_;unfold bindC;rw[AW fun v hv=>(List.nodup_cons.mp nd).1 (List.of_mem_zip hv).1,if_neg hk];simp
 | p::P,w::vs,i+1,m,nd,h1,h2,hk=>by
  show bindC kindOf ((p,w)::P.zip vs) m x=_;unfold bindC;exact AE (i:=i) (List.nodup_cons.mp nd).2 (by simpa using h1) (by simpa using h2) hk
def lP (N:List Str)(vs:List V):St:=vs.map some++List.replicate (N.length - vs.length) none
def zI (CX:CXT)(P:Program)(w:World)(K:PySem.W.Frag)(mg:Str->Option Value)(base:Heap)(N:List Str)(qual:Str)(scope:Scope)(f:Addr)(cd:Value)(A:Around)(outer:List Env)(s:Shared)(H:Hp)(E:XK):Cx where
 prog:=P
 w:=w
 K:=K
 mg:=mg
 base:=base
 A:=A.deeper (envOfC qual scope s.heap.objs.size f cd)
 N:=N
 s₀:=s
 H₀:=H
 env:=envOfC qual scope s.heap.objs.size f cd
 outer:=outer
 stack:=envOfC qual scope s.heap.objs.size f cd::outer
 ex:=[]
 calm:=true
 fn:=fun _=>true
 pn:=[]
 xe:=fun e s'=>wpAny (model P w) (A.deeper (envOfC qual scope s.heap.objs.size f cd)) (leaving (envOfC qual scope s.heap.objs.size f cd) e) (fun _ s''=>CX outer H s E e s'') (fun e' s''=>CX outer H s E e' s'') s'
theorem v5 {sc:Scope}{n:Nat}{x:Str} (h:sc.names.lookup x=some .cell):∃c,(cellsFrom n sc.names []).lookup x=some c:=by
 have q:=PySem.W.cellsFrom_some sc.names n [] (.inl h);exact Option.isSome_iff_exists.mp q
theorem J7 {CX:CXT}{P:Program}{w:World}{K:PySem.W.Frag}{mg:Str->Option Value}{base:Heap}{N ps:List Str}{qual:Str}{scope:Scope}{f:Addr}{cd:Value}{A:Around}{outer:List Env}{s s1:Shared}{H:Hp}{E:XK}{us:List Value}{vs:List V}
  (S:aU N ps scope)(hd:A.handled=none)(e0:Env0 P w K mg base A outer s H)(hl:vs.length=ps.length)(r:Vals vs us)
  (x:InCallC s s.heap.objs.size (bindL (envOfC qual scope s.heap.objs.size f cd).kindOf (ps.zip us) fun _=>none) (cellsFrom (s.heap.objs.size+1) scope.names []) (bindC (envOfC qual scope s.heap.objs.size f cd).kindOf (ps.zip us) fun _=>none) s1) :
  Inv (zI CX P w K mg base N qual scope f cd A outer s H E) [] (lP N vs) H s1:=by
 have hpl:ps.length<=N.length:=by have:=congrArg List.length S.pre;rw[List.length_take]at this;lia
 obtain⟨h1,tk,rfl,hk⟩:=x.done;have noA:∀b:Addr,b∉(zI CX P w K mg base N qual scope f cd A outer s H E).ex:=fun b z=>absurd (show b∈([]:List Addr) from z) (by simp);refine⟨⟨e0.mod,S.kind,rfl,rfl,Nat.le_refl _,fun y z c h1 h2=> ?_,fun y hy=> ?_,fun y c _ h=> ?_,fun _=>hd,Around.frames_deeper e0.frames,.inr ⟨rfl,rfl⟩,fun b z=>absurd z (noA b),e0.bs,e0.bsz,fun b _ _=>noA b,fun b z=>absurd z (noA b),e0.funs,e0.frf⟩,
  rfl,e0.bare,Un.kept hk,⟨_,x.toInCall.ns,fun i y v h1 h2 h3=> ?_⟩,fun y c h=>⟨_,x.cell y c h⟩,e0.hok.fresh (Nat.le_refl _),fun y c h=> ?_,fun p hp=>absurd (show p∈([]:List (Addr×Obj)) from hp) (by simp),e0.hok.kept hk,?_⟩
 ·exact name_of_addr x.apart (PySem.mem_of_lookup h1) (PySem.mem_of_lookup h2)
 ·have hy:scope.names.lookup y=some .cell∨scope.names.lookup y=some .free:=hy;rcases hy with hy|hy
  ·exact v5 hy
  ·exact absurd rfl (S.nofree _ (PySem.mem_of_lookup hy))
 ·exact Nat.le_of_lt (x.above y c (PySem.mem_of_lookup h))
 ·have hi:i<vs.length:=by
   unfold lP at h2
   by_cases hi:i<vs.length
   ·exact hi
   ·rw[List.getElem?_append_right (by simpa using hi)]at h2;rw[List.getElem?_replicate]at h2
    split at h2<;>cases h2
  have ha:vs[i]? =some v:=by
   unfold lP at h2;rw[List.getElem?_append_left (by simpa using hi),List.getElem?_map]at h2;cases e:vs[i]? with
   | none=>rw[e]at h2;cases h2
   | some a=>rw[e]at h2;cases h2;rfl
  obtain⟨u,hu,rv⟩:=r.get ha;have hp:ps[i]? =some y:=by
   rw[←S.pre,List.getElem?_take_of_lt (by lia)];exact h1
  have ndP:ps.Nodup:=by rw[←S.pre];exact S.nd.sublist (List.take_sublist _ _)
  refine⟨u,rv,?_⟩;rcases S.par y (List.mem_of_getElem? hp) with k|k
  ·exact .inl ⟨k,AC ndP hp hu k⟩
  ·obtain⟨c,e⟩:=v5 (n:=s.heap.objs.size+1) k;refine .inr ⟨.inl k,c,e,?_⟩;have q:=x.cell y c e;rw[AE ndP hp hu (by show scope.names.lookup y≠_;rw[k];decide)]at q;exact q
 ·exact e0.hok.fresh (Nat.le_of_lt (x.above y c (PySem.mem_of_lookup h)))
 ·unfold lP;show _=N.length;rw[List.length_append,List.length_map,List.length_replicate]
  lia
theorem ZT {CX:CXT}{P:Program}{w:World}{K:PySem.W.Frag}{mg:Str->Option Value}{base:Heap}{k:Nat}{f:Addr}{name qual:Str}{params:Arguments}{body:List Stmt}{scope:Scope}{dV kV doc pm cdv ct oc:Value}{an od:Option Addr}
  {osl:Array (Option Value)}{N ps:List Str}{sp:Sp} (lk:K.lookup f=some ⟨oc,od,.func (PySem.W.fnOf name qual params body scope dV kV doc pm an cdv ct),osl⟩) (hcd:PySem.W.codeIn K cdv qual=true) (S:aU N ps scope)
  (len:∀vs H Q E,sp vs H Q E->vs.length=ps.length)
  (hbody:∀(A:Around) (outer:List Env) (s:Shared) (H:Hp) (vs:List V) (Q:VK) (E:XK),Room k (A.deeper (envOfC qual scope s.heap.objs.size f cdv))->sp vs H Q E →
   ∃t,PSs (zI CX P w K mg base N qual scope f cdv A outer s H E) body t/\t { nx:=fun _ H'=>Q .non H',rt:=Q } (lP N vs) H) :
  bI P w K mg base CX (k+1) f (PySem.W.fnOf name qual params body scope dV kV doc pm an cdv ct) ps sp:=by
 refine⟨len,fun A outer s H args us vs Q E hr e0 hb r hsp=> ?_⟩;have hl:=len _ _ _ _ hsp;have KX:K.In s.heap:=e0.mod.kin.keeps fun b o e=>(e0.bs b o e).1;have lim:s.heap.NoLimit:=e0.mod.nolimit.keeps fun b o e=>(e0.bs b o e).1;have hkind:∀y∈ps.zip us,scope.names.lookup y.1=some .local∨(scope.names.lookup y.1=some .cell/\((cellsFrom (s.heap.objs.size+1) scope.names []).lookup y.1).isSome=true):=fun⟨n,v⟩ hy=>by
  rcases S.par n (List.of_mem_zip hy).1 with q|q
  ·exact .inl q
  ·exact .inr ⟨q,PySem.W.cellsFrom_some _ _ _ (.inl q)⟩
 refine codeAny_call_function hr.depth (KX _ _ lk) rfl S.co S.gen rfl (PySem.W.codeRec_of KX hcd) (hb _ _ _ _ ?_);refine wpAny_newFunctionEnv_cells S.kind hkind fun env he s1 x=> ?_;subst he;refine⟨lim.keeps x.toInCall.keep,codeAny_func ?_⟩;obtain⟨t,ht,hq⟩:=hbody A outer s H vs Q E (hr.deeper _) hsp;have I:Inv (zI CX P w K mg base N qual scope f cdv A outer s H E) [] (lP N vs) H s1:=J7 S hr.hd e0 hl r x;refine wpAny_mono (ht [] s1 (lP N vs) H _ I hq) (fun fl s' hs=> ?_) fun e s' hs=>hs;have fin:∀{σ':St}{H':Hp}{v:V}{u:Value},Inv (zI CX P w K mg base N qual scope f cdv A outer s H E) [] σ' H' s'->RelV v u->Q v H'->CE outer P w H s Q u s' :=
  fun {σ' H' v u} J rv q=>⟨v,H',J.os,J.bare,J.base,J.hok,rv,q⟩
 cases fl with
 | ret u =>
  obtain⟨v,σ',H',J,rv,q⟩:=hs;exact fin J rv q
 | next =>
  obtain⟨σ',H',J,q⟩:=hs;exact fin (v:=V.non) (u:=Value.none) J rfl q
 | brk =>
  obtain⟨_,_,_,q⟩:=hs;exact False.elim q
 | cont =>
  obtain⟨_,_,_,q⟩:=hs;exact False.elim q
end L2
namespace L2
open PySem PySem.Spec PyProof.Rows
section
variable {X:Cx}{x:Str}{p pos:Pos}{e:Expr}{es:List Expr}{t:TA}{id T:String}{r:List V->Hp->VK->Prop}
def tCB (r:List V->Hp->VK->Prop)(t:TA):TE:=fun σ H Q=>t σ H fun vs H1=>r vs H1 Q
theorem cB (hc:dO X (.builtin id) r)(hg:Gl X x)(hm:X.mg x=none)(hv:bootBuiltins x=some (.builtin id))(ha:PA X (e::es) t)(hn:x≠ "__name__" :=by decide)(hdb:(x==("__debug__" :Str))=false:=by decide)
  (he:starEach (e::es) X.env=(false,eval e X.env)::starEach es X.env:=by rfl)(hpl:(backTo pos (starEach es X.env)).any (·.1)=false:=by rfl):PE X (.Call (.Name x p) (e::es) [] pos) (tCB r t):=by
 intro pins s σ H Q I h;refine wpAny_Call_Name_kw (p9 I hg hm hv ?_ hn hdb);exact PyProof.Rows.callWith_builtin1 (thn (ha pos pins s σ H _ I h) fun us s1 ⟨vs,H1,I1,r1,q1⟩=>hc pins s1 σ H1 vs us Q I1 r1 q1) he hpl
theorem oU (hc:dO X (.type T) r)(hg:Gl X x)(hm:X.mg x=none)(hv:bootBuiltins x=some (.type T))(ha:PA X (e::es) t)(hn:x≠ "__name__" :=by decide)(hdb:(x==("__debug__" :Str))=false:=by decide)
  (he:starEach (e::es) X.env=(false,eval e X.env)::starEach es X.env:=by rfl)(hpl:(backTo pos (starEach es X.env)).any (·.1)=false:=by rfl):PE X (.Call (.Name x p) (e::es) [] pos) (tCB r t):=by
 intro pins s σ H Q I h;refine wpAny_Call_Name_kw (p9 I hg hm hv ?_ hn hdb);exact PyProof.Rows.callWith_type1 (thn (ha pos pins s σ H _ I h) fun us s1 ⟨vs,H1,I1,r1,q1⟩=>hc pins s1 σ H1 vs us Q I1 r1 q1) he hpl
end
end L2
namespace HT
open PySem PyProof.Rows
section
open PySem.SeqAt
open PySem.AutoSeq1 (wpAny_loadPart')
open PySem.MeetsSeq PySem.MeetsSeq2 PySem.MeetsSeq3
end
section
variable {prog:Program}{w:World}{A:Around}{E:Value->Shared->Prop}{s:Shared}
def sIx (n d:Nat):Option Int->Nat
 | none=>d
 | some v=>if v<0 then (v+(n:Int)).toNat else min v.toNat n
theorem sIx_nat (n d k:Nat):sIx n d (some (k:Int))=min k n:=by
 show (if (k:Int)<0 then ((k:Int)+(n:Int)).toNat else min (k:Int).toNat n)=min k n;rw[if_neg (by lia),Int.toNat_natCast]
end
end HT
namespace L2
open PySem PySem.Spec PyProof.Rows
abbrev TO:=St->Hp->(Option Int->Hp->Prop)->Prop
def PO (X:Cx)(e:Option Expr)(t:TO):Prop :=
 ∀(pins:List (Addr×Obj)) (s:Shared) (σ:St) (H:Hp) (Q:Option Int->Hp->Prop),Inv X pins σ H s->t σ H Q →
  wpAny (model X.prog X.w) X.A (evalPart e X.env) (fun u s'=>∃o H',Inv X pins σ H' s'/\IsPart u o/\Q o H') X.xe s
def Q2 (t:TE):TO:=fun σ H Q=>t σ H fun x H1=>∃i,x= .int i/\Q (some i) H1
section
variable {X:Cx}{e:Expr}{te:TE}{lo hi:Option Expr}{tl th:TO}{pos p2:Pos}
theorem GK (h:PE X e te):PO X (some e) (Q2 te):=by
 intro pins s σ H Q I hw;rw[evalPart_some];refine thn (h pins s σ H _ I hw) fun u s1 ⟨x,H1,I1,r1,q1⟩=> ?_;obtain⟨i,rfl,q⟩:=q1;obtain⟨t,rfl⟩:=r1;exact⟨some i,H1,I1,.int i t,q⟩
def SlR (X:Cx)(r:V->Option Int->Option Int->Hp->VK->Prop):Prop :=
 ∀(pins:List (Addr×Obj)) (s:Shared) (σ:St) (H:Hp) (x:V) (v vl vu:Value) (lo hi:Option Int) (sl:Addr) (Q:VK),Inv X pins σ H s->RelV x v->s.heap.IsSliceOf sl vl vu .none->IsPart vl lo->IsPart vu hi->r x lo hi H Q →
  ∃T id,typeLookup (.type T) "__getitem__" =pure (some (.builtin id))/\s.TypeIs v T/\wpAny (model X.prog X.w) X.A (getItem v (.ref sl)) (EP X pins σ Q) X.xe s
def tSl (r:V->Option Int->Option Int->Hp->VK->Prop)(te:TE)(tl th:TO):TE:=fun σ H Q=>te σ H fun x H1=>tl σ H1 fun l H2=>th σ H2 fun u H3=>r x l u H3 Q
theorem OJ {r:V->Option Int->Option Int->Hp->VK->Prop}(hr:SlR X r)(he:PE X e te)(hl:PO X lo tl)(hu:PO X hi th):PE X (.Subscript e (.Slice lo hi none p2) pos) (tSl r te tl th):=by
 intro pins s σ H Q I h;refine Subscript_ (thn (he pins s σ H _ I h) fun v s1 ⟨x,H1,I1,r1,q1⟩=> ?_);refine wpAny_Slice (thn (hl pins s1 σ H1 _ I1 q1) fun vl s2 ⟨l,H2,I2,pl,q2⟩=>thn (hu pins s2 σ H2 _ I2 q2) fun vu s3 ⟨u,H3,I3,pu,q3⟩=> ?_);rw[evalPart_none];refine wpAny_pure ?_;have I4:Inv X pins σ H3 { s3 with heap:=s3.heap.push { cls:= .type "slice",data:= .fields #[vl,vu,.none] } }:=I3.kept (t':=s3.toks) fun b ob q=>Heap.get?_push_of_some _ q;obtain⟨T,id,hT,ht,hg⟩:=hr pins { s3 with heap:=s3.heap.push { cls:= .type "slice",data:= .fields #[vl,vu,.none] } } σ H3 x v vl vu l u s3.heap.objs.size Q I4 r1 (Heap.IsSliceOf.new ..) pl pu q3;show wpAny (model X.prog X.w) X.A (subscriptTail e (.Slice lo hi none p2) v (.ref s3.heap.objs.size)) (EP X pins σ Q) X.xe { s3 with heap:=s3.heap.push { cls:= .type "slice",data:= .fields #[vl,vu,.none] } };exact tail_any (ops:=[.ref s3.heap.objs.size,v]) ht hT hg (by with_unfolding_all rfl)
def vZ (xs:List V)(lo hi:Option Int):List V:=(xs.drop (HT.sIx xs.length 0 lo)).take (HT.sIx xs.length xs.length hi - HT.sIx xs.length 0 lo)
theorem F1 (xs:List V)(lo hi:Option Int):(vZ xs lo hi).length<=xs.length:=by
 unfold vZ;rw[List.length_take,List.length_drop]
 lia
end
end L2
namespace L2
open PySem PySem.Spec PyProof.Rows
def ixN (n:Nat)(i:Int):Option Nat:=if 0<=i then (if i<n then some i.toNat else none) else if -(n:Int)<=i then some (i+n).toNat else none
def atI {α:Type}(xs:List α)(i:Int):Option α:=(ixN xs.length i).bind fun j=>xs[j]?
theorem SX {n:Nat}{i:Int}{j:Nat} (h:ixN n i=some j):seqIndex? i n=some j/\j<n/\ -(n:Int)<=i/\i<n:=by
 unfold ixN at h
 by_cases h0:0<=i
 ·rw[if_pos h0]at h
  by_cases h1:i<n
  ·rw[if_pos h1]at h;have e:i.toNat=j:=Option.some.inj h;exact⟨by rw[seqIndex_of h0 h1,e],by lia,by lia,h1⟩
  ·rw[if_neg h1]at h;cases h
 ·rw[if_neg h0]at h
  by_cases h1: -(n:Int)<=i
  ·rw[if_pos h1]at h;have e:(i+n).toNat=j:=Option.some.inj h;exact⟨by rw[seqIndex_neg (by lia) h1,e],by lia,h1,by lia⟩
  ·rw[if_neg h1]at h;cases h
theorem yW {α:Type}{xs:List α}{i:Int}{v:α} (h:atI xs i=some v):∃j,seqIndex? i xs.length=some j/\xs[j]? =some v/\j<xs.length/\ -(xs.length:Int)<=i/\i<xs.length:=by
 unfold atI at h;cases e:ixN xs.length i with
 | none=>rw[e]at h;cases h
 | some j =>
  rw[e]at h;obtain⟨h1,h2,h3,h4⟩:=SX e;exact⟨j,h1,h,h2,h3,h4⟩
theorem u5 {α:Type}{xs:List α}{j:Nat}{v:α} (h:xs[j]? =some v):atI xs (j:Int)=some v:=by
 have hj:j<xs.length:=(List.getElem?_eq_some_iff.mp h).1;have e:ixN xs.length (j:Int)=some j:=by
  unfold ixN;rw[if_pos (by lia),if_pos (by lia)];simp
 unfold atI;rw[e];exact h
def RM (b:Expr):Prop:=∀o i,subscripted b false o i=operate [o,i] (getItem o i)
def IxR (X:Cx)(r:R2):Prop :=
 ∀(value slice:Expr) (pins:List (Addr×Obj)) (s:Shared) (σ:St) (H:Hp) (x y:V) (v u:Value) (Q:VK),Inv X pins σ H s->RelV x v->RelV y u->r x y H Q →
  subscripted slice false v u=operate [v,u] (getItem v u)->wpAny (model X.prog X.w) X.A (subscriptTail value slice v u) (EP X pins σ Q) X.xe s
def MtR (X:Cx)(id:String)(r:V->List V->Hp->VK->Prop):Prop :=
 ∀(pins:List (Addr×Obj)) (s:Shared) (σ:St) (H:Hp) (x:V) (xs:List V) (v:Value) (us:List Value) (Q:VK),Inv X pins σ H s->RelV x v->Vals xs us->r x xs H Q →
  wpAny (model X.prog X.w) X.A (call (.builtin id) (v::us)) (EP X pins σ Q) X.xe s
section
variable {X:Cx}{a b:Expr}{ta tb:TE}{pos:Pos}
theorem dJ {r:R2}(hr:IxR X r)(ha:PE X a ta)(hb:PE X b tb)(hs:RM b):PE X (.Subscript a b pos) (tOp r ta tb):=by
 intro pins s σ H Q I h;exact Subscript_ (O3 ha hb I h fun v u s2 x y H2 I2 rx ry q=>hr a b pins s2 σ H2 x y v u Q I2 rx ry q (hs _ _))
def CN (K:PySem.W.Frag):R2:=fun x y H Q=>∃p xs i v,x= .ref p/\y= .int i/\SqL K H p xs/\atI xs i=some v/\Q v H
def V4 (K:PySem.W.Frag):R2:=fun x y H Q=>∃p xs i v,x= .ref p/\y= .int i/\SqT K H p xs/\atI xs i=some v/\Q v H
def aAk:R2:=fun x y H Q=>∃z i c,x= .str z/\y= .int i/\z.length<=sizeLine/\atI z.cps.toList i=some c/\Q (.str ⟨#[c]⟩) H
theorem gK:IxR X (CN X.K):=by
 intro value slice pins s σ H x y v u Q I rx ry h hs;obtain⟨p,xs,i,z,rfl,rfl,hq,he,q⟩:=h;cases rx;obtain⟨t,rfl⟩:=ry;obtain⟨its,r,pl,hz⟩:=I.list hq;obtain⟨j,h1,h2,h3,h4,h5⟩:=yW he;obtain⟨w,ew,rw'⟩:=r.get h2;have hl:=r.length;have hn:=t6;have fin:EP X pins σ Q w s:=⟨z,H,I,rw',q⟩
 by_cases h0:0<=i
 ·have hj:i.toNat=j:=by
   rw[seqIndex_of h0 h5]at h1;exact Option.some.inj h1
  exact item_listR pl.isList h0 (by lia) (by rw[hj];simpa using ew) fin hs
 ·have hj:(i+(its.toArray.size:Int)).toNat=j:=by
   rw[seqIndex_neg (by lia) h4]at h1;rw[List.size_toArray,←hl];exact Option.some.inj h1
  exact subscriptTail_builtinR (x:=w) pl.isList.typeIs slot_list_getitem.lookup
   (wpAny_getItem_list_neg (Q:=fun r s'=>r=w/\EP X pins σ Q r s') pl.isList (by lia) (by rw[List.size_toArray]<;>lia) (by lia) (by rw[hj];simpa using ew) ⟨rfl,fin⟩) hs
theorem xZ:IxR X (V4 X.K):=by
 intro value slice pins s σ H x y v u Q I rx ry h hs;obtain⟨p,xs,i,z,rfl,rfl,hq,he,q⟩:=h;cases rx;obtain⟨t,rfl⟩:=ry;obtain⟨its,r,pl,hz⟩:=I.tuple hq;obtain⟨j,h1,h2,h3,h4,h5⟩:=yW he;obtain⟨w,ew,rw'⟩:=r.get h2;have hl:=r.length;have hn:=t6;have fin:EP X pins σ Q w s:=⟨z,H,I,rw',q⟩
 exact subscriptTail_builtinR (x:=w) pl.typeIs slot_tuple_getitem.lookup
  (getItem_tuple (j:=j) (Q:=fun r s'=>r=w/\EP X pins σ Q r s') pl (by lia) (by lia) (by rw[List.size_toArray,←hl];exact h1) (by simpa using ew) ⟨rfl,fin⟩) hs
theorem MS:IxR X aAk:=by
 intro value slice pins s σ H x y v u Q I rx ry h hs;obtain⟨z,i,c,rfl,rfl,hz,he,q⟩:=h;obtain⟨t,rfl⟩:=rx;obtain⟨t',rfl⟩:=ry;obtain⟨j,h1,h2,h3,h4,h5⟩:=yW he;have hl:z.cps.toList.length=z.length:=by simp[Str.length]
 rw[hl]at h1 h4 h5;have hn:=t6;exact tail_any (typeIs_str s z t) slot_str_getitem.lookup (getItem_str (c:=c) (by
  have e1:decide (i< -(2^63:Int))=false:=decide_eq_false (by lia);have e2:decide (i≥2^63)=false:=decide_eq_false (by lia);rw[e1,e2,Bool.or_false]) (by rw[h1];simpa using h2) ⟨.str ⟨#[c]⟩,H,I.tok _,⟨_,rfl⟩,q⟩) hs
theorem D8 (lo hi:Option Int)(n:Nat):(sliceBounds lo hi none n).1=((HT.sIx n 0 lo:Nat):Int)/\(sliceBounds lo hi none n).2.1=((HT.sIx n n hi:Nat):Int)/\(sliceBounds lo hi none n).2.2=1:=by
 refine⟨?_,?_,rfl⟩
 ·cases lo with
  | none=>simp[sliceBounds,HT.sIx]
  | some i =>
   simp only[sliceBounds,HT.sIx,Option.getD_none,show (1:Int)>0 by decide,if_true]
   by_cases h:i<0
   ·simp only[h,if_true]<;>lia
   ·simp only[h,if_false]<;>lia
 ·cases hi with
  | none=>simp[sliceBounds,HT.sIx]
  | some i =>
   simp only[sliceBounds,HT.sIx,Option.getD_none,show (1:Int)>0 by decide,if_true]
   by_cases h:i<0
   ·simp only[h,if_true]<;>lia
   ·simp only[h,if_false]<;>lia
theorem A4 (its:List Value)(lo hi:Option Int):slicePick its.toArray lo hi none=((its.drop (HT.sIx its.length 0 lo)).take (HT.sIx its.length its.length hi - HT.sIx its.length 0 lo)).toArray:=by
 obtain⟨h1,h2,h3⟩:=D8 lo hi its.toArray.size;unfold slicePick;rw[h1,h2,h3];simp only[sliceRange_one,pick_run,List.size_toArray]<;>rfl
def N0 (K:PySem.W.Frag):V->Option Int->Option Int->Hp->VK->Prop:=fun x lo hi H Q=>∃a xs,x= .ref a/\SqL K H a xs/\∀p,H p=none->Q (.ref p) (upd H p (.lst (vZ xs lo hi)))
theorem TH:SlR X (N0 X.K):=by
 intro pins s σ H x v vl vu lo hi sl Q I rx hs pl pu h;obtain⟨a,xs,rfl,hx,q⟩:=h;cases rx;obtain⟨its,r,ht,hz⟩:=I.list hx;have hlen:=r.length;refine⟨"list",_,slot_list_getitem.lookup,ht.isList.typeIs,?_⟩;refine wpAny_getItem_list_slice ht.isList hs pl pu .none (by simp) ?_ (by rw[List.size_toArray]<;>lia);rw[A4,←hlen];refine⟨.ref s.heap.objs.size,_,I.laid (t':=s.toks) (o:= .lst (vZ xs lo hi)) (fun b ob q=>Heap.get?_push_of_some _ q) (Nat.le_refl _) ?_,rfl,q _ (I.hok.fresh (Nat.le_refl _))⟩;exact⟨Nat.le_trans (F1 xs lo hi) hz,_,0,(r.drop (HT.sIx xs.length 0 lo)).take (HT.sIx xs.length xs.length hi - HT.sIx xs.length 0 lo),Heap.get?_push_size _ rfl⟩
def jU:V->Bool
 | .non=>true
 | .bl _=>true
 | .int _=>true
 | .str _=>true
 | _=>false
def eqV:V->V->Bool
 | .non,.non=>true
 | .bl a,.bl b=>a==b
 | .bl a,.int b=>(if a then 1 else 0)==b
 | .int a,.bl b=>a==(if b then 1 else 0)
 | .int a,.int b=>a==b
 | .str a,.str b=>a==b
 | _,_=>false
theorem LX {A:Around}{s:Shared}{y x:V}{u v:Value} (ry:RelV y u) (rx:RelV x v) (fy:jU y=true) (fx:jU x=true):SeqAt.EqAt A s u v (eqV y x):=by
 cases y with
 | non =>
  cases ry;cases x with
  | non=>cases rx;exact SeqAt.EqAt.same _
  | bl b=>cases rx;exact SeqAt.EqAt.none_bool b
  | int b=>obtain⟨t,rfl⟩:=rx;exact SeqAt.EqAt.none_int b t
  | str b=>obtain⟨t,rfl⟩:=rx;exact SeqAt.EqAt.none_str b t
  | _=>exact absurd (show false=true from fx) Bool.false_ne_true
 | bl a =>
  cases ry;cases x with
  | non=>cases rx;exact SeqAt.EqAt.bool_none a
  | bl b=>cases rx;exact SeqAt.EqAt.bool_bool a b
  | int b=>obtain⟨t,rfl⟩:=rx;exact SeqAt.EqAt.bool_int a b t
  | str b=>obtain⟨t,rfl⟩:=rx;exact SeqAt.EqAt.bool_str a b t
  | _=>exact absurd (show false=true from fx) Bool.false_ne_true
 | int a =>
  obtain⟨t',rfl⟩:=ry;cases x with
  | non=>cases rx;exact SeqAt.EqAt.int_none a t'
  | bl b=>cases rx;exact SeqAt.EqAt.int_bool a t' b
  | int b=>obtain⟨t,rfl⟩:=rx;exact SeqAt.EqAt.int_int a t' b t
  | str b=>obtain⟨t,rfl⟩:=rx;exact SeqAt.EqAt.int_str a t' b t
  | _=>exact absurd (show false=true from fx) Bool.false_ne_true
 | str a =>
  obtain⟨t',rfl⟩:=ry;cases x with
  | non=>cases rx;exact SeqAt.EqAt.str_none a t'
  | bl b=>cases rx;exact SeqAt.EqAt.str_bool a t' b
  | int b=>obtain⟨t,rfl⟩:=rx;exact SeqAt.EqAt.str_int a t' b t
  | str b=>obtain⟨t,rfl⟩:=rx;exact SeqAt.EqAt.str_str a t' b t
  | _=>exact absurd (show false=true from fx) Bool.false_ne_true
 | _=>exact absurd (show false=true from fy) Bool.false_ne_true
def eqU (x:V)(u:Value):Bool:=match u with
 | .none=>eqV .non x
 | .bool b=>eqV (.bl b) x
 | .int i _=>eqV (.int i) x
 | .str z _=>eqV (.str z) x
 | _=>false
theorem MF {x y:V}{u:Value} (r:RelV y u) (f:jU y=true):eqU x u=eqV y x:=by
 cases y with
 | non=>cases r;rfl
 | bl b=>cases r;rfl
 | int i=>obtain⟨t,rfl⟩:=r;rfl
 | str z=>obtain⟨t,rfl⟩:=r;rfl
 | _=>exact absurd (show false=true from f) Bool.false_ne_true
theorem qP {x:V}:∀{xs:List V}{us:List Value},Vals xs us->xs.all jU=true->us.any (eqU x)=xs.any fun y=>eqV y x
 | _,_,.nil,_=>rfl
 | y::xs,u::us,.cons r t,f=>by
  rw[List.all_cons,Bool.and_eq_true]at f;rw[List.any_cons,List.any_cons,MF r f.1,qP t f.2]
theorem nN {A:Around}{s:Shared}{x:V}{v:Value} (rx:RelV x v) (fx:jU x=true):∀{xs:List V}{us:List Value},Vals xs us->xs.all jU=true->∀u∈us,SeqAt.EqAt A s u v (eqU x u)
 | _,_,.nil,_=>fun u hu=>by cases hu
 | y::xs,u::us,.cons r t,f=>fun u' hu=>by
  rw[List.all_cons,Bool.and_eq_true]at f;rcases List.mem_cons.mp hu with rfl|hu
  ·rw[MF r f.1];exact LX r rx f.1 fx
  ·exact nN rx fx t f.2 u' hu
def inV (x:V)(xs:List V):Bool:=xs.any fun y=>eqV y x
def rIn (K:PySem.W.Frag)(neg:Bool):R2:=fun x y H Q=>∃p xs,y= .ref p/\(SqL K H p xs∨SqT K H p xs)/\jU x=true/\xs.all jU=true/\Q (.bl (if neg then !inV x xs else inV x xs)) H
theorem AB:OpR X (compareOp .In) (rIn X.K false):=by
 intro pins s σ H x y v u Q I rx ry h;obtain⟨p,xs,rfl,hq,fx,fs,q⟩:=h;cases ry;rcases hq with hq|hq
 ·obtain⟨its,r,pl,hz⟩:=I.list hq;refine SeqAt.in_listAt (eqU x) pl.isList (fun w hw=>nN rx fx r fs w (by simpa using hw)) ⟨.bl _,H,I,rfl,?_⟩;rw[show its.toArray.any (eqU x)=its.any (eqU x) by simp,qP r fs];exact q
 ·obtain⟨its,r,pl,hz⟩:=I.tuple hq;refine SeqAt.in_tupleAt (eqU x) pl (fun w hw=>nN rx fx r fs w (by simpa using hw)) ⟨.bl _,H,I,rfl,?_⟩;rw[show its.toArray.any (eqU x)=its.any (eqU x) by simp,qP r fs];exact q
theorem DM:OpR X (compareOp .NotIn) (rIn X.K true):=by
 intro pins s σ H x y v u Q I rx ry h;obtain⟨p,xs,rfl,hq,fx,fs,q⟩:=h;cases ry;rcases hq with hq|hq
 ·obtain⟨its,r,pl,hz⟩:=I.list hq;refine SeqAt.notIn_listAt (eqU x) pl.isList (fun w hw=>nN rx fx r fs w (by simpa using hw)) ⟨.bl _,H,I,rfl,?_⟩;rw[show its.toArray.any (eqU x)=its.any (eqU x) by simp,qP r fs];exact q
 ·obtain⟨its,r,pl,hz⟩:=I.tuple hq;refine SeqAt.notIn_tupleAt (eqU x) pl (fun w hw=>nN rx fx r fs w (by simpa using hw)) ⟨.bl _,H,I,rfl,?_⟩;rw[show its.toArray.any (eqU x)=its.any (eqU x) by simp,qP r fs];exact q
theorem DZ:dO X (.builtin "len") (fun xs H Q=>∃p ys,xs=[.ref p]/\(SqL X.K H p ys∨SqT X.K H p ys)/\Q (.int ys.length) H):=by
 intro pins s σ H xs us Q I r h;obtain⟨p,ys,rfl,hq,q⟩:=h;obtain⟨u,rfl,rx⟩:=jZ r;cases rx;have hn:=t6;rcases hq with hq|hq
 ·obtain⟨its,r',pl,hz⟩:=I.list hq;have hlen:=r'.length;exact Calls.call_len_list pl.isList (by simp only[List.size_toArray]<;>lia) ⟨.int ys.length,H,I.tok _,⟨s.toks+1,by rw[List.size_toArray,hlen]⟩,q⟩
 ·obtain⟨its,r',pl,hz⟩:=I.tuple hq;have hlen:=r'.length;exact len_tuple pl (by simp only[List.size_toArray]<;>lia) ⟨.int ys.length,H,I.tok _,⟨s.toks+1,by rw[List.size_toArray,hlen]⟩,q⟩
theorem DR:dO X (.builtin "len") (fun xs H Q=>∃z,xs=[.str z]/\z.length<=sizeLine/\Q (.int z.length) H):=by
 intro pins s σ H xs us Q I r h;obtain⟨z,rfl,hz,q⟩:=h;obtain⟨u,rfl,t,rfl⟩:=jZ r;have hn:=t6;exact len_str (by lia) ⟨.int z.length,H,I.tok _,⟨_,rfl⟩,q⟩
theorem C5:dO X (.type "list") (fun xs H Q=>∃p ys,xs=[.ref p]/\(SqL X.K H p ys∨SqT X.K H p ys)/\∀l,H l=none->Q (.ref l) (upd H l (.lst ys))):=by
 intro pins s σ H xs us Q I r h;obtain⟨p,ys,rfl,hq,q⟩:=h;obtain⟨u,rfl,rx⟩:=jZ r;cases rx;have fin:∀(its:List Value),Vals ys its->ys.length<=sizeLine->∀(h':Heap) (c':Nat),(∀b o',s.heap.get? b=some o'->h'.get? b=some o') →
   h'.get? s.heap.objs.size=some { cls:= .type "list",dict:=none,data:= .seq its.toArray c',slots:= #[] }->EP X pins σ Q (.ref s.heap.objs.size) { s with heap:=h' }:=fun its r' hz h' c' kp e =>
  ⟨.ref s.heap.objs.size,_,I.laid (t':=s.toks) kp (Nat.le_refl _) (show ObjOk X.prog X.w _ h' _ (.lst ys) from⟨hz,its,c',r',e⟩),rfl,q _ (I.hok.fresh (Nat.le_refl _))⟩
 rcases hq with hq|hq
 ·obtain⟨its,r',pl,hz⟩:=I.list hq;have hlen:=r'.length;obtain⟨o,ho,hc,n,hd⟩:=pl.isList;exact call_list_seq p (.inl rfl) ho hc hd (fun h' c' kp e=>fin its r' hz h' c' kp e) (by simp only[List.size_toArray]<;>lia)
 ·obtain⟨its,r',pl,hz⟩:=I.tuple hq;have hlen:=r'.length;obtain⟨o,ho,hc,n,hd⟩:=pl;exact call_list_seq p (.inr rfl) ho hc hd (fun h' c' kp e=>fin its r' hz h' c' kp e) (by simp only[List.size_toArray]<;>lia)
def tyV (K:PySem.W.Frag)(T:String)(x:V)(H:Hp):Prop:=match x with
 | .str _=>T= "str"
 | .int _=>T= "int"
 | .ref p=>(T= "list" /\∃xs,SqL K H p xs)∨(T= "tuple" /\∃o,K.lookup p=some o/\o.cls= .type "tuple" /\o.dict=none) ∨
   (T= "dict" /\((∃kvs,H p=some (.dK kvs))∨∃kvs,H p=some (.dT kvs)))∨(T= "set" /\∃S n,H p=some (.set S n))
 | _=>False
theorem ML {pins:List (Addr×Obj)}{σ:St}{H:Hp}{s:Shared}{T:String}{x:V}{v:Value} (I:Inv X pins σ H s) (r:RelV x v) (ty:tyV X.K T x H) :
  s.TypeIs v T/\∀a,v= .ref a->∃ob,s.heap.get? a=some ob/\ob.dict=none:=by
 cases x with
 | str z =>
  obtain⟨t,rfl⟩:=r;cases (show T= "str" from ty);exact⟨typeIs_str s z t,fun _ e=>nomatch e⟩
 | int i =>
  obtain⟨t,rfl⟩:=r;cases (show T= "int" from ty);exact⟨typeIs_int s i t,fun _ e=>nomatch e⟩
 | ref p =>
  cases r;rcases ty with⟨rfl,xs,hq⟩|⟨rfl,o,hk,hc,hd⟩|⟨rfl,hk⟩|⟨rfl,S,n,hk⟩
  ·obtain⟨its,_,pl,_⟩:=I.list hq;refine⟨pl.isList.typeIs,fun a e=> ?_⟩;cases e;obtain⟨o,n,e,c,hd,_⟩:=pl;exact⟨o,e,hd⟩
  ·refine⟨⟨o,I.kIn p o hk,hc⟩,fun a e=> ?_⟩;cases e;exact⟨o,I.kIn _ o hk,hd⟩
  ·have z:∃o,s.heap.get? p=some o/\o.ExactDict:=by
    rcases hk with⟨kvs,hk⟩|⟨kvs,hk⟩
    ·obtain⟨_,_,_,_,o,_,_,e,ex,_⟩:=I.hok p _ hk;exact⟨o,e,ex⟩
    ·obtain⟨_,_,_,_,o,_,_,e,ex,_⟩:=I.hok p _ hk;exact⟨o,e,ex⟩
   obtain⟨o,e,ex⟩:=z;refine⟨⟨o,e,ex.1⟩,fun a e2=> ?_⟩;cases e2;exact⟨o,e,ex.2.1⟩
  ·obtain⟨o,_,_,_,e,ex,_⟩:=I.hok p _ hk;refine⟨⟨o,e,ex.1⟩,fun a e2=> ?_⟩;cases e2;exact⟨o,e,ex.2.1⟩
 | _=>exact False.elim ty
def W3 (K:PySem.W.Frag)(T:String)(r:V->List V->Hp->VK->Prop)(to:TE):TE:=fun σ H Q=>to σ H fun x H1=>tyV K T x H1/\r x [] H1 Q
def tBM (K:PySem.W.Frag)(T:String)(r:V->List V->Hp->VK->Prop)(to:TE)(t:TA):TE:=fun σ H Q=>to σ H fun x H1=>tyV K T x H1/\t σ H1 fun xs H2=>r x xs H2 Q
variable {o e:Expr}{es:List Expr}{to:TE}{t:TA}{name:Str}{apos cpos:Pos}{T id:String}{r:V->List V->Hp->VK->Prop}
theorem WL (pa:PlainAttrs T)(slot:Slot T name id)(hty:typeOf (.builtin id)=pure (.type "method_descriptor"))(hm:MtR X id r)(ho:PE X o to)
  (hbase:attributeBase o name X.env (eval o X.env)=eval o X.env:=by rfl)(hline:(apos.endLine==cpos.line)=true:=by rfl):PE X (.Call (.Attribute o name apos) [] [] cpos) (W3 X.K T r to):=by
 intro pins s σ H Q I h;refine wpAny_Call_method0_late hbase hline (thn (ho pins s σ H _ I h) fun v s1 ⟨x,H1,I1,r1,ty,q1⟩=> ?_);obtain⟨h1,h2⟩:=ML I1 r1 ty;exact⟨T,id,pa,slot,hty,h1,h2,Calls.callWith_builtin rfl (PySem.evalArgs_none (hm pins s1 σ H1 x [] v [] Q I1 r1 .nil q1))⟩
theorem uN (pa:PlainAttrs T)(slot:Slot T name id)(hty:typeOf (.builtin id)=pure (.type "method_descriptor"))(hm:MtR X id r)(ho:PE X o to)(ha:PA X (e::es) t)
  (hbase:attributeBase o name X.env (eval o X.env)=eval o X.env:=by rfl)
  (hfew:((backTo cpos (starEach (e::es) X.env)).all (fun x=> !x.1)&&(backToKw cpos (keywordEach [] X.env)).all (fun x=>x.1.isSome)
   && decide ((e::es).length+([]:List Keyword).length+(if ([]:List Keyword).isEmpty then 0 else 1)<30))=true:=by rfl)
  (hline:(apos.endLine==cpos.line)=true:=by rfl)(hs:starEach (e::es) X.env=(false,eval e X.env)::starEach es X.env:=by rfl)(hplain:(backTo cpos (starEach es X.env)).any (·.1)=false:=by rfl) :
  PE X (.Call (.Attribute o name apos) (e::es) [] cpos) (tBM X.K T r to t):=by
 intro pins s σ H Q I h;refine wpAny_Call_method_late hbase hfew hline rfl (thn (ho pins s σ H _ I h) fun v s1 ⟨x,H1,I1,r1,ty,q1⟩=> ?_);obtain⟨h1,h2⟩:=ML I1 r1 ty;refine⟨T,id,pa,slot,hty,h1,h2,?_⟩;have hA:=ha cpos pins s1 σ H1 _ I1 q1;rw[hs]at hA ⊢;refine Calls.callWith_builtin (by show (false||(backTo cpos (starEach es X.env)).any (·.1))=false;rw[hplain]<;>rfl) (Calls.evalArgs_plain ?_);exact thn hA fun us s2 ⟨vs,H2,I2,r2,q2⟩=>hm pins s2 σ H2 x vs v us Q I2 r1 r2 q2
end
end L2
namespace L2
open PySem PySem.Spec PyProof.Rows
def MtM (X:Cx)(id:String)(r:V->List V->Hp->VK->Prop):Prop :=
 ∀(pins:List (Addr×Obj)) (s:Shared) (σ:St) (H:Hp) (x:V) (xs:List V) (v:Value) (us:List Value) (Q:VK),Inv X pins σ H s->RelV x v->Vals xs us->r x xs H Q →
  wpAny (model X.prog X.w) X.A (call (.builtin id) (v::us)) (EP X pins σ Q) X.xe s
theorem Vals.one:∀{x:V}{us:List Value},Vals [x] us->∃u,us=[u]/\RelV x u
 | _,_,.cons r .nil=>⟨_,rfl,r⟩
section
variable {X:Cx}{pins:List (Addr×Obj)}{σ:St}{H:Hp}{s:Shared}{l b:Addr}{xs ys zs:List V}
theorem Inv.lset {its its':List Value}{n:Nat}{f:Array Value->Array Value}{t':Nat} (I:Inv X pins σ H s) (hH:H l=some (.lst xs))
  (e:s.heap.get? l=some { cls:= .type "list",data:= .seq its.toArray n })(hf:f its.toArray=its'.toArray)(hv:Vals ys its')(hz:ys.length<=sizeLine) :
  Inv X pins σ (upd H l (.lst ys)) { s with heap:=s.heap.update l (Obj.mapSeq f),toks:=t' }:=by
 have q:=PySem.IsL.update e f;rw[hf]at q;refine I.write (x:=l) (e:=l) (by rw[hH];exact trivial) (.inl rfl) (fun b' u hb hu=>(Heap.get?_update_other s.heap (Obj.mapSeq f) (Ne.symm hb)).trans hu) ⟨_,q⟩ ?_;exact⟨hz,its',_,hv,q⟩
theorem Inv.lnew {its:List Value}{t':Nat} (I:Inv X pins σ H s) (hv:Vals ys its) (hz:ys.length<=sizeLine) :
  Inv X pins σ (upd H s.heap.objs.size (.lst ys)) { s with heap:=s.heap.push { cls:= .type "list",data:= .seq its.toArray },toks:=t' } :=
 I.laid (fun _ _ q=>Heap.get?_push_of_some _ q) (Nat.le_refl _) ⟨hz,its,0,hv,Heap.get?_push_size _ rfl⟩
theorem Inv.fresh (I:Inv X pins σ H s):H s.heap.objs.size=none:=I.hok.fresh (Nat.le_refl _)
theorem Inv.lstM (I:Inv X pins σ H s)(hH:H l=some (.lst xs)):xs.length<=sizeLine/\∃(its:List Value) (n:Nat),Vals xs its/\xs.length=its.length/\s.heap.get? l=some { cls:= .type "list",data:= .seq its.toArray n }:=by
 obtain⟨z,its,n,r,e⟩:=I.hok l _ hH;exact⟨z,its,n,r,r.length,e⟩
theorem O7 {n:Nat}(h:n<=sizeLine):Builtin.List.listTooLong n=false:=by
 unfold Builtin.List.listTooLong;exact decide_eq_false (by lia)
end
section
variable {X:Cx}
def HA:V->List V->Hp->VK->Prop:=fun x vs H Q=>∃l xs y,x= .ref l/\vs=[y]/\H l=some (.lst xs)/\xs.length<sizeLine/\Q .non (upd H l (.lst (xs++[y])))
theorem jI:MtM X "list.append" HA:=by
 intro pins s σ H x vs v us Q I rx rv h;obtain⟨l,xs,y,rfl,rfl,hH,hz,q⟩:=h;cases rx;obtain⟨u,rfl,ru⟩:=rv.one;obtain⟨z,its,n,r,hl,e⟩:=I.lstM hH;refine call_meets F.slot_list_append ⟨_,e,rfl⟩ F.entry_list_append (F.args_list_append_2 _ _) (PySem.list_append l its.toArray n u (by rw[List.size_toArray];lia)) ⟨e,?_⟩;refine⟨.non,_,I.lset (its':=its++[u]) hH e (by simp) (r.append (.cons ru .nil)) ?_,rfl,q⟩;rw[List.length_append,List.length_singleton]
 lia
def G0:V->List V->Hp->VK->Prop:=fun x vs H Q=>∃l b xs zs,x= .ref l/\vs=[.ref b]/\H l=some (.lst xs)/\H b=some (.lst zs)/\xs.length+zs.length<=sizeLine/\Q .non (upd H l (.lst (xs++zs)))
theorem L7:MtM X "list.extend" G0:=by
 intro pins s σ H x vs v us Q I rx rv h;obtain⟨l,b,xs,zs,rfl,rfl,hH,hB,hz,q⟩:=h;cases rx;obtain⟨u,rfl,ru⟩:=rv.one;cases ru;obtain⟨z,its,n,r,hl,e⟩:=I.lstM hH;obtain⟨z2,its2,n2,r2,hl2,e2⟩:=I.lstM hB;have hsz:its.toArray.size+its2.toArray.size<=sizeLine:=by rw[List.size_toArray,List.size_toArray];lia
 have hlong:¬(!its.toArray.isEmpty&&Builtin.List.listTooLong (its.toArray.size+its2.toArray.size))=true:=by
  rw[O7 hsz,Bool.and_false];exact Bool.false_ne_true
 refine call_meets F.slot_list_extend ⟨_,e,rfl⟩ F.entry_list_extend (F.args_list_extend_2 _ _)
  (AutoSeq1.list_extend_list_list_0 l its.toArray n b its2.toArray n2 hlong (by rw[List.size_toArray];lia) (by lia)) ⟨e,e2,?_⟩
 refine⟨.non,_,I.lset (its':=its++its2) hH e (by simp) (r.append r2) ?_,rfl,q⟩;rw[List.length_append]
 lia
def W6:R2:=fun x y H Q=>∃l b xs zs,x= .ref l/\y= .ref b/\H l=some (.lst xs)/\H b=some (.lst zs)/\xs.length+zs.length<=sizeLine/\∀p,H p=none->Q (.ref p) (upd H p (.lst (xs++zs)))
theorem DY:OpR X (binaryOp .Add) W6:=by
 intro pins s σ H x y v u Q I rx ry h;obtain⟨l,b,xs,zs,rfl,rfl,hH,hB,hz,q⟩:=h;cases rx;cases ry;obtain⟨z,its,n,r,hl,e⟩:=I.lstM hH;obtain⟨z2,its2,n2,r2,hl2,e2⟩:=I.lstM hB;refine PySem.P.add_list e e2 ?_ (by rw[List.size_toArray,List.size_toArray];lia);have ea:its.toArray++its2.toArray=(its++its2).toArray:=by simp
 rw[ea];exact⟨.ref _,_,I.lnew (t':=s.toks) (r.append r2) (by rw[List.length_append];lia),rfl,q _ I.fresh⟩
end
section
variable {prog:Program}{w:World}{A:Around}{E:Value->Shared->Prop}{s:Shared}
set_option maxRecDepth 100000 in
end
section
variable {X:Cx}
end
end L2
namespace Att
open PySem PySem.W PySem.Calls PyProof.Rows
theorem xO {P:Params}{h:Heap}:∀(ns:List Int) (vs:List Value),WellAll P h vs (ns.map WData.int)->IntsAre vs ns:=by
 intro ns
 induction ns with
 | nil =>
  intro vs w;rw[List.map_nil]at w;cases w;exact .nil
 | cons n ns ih =>
  intro vs w;rw[List.map_cons]at w;cases w with
  | cons a b =>
   cases a;exact .cons _ _ (ih _ b)
theorem LM {l:OpenLaw}{n:Nat} (hn:l.most=some n) {P:Params}{h:Heap}{args:List WData}{vals:List Value}
  (hpre:l.row.toRowW.claim.pre args=true)(hwl:WellAll P h vals args) :
  ∃a vs ns,vals=[Value.ref a]/\args=[WData.list (ns.map WData.int)]/\h.get? a=some { cls:= .type "list",data:= .seq vs.toArray }/\IntsAre vs ns/\ns.length<=n:=by
 have hsh:WShape.hasAll [] args [.list .int]=true:=(pre_splitW hpre).1;have hc:l.pre.holds [] { args:=args }=true:=(pre_splitW hpre).2;obtain⟨d,r,rfl,h1,h2⟩:=hasAllW_cons hsh;obtain rfl:=hasAllW_nil h2;obtain⟨xs,rfl,h3⟩:=hasW_list h1;obtain⟨ns,rfl⟩:=items_int h3;have hlen:ns.length<=n:=by
  unfold OpenLaw.pre at hc;have h4:(WTm.not (.lt (.lit (.int (n:Int))) (.len (.arg 0)))).holds [] { args:=[.list (ns.map .int)] }=true:=by
   have h4:=(holds_andW hc).1;rw[hn]at h4;exact h4
  have h5:=condW_of h4 (w_not (w_lt w_lit (w_len_list (w_arg rfl))));rw[List.length_map]at h5;refine Nat.le_of_not_lt fun q=> ?_;have q':(n:Int)<((ns.length:Nat):Int):=by lia
  first
   | (rw[decide_eq_true q']at h5;exact absurd h5 (by decide))
   | (simp at h5;lia)
 cases hwl with
 | cons w1 w2 =>
  cases w2;cases w1 with
  | list ho hall=>exact⟨_,_,ns,rfl,rfl,ho,xO ns _ hall,hlen⟩
theorem KP (l:OpenLaw)(args:List WData):l.row.toRowW.claim.post args (.bool true) args=true :=
 postW_of (r:=l.row.toRowW) (X:=(true==true))
  (show WShape.has [] (.bool true) .bool=true by first|rfl|decide|simp[WShape.has,WShape.arms,WShape.armsAll])
  (show (WTm.eq .res (.lit (.bool true))).value [] { args:=args,res:=some (.bool true),after:=args }=some (.bool (true==true)) from w_eq_bool (w_res rfl) w_lit) rfl
theorem attach_call {l:OpenLaw}{n:Nat}{q:Program}{loose:List Str}{XP:(Str->Option Value)->Heap->Prop}{YP:World->Heap->Prop}{d:DefRec}
  (hn:l.most=some n)(hdf:d.params.defaults=[])
  (call:∀(w:World) (s₀ s₁:Shared) (mg mb:Str->Option Value) (fa:Addr) (o:Obj) (pm cd doc:Value) (a:Addr) (vs:List Value) (ns:List Int),
   Ground q loose [] XP w s₀ mg mb s₁.heap->YP w s₁.heap →
   s₁.heap.get? fa=some o->o.data= .func (docDef d.name d.params d.body d.scope pm cd doc)->s₁.heap.CodeRec cd d.name->mg d.name=some (.ref fa) →
   s₁.heap.get? a=some { cls:= .type "list",data:= .seq vs.toArray }->IntsAre vs ns->ns.length<=n->s₁.gens= #[] →
   codeAny (model l.prog w) callerA (.call (.ref fa) ⟨[.ref a],[]⟩) (fun r s'=>r= .ok (.ret (.bool true))/\OldK s₁.heap s'.heap/\s'.os=s₁.os/\AllBare s'.gens) s₁) :
  WalkO q loose XP YP l.row.toRowW d [] (fun f vs=>PySem.call f vs):=by
 intro w s₀ s₁ mg mb G Y fa o pm cd doc dV kV ho hd hcd hD hmg hg args vals as hpre hlay hrd hwl hlo;obtain rfl:dV= .none:=Dflts.none hD hdf;obtain rfl:kV= .none:=Dflts.noKw hD;obtain⟨a,vs,ns,rfl,rfl,hobj,hints,hlen⟩:=LM hn hpre hwl;refine enter_call (codeAny_mono (call w s₀ s₁ mg mb fa o pm cd doc a vs ns G Y ho (fd_plain hd) hcd hmg hobj hints hlen hg) fun r s' hq=> ?_);obtain⟨rfl,h2,h3,h4⟩:=hq;exact⟨.inl ⟨.bool true,.bool true,[],rfl,fun _=>rfl,.bool true,KP l _,fun _=>⟨List.Pairwise.nil,fun _ hm=>(nomatch hm)⟩⟩,h2,h3,h4⟩
section
variable {prog:Program}{w:World}{A:Around}{E:Value->Shared->Prop}{s:Shared}{K:Frag}
end
end Att
namespace L2
open PySem PySem.Spec PyProof.Rows
theorem AT:∀{vs:List Value}{ns:List Int},IntsAre vs ns->Vals (ns.map V.int) vs
 | _,_,.nil=> .nil
 | _,_,.cons n t h=> .cons ⟨t,rfl⟩ (AT h)
def PY (H:Hp):Prop:=∀b,H b=none∨∃o xs,H b=some (.frz o (.lst xs))
theorem NX {P:Program}{w:World}{K:PySem.W.Frag}{mg mb:Str->Option Value}{CX:CXT}{k:Nat}{fa a:Addr}{fd:FuncData}{x:Str}{sp:Sp}{s₁:Shared}{vs:List Value}{ns:List Int}
  (KX:K.In s₁.heap)(hns:s₁.heap.Ns mainGlobals mg)(hb:s₁.heap.Ns builtinsNs mb)(hbb:∀x:Str,x≠ "__name__" ->mb x=bootBuiltins x)(hlim:s₁.heap.NoLimit)(hg:s₁.gens= #[])
  (ha:s₁.heap.get? a=some { cls:= .type "list",data:= .seq vs.toArray })(hi:IntsAre vs ns)(hl:ns.length<=sizeLine)(hr:Room k callerA)
  (F:∀base:Heap,K.In base->base.Ns mainGlobals mg->bI P w K mg base CX k fa fd [x] sp)(hbind:∀(s:Shared) (u:Value),BindsTo s fd ⟨[u],[]⟩ [(x,u)])
  (hsp:∀H:Hp,PY H->SqL K H a (ns.map V.int)->sp [.ref a] H (fun v _=>v= .bl true) fun _ _ _=>False)
  (hCX:∀H e s',CX [] H s₁ (fun _ _ _=>False) e s'->False) :
  codeAny (model P w) callerA (.call (.ref fa) ⟨[.ref a],[]⟩) (fun r s'=>r= .ok (.ret (.bool true))/\OldK s₁.heap s'.heap/\s'.os=s₁.os/\AllBare s'.gens) s₁:=by
 have rv:=AT hi;have lenV:=hi.length;have core:∀H:Hp,PY H->SqL K H a (ns.map V.int)->HOk P w H s₁.heap->(∀b,H b≠none->b=a)->(H a≠none->K.lookup a=none) →
   codeAny (model P w) callerA (.call (.ref fa) ⟨[.ref a],[]⟩) (fun r s'=>r= .ok (.ret (.bool true))/\OldK s₁.heap s'.heap/\s'.os=s₁.os/\AllBare s'.gens) s₁:=by
  intro H hO hS hok hA hK;have base_of:∀{b:Addr}{o:Obj},s₁.heap.get? b=some o->H b=none->(rU s₁.heap H).get? b=some o:=fun e n=>N1 e n;have noA:∀{b:Addr}{o:Obj}{es:Array DictEntry}{ep:Nat},s₁.heap.get? b=some o->o.data= .dict es ep->H b=none:=fun {b o es ep} e d=>by
   cases q:H b with
   | none=>rfl
   | some u =>
    have e':b=a:=hA b (by rw[q];simp);subst e';rw[ha]at e;cases e;have d':Data.seq vs.toArray _=Data.dict es ep:=d;cases d'
  have nsK:∀{b:Addr}{m:Str->Option Value},s₁.heap.Ns b m->(rU s₁.heap H).Ns b m:=fun {b m} ⟨o,es,ep,e,d,r⟩=>⟨o,es,ep,base_of e (noA e d),d,r⟩
  have hKb:K.In (rU s₁.heap H):=fun b o e=>base_of (KX b o e) (by
   cases q:H b with
   | none=>rfl
   | some u =>
    have e':b=a:=hA b (by rw[q];simp);subst e';rw[hK (by rw[q];simp)]at e;cases e)
  have hM:Mod K mg (rU s₁.heap H):=⟨hKb,nsK hns,⟨mb,nsK hb,hbb⟩,let ⟨mc,h1,h2⟩:=hlim;⟨mc,nsK h1,h2⟩⟩
  have e0:Env0 P w K mg (rU s₁.heap H) callerA [] s₁ H:=⟨rfl,hM,fun b o e=>R3 e,Nat.le_of_eq (KJ _ _),trivial,fun b hb=>absurd (show b∈([]:List Addr) from hb) (by simp),hok,.of_eq hg⟩
  refine codeAny_mono ((F _ hKb (nsK hns)).run callerA [] s₁ H ⟨[.ref a],[]⟩ [.ref a] [.ref a] _ _ hr e0 (hbind s₁ (.ref a)) (.cons rfl .nil) (hsp H hO hS)) fun r s' h=> ?_;cases r with
  | error e=>exact(hCX H e s' h).elim
  | ok fl =>
   cases fl with
   | next=>exact False.elim h
   | brk=>exact False.elim h
   | cont=>exact False.elim h
   | ret u =>
    obtain⟨v,H',os,bare,un,hok',r',q⟩:=h;have q':v= .bl true:=q;subst q';obtain rfl:u=Value.bool true:=r';refine⟨rfl,OldK.of_keep fun b o e=> ?_,os,bare⟩;cases q:H b with
    | none=>exact un.keep b o e q (by intro z;exact absurd (show b∈([]:List Addr) from z) (by simp)) (by simp)
    | some u =>
     rcases hO b with z|⟨ob,xs,z⟩
     ·rw[q]at z;cases z
     ·have z2:=un.frzs b ob _ z;obtain⟨e1,_⟩:=hok b _ z;obtain⟨e2,_⟩:=hok' b _ z2;rw[e]at e1;cases e1;exact e2
 cases hk:K.lookup a with
 | some o =>
  have e:=KX a o hk;rw[ha]at e;cases e;refine core (fun _=>none) (fun _=> .inl rfl) (.inr ⟨_,vs.toArray,_,hk,rfl,rfl,rfl,by rw[List.size_toArray,lenV];exact hl,by simpa using rv⟩) (fun b u z=>by have z':(none:Option HO)=some u:=z;cases z') (fun b z=>absurd rfl z) fun z=>absurd rfl z
 | none =>
  refine core (fun b=>if b=a then some (.frz { cls:= .type "list",data:= .seq vs.toArray } (.lst (ns.map V.int))) else none) (fun b=> ?_) (.inl (.inr ⟨{ cls:= .type "list",data:= .seq vs.toArray },if_pos rfl⟩)) (fun b u z=> ?_) (fun b z=> ?_) fun _=>hk
  ·by_cases hb:b=a
   ·exact .inr ⟨_,_,if_pos hb⟩
   ·exact .inl (if_neg hb)
  ·by_cases hb:b=a
   ·have z':=(if_pos hb).symm.trans z;cases z';subst hb;exact⟨ha,by rw[List.length_map];exact hl,vs,_,rv,ha⟩
   ·have z':=(if_neg hb).symm.trans z;cases z'
  ·by_cases hb:b=a
   ·exact hb
   ·exact absurd (if_neg hb) z
end L2
namespace L2
open PySem PySem.Spec PyProof.Rows
theorem walk_of {l:PySem.W.OpenLaw}{n k:Nat}{q:Program}{loose:List Str}{XP:(Str->Option Value)->Heap->Prop}{YP:World->Heap->Prop}{d:DefRec}{K:Params->PySem.W.Frag}{CX:World->CXT}{sp:World->Sp}{x:Str}
  (hn:l.most=some n)(hn2:n<=sizeLine)(hdf:d.params.defaults=[])(hr:Room k callerA)
  (hY:∀(w:World) (h:Heap),YP w h->(K w.params).In h)
  (F:∀(w:World) (mg:Str->Option Value) (fa:Addr) (h:Heap),(K w.params).In h->h.Ns mainGlobals mg->mg d.name=some (.ref fa) →
   ∃fd:FuncData,(∀(s:Shared) (u:Value),BindsTo s fd ⟨[u],[]⟩ [(x,u)]) ∧
    ∀base:Heap,(K w.params).In base->base.Ns mainGlobals mg->bI l.prog w (K w.params) mg base (CX w) k fa fd [x] (sp w))
  (hsp:∀(w:World) (H:Hp) (a:Addr) (ns:List Int),ns.length<=n->PY H->SqL (K w.params) H a (ns.map V.int)->sp w [.ref a] H (fun v _=>v= .bl true) fun _ _ _=>False)
  (hCX:∀(w:World) (H:Hp) (s:Shared) (e:Value) (s':Shared),CX w [] H s (fun _ _ _=>False) e s'->False) :
  PySem.W.WalkO q loose XP YP l.row.toRowW d [] (fun f vs=>PySem.call f vs):=by
 refine Att.attach_call hn hdf fun w s₀ s₁ mg mb fa o pm cd doc a vs ns G Y ho hd hcd hmg hobj hints hlen hg=> ?_;have KX:=hY w _ Y;obtain⟨fd,hb,hF⟩:=F w mg fa _ KX G.T.g hmg;exact NX KX G.T.g G.T.b G.T.builtins G.T.nolimit hg hobj hints (Nat.le_trans hlen hn2) hr hF hb (fun H hO hS=>hsp w H a ns hlen hO hS) fun H e s'=>hCX w H s₁ e s'
end L2
namespace L2
open PySem PySem.Spec PyProof.Rows
def bW (s:Stmt)(j:Nat):Stmt:=match s with
 | .ClassDef _ _ _ body _ _ _ _ _ _ _=>body.getD j (.Pass ⟨0,0,0,0⟩)
 | _=> .Pass ⟨0,0,0,0⟩
def aJ (s:Stmt):Arguments:=match s with
 | .FunctionDef _ a _ _ _ _ _ _ _ _=>a
 | _=>{ posonlyargs:=[],args:=[],vararg:=none,kwonlyargs:=[],kw_defaults:=[],kwarg:=none,defaults:=[] }
def aI (s:Stmt):List Stmt:=match s with
 | .FunctionDef _ _ b _ _ _ _ _ _ _=>b
 | _=>[]
def aB (s:Stmt):Scope:=match s with
 | .FunctionDef _ _ _ _ _ _ sc _ _ _=>sc
 | _=>{ kind:= .function,names:=[],isGenerator:=false,isCoroutine:=false }
abbrev CX0:CXT:=fun _ _ _ _ _ _=>False
abbrev E0:XK:=fun _ _ _=>False
theorem yC {X:Cx}:tZ CX0 X E0:=fun _ _ _ _ _ _ _ h=>h.elim
section
variable {P:Program}{w:World}{K:PySem.W.Frag}{mg:Str->Option Value}{base:Heap}
end
theorem K0 {n:Nat}(h:n<=1000):n<sizeLine:=Nat.lt_of_le_of_lt h (by decide)
section
variable {X:Cx}
theorem pv (i:Nat){x:Str}{pos:Pos} (hN:X.N[i]? =some x:=by rfl) (hv:Vis X.env.scope x:=by first|exact Or.inl rfl|exact Or.inr (Or.inl rfl)|exact Or.inr (Or.inr rfl)) (hd:(x==("__debug__" :Str))=false:=by decide)
  (hcd:(x==("__classdict__" :Str))=false:=by decide):PE X (.Name x pos) (jX i):=W8 hN hv hd hcd
end
theorem yH {c A B:Prop}[Decidable c](h1:c->A)(h2:¬c->B):if c then A else B:=by
 by_cases h:c
 ·rw[if_pos h];exact h1 h
 ·rw[if_neg h];exact h2 h
def Same (H H':Hp):Prop:=∀b o,H b=some o->H' b=some o
theorem Same.refl (H:Hp):Same H H:=fun _ _ h=>h
theorem Same.trans {H H1 H2:Hp}(a:Same H H1)(b:Same H1 H2):Same H H2:=fun c o h=>b c o (a c o h)
theorem Same.seq {K:PySem.W.Frag}{H H':Hp}{a:Addr}{xs:List V} (e:Same H H') (h:SqL K H a xs):SqL K H' a xs:=by
 rcases h with (h|⟨o,h⟩)|h
 ·exact .inl (.inl (e _ _ h))
 ·exact .inl (.inr ⟨o,e _ _ h⟩)
 ·exact .inr h
end L2
namespace L2
open PySem PySem.Spec PyProof.Rows
section
variable {X:Cx}{pins:List (Addr×Obj)}{σ:St}{H:Hp}{s:Shared}{D:Addr}{ys:List V}
theorem HOk.adds {P:Program}{w:World}{h:Heap}{o:HO} (x:HOk P w H h) (hn:H D=none) (new:ObjOk P w (upd H D o) h D o):HOk P w (upd H D o) h:=fun b u e=>by
 by_cases hb:b=D
 ·subst hb;rw[bK]at e;cases e;exact new
 ·rw[aT hb]at e;exact(x b u e).stay (fun c v _ q=>q) (fun c q=>by rw[aT (bL q hn)];exact q) fun c xs q=>by rw[aT (bL q hn)];exact q
theorem HOk.drops {P:Program}{w:World}{h:Heap} (x:HOk P w (upd H D (.lst ys)) h) (hn:H D=none):HOk P w H h:=fun b u e=>by
 have hb:b≠D:=bL e hn;refine(x b u (by rw[aT hb];exact e)).stay (fun c v _ q=>q) (fun c q=> ?_) fun c xs q=> ?_
 ·by_cases hc:c=D
  ·subst hc;rw[bK]at q;cases q
  ·rw[aT hc]at q;exact q
 ·by_cases hc:c=D
  ·subst hc;rw[bK]at q;cases q
  ·rw[aT hc]at q;exact q
theorem Inv.track {its:List Value}{n:Nat} (I:Inv X pins σ H s) (hn:H D=none) (e:s.heap.get? D=some { cls:= .type "list",data:= .seq its.toArray n }) (r:Vals ys its) (hz:ys.length<=sizeLine)
  (h0:X.s₀.heap.objs.size<=D)(h1:D≠X.env.locals)(h2:∀x c,X.env.cells.lookup x=some c->c≠D)(h3:∀p∈X.pn++pins,p.1≠D):Inv X pins σ (upd H D (.lst ys)) s where
 ok:=I.ok
 os:=I.os
 bare:=I.bare
 base:=by
  have lt:∀b o,X.s₀.heap.get? b=some o->b≠D:=fun b o q=>Nat.ne_of_lt (Nat.lt_of_lt_of_le (Heap.lt_size q) h0);refine⟨I.base.keep,I.base.slot,fun b o q n' hx=> ?_,I.base.there,fun b xs q=> ?_,fun b o u q=> ?_,fun b ps q=> ?_⟩
  ·rw[aT (lt b o q)];exact I.base.free b o q n' hx
  ·have z:=I.base.tups b xs q;rw[aT (bL z hn)];exact z
  ·have z:=I.base.frzs b o u q;rw[aT (bL z hn)];exact z
  ·obtain⟨more,z⟩:=I.base.tbls b ps q;exact⟨more,by rw[aT (bL z hn)];exact z⟩
 loc:=I.loc
 cell:=I.cell
 free:=by rw[aT (Ne.symm h1)];exact I.free
 freeC:=fun x c q=>by rw[aT (h2 x c q)];exact I.freeC x c q
 pin:=fun p hp=>by
  obtain⟨a,b,c⟩:=I.pin p hp;exact⟨a,by rw[aT (h3 p hp)];exact b,c⟩
 hok:=I.hok.adds hn ⟨hz,its,n,r,e⟩
 len:=I.len
theorem Inv.untrack (I:Inv X pins σ (upd H D (.lst ys)) s)(hn:H D=none):Inv X pins σ H s where
 ok:=I.ok
 os:=I.os
 bare:=I.bare
 base:=by
  have low:∀b u,upd H D (.lst ys) b=some u->(∀xs,u≠ .lst xs)->H b=some u:=fun b u q nl=>by
   by_cases hb:b=D
   ·subst hb;rw[bK]at q;cases q;exact absurd rfl (nl ys)
   ·rw[aT hb]at q;exact q
  refine⟨I.base.keep,I.base.slot,fun b o q n' hx=> ?_,I.base.there,fun b xs q=> ?_,fun b o u q=> ?_,fun b ps q=> ?_⟩
  ·have z:=I.base.free b o q n' hx
   by_cases hb:b=D
   ·subst hb;exact hn
   ·rw[aT hb]at z;exact z
  ·exact low _ _ (I.base.tups b xs q) (fun _ z=>by cases z)
  ·exact low _ _ (I.base.frzs b o u q) (fun _ z=>by cases z)
  ·obtain⟨more,z⟩:=I.base.tbls b ps q;exact⟨more,low _ _ z (fun _ z=>by cases z)⟩
 loc:=I.loc
 cell:=I.cell
 free:=by
  have z:=I.free
  by_cases hb:X.env.locals=D
  ·rw[hb];exact hn
  ·rw[aT hb]at z;exact z
 freeC:=fun x c q=>by
  have z:=I.freeC x c q
  by_cases hb:c=D
  ·rw[hb];exact hn
  ·rw[aT hb]at z;exact z
 pin:=fun p hp=>by
  obtain⟨a,b,c⟩:=I.pin p hp;refine⟨a,?_,c⟩
  by_cases hb:p.1=D
  ·rw[hb];exact hn
  ·rw[aT hb]at b;exact b
 hok:=I.hok.drops hn
 len:=I.len
end
def bO (X:Cx)(scope:Scope)(cl:List (Str×Addr))(N:List Str)(C:Addr)(s0:Shared)(H0:Hp)(fp:List Addr):Cx where
 prog:=X.prog
 w:=X.w
 K:=X.K
 mg:=X.mg
 base:=X.base
 A:=X.A
 N:=N
 s₀:=s0
 H₀:=H0
 env:=compEnvC scope cl C X.env
 outer:=X.stack
 stack:=X.stack
 ex:=fp
 fn:=fun _=>false
 calm:=X.calm
 pn:=[]
 xe:=fun _ _=>False
structure Blk (X:Cx)(scope:Scope)(cl:List (Str×Addr))(N:List Str)(nl:Nat)(ci:List Nat):Prop where
 kind:scope.kind= .function
 names:∀y∈scope.names,y.2= .local->scope.names.lookup y.1=some .local
 nocell:∀y∈scope.names,y.2≠ .cell
 clos:closureFor scope X.env=pure cl
 sub:∀n c,cl.lookup n=some c->X.env.cells.lookup n=some c
 has:∀n,((relabel scope X.env).names.lookup n=some .cell∨(relabel scope X.env).names.lookup n=some .free)->∃c,cl.lookup n=some c
 len:N.length=nl+ci.length
 cap:∀(j i:Nat),ci[j]? =some i->∃n,N[nl+j]? =some n/\X.N[i]? =some n/\(X.env.scope.names.lookup n=some .cell∨X.env.scope.names.lookup n=some .free) ∧
  ((relabel scope X.env).names.lookup n=some .cell∨(relabel scope X.env).names.lookup n=some .free)/\cl.lookup n=X.env.cells.lookup n
def cD (nl:Nat)(ci:List Nat)(σ:St):St:=List.replicate nl none++ci.map fun i=>(σ[i]?).join
theorem LC {nl:Nat}{ci:List Nat}{σ:St}{k:Nat}{v:V} (h:(cD nl ci σ)[k]? =some (some v)):∃j i,k=nl+j/\ci[j]? =some i/\σ[i]? =some (some v):=by
 unfold cD at h
 by_cases hk:k<nl
 ·rw[List.getElem?_append_left (by simpa using hk),List.getElem?_replicate]at h
  split at h<;>cases h
 ·rw[List.getElem?_append_right (by simpa using hk),List.length_replicate,List.getElem?_map]at h;cases e:ci[k - nl]? with
  | none=>rw[e]at h;cases h
  | some i =>
   rw[e]at h;have h':(σ[i]?).join=some v:=by simpa using h
   refine⟨k - nl,i,by lia,e,?_⟩;cases q:σ[i]? with
   | none=>rw[q]at h';cases h'
   | some o=>rw[q]at h';simp at h';rw[h']
theorem D6 {nl:Nat}{ci:List Nat}{σ:St}:(cD nl ci σ).length=nl+ci.length:=by unfold cD;simp
section
variable {X:Cx}{scope:Scope}{cl:List (Str×Addr)}{N:List Str}{nl:Nat}{ci:List Nat}{pins:List (Addr×Obj)}{σ:St}{H2:Hp}{s2:Shared}{fp:List Addr}
theorem FY (B:Blk X scope cl N nl ci)(I:Inv X pins σ H2 s2)(f2:∀b∈fp,kQ X pins H2 b)(fo:∀b∈fp,∃o,s2.heap.get? b=some o){C:Addr}{h4:Heap}{t4:Nat}{m4:Str->Option Value} (hC:s2.heap.objs.size<=C) (hns:h4.Ns C m4)
  (hk:∀b o,s2.heap.get? b=some o->h4.get? b=some o):Inv (bO X scope cl N C s2 H2 fp) [] (cD nl ci σ) H2 { s2 with heap:=h4,toks:=t4 }:=by
 have lt2:∀b∈fp,b<s2.heap.objs.size:=fun b hb=>by obtain⟨o,e⟩:=fo b hb;exact Heap.lt_size e
 have ok:(bO X scope cl N C s2 H2 fp).Ok:=by
  refine⟨I.ok.mod,B.kind,I.ok.glob,I.ok.blt,hC,fun x y c h1 h2=>I.ok.inj x y c (B.sub x c h1) (B.sub y c h2),fun x hx=>B.has x hx,fun x c hf _=>(by cases hf),I.ok.hd,I.ok.frames,.inl rfl,fun b hb=>⟨?_,?_⟩,I.bs,?_,fun b o e hb=> ?_,fun b hb z=> ?_,I.stack,I.stkFree⟩
  ·exact Nat.ne_of_lt (Nat.lt_of_lt_of_le (lt2 b hb) hC)
  ·exact fun x c h=>(f2 b hb).2.2.2.2.1 x c (B.sub x c h)
  ·exact Nat.le_trans I.ok.bsz I.sz
  ·rcases (f2 b hb).2.2.2.1 with z|z
   ·exact I.ok.noex b o e z
   ·exact absurd (Nat.lt_of_lt_of_le (Heap.lt_size e) (Nat.le_trans I.ok.bsz z)) (Nat.lt_irrefl _)
  ·rcases List.mem_cons.mp (I.stkSub b z) with q|q
   ·exact(f2 b hb).2.1 q
   ·exact(f2 b hb).2.2.1 q
 refine⟨ok,rfl,I.bare,Un.kept hk,⟨m4,hns,fun k x v e1 e2 e3=> ?_⟩,fun x c e=> ?_,I.hok.fresh hC,fun x c e=>I.freeC x c (B.sub x c e),fun p hp=>(by cases hp),I.hok.kept hk,?_⟩
 ·obtain⟨j,i,rfl,hj,hσ⟩:=LC e2;obtain⟨n,hn1,hn2,hk1,hk2,hl⟩:=B.cap j i hj;have en:x=n:=by
   have e1':N[nl+j]? =some x:=e1;rw[hn1]at e1';exact(Option.some.inj e1').symm
  subst en;obtain⟨m,hm,hloc⟩:=I.loc;have vis:Vis X.env.scope x:= .inr hk1;obtain⟨u,ru,lk⟩:=hloc i x v hn2 hσ vis;refine⟨u,ru,.inr ⟨hk2,?_⟩⟩;rcases lk with⟨kl,_⟩|⟨_,c,ec,hc⟩
  ·have kl':X.env.scope.names.lookup x=some .local:=kl;rcases hk1 with z|z<;>· rw[z]at kl';cases kl'
  ·refine⟨c,hl.trans ec,?_⟩;obtain⟨o,ho,hd⟩:=hc;exact⟨o,hk _ _ ho,hd⟩
 ·obtain⟨v,o,ho,hd⟩:=I.cell x c (B.sub x c e);exact⟨v,o,hk _ _ ho,hd⟩
 ·show (cD nl ci σ).length=N.length;rw[D6,B.len]
theorem MB {C:Addr}{σ':St}{H':Hp}{s':Shared}{pb:List (Addr×Obj)} (I:Inv X pins σ H2 s2) (f2:∀b∈fp,kQ X pins H2 b) (J:Inv (bO X scope cl N C s2 H2 fp) pb σ' H' s'):Inv X pins σ H' s' :=
 I.call' J.os J.base J.hok J.bare fun b hb=>⟨(f2 b hb).2.2.2.1,(f2 b hb).2.1,(f2 b hb).2.2.2.2.1,(f2 b hb).2.2.2.2.2⟩
end
section
variable {prog:Program}{w:World}{A:Around}{R:Result->Shared->Prop}{s:Shared}
theorem FZ {elt target iter:Expr}{ifs:List Expr}{scope:Scope}{pos:Pos}{it acc:Value}{env:Env} (I:Nat->Shared->Prop)
  (turn:∀n s,I n s->wpAny (model prog w) A (pyNext it) (fun r s₁=>match r with
   | none=>R (.ok .next) s₁
   | some v=>wpAny (model prog w) A (letOwnedTupleGo target it v) (fun _ s₁'=>wpAny (model prog w) A (assign target env v) (fun _ s₂ =>
     wpAny (model prog w) A (forIn ifs true fun c r=>if r=true then do let ok ←isTrue c env (eval c env);pure (ForInStep.yield ok) else pure (ForInStep.yield r)) (fun ok s₃ =>
      if ok=true then wpAny (model prog w) A (eval elt env) (fun x s₄ =>
       wpAny (model prog w) A (call (.builtin "list.append") [acc,x]) (fun _ s₅=>∃m,m<n/\I m s₅) (notedBy (model prog w) A env fun e s'=>R (.error e) s') s₄) (notedBy (model prog w) A env fun e s'=>R (.error e) s') s₃
      else ∃m,m<n/\I m s₃) (notedBy (model prog w) A env fun e s'=>R (.error e) s') s₂) (notedBy (model prog w) A env fun e s'=>R (.error e) s') s₁') (notedBy (model prog w) A env fun e s'=>R (.error e) s') s₁) (notedBy (model prog w) A env fun e s'=>R (.error e) s') s)
  (n:Nat)(h:I n s) :
  codeAny (model prog w) A (.compLoop (.ListComp elt [⟨target,iter,ifs,0⟩] scope pos) 0 it acc env) R s:=by
 refine codeAny_loop rfl I (fun n s hI=> ?_) n h;show wpAny _ A ((compTurn (.ListComp elt [⟨target,iter,ifs,0⟩] scope pos) 0 it acc env).onRaise (fun x=>do noteFrame x env;theTreesLotGoes x)) _ _ s;refine wpAny_noted ?_;rw[compTurn_list];refine wpAny_bind (wpAny_standAt (wpAny_bind (wpAny_mono (turn n s hI) (fun r s₁ h₁=> ?_) fun _ _ h'=>h')));cases r with
 | none=>exact wpAny_pure h₁
 | some v =>
  refine wpAny_bind (wpAny_mono h₁ (fun _ s₁' h₁'=> ?_) fun _ _ h'=>h');refine wpAny_bind (wpAny_mono h₁' (fun _ s₂ h₂=>wpAny_bind (wpAny_mono h₂ (fun ok s₃ h₃=> ?_) fun _ _ h'=>h')) fun _ _ h'=>h');cases ok with
  | false=>exact wpAny_pure ⟨rfl,h₃⟩
  | true =>
   exact wpAny_bind (wpAny_bind (wpAny_mono h₃ (fun x s₄ h₄=>wpAny_bind (wpAny_mono h₄ (fun _ s₅ h₅=>wpAny_pure (wpAny_pure ⟨rfl,h₅⟩)) fun _ _ h'=>h')) fun _ _ h'=>h'))
end
def PF (X:Cx)(ifs:List Expr)(t:TT):Prop :=
 ∀(pins:List (Addr×Obj)) (s:Shared) (σ:St) (H:Hp) (Q:Bool->Hp->Prop),Inv X pins σ H s->t σ H Q →
  wpAny (model X.prog X.w) X.A (forIn ifs true fun c r=>if r=true then do let ok ←isTrue c X.env (eval c X.env);pure (ForInStep.yield ok) else pure (ForInStep.yield r)) (TP X pins σ Q) X.xe s
def VI:TT:=fun _ H Q=>Q true H
theorem jW {X:Cx}:PF X [] VI:=fun _ _ _ H _ I h=>wpAny_tests_nil ⟨H,I,h⟩
theorem lX {X:Cx}{c:Expr}{t:TT} (h:PT X c t):PF X [c] t:=fun pins s σ H Q I q=>wpAny_tests_one (h pins s σ H Q I q)
def g9 (J:It)(g:TG)(ti:TT)(te:TE)(σ0:St)(fin:List V->Hp->Prop)(H1:Hp):Prop :=
 ∃W:Nat->Nat->List V->Hp->Prop,(∃m,W 0 m [] H1)/\∀i m ys H,W i m ys H →
  (J.stop i H/\fin ys H) ∨
  (J.go i H/\∀x H',J.yld i H x H'->g x σ0 H' fun σ2 H2=>(σ2.length=σ0.length/\∀(j:Nat) v,σ0[j]? =some (some v)->σ2[j]? =some (some v)) ∧
   ti σ2 H2 fun b H3=>if b=true then te σ2 H3 fun y H4=>ys.length<sizeLine/\∃m',m'<m/\W (i+1) m' (ys++[y]) H4 else ∃m',m'<m/\W (i+1) m' ys H3)
def HS (wi:TI)(nl:Nat)(ci:List Nat)(g:TG)(ti:TT)(te:TE):TE:=fun σ H Q =>
 wi σ H fun J H1=>g9 J g ti te (cD nl ci σ) (fun ys H'=>∀p,H' p=none->Q (.ref p) (upd H' p (.lst ys))) H1
section
variable {X:Cx}{scope:Scope}{cl:List (Str×Addr)}{N:List Str}{nl:Nat}{ci:List Nat}{tg elt iter:Expr}{ifs:List Expr}{pos:Pos}{wi:TI}{g:TG}{ti:TT}{te:TE}
theorem AJ {pins:List (Addr×Obj)}{σ:St}{H2:Hp}{s2:Shared}{fp:List Addr}{it:Addr}{J:It}{tn:Nat->Heap->Prop}{E:Value->Shared->Prop}{RR:Value->Addr->Result->Shared->Prop}{fin:List V->Hp->Prop}
  (hc:X.calm=true)(B:Blk X scope cl N nl ci)(hg:∀C s0 H0 fp,PG (bO X scope cl N C s0 H0 fp) tg g)(hi:∀C s0 H0 fp,PF (bO X scope cl N C s0 H0 fp) ifs ti)(he:∀C s0 H0 fp,PE (bO X scope cl N C s0 H0 fp) elt te)
  (I2:Inv X pins σ H2 s2)(T:tH X.prog X.w X.K tg J fp it tn)(st2:tn 0 s2.heap)(f2:∀b∈fp,kQ X pins H2 b)(hW:g9 J g ti te (cD nl ci σ) fin H2)
  (hfin:∀(D C:Addr) (s':Shared) (H':Hp) (ys:List V) (oC:Obj) (m:Str->Option Value),H' D=none->Inv X (pins++[(C,oC)]) σ (upd H' D (.lst ys)) s'->s'.heap.Ns C m->s2.heap.objs.size<=C->fin ys H'->RR (.ref D) C (.ok .next) s') :
  wpAny (model X.prog X.w) X.A (newList []) (fun acc s₃=>wpAny (model X.prog X.w) X.A (newFunctionEnv scope X.env.globals cl [] X.env.qual none .none (some X.env)) (fun cenv s₄ =>
   codeAny (model X.prog X.w) X.A (.compStart (.ListComp elt [⟨tg,iter,ifs,0⟩] scope pos) 0 (.ref it) acc { cenv with scope:=relabel scope X.env }) (RR acc cenv.locals) s₄) E s₃) E s2:=by
 obtain⟨W,⟨m0,w0⟩,turn⟩:=hW;refine wpAny_newObj_type (wpAny_newFunctionEnv B.nocell (by intro y hy;simp at hy) (fun h1 hns1 hsb1=> ?_) B.kind)
 dsimp only at hns1 hsb1 ⊢
 generalize hH2:s2.heap.push { cls:= .type "list",dict:=none,data:= .seq ([]:List Value).toArray }=G2 at hns1 hsb1 ⊢;have hCs:G2.objs.size=s2.heap.objs.size+1:=by rw[←hH2,Heap.size_push]
 generalize hCe:G2.objs.size=C at hns1 hsb1 hCs ⊢;have hDC:s2.heap.objs.size≠C:=by rw[hCs];exact Nat.ne_of_lt (Nat.lt_succ_self _)
 have hCle:s2.heap.objs.size<=C:=by rw[hCs];exact Nat.le_succ _
 have old:∀b o,s2.heap.get? b=some o->h1.get? b=some o:=fun b o e=>hsb1.extBut b o (by rw[hCs];exact Nat.ne_of_lt (Nat.lt_succ_of_lt (Heap.lt_size e))) (Heap.get?_push_of_some _ (hH2▸Heap.get?_push_of_some _ e));have hacc:h1.get? s2.heap.objs.size=some { cls:= .type "list",data:= .seq ([]:List Value).toArray 0 }:=hsb1.extBut _ _ hDC (Heap.get?_push_of_some _ (hH2▸Heap.get?_push_size _ rfl));have fo:∀b∈fp,∃o,s2.heap.get? b=some o:=fun b hb=>let ⟨o,e,_⟩:=T.obj 0 _ st2 b hb;⟨o,e⟩;have lt2:∀b∈fp,b<s2.heap.objs.size:=fun b hb=>let ⟨o,e⟩:=fo b hb;Heap.lt_size e;have hDfp:s2.heap.objs.size∉fp:=fun z=>Nat.lt_irrefl _ (lt2 _ z);have hCfp:C∉fp:=fun z=>Nat.lt_irrefl _ (Nat.lt_of_lt_of_le (lt2 _ z) hCle);generalize hDe:s2.heap.objs.size=D at hCs hDC hCle hacc hDfp lt2;have loop:∀s3:Shared,s3={ s2 with heap:=h1,toks:=s2.toks+([]:List (Str×Value)).length } →
   codeAny (model X.prog X.w) X.A (.compLoop (.ListComp elt [⟨tg,iter,ifs,0⟩] scope pos) 0 (.ref it) (.ref D) (compEnvC scope cl C X.env)) (RR (.ref D) C) s3:=by
  rintro s3 rfl;have I4:Inv (bO X scope cl N C s2 H2 fp) [] (cD nl ci σ) H2 { s2 with heap:=h1,toks:=s2.toks+([]:List (Str×Value)).length }:=FY B I2 f2 fo (by rw[hDe];exact hCle) hns1 old;have fpk:∀{H':Hp},(∀b∈fp,H' b=none)->∀b∈fp,kQ (bO X scope cl N C s2 H2 fp) [] H' b:=fun hn b hb =>
   ⟨hn b hb,(I4.ok.exf b hb).1,I4.ok.exfs b hb,.inl hb,(I4.ok.exf b hb).2,fun p hp=>by cases hp⟩
  have hDX:∀x c,(bO X scope cl N C s2 H2 fp).env.cells.lookup x=some c->c≠D:=fun x c e=>by
   obtain⟨v,o,ho,_⟩:=I2.cell x c (B.sub x c e);rw[←hDe];exact Nat.ne_of_lt (Heap.lt_size ho)
  have hDL:D≠(bO X scope cl N C s2 H2 fp).env.locals:=hDC;have hDf:D∉(bO X scope cl N C s2 H2 fp).fs:=fun z=>by
   rcases List.mem_cons.mp (I2.stkSub D z) with q|q
   ·exact Nat.lt_irrefl _ (by have:=I2.lt;rw[hDe,←q]at this;exact this)
   ·exact I2.nofs (by rw[hDe];exact Nat.le_refl _) q
  refine FZ (fun n s'=>∃i ys its k H',W i n ys H'/\Inv (bO X scope cl N C s2 H2 fp) [] (cD nl ci σ) H' s'/\tn i s'.heap/\(∀b∈fp,H' b=none)/\H' D=none ∧
   s'.heap.get? D=some { cls:= .type "list",data:= .seq its.toArray k }/\Vals ys its/\ys.length<=sizeLine) ?_ m0 ?_
  ·rintro n s' ⟨i,ys,its,k,H',w',I',st',fr',hD',eD,rv,hz⟩;have IP:Inv (bO X scope cl N C s2 H2 fp) [(D,{ cls:= .type "list",data:= .seq its.toArray k })] (cD nl ci σ) H' s':=I'.pins_of fun p hp=>by
    obtain rfl:p=_:=by simpa using hp
    exact⟨eD,hD',hDL,hDf,fun v z=>by cases z⟩
   have fpD:∀{H'':Hp},(∀b∈fp,H'' b=none)->∀b∈fp,kQ (bO X scope cl N C s2 H2 fp) [(D,{ cls:= .type "list",data:= .seq its.toArray k })] H'' b:=fun hn b hb =>
    ⟨hn b hb,(I4.ok.exf b hb).1,I4.ok.exfs b hb,.inl hb,(I4.ok.exf b hb).2,fun p hp=>by
     obtain rfl:p=_:=by simpa [bO] using hp
     exact fun z=>hDfp ((show D=b from z)▸hb)⟩
   rcases turn i n ys H' w' with⟨stop,q⟩|⟨go,step⟩
   ·refine thn (T.done (bO X scope cl N C s2 H2 fp) rfl rfl rfl hc i _ s' (cD nl ci σ) H' _ IP (fpD fr') st' stop) fun r s'' ⟨hr,I''⟩=> ?_;subst hr;have eD2:=(I''.pin (D,_) (List.mem_append_right _ List.mem_cons_self)).1;have J1:Inv (bO X scope cl N C s2 H2 fp) [] (cD nl ci σ) (upd H' D (.lst ys)) s'' :=
     (I''.pins_of (pins':=[]) fun p hp=>by cases hp).track hD' eD2 rv hz (by show s2.heap.objs.size<=D;rw[hDe];exact Nat.le_refl _) hDL hDX fun p hp=>by cases hp
    have K1:Inv X pins σ (upd H' D (.lst ys)) s'':=MB I2 f2 J1;obtain⟨mC,nsC,_⟩:=J1.loc;obtain⟨oC,es,ep,hoC,hdC,rC⟩:=id nsC;refine hfin D C s'' H' ys oC mC hD' (K1.pins_of fun p hp=> ?_) nsC (by rw[hDe];exact hCle) q;rcases List.mem_append.mp hp with hp|hp
    ·exact K1.pin p (List.mem_append_right _ hp)
    ·obtain rfl:p=(C,oC):=by simpa using hp
     refine⟨hoC,J1.free,Nat.ne_of_gt (Nat.lt_of_lt_of_le I2.lt (by rw[hDe];exact hCle)),I2.nofs (by rw[hDe];exact hCle),fun v z=> ?_⟩;rw[hdC]at z;cases z
   ·refine thn (T.item (bO X scope cl N C s2 H2 fp) rfl rfl rfl hc i _ s' (cD nl ci σ) H' _ IP (fpD fr') st' go) fun r s4 ⟨u,hr,h4⟩=> ?_;subst hr;refine thn h4 fun _ s5 ⟨x,H5,I5,r5,y5,st5,fr5⟩=> ?_;have I5':=I5.pinned (fpD fr5) (T.obj _ _ st5);refine wpAny_mono (hg C s2 H2 fp _ s5 (cD nl ci σ) H5 x u _ I5' r5 (step x H5 y5)) (fun _ s6 ⟨σ6,H6,I6,⟨hl6,hk6⟩,q6⟩=> ?_) fun _ _ f=>f.elim;refine wpAny_mono (hi C s2 H2 fp _ s6 σ6 H6 _ I6 q6) (fun b s7 ⟨H7,I7,q7⟩=> ?_) fun _ _ f=>f.elim;have pinD:∀{pp:List (Addr×Obj)}{σx:St}{Hx:Hp}{sx:Shared},Inv (bO X scope cl N C s2 H2 fp) ([(D,({ cls:= .type "list",data:= .seq its.toArray k }:Obj))]++lZ fp s5.heap) σx Hx sx →
      sx.heap.get? D=some { cls:= .type "list",data:= .seq its.toArray k }/\Hx D=none/\tn (i+1) sx.heap/\(∀b∈fp,Hx b=none):=fun {pp σx Hx sx} Ix=>by
     refine⟨(Ix.pin (D,_) (List.mem_append_right _ (List.mem_append_left _ List.mem_cons_self))).1,(Ix.pin (D,_) (List.mem_append_right _ (List.mem_append_left _ List.mem_cons_self))).2.1,T.keep _ _ _ st5 fun b hb o e=>(Ix.pin (b,o) (List.mem_append_right _ (List.mem_append_right _ (j4 hb e)))).1,fun b hb=> ?_⟩;obtain⟨o,e,d⟩:=T.obj _ _ st5 b hb;exact(Ix.pin (b,o) (List.mem_append_right _ (List.mem_append_right _ (j4 hb e)))).2.1
    cases b with
    | false =>
     rw[if_neg Bool.false_ne_true]at q7 ⊢;obtain⟨m',hm',w7⟩:=q7;obtain⟨e7,n7,st7,fr7⟩:=pinD (pp:=[]) I7;exact⟨m',hm',i+1,ys,its,k,H7,w7,(I7.pins_of (pins':=[]) fun p hp=>by cases hp).weak hl6.symm hk6,st7,fr7,n7,e7,rv,hz⟩
    | true =>
     rw[if_pos rfl]at q7 ⊢;refine wpAny_mono (he C s2 H2 fp _ s7 σ6 H7 _ I7 q7) (fun y' s8 ⟨y,H8,I8,r8,hlt,m',hm',w8⟩=> ?_) fun _ _ f=>f.elim;obtain⟨e8,n8,st8,fr8⟩:=pinD (pp:=[]) I8;have I8f:Inv (bO X scope cl N C s2 H2 fp) (lZ fp s5.heap) σ6 H8 s8:=I8.pins_of fun p hp=>I8.pin p (List.mem_append_right _ (List.mem_append_right _ hp));have I8t:=I8f.track n8 e8 rv hz (by show s2.heap.objs.size<=D;rw[hDe];exact Nat.le_refl _) hDL hDX fun p hp=>by
      have hp':p∈lZ fp s5.heap:=by simpa [bO] using hp
      exact fun z=>hDfp (z▸(AU hp').1)
     refine wpAny_mono (jI (X:=bO X scope cl N C s2 H2 fp) (lZ fp s5.heap) s8 σ6 _ (.ref D) [y] (.ref D) [y'] (fun _ H9=>H9=upd H8 D (.lst (ys++[y]))) I8t rfl (.cons r8 .nil)
      ⟨D,ys,y,rfl,rfl,bK,hlt,RG⟩) (fun _ s9 ⟨_,H9,I9,_,e9⟩=> ?_) fun _ _ f=>f.elim
     subst e9;obtain⟨hz9,its9,k9,rv9,e9⟩:=I9.hok D _ bK;have I9u:=I9.untrack n8;refine⟨m',hm',i+1,ys++[y],its9,k9,H8,w8,(I9u.pins_of (pins':=[]) fun p hp=>by cases hp).weak hl6.symm hk6,?_,fr8,n8,e9,rv9,hz9⟩;exact T.keep _ _ _ st5 fun b hb o e=>(I9u.pin (b,o) (List.mem_append_right _ (j4 hb e))).1
  ·exact⟨0,[],[],0,H2,w0,I4,T.keep _ _ _ st2 fun b hb o e=>old b o e,fun b hb=>(f2 b hb).1,I2.hok.fresh (by rw[hDe];exact Nat.le_refl _),hacc,.nil,Nat.zero_le _⟩
 exact codeAny_compStart_list (loop _ rfl) (T.self _ 0 _ _ _ (T.keep _ _ _ st2 fun b hb o e=>old b o e) (loop _ rfl))
theorem d9 (hc:X.calm=true)(B:Blk X scope cl N nl ci)(hp:PI X tg iter wi)(hg:∀C s0 H0 fp,PG (bO X scope cl N C s0 H0 fp) tg g)(hi:∀C s0 H0 fp,PF (bO X scope cl N C s0 H0 fp) ifs ti)
  (he:∀C s0 H0 fp,PE (bO X scope cl N C s0 H0 fp) elt te)(hs:∀x,foldedSetIterable iter X.env x=pure x:=by intro _;rfl):PE X (.ListComp elt [⟨tg,iter,ifs,0⟩] scope pos) (HS wi nl ci g ti te):=by
 intro pins s σ H Q I h;rw[eval_ListComp];refine wpAny_comprehension_free (use:=none) rfl hs B.clos B.kind B.names (thn (hp pins s σ H _ I h) fun v s1 h1=>thn h1 fun itv s2 h2=> ?_);obtain⟨it,fp,tn,J,H2,e,I2,T,st2,f2,hW⟩:=h2;subst e;refine AJ (RR:=fun acc C=>compPost (model X.prog X.w) X.A X.xe none (EP X pins σ Q) acc C) hc B hg hi he I2 T st2 f2 hW ?_;intro D C s' H' ys oC m hD K1 hn hC q;refine⟨m,hn,fun h' hs'=> ?_⟩;have hL:C≠X.env.locals:=(K1.pin (C,oC) (by simp)).2.2.1;have I9:Inv X pins σ (upd H' D (.lst ys)) { s' with heap:=h',toks:=s'.toks }:=K1.unpinned.turned (t':=s'.toks) (it:=C) (fun b o hb e=>hs'.extBut b o hb e) (K1.pin (C,oC) (by simp)).2.1 hL (.inr (Nat.le_trans I2.sz hC)) (fun x c e z=> ?_) fun p hp z=> ?_
 ·exact⟨.ref D,_,I9,rfl,q D hD⟩
 ·obtain⟨v,o,ho,_⟩:=I2.cell x c e;exact absurd (Nat.lt_of_lt_of_le (Heap.lt_size ho) (z▸hC)) (Nat.lt_irrefl _)
 ·exact absurd (Nat.lt_of_lt_of_le (Heap.lt_size (I2.pin p hp).1) (z▸hC)) (Nat.lt_irrefl _)
theorem mY {i:Nat}{x:Str}{pos' spos:Pos} (hN:X.N.Nodup) (hix:X.N[i]? =some x) (hx:Loc X.env.scope x) (hc:X.calm=true) (B:Blk X scope cl N nl ci) (hp:PI X tg iter wi) (hg:∀C s0 H0 fp,PG (bO X scope cl N C s0 H0 fp) tg g)
  (hi:∀C s0 H0 fp,PF (bO X scope cl N C s0 H0 fp) ifs ti)(he:∀C s0 H0 fp,PE (bO X scope cl N C s0 H0 fp) elt te)
  (hsw:swapsWith (.ListComp elt [⟨tg,iter,ifs,0⟩] scope pos) (some (.Name x pos')) spos.line X.env=pure true:=by rfl)(hs:∀x,foldedSetIterable iter X.env x=pure x:=by intro _;rfl)
  (hf:X.fn x=true∨X.env.scope.names.lookup x=some .local:=by first|exact .inl rfl|exact .inr rfl|assumption) :
  PS X (.Assign [.Name x pos'] (.ListComp elt [⟨tg,iter,ifs,0⟩] scope pos) spos) (OW (HS wi nl ci g ti te) (cX i)):=by
 intro pins s σ H D I h;rw[exec_Assign_Name_used _ _ _ _ hsw];refine wpAny_bind (wpAny_standAt (wpAny_bind ?_));show wpAny _ X.A (do let _ ←comprehension (.ListComp elt [⟨tg,iter,ifs,0⟩] scope pos) scope X.env _ (newList []) false (eval iter X.env) (some (assign (.Name x pos') X.env))) _ _ s;refine wpAny_bind (wpAny_mono (wpAny_comprehension_free (use:=some (assign (.Name x pos') X.env)) (Q:=fun _ s'=>SP X pins D .next s') rfl hs B.clos B.kind B.names
  (thn (hp pins s σ H _ I h) fun v s1 h1=>thn h1 fun itv s2 h2=> ?_)) (fun _ s' hq=>wpAny_pure (wpAny_pure hq)) fun _ _ e=>e)
 obtain⟨it,fp,tn,J,H2,e,I2,T,st2,f2,hW⟩:=h2;subst e;refine AJ (RR:=fun acc C=>compPost (model X.prog X.w) X.A X.xe (some (assign (.Name x pos') X.env)) (fun _ s'=>SP X pins D .next s') acc C) hc B hg hi he I2 T st2 f2 hW ?_;intro Dd C s' H' ys oC m hD K1 hn hC q;show wpAny _ X.A (assign (.Name x pos') X.env (.ref Dd)) _ _ _;refine thn (aM (i:=i) hN hix hx hf (pins++[(C,oC)]) s' σ (upd H' Dd (.lst ys)) (.ref Dd) (.ref Dd) (fun σ' H''=>D.nx σ' H'') K1 rfl (q Dd hD)) fun _ s'' ⟨σ',H'',K2,q2⟩=> ?_;have eC:=K2.pin (C,oC) (by simp);obtain⟨oC',es,ep,hoC,hdC,rC⟩:=id hn;have eo:oC'=oC:=by
  have:=(K1.pin (C,oC) (by simp)).1;rw[hoC]at this;exact Option.some.inj this
 subst eo;refine⟨m,⟨oC',es,ep,eC.1,hdC,rC⟩,fun h' hs'=> ?_⟩;have hL:C≠X.env.locals:=eC.2.2.1;have I9:Inv X pins σ' H'' { s'' with heap:=h',toks:=s''.toks }:=K2.unpinned.turned (t':=s''.toks) (it:=C) (fun b o hb e=>hs'.extBut b o hb e) eC.2.1 hL (.inr (Nat.le_trans I2.sz hC)) (fun x c e z=> ?_) fun p hp z=> ?_
 ·exact⟨σ',H'',I9,q2⟩
 ·obtain⟨v,o,ho,_⟩:=I2.cell x c e;exact absurd (Nat.lt_of_lt_of_le (Heap.lt_size ho) (z▸hC)) (Nat.lt_irrefl _)
 ·exact absurd (Nat.lt_of_lt_of_le (Heap.lt_size (I2.pin p hp).1) (z▸hC)) (Nat.lt_irrefl _)
end
end L2
namespace L2
open PySem PySem.Spec PyProof.Rows
def Its (x:Str):It:=⟨fun i _=>i<x.cps.size,fun i H v H'=>H'=H/\∃c,x.cps[i]? =some c/\v= .str ⟨#[c]⟩,fun i _=>i=x.cps.size⟩
theorem ER {P:Program}{w:World}{K:PySem.W.Frag}{tg:Expr} (it:Addr) (x:Str) (t:Tok) (ty:String)
  (hty:["enumerate","zip","dict_itemiterator","dict_reverseitemiterator","odict_iterator","itertools.zip_longest","itertools.pairwise"].contains ty=false)
  (W:∀A':Around,A'.handled=none->Walks P w A' it [it] [it] x.cps.size (SignAt x) (fun i h=>h.IsStrIter it ty x t i))
  (hself:∀(A:Around) (i:Nat) (s:Shared) (Q:Value->Shared->Prop) (E:Value->Shared->Prop),s.heap.IsStrIter it ty x t i->Q (.ref it) s->wpAny (model P w) A (pyIter (.ref it)) Q E s) :
  tH P w K tg (Its x) [it] it (fun i h=>h.IsStrIter it ty x t i) where
 mem:=by simp
 obj:=fun i h st b hb=>by
  have e:b=it:=by simpa using hb
  subst e;obtain⟨o,e,c,d⟩:=st;exact⟨o,e,fun v z=>by rw[d]at z;cases z⟩
 keep:=fun i h h' st k=>let ⟨o,ho,r⟩:=st;⟨o,k it (by simp) o ho,r⟩
 item:=by
  intro X hP hw hK hc i pins s σ H E I hf st hg;subst hP hw hK;obtain⟨f0,f1,f2,f3,f4,f5⟩:=hf it (by simp);refine(W X.A (I.ok.hd hc)).item i s _ _ hg st fun v h' tk hv st' kk=> ?_;obtain⟨c,u,hc',rfl⟩:=hv;have I1:Inv X pins σ H { s with heap:=h',toks:=tk }:=I.turned (fun b o hb e=>kk b o (by simpa using hb) e) f0 f1 f3 f4 f5;obtain⟨o,e,c1,d⟩:=id st';exact⟨_,rfl,HY (s:={ s with heap:=h',toks:=tk }) e c1 d hty ⟨.str ⟨#[c]⟩,H,I1,⟨u,rfl⟩,⟨rfl,c,hc',rfl⟩,st',fun b hb=>(hf b hb).1⟩⟩
 done:=by
  intro X hP hw hK hc i pins s σ H E I hf st hg;subst hP hw hK;obtain⟨f0,f1,f2,f3,f4,f5⟩:=hf it (by simp);have e:i=x.cps.size:=hg;subst e;exact(W X.A (I.ok.hd hc)).done s _ _ st fun h' tk kk=>⟨rfl,I.turned (fun b o hb e=>kk b o (by simpa using hb) e) f0 f1 f3 f4 f5⟩
 self:=hself
def aAj (tl:TE):TI:=fun σ H R=>tl σ H fun x H1=>∃z,x= .str z/\R (Its z) H1
theorem WO {X:Cx}{tg l:Expr}{tl:TE} (hl:PE X l tl):PI X tg l (aAj tl):=by
 intro pins s σ H R I h;refine thn (hl pins s σ H _ I h) fun v s1 ⟨x,H1,I1,rx,z,ez,q⟩=> ?_;subst ez;obtain⟨t,rfl⟩:=rx;cases ha:z.cps.all (·<128)
 ·refine wpAny_pyIter_wide ha ⟨s1.heap.objs.size,[s1.heap.objs.size],_,Its z,H1,rfl,I1.kept (t':=s1.toks) fun b u e=>Heap.get?_push_of_some _ e,ER _ z t "str_iterator" (by decide) (fun A' hA=>Walks.strWide hA _ z t) (fun _ _ _ _ _ st h=>wpAny_pyIter_striter_wide st h),⟨_,Heap.get?_push_size _ rfl,rfl,rfl⟩,fun b hb=> ?_,q⟩;have e:b=s1.heap.objs.size:=by simpa using hb
  subst e;exact I1.fpOk (Nat.le_refl _) (I1.hok.fresh (Nat.le_refl _))
 ·refine wpAny_pyIter_ascii ha ⟨s1.heap.objs.size,[s1.heap.objs.size],_,Its z,H1,rfl,I1.kept (t':=s1.toks) fun b u e=>Heap.get?_push_of_some _ e,ER _ z t "str_ascii_iterator" (by decide) (fun A' hA=>Walks.strAscii hA _ z t) (fun _ _ _ _ _ st h=>wpAny_pyIter_striter_ascii st h),⟨_,Heap.get?_push_size _ rfl,rfl,rfl⟩,fun b hb=> ?_,q⟩;have e:b=s1.heap.objs.size:=by simpa using hb
  subst e;exact I1.fpOk (Nat.le_refl _) (I1.hok.fresh (Nat.le_refl _))
theorem R1 {J:It}{g:TG}{ti:TT}{te:TE}{σ0:St}{fin:List V->Hp->Prop}{H1:Hp} (n:Nat) (f:Nat->V) (hn:n<=sizeLine) (Ok:Hp->Prop) (h0:Ok H1)
  (hst:∀H,Ok H->J.stop n H)(hgo:∀i H,i<n->Ok H->J.go i H)
  (hstep:∀i H x H',i<n->Ok H->J.yld i H x H'->g x σ0 H' fun σ2 H2=>(σ2.length=σ0.length/\∀(j:Nat) v,σ0[j]? =some (some v)->σ2[j]? =some (some v))/\ti σ2 H2 fun b H3=>b=true/\te σ2 H3 fun y H4=>y=f i/\Ok H4)
  (mono:∀σ H (Q Q':Bool->Hp->Prop),(∀b H',Q b H'->Q' b H')->ti σ H Q->ti σ H Q')(mono2:∀σ H (Q Q':VK),(∀b H',Q b H'->Q' b H')->te σ H Q->te σ H Q')(mono3:∀x σ H (Q Q':St->Hp->Prop),(∀σ' H',Q σ' H'->Q' σ' H')->g x σ H Q->g x σ H Q')
  (hfin:∀H,Ok H->fin ((List.range n).map f) H):g9 J g ti te σ0 fin H1:=by
 refine⟨fun i m ys H=>m=n - i/\i<=n/\ys=(List.range i).map f/\Ok H,⟨n,by simp,Nat.zero_le _,rfl,h0⟩,?_⟩;rintro i m ys H ⟨rfl,hi,rfl,ok⟩
 by_cases hlt:i<n
 ·refine .inr ⟨hgo i H hlt ok,fun x H' y=> ?_⟩;refine mono3 _ _ _ _ _ (fun σ' H'' q=>⟨q.1,mono _ _ _ _ (fun b H3 q=> ?_) q.2⟩) (hstep i H x H' hlt ok y);obtain⟨rfl,q⟩:=q;rw[if_pos rfl];refine mono2 _ _ _ _ (fun v H4 q=> ?_) q;obtain⟨rfl,ok4⟩:=q;refine⟨by rw[List.length_map,List.length_range];lia,n - (i+1),by lia,rfl,hlt,?_,ok4⟩;rw[List.range_succ,List.map_append];rfl
 ·have e:i=n:=by lia
  subst e;exact .inl ⟨hst H ok,hfin H ok⟩
section
variable {X:Cx}
theorem CV:∀bs:List Bool,(List.range bs.length).all (fun i=>bs.getD i true)=bs.all id
 | []=>rfl
 | b::bs=>by
  rw[List.length_cons,List.range_succ_eq_map,List.all_cons,List.all_map,List.all_cons,←CV bs];rfl
theorem zH (hc:X.calm=true):dO X (.builtin "all") (fun xs H Q=>∃(p:Addr) (bs:List Bool),xs=[.ref p]/\SqL X.K H p (bs.map V.bl)/\Q (.bl (bs.all id)) H):=by
 intro pins s σ H xs us Q I r h;obtain⟨p,bs,rfl,hq,q⟩:=h;obtain⟨u,rfl,rx⟩:=jZ r;cases rx;obtain⟨its,r',pl,hz⟩:=I.list hq;have hl:=pl.isList;have hlt:p<s.heap.objs.size:=by obtain⟨_,e,_⟩:=hl;exact Heap.lt_size e
 have hlen:bs.length=its.length:=by have:=r'.length;rw[List.length_map]at this;exact this
 refine call_all_walk (wpAny_pyIter_list hl ?_);refine⟨s.heap.objs.size,_,_,its.toArray.size,_,_,fun i=>bs.getD i true,rfl,Walks.list (show X.A.in1.handled=none from I.ok.hd hc) s.heap.objs.size p (Nat.ne_of_lt hlt) its.toArray,⟨⟨_,Heap.get?_push_size _ rfl,rfl,rfl⟩,hl.push _⟩,?_,?_⟩
 ·intro i v s' Q' E' hi hQ;have hi':its[i]? =some v:=by simpa using hi
  have hib:i<bs.length:=by rw[hlen];exact(List.getElem?_eq_some_iff.mp hi').1
  obtain⟨u,hu,ru⟩:=r'.get (i:=i) (x:=V.bl bs[i]) (by rw[List.getElem?_map,List.getElem?_eq_getElem hib];rfl);rw[hi']at hu;cases hu;have:v=Value.bool bs[i]:=ru;subst this;refine wpAny_truthy_bool ?_;have eb:bs.getD i true=bs[i]:=by rw[List.getD_eq_getElem?_getD,List.getElem?_eq_getElem hib];rfl
  have hQ':Q' (bs.getD i true) s':=hQ;rw[eb]at hQ';exact hQ'
 ·intro h' tk hk;have eall:(List.range its.toArray.size).all (fun i=>bs.getD i true)=bs.all id:=by
   rw[List.size_toArray,←hlen];exact CV bs
  rw[eall];refine⟨.bl (bs.all id),H,?_,rfl,q⟩;have I1:Inv X pins σ H { s with heap:=s.heap.push { cls:= .type "list_iterator",data:= .fields #[.ref p,.int 0 0] },toks:=s.toks }:=I.kept fun b u e=>Heap.get?_push_of_some _ e;obtain⟨f0,f1,f2,f3,f4,f5⟩:=I.fpOk (Nat.le_refl _) (I.hok.fresh (Nat.le_refl _));exact I1.turned (fun b o hb e=>hk b o (by simpa using hb) e) f0 f1 f3 f4 f5
theorem FV:dO X (.builtin "isinstance") (fun xs H Q=>∃x c t u b,xs=[x,c]/\i5 X.K H x t/\RelV c u/\PySem.W.kitOne X.K t u=some b/\Q (.bl b) H):=by
 intro pins s σ H xs us Q I r h;obtain⟨x,c,t,u,b,rfl,ty,rc,e,q⟩:=h;obtain⟨v1,v2,rfl,r1,r2⟩:=QY r;have e2:v2=u:=by
  cases c with
  | non=>exact(show v2=_ from r2).trans (show u=_ from rc).symm
  | bl b=>exact(show v2=_ from r2).trans (show u=_ from rc).symm
  | ref b=>exact(show v2=_ from r2).trans (show u=_ from rc).symm
  | ty b=>exact(show v2=_ from r2).trans (show u=_ from rc).symm
  | int i =>
   obtain⟨t1,rfl⟩:=(show ∃t,u=_ from rc)
   cases ty<;>simp[PySem.W.kitOne,PySem.W.kitCls]at e
  | str i =>
   obtain⟨t1,rfl⟩:=(show ∃t,u=_ from rc)
   cases ty<;>simp[PySem.W.kitOne,PySem.W.kitCls]at e
  | byt i =>
   obtain⟨t1,rfl⟩:=(show ∃t,u=_ from rc)
   cases ty<;>simp[PySem.W.kitOne,PySem.W.kitCls]at e
  | flt i =>
   obtain⟨t1,rfl⟩:=(show ∃t,u=_ from rc)
   cases ty<;>simp[PySem.W.kitOne,PySem.W.kitCls]at e
 subst e2;exact KL I r1 ty e fun tk=>⟨.bl b,H,I.tok tk,rfl,q⟩
theorem J6:OpR X (compareOp .LtE) (fun x y H Q=>∃i j,x= .str i/\y= .str j/\Q (.bl (!decide (j.cps.toList<i.cps.toList))) H):=by
 intro pins s σ H x y v u Q I rx ry h;obtain⟨i,j,rfl,rfl,q⟩:=h;obtain⟨t,rfl⟩:=rx;obtain⟨t',rfl⟩:=ry;exact P.le_str ⟨.bl _,H,I,rfl,q⟩
end
end L2
namespace L2
open PySem PySem.Spec PyProof.Rows
def QQ (xs:List (Str×NameKind))(XN:List Str)(ns:List (Str×NameKind))(N:List Str)(nl:Nat)(ci:List Nat):Bool :=
 (ns.all fun y=>y.2 != .cell&&(y.2 != .local||ns.lookup y.1==some .local)&&(y.2 != .free||(xs.lookup y.1==some .cell&&ns.lookup y.1==some .free))) &&
 (N.length==nl+ci.length) &&
 (List.range ci.length).all fun j=>match ci[j]?,N[nl+j]? with
  | some i,some n=>XN[i]? ==some n&&xs.lookup n==some .cell&&ns.lookup n==some .free
  | _,_=>false
def sF (ns:List (Str×NameKind))(cs:List (Str×Addr)):List (Str×Addr)->List (Str×Addr)
 | acc=>ns.foldl (fun acc y=>if y.2== .free then (y.1,(cs.lookup y.1).getD 0)::acc else acc) acc
theorem sT {env:Env}:∀(ns:List (Str×NameKind)) (acc:List (Str×Addr)),(∀y∈ns,y.2= .free->∃c,env.cells.lookup y.1=some c) →
  (forIn ns acc fun x r=>(do
   let (name,kind):=x
   if (kind==NameKind.free)=true then do
     let c ←cellOf env name
     pure (ForInStep.yield ((name,c)::r))
    else pure (ForInStep.yield r)):Sem (List (Str×Addr)))=pure (sF ns env.cells acc)
 | [],acc,_=>rfl
 | (n,k)::r,acc,h=>by
  have ih:=fun acc=>sT r acc fun y hy=>h y (List.mem_cons_of_mem _ hy);rw[List.forIn_cons]
  by_cases hk:k= .free
  ·subst hk;obtain⟨c,e⟩:=h (n,.free) List.mem_cons_self rfl;have e1:cellOf env n=pure c:=by unfold cellOf;rw[e]
   simp only[beq_self_eq_true,if_true,e1];show (forIn r ((n,c)::acc) _:Sem (List (Str×Addr)))=_;rw[ih];show _=pure (sF ((n,NameKind.free)::r) env.cells acc);simp only[sF,List.foldl_cons,beq_self_eq_true,if_true,e,Option.getD_some]
  ·have hb:(k==NameKind.free)=false:=by simpa using hk
   simp only[hb,Bool.false_eq_true,if_false];show (forIn r acc _:Sem (List (Str×Addr)))=_;rw[ih];simp only[sF,List.foldl_cons,hb,Bool.false_eq_true,if_false]
theorem iR {cs:List (Str×Addr)}:∀(ns:List (Str×NameKind)) (acc:List (Str×Addr)) (n:Str),(∀y∈ns,y.2= .free->∃c,cs.lookup y.1=some c) →
  ((n,NameKind.free)∈ns∨acc.lookup n=cs.lookup n)->(∀c,acc.lookup n=some c->cs.lookup n=some c)->(sF ns cs acc).lookup n=cs.lookup n
 | [],acc,n,_,h,_=>by
  rcases h with h|h
  ·cases h
  ·exact h
 | (m,k)::r,acc,n,hc,h,hs=>by
  have hc':∀y∈r,y.2= .free->∃c,cs.lookup y.1=some c:=fun y hy=>hc y (List.mem_cons_of_mem _ hy);show (sF r cs (if k== .free then (m,(cs.lookup m).getD 0)::acc else acc)).lookup n=cs.lookup n
  by_cases hk:k= .free
  ·subst hk;obtain⟨c,e⟩:=hc (m,.free) List.mem_cons_self rfl;simp only[beq_self_eq_true,if_true,e,Option.getD_some]
   by_cases hm:n=m
   ·subst hm;have q:List.lookup n ((n,c)::acc)=some c:=by simp[List.lookup_cons]
    exact iR r _ n hc' (.inr (q.trans e.symm)) fun c' z=>by rw[q]at z;cases z;exact e
   ·have hb:(n==m)=false:=by simpa using hm
    have q:List.lookup n ((m,c)::acc)=acc.lookup n:=by simp[List.lookup_cons,hb]
    refine iR r _ n hc' ?_ fun c' z=>hs c' (q▸z);rcases h with h|h
    ·rcases List.mem_cons.mp h with z|z
     ·cases z;exact absurd rfl hm
     ·exact .inl z
    ·exact .inr (q.trans h)
  ·have hb:(k==NameKind.free)=false:=by simpa using hk
   simp only[hb,Bool.false_eq_true,if_false];refine iR r _ n hc' ?_ hs;rcases h with h|h
   ·rcases List.mem_cons.mp h with z|z
    ·cases z;exact absurd rfl hk
    ·exact .inl z
   ·exact .inr h
theorem EB {cs:List (Str×Addr)}:∀(ns:List (Str×NameKind)) (acc:List (Str×Addr)),(∀y∈ns,y.2= .free->∃c,cs.lookup y.1=some c) →
  (∀n c,acc.lookup n=some c->cs.lookup n=some c)->∀n c,(sF ns cs acc).lookup n=some c->cs.lookup n=some c
 | [],acc,_,hs,n,c,h=>hs n c h
 | (m,k)::r,acc,hc,hs,n,c,h=>by
  have hc':∀y∈r,y.2= .free->∃c,cs.lookup y.1=some c:=fun y hy=>hc y (List.mem_cons_of_mem _ hy);have h':(sF r cs (if k== .free then (m,(cs.lookup m).getD 0)::acc else acc)).lookup n=some c:=h;refine EB r _ hc' ?_ n c h';intro n' c' z
  by_cases hk:k= .free
  ·subst hk;obtain⟨d,e⟩:=hc (m,.free) List.mem_cons_self rfl;simp only[beq_self_eq_true,if_true,e,Option.getD_some]at z
   by_cases hm:n'=m
   ·subst hm;simp[List.lookup_cons]at z;subst z;exact e
   ·have hb:(n'==m)=false:=by simpa using hm
    simp[List.lookup_cons,hb]at z;exact hs n' c' z
  ·have hb:(k==NameKind.free)=false:=by simpa using hk
   simp only[hb,Bool.false_eq_true,if_false]at z;exact hs n' c' z
theorem kB {env:Env}(hkf:env.scope.kind= .function):∀{names:List (Str×NameKind)}{x:Str},names.lookup x=some .free->env.kindOf x=some .cell →
  (names.map fun (n,k)=>if (k==NameKind.free&&env.scope.kind== .function&&env.kindOf n==some .cell) then (n,NameKind.cell) else (n,k)).lookup x=some .cell
 | [],_,h,_=>by simp at h
 | (n,k)::r,x,h,hc=>by
  show List.lookup x ((if (k==NameKind.free&&env.scope.kind== .function&&env.kindOf n==some .cell)=true then (n,NameKind.cell) else (n,k))::_)=_;cases hx:x==n with
  | true =>
   simp only[List.lookup_cons,hx]at h;cases h;have e:x=n:=by simpa using hx
   subst e;rw[hkf,hc];simp[List.lookup_cons]
  | false =>
   simp only[List.lookup_cons,hx]at h;have ih:=kB hkf h hc
   split
   ·simp only[List.lookup_cons,hx];exact ih
   ·simp only[List.lookup_cons,hx];exact ih
theorem gQ {env:Env}:∀{names:List (Str×NameKind)}{x:Str}{k':NameKind},(∀y∈names,y.2≠ .cell)->(k'= .cell∨k'= .free) →
  (names.map fun (n,k)=>if (k==NameKind.free&&env.scope.kind== .function&&env.kindOf n==some .cell) then (n,NameKind.cell) else (n,k)).lookup x=some k'->(x,NameKind.free)∈names
 | [],_,_,_,_,h=>by simp at h
 | (n,k)::r,x,k',hn,hk',h=>by
  have h':List.lookup x ((if (k==NameKind.free&&env.scope.kind== .function&&env.kindOf n==some .cell)=true then (n,NameKind.cell) else (n,k))::r.map _)=some k':=h;cases hx:x==n with
  | true =>
   have e:x=n:=by simpa using hx
   subst e
   by_cases hf:k= .free
   ·subst hf;exact List.mem_cons_self
   ·have hb:(k==NameKind.free)=false:=by simpa using hf
    simp only[hb,Bool.false_and,Bool.false_eq_true,if_false,List.lookup_cons,hx]at h';cases h';rcases hk' with z|z
    ·exact absurd z (hn (x,k) List.mem_cons_self)
    ·exact absurd z hf
  | false =>
   have h2:List.lookup x (r.map fun (n,k)=>if (k==NameKind.free&&env.scope.kind== .function&&env.kindOf n==some .cell) then (n,NameKind.cell) else (n,k))=some k':=by
    split at h'
    ·simp only[List.lookup_cons,hx]at h';exact h'
    ·simp only[List.lookup_cons,hx]at h';exact h'
   exact List.mem_cons_of_mem _ (gQ (fun y hy=>hn y (List.mem_cons_of_mem _ hy)) hk' h2)
theorem blk {X:Cx}{scope:Scope}{N:List Str}{nl:Nat}{ci:List Nat} (n0:Nat) (hX:X.env.cells=cellsFrom n0 X.env.scope.names []) (hkf:X.env.scope.kind= .function) (hk:scope.kind= .function)
  (h:QQ X.env.scope.names X.N scope.names N nl ci=true):Blk X scope (sF scope.names X.env.cells []) N nl ci:=by
 unfold QQ at h;rw[Bool.and_eq_true,Bool.and_eq_true]at h;obtain⟨⟨h1,h2⟩,h3⟩:=h;rw[List.all_eq_true]at h1;have h1':∀y∈scope.names,y.2≠ .cell/\(y.2= .local->scope.names.lookup y.1=some .local)/\(y.2= .free->X.env.scope.names.lookup y.1=some .cell/\scope.names.lookup y.1=some .free):=fun y hy=>by
  have q:=h1 y hy;simp only[Bool.and_eq_true,Bool.or_eq_true,bne_iff_ne,ne_eq,beq_iff_eq]at q;obtain⟨⟨q1,q2⟩,q3⟩:=q;exact⟨q1,fun e=>q2.resolve_left fun z=>z e,fun e=>q3.resolve_left fun z=>z e⟩
 have hcs:∀y∈scope.names,y.2= .free->∃c,X.env.cells.lookup y.1=some c:=fun y hy e=>by
  rw[hX];exact v5 ((h1' y hy).2.2 e).1
 refine⟨hk,fun y hy=>(h1' y hy).2.1,fun y hy=>(h1' y hy).1,?_,?_,?_,by simpa using h2,?_⟩
 ·unfold closureFor;refine(congrArg (fun m:Sem (List (Str×Addr))=>m >>= fun cs=>pure cs) (sT scope.names [] hcs)).trans ?_;rfl
 ·exact EB scope.names [] hcs fun n c z=>by cases z
 ·intro n hn;have hm:(n,NameKind.free)∈scope.names:=by
   rcases hn with z|z
   ·exact gQ (fun y hy=>(h1' y hy).1) (.inl rfl) z
   ·exact gQ (fun y hy=>(h1' y hy).1) (.inr rfl) z
  obtain⟨c,e⟩:=hcs _ hm rfl;exact⟨c,(iR scope.names [] n hcs (.inl hm) fun c z=>by cases z).trans e⟩
 ·intro j i hj;have hjl:j<ci.length:=(List.getElem?_eq_some_iff.mp hj).1;rw[List.all_eq_true]at h3;have q:=h3 j (List.mem_range.mpr hjl);rw[hj]at q;cases e:N[nl+j]? with
  | none=>rw[e]at q;cases q
  | some n =>
   rw[e]at q;simp only[Bool.and_eq_true,beq_iff_eq]at q;obtain⟨⟨q1,q2⟩,q3⟩:=q;refine⟨n,rfl,q1,.inl q2,.inl (kB hkf q3 q2),?_⟩;exact iR scope.names [] n hcs (.inl (PySem.mem_of_lookup q3)) fun c z=>by cases z
structure Fc (P:Program)(w:World)(K:PySem.W.Frag)(mg:Str->Option Value)(base:Heap)(x:Str)(k:Nat)(ps:List Str)(sp:Sp):Prop where
 ex:∃f fd,mg x=some (.ref f)/\PySem.W.keepIn K (.ref f)=true/\Binds K fd ps []/\bI P w K mg base CX0 k f fd ps sp
theorem bR {X:Cx}{x:Str}{k k':Nat}{ps:List Str}{sp:Sp}{e:Expr}{es:List Expr}{t:TA}{p pos:Pos} (F:Fc X.prog X.w X.K X.mg X.base x k ps sp) (hr:Room k' X.A) (ha:PA X (e::es) t) (hk:k<=k':=by decide) (hg:Gl X x:=by rfl)
  (hdb:(x==("__debug__" :Str))=false:=by decide)(he:starEach (e::es) X.env=(false,eval e X.env)::starEach es X.env:=by rfl)(hpl:(backTo pos (starEach es X.env)).any (·.1)=false:=by rfl) :
  PE X (.Call (.Name x p) (e::es) [] pos) (xV sp [] E0 t):=by
 obtain⟨f,fd,hm,kp,b,G⟩:=F.ex;exact TN G (hr.mono hk) hg hm kp b .nil yC ha hdb he hpl
theorem CK {X:Cx}{x:Str}{n:String}{pos:Pos} (hg:Gl X x) (hm:X.mg x=none) (hv:bootBuiltins x=some (.type n)) (hn:x≠ "__name__" :=by decide) (hd:(x==("__debug__" :Str))=false:=by decide):PE X (.Name x pos) (tC (.ty n)):=T0 hg hm hv rfl hn hd
theorem SU {X:Cx}{x:Str}{i:Int}{t:Tok}{pos:Pos} (hg:Gl X x) (hm:X.mg x=some (.int i t)) (hd:(x==("__debug__" :Str))=false:=by decide):PE X (.Name x pos) (tC (.int i)):=SV hg hm ⟨t,rfl⟩ hd
theorem iW:bootBuiltins "isinstance" =some (.builtin "isinstance"):=by decide +kernel
theorem X2:bootBuiltins "all" =some (.builtin "all"):=by decide +kernel
theorem nT:bootBuiltins "len" =some (.builtin "len"):=by decide +kernel
theorem W2:bootBuiltins "max" =some (.builtin "max"):=by decide +kernel
theorem X9:bootBuiltins "int" =some (.type "int"):=by decide +kernel
theorem V3:bootBuiltins "str" =some (.type "str"):=by decide +kernel
theorem UB:bootBuiltins "bool" =some (.type "bool"):=by decide +kernel
theorem u3:bootBuiltins "list" =some (.type "list"):=by decide +kernel
theorem UC:bootBuiltins "dict" =some (.type "dict"):=by decide +kernel
inductive BTy (K:PySem.W.Frag)(H:Hp):V->String->Prop where
 | non:BTy K H .non "NoneType"
 | bl (x:Bool):BTy K H (.bl x) "bool"
 | int (i:Int):BTy K H (.int i) "int"
 | str (x:Str):BTy K H (.str x) "str"
 | lst {a:Addr}{xs:List V} (e:H a=some (.lst xs)):BTy K H (.ref a) "list"
 | tup {a:Addr}{xs:List V} (e:H a=some (.tup xs)):BTy K H (.ref a) "tuple"
 | dK {a:Addr}{kvs:List (Key×V)} (e:H a=some (.dK kvs)):BTy K H (.ref a) "dict"
theorem BTy.ty {K:PySem.W.Frag}{H:Hp}{x:V}{n:String} (b:BTy K H x n):i5 K H x (.type n):=by
 cases b with
 | non=>exact .non
 | bl=>exact .bl _
 | int=>exact .int _
 | str=>exact .str _
 | lst e=>exact .lst e
 | tup e=>exact .tup e
 | dK e=>exact .dK e
def isB (n c:String):Bool:=n==c||(n== "bool" &&c== "int")
theorem IS {K:PySem.W.Frag}{H:Hp}{x:V}{n:String} (b:BTy K H x n) (c:String) (hc:c= "int" ∨c= "bool" ∨c= "str"):PySem.W.kitOne K (.type n) (.type c)=some (isB n c):=by
 cases b<;>rcases hc with rfl|rfl|rfl<;>kernel_rfl
end L2
namespace L2
open PySem PySem.Spec PyProof.Rows
section
variable {X:Cx}
theorem NF {x:V}(h:jU x=true):eqV x x=true:=by
 cases x<;>first|rfl|(simp[eqV];done)|exact absurd h Bool.false_ne_true
theorem qV (n:Nat):(List.range n).all (fun _=>true)=true:=by simp
end
structure FunV (K:PySem.W.Frag)(x qual:Str)(st:Stmt)(f:Addr)(fd:FuncData):Prop where
 ex:∃(oc:Value) (od:Option Addr) (dV kV doc pm:Value) (an:Option Addr) (cdv ct:Value) (osl:Array (Option Value)),
  fd=PySem.W.fnOf x qual (aJ st) (aI st) (aB st) dV kV doc pm an cdv ct/\K.lookup f=some ⟨oc,od,.func fd,osl⟩/\PySem.W.codeIn K cdv qual=true
 kp:PySem.W.keepIn K (.ref f)=true
section
variable {P:Program}{w:World}{K:PySem.W.Frag}{mg:Str->Option Value}{base:Heap}
theorem FunV.ok {x qual:Str}{st:Stmt}{f:Addr}{fd:FuncData}{N ps:List Str}{k:Nat}{sp:Sp} (F:FunV K x qual st f fd) (S:aU N ps (aB st)) (len:∀vs H Q E,sp vs H Q E->vs.length=ps.length)
  (hbody:∀(cdv:Value) (A:Around) (outer:List Env) (s:Shared) (H:Hp) (vs:List V) (Q:VK) (E:XK),Room k (A.deeper (envOfC qual (aB st) s.heap.objs.size f cdv))->sp vs H Q E →
   ∃t,PSs (zI CX0 P w K mg base N qual (aB st) f cdv A outer s H E).nox (aI st) t/\t { nx:=fun _ H'=>Q .non H',rt:=Q } (lP N vs) H):bI P w K mg base CX0 (k+1) f fd ps sp:=by
 obtain⟨oc,od,dV,kV,doc,pm,an,cdv,ct,osl,rfl,lk,hcd⟩:=F.ex;refine ZT lk hcd S len fun A outer s H vs Q E hr h=> ?_;obtain⟨t,h1,h2⟩:=hbody cdv A outer s H vs Q E hr h;exact⟨t,PSs.nox h1,h2⟩
theorem aP {x qual:Str}{st:Stmt}{f:Addr}{oc:Value}{od an:Option Addr}{osl:Array (Option Value)}{dV kV doc pm cdv ct:Value} (l:K.lookup f=some ⟨oc,od,.func (PySem.W.fnOf x qual (aJ st) (aI st) (aB st) dV kV doc pm an cdv ct),osl⟩) (c:PySem.W.codeIn K cdv qual=true)
  (k:PySem.W.keepIn K (.ref f)=true):FunV K x qual st f (PySem.W.fnOf x qual (aJ st) (aI st) (aB st) dV kV doc pm an cdv ct):=⟨⟨oc,od,dV,kV,doc,pm,an,cdv,ct,osl,rfl,l,c⟩,k⟩
structure Mc (P:Program)(w:World)(K:PySem.W.Frag)(mg:Str->Option Value)(base:Heap)(C:Addr)(nm:Str)(k:Nat)(sp:Sp):Prop where
 ex:∃f fd ps,Cls K C/\eY K C nm f/\Binds K fd ps []/\bI P w K mg base CX0 k f fd ps sp
structure Kc (P:Program)(w:World)(K:PySem.W.Frag)(mg:Str->Option Value)(base:Heap)(x:Str)(C:Addr)(k:Nat)(dvs:List V)(sp:Sp):Prop where
 ex:∃f fd ps ds,mg x=some (.ref C)/\Mk K C f/\Vals dvs ds/\Binds K fd ps ds/\bI P w K mg base CX0 k f fd ps sp
end
section
variable {X:Cx}{k k':Nat}{sp:Sp}{x m:Str}{p pos apos:Pos}{e o:Expr}{es:List Expr}{ta:TE}{t:TA}{C:Addr}{dvs:List V}
def tMD (M:Addr->Sp->Prop)(m:Str)(ta:TE)(t:TA):TE:=fun σ H Q=>ta σ H fun x H1=>∃a C dx fs sp,x= .ref a/\H1 a=some (.ins C dx fs)/\fs.lookup m=none/\M C sp/\t σ H1 fun vs H2=>sp (x::vs) H2 Q E0
theorem hU (k:Nat){pl:Sem Bool}(hr:Room k' X.A)(ho:PE X o ta)(ha:PA X (e::es) t)(hk:k<=k':=by decide)
  (hst:starEach (e::es) X.env=(false,eval e X.env)::starEach es X.env:=by rfl)(hpl:(backTo pos (starEach es X.env)).any (·.1)=false:=by rfl)
  (ht:eval (.Call (.Attribute o m apos) (e::es) [] pos) X.env=(do
   let ov ←eval o X.env
   standAt apos.atName
   let (f,first) ←holding [ov] (getMethod ov m pl)
   callWith pos f first (backTo pos (starEach (e::es) X.env)) (backToKw pos (keywordEach [] X.env))):=by rfl) :
  PE X (.Call (.Attribute o m apos) (e::es) [] pos) (tMD (fun C sp=>Mc X.prog X.w X.K X.mg X.base C m k sp) m ta t):=by
 intro pins s σ H Q I h;refine PySem.W.methodCall_KW (pl:=pl) (thn (ho pins s σ H _ I h) fun u s1 ⟨x,H1,I1,rx,a,C,dx,fs,sp,ex,ea,l,M,q⟩=> ?_) ht;subst ex;obtain rfl:u=Value.ref a:=rx;obtain⟨f,fd,ps,c,hm,hb,F⟩:=M.ex;refine xC I1 ea c hm l ?_;refine PySem.W.callWith_K (first:=[.ref a]) (h₀:=X.base) I.ok.mod.kin hm.kp (thn (ha pos pins s1 σ H1 _ I1 q) fun us s2 ⟨vs,H2,I2,r,q2⟩=>⟨I2.kIn,?_⟩) hst hpl;exact xL (us:= .ref a::us) (vs:= .ref a::vs) (dvs:=[]) F (hr.mono hk) hb .nil yC I2 (.cons rfl r) (by rw[List.append_nil];exact q2)
theorem gJ (k:Nat){pl:Sem Bool}(hr:Room k' X.A)(ho:PE X o ta)(hk:k<=k':=by decide)
  (ht:eval (.Call (.Attribute o m apos) [] [] pos) X.env=(do
   let ov ←eval o X.env
   standAt apos.atName
   let (f,first) ←holding [ov] (getMethod ov m pl)
   callWith pos f first (backTo pos (starEach [] X.env)) (backToKw pos (keywordEach [] X.env))):=by rfl) :
  PE X (.Call (.Attribute o m apos) [] [] pos) (tMD (fun C sp=>Mc X.prog X.w X.K X.mg X.base C m k sp) m ta O5):=by
 intro pins s σ H Q I h;refine PySem.W.methodCall_KW (pl:=pl) (thn (ho pins s σ H _ I h) fun u s1 ⟨x,H1,I1,rx,a,C,dx,fs,sp,ex,ea,l,M,q⟩=> ?_) ht;subst ex;obtain rfl:u=Value.ref a:=rx;obtain⟨f,fd,ps,c,hm,hb,F⟩:=M.ex;refine xC I1 ea c hm l ?_;exact PySem.W.callWith_K0 (first:=[.ref a]) I1.kIn hm.kp (xL (us:=[.ref a]) (vs:=[.ref a]) (dvs:=[]) F (hr.mono hk) hb .nil yC I1 (.cons rfl .nil) q)
theorem CB (F:Kc X.prog X.w X.K X.mg X.base x C k dvs sp)(hr:Room k' X.A)(ha:PA X (e::es) t)(hk:k+1<=k':=by decide)(hg:Gl X x:=by rfl)
  (hdb:(x==("__debug__" :Str))=false:=by decide)(he:starEach (e::es) X.env=(false,eval e X.env)::starEach es X.env:=by rfl)(hpl:(backTo pos (starEach es X.env)).any (·.1)=false:=by rfl) :
  PE X (.Call (.Name x p) (e::es) [] pos) (IB C sp dvs E0 t):=by
 obtain⟨f,fd,ps,ds,hm,M,hd,hb,G⟩:=F.ex;exact RV M G (hr.mono hk) hg hm hb hd yC ha hdb he hpl
structure Dc (P:Program)(w:World)(K:PySem.W.Frag)(mg:Str->Option Value)(base:Heap)(x m:Str)(k:Nat)(sp:Sp):Prop where
 ex:∃C f fd ps,mg x=some (.ref C)/\PySem.W.specialIn K (.ref C) "__getattribute__" =some (some (.builtin "type.__getattribute__"))/\PySem.W.readsIn K C (.type "type")=true/\PySem.W.findCls K (.ref C) (.type "type") m=some (.val (.ref f)) ∧
  PySem.W.keepIn K (.ref f)=true/\Binds K fd ps []/\bI P w K mg base CX0 k f fd ps sp
theorem QH {pl:Sem Bool}(F:Dc X.prog X.w X.K X.mg X.base x m k sp)(hr:Room k' X.A)(ha:PA X (e::es) t)(hk:k<=k':=by decide)(hg:Gl X x:=by rfl)(hdb:(x==("__debug__" :Str))=false:=by decide)
  (hst:starEach (e::es) X.env=(false,eval e X.env)::starEach es X.env:=by rfl)(hpl:(backTo pos (starEach es X.env)).any (·.1)=false:=by rfl)
  (ht:eval (.Call (.Attribute (.Name x p) m apos) (e::es) [] pos) X.env=(do
   let ov ←eval (.Name x p) X.env
   standAt apos.atName
   let (f,first) ←holding [ov] (getMethod ov m pl)
   callWith pos f first (backTo pos (starEach (e::es) X.env)) (backToKw pos (keywordEach [] X.env))):=by rfl) :
  PE X (.Call (.Attribute (.Name x p) m apos) (e::es) [] pos) (xV sp [] E0 t):=by
 intro pins s σ H Q I h;obtain⟨C,f,fd,ps,hm,hga,hrd,hfc,kp,hb,G⟩:=F.ex;refine PySem.W.methodCall_KW (pl:=pl) (uJ I hg hm ?_ hdb) ht;refine PySem.W.method_cls I.kIn hga (PySem.W.cls_value I.kIn hrd hfc (AQ (v:= .ref f) rfl) ?_);have I1:=I.tok (s.toks+1);refine PySem.W.callWith_K (first:=[]) (h₀:=X.base) I.ok.mod.kin kp (thn (ha pos pins _ σ H _ I1 h) fun us s2 ⟨vs,H2,I2,r,q2⟩=>⟨I2.kIn,?_⟩) hst hpl;exact xL G (hr.mono hk) hb .nil yC I2 r q2
end
end L2
namespace L2
open PySem PySem.Spec PyProof.Rows
def XR:R2:=fun x y H Q=>y= .non/\Q (.bl (decide (x= .non))) H
def IH:R2:=fun x y H Q=>y= .non/\Q (.bl (!decide (x= .non))) H
def aAm:R2:=fun x y H Q=>∃i j,x= .str i/\y= .str j/\Q (.bl (!decide (j.cps.toList<i.cps.toList))) H
def VE (K:PySem.W.Frag):List V->Hp->VK->Prop:=fun xs H Q=>∃x c t u b,xs=[x,c]/\i5 K H x t/\RelV c u/\PySem.W.kitOne K t u=some b/\Q (.bl b) H
def aAe (K:PySem.W.Frag):List V->Hp->VK->Prop:=fun xs H Q=>∃(p:Addr) (bs:List Bool),xs=[.ref p]/\SqL K H p (bs.map V.bl)/\Q (.bl (bs.all id)) H
def ZE:List V->Hp->VK->Prop:=fun xs H Q=>∃z,xs=[.str z]/\z.length<=sizeLine/\Q (.int z.length) H
def QP (K:PySem.W.Frag):List V->Hp->VK->Prop:=fun xs H Q=>∃p ys,xs=[.ref p]/\(SqL K H p ys∨SqT K H p ys)/\Q (.int ys.length) H
def QI:List V->Hp->VK->Prop:=fun xs H Q=>∃i j,xs=[.int i,.int j]/\Q (.int (if j>i then j else i)) H
def HC (K:PySem.W.Frag):List V->Hp->VK->Prop:=fun xs H Q=>∃p ys,xs=[.ref p]/\(SqL K H p ys∨SqT K H p ys)/\∀l,H l=none->Q (.ref l) (upd H l (.lst ys))
section
variable {X:Cx}
theorem U5:OpR X (compareOp .Is) XR:=WP
theorem SF:OpR X (compareOp .IsNot) IH:=RJ
theorem ME:OpR X (compareOp .LtE) aAm:=J6
theorem rJ:dO X (.builtin "isinstance") (VE X.K):=FV
theorem OO (hc:X.calm=true):dO X (.builtin "all") (aAe X.K):=zH hc
theorem MK:dO X (.builtin "len") ZE:=DR
theorem jH:dO X (.builtin "len") (QP X.K):=DZ
theorem KU (hc:X.calm=true):dO X (.builtin "max") QI:=MU hc
theorem HI:dO X (.type "list") (HC X.K):=C5
theorem GV {i j:Int}(n:Int){k1 k2 p1 p2 pos}(h:i^j.toNat=n)(c:U0 i j):PE X (.BinOp (.Constant (.int i) k1 p1) .Pow (.Constant (.int j) k2 p2) pos) (tC (.int n)):=by
 subst h;intro pins s σ H Q I q;exact aL XO aF aF pins s σ H Q I ⟨i,j,rfl,rfl,c,q⟩
end
def xG (P:Bool->Hp->Prop):VK:=fun x H=>∃k,x= .bl k/\P k H
def X5 (O:Option Int->Hp->Prop):VK:=fun x H=>∃i,x= .int i/\O (some i) H
def XZ (Q:VK):List V->Hp->Prop:=fun xs H=>xs.length<=sizeLine/\∀p,H p=none->Q (.ref p) (upd H p (.lst xs))
def X7 (Q:VK):List V->Hp->Prop:=fun xs H=>xs.length<=sizeLine/\∀p,H p=none->Q (.ref p) (upd H p (.tup xs))
def X8 (Q:VK):List V->Hp->Prop:=fun ys H=>∀p,H p=none->Q (.ref p) (upd H p (.lst ys))
def XL (K:PySem.W.Frag)(f:Str)(Q:VK):VK:=fun x H=>∃a C dx fs v,x= .ref a/\H a=some (.ins C dx fs)/\Cls K C/\NoAttr K C f/\fs.lookup f=some v/\Q v H
def QJ (K:PySem.W.Frag)(f:Str)(y:V)(q:Hp->Prop):VK:=fun x H=>∃a C dx fs,x= .ref a/\H a=some (.ins C dx fs)/\Cls K C/\NoAttr K C f/\fs.length<1000/\q (upd H a (.ins C dx (cU f y fs)))
def MdP (M:Addr->Sp->Prop)(m:Str)(t:TA)(σ:St)(Q:VK):VK:=fun x H=>∃a C dx fs sp,x= .ref a/\H a=some (.ins C dx fs)/\fs.lookup m=none/\M C sp/\t σ H fun vs H2=>sp (x::vs) H2 Q E0
def uQ (C:Addr)(sp:Sp)(dvs:List V)(E:XK)(Q:VK):List V->Hp->Prop:=fun vs H1=>∀x dx,H1 x=none->H1 dx=none->dx≠x →
 sp (.ref x::(vs++dvs)) (upd (upd H1 dx (.own x)) x (.ins C dx [])) (fun v H2=>v= .non/\Q (.ref x) H2) E
def BmP (K:PySem.W.Frag)(T:String)(r:V->List V->Hp->VK->Prop)(t:TA)(σ:St)(Q:VK):VK:=fun x H1=>tyV K T x H1/\t σ H1 fun xs H2=>r x xs H2 Q
def XG (K:PySem.W.Frag)(T:String)(r:V->List V->Hp->VK->Prop)(Q:VK):VK:=fun x H1=>tyV K T x H1/\r x [] H1 Q
def X4 (K:PySem.W.Frag)(R:It->Hp->Prop):VK:=fun x H1=>∃a,x= .ref a/\(∃xs,SqL K H1 a xs)/\R (Itl K a) H1
def XU (R:It->Hp->Prop):List V->Hp->Prop:=fun vs H1=>∃j:Int,vs=[.int j]/\ -(2^62)<=j/\j<2^62/\R (Itr 0 j.toNat) H1
def WU (R:It->Hp->Prop):List V->Hp->Prop:=fun vs H1=>∃i j:Int,vs=[.int i,.int j]/\(-(2^62)<=i/\i<2^62/\ -(2^62)<=j/\j<2^62)/\R (Itr i (j - i).toNat) H1
section
variable {nx bk ct:St->Hp->Prop}{rt:VK}{σ:St}{H:Hp}{Q:VK}{t u:TS}{te ta tb tc:TE}{g:TG}{c d:TT}{v:V}{K:PySem.W.Frag}{E:XK}
theorem VM (h:t ⟨u ⟨nx,rt,bk,ct⟩,rt,bk,ct⟩ σ H):CY t u ⟨nx,rt,bk,ct⟩ σ H:=h
theorem qG (R:St->Hp->Prop)(h2:∀σ' H',R σ' H'->u ⟨nx,rt,bk,ct⟩ σ' H')(h1:∀nx':St->Hp->Prop,(∀σ' H',R σ' H'->nx' σ' H')->t ⟨nx',rt,bk,ct⟩ σ H):CY t u ⟨nx,rt,bk,ct⟩ σ H:=h1 _ h2
theorem PM {v:TS}(h:CY (IV c t u) v ⟨nx,rt,bk,ct⟩ σ H):CY (IV c t u) v ⟨nx,rt,bk,ct⟩ σ H:=h
theorem TV (h:nx σ H):QU ⟨nx,rt,bk,ct⟩ σ H:=h
theorem W4 (h:te σ H fun x H1=>g x σ H1 nx):OW te g ⟨nx,rt,bk,ct⟩ σ H:=h
theorem YF (h:te σ H rt):VU te ⟨nx,rt,bk,ct⟩ σ H:=h
theorem RI (h:te σ H fun _ H1=>nx σ H1):QV te ⟨nx,rt,bk,ct⟩ σ H:=h
theorem ZS (h:c σ H fun b H1=>if b=true then t ⟨nx,rt,bk,ct⟩ σ H1 else u ⟨nx,rt,bk,ct⟩ σ H1):IV c t u ⟨nx,rt,bk,ct⟩ σ H:=h
def CM (J:It)(g:TG)(tb:TS)(D:pK)(σ:St)(H:Hp):Prop :=
 ∃W:Nat->Nat->St->Hp->Prop,(∃m,W 0 m σ H)/\∀i m σ H,W i m σ H →
  (J.stop i H/\D.nx σ H)∨(J.go i H/\∃N:St->Hp->Prop,(∀σ' H',N σ' H'->∃m',m'<m/\W (i+1) m' σ' H')/\∀x H',J.yld i H x H'->g x σ H' fun σ2 H2=>tb { D with nx:=N,ct:=N,bk:=D.nx } σ2 H2)
theorem WV {wi:TI}{tb:TS} (h:wi σ H fun J H1=>CM J g tb ⟨nx,rt,bk,ct⟩ σ H1):WS wi g tb ⟨nx,rt,bk,ct⟩ σ H:=h
theorem ZZ {l:St}(h:Q v H):jX 0 (some v::l) H Q:=⟨v,rfl,h⟩
theorem ZQ {a0}{l:St} (h:Q v H):jX 1 (a0::some v::l) H Q:=⟨v,rfl,h⟩
theorem ZN {a0 a1}{l:St} (h:Q v H):jX 2 (a0::a1::some v::l) H Q:=⟨v,rfl,h⟩
theorem ZK {a0 a1 a2}{l:St} (h:Q v H):jX 3 (a0::a1::a2::some v::l) H Q:=⟨v,rfl,h⟩
theorem Y4 {a0 a1 a2 a3}{l:St} (h:Q v H):jX 4 (a0::a1::a2::a3::some v::l) H Q:=⟨v,rfl,h⟩
theorem ZR {a0 a1 a2 a3 a4}{l:St} (h:Q v H):jX 5 (a0::a1::a2::a3::a4::some v::l) H Q:=⟨v,rfl,h⟩
theorem ZA {a0 a1 a2 a3 a4 a5}{l:St} (h:Q v H):jX 6 (a0::a1::a2::a3::a4::a5::some v::l) H Q:=⟨v,rfl,h⟩
theorem Z0 {a0 a1 a2 a3 a4 a5 a6}{l:St} (h:Q v H):jX 7 (a0::a1::a2::a3::a4::a5::a6::some v::l) H Q:=⟨v,rfl,h⟩
theorem Z1 {a0 a1 a2 a3 a4 a5 a6 a7}{l:St} (h:Q v H):jX 8 (a0::a1::a2::a3::a4::a5::a6::a7::some v::l) H Q:=⟨v,rfl,h⟩
theorem Y8 {a0 a1 a2 a3 a4 a5 a6 a7 a8}{l:St} (h:Q v H):jX 9 (a0::a1::a2::a3::a4::a5::a6::a7::a8::some v::l) H Q:=⟨v,rfl,h⟩
theorem YC {a0 a1 a2 a3 a4 a5 a6 a7 a8 a9}{l:St} (h:Q v H):jX 10 (a0::a1::a2::a3::a4::a5::a6::a7::a8::a9::some v::l) H Q:=⟨v,rfl,h⟩
theorem WX {a0 a1 a2 a3 a4 a5 a6 a7 a8 a9 a10}{l:St} (h:Q v H):jX 11 (a0::a1::a2::a3::a4::a5::a6::a7::a8::a9::a10::some v::l) H Q:=⟨v,rfl,h⟩
variable {q:St->Hp->Prop}
theorem YT {a0 a}{l:St} (h:q (a0::some v::l) H):cX 1 v (a0::a::l) H q:=h
theorem Y9 {a0 a1 a}{l:St} (h:q (a0::a1::some v::l) H):cX 2 v (a0::a1::a::l) H q:=h
theorem YZ {a0 a1 a2 a}{l:St} (h:q (a0::a1::a2::some v::l) H):cX 3 v (a0::a1::a2::a::l) H q:=h
theorem YW {a0 a1 a2 a3 a}{l:St} (h:q (a0::a1::a2::a3::some v::l) H):cX 4 v (a0::a1::a2::a3::a::l) H q:=h
theorem YX {a0 a1 a2 a3 a4 a}{l:St} (h:q (a0::a1::a2::a3::a4::some v::l) H):cX 5 v (a0::a1::a2::a3::a4::a::l) H q:=h
theorem ZM {a0 a1 a2 a3 a4 a5 a}{l:St} (h:q (a0::a1::a2::a3::a4::a5::some v::l) H):cX 6 v (a0::a1::a2::a3::a4::a5::a::l) H q:=h
theorem Y5 {a0 a1 a2 a3 a4 a5 a6 a}{l:St} (h:q (a0::a1::a2::a3::a4::a5::a6::some v::l) H):cX 7 v (a0::a1::a2::a3::a4::a5::a6::a::l) H q:=h
theorem ZI {a0 a1 a2 a3 a4 a5 a6 a7 a}{l:St} (h:q (a0::a1::a2::a3::a4::a5::a6::a7::some v::l) H):cX 8 v (a0::a1::a2::a3::a4::a5::a6::a7::a::l) H q:=h
theorem YS {a0 a1 a2 a3 a4 a5 a6 a7 a8 a}{l:St} (h:q (a0::a1::a2::a3::a4::a5::a6::a7::a8::some v::l) H):cX 9 v (a0::a1::a2::a3::a4::a5::a6::a7::a8::a::l) H q:=h
theorem XQ {a0 a1 a2 a3 a4 a5 a6 a7 a8 a9 a}{l:St} (h:q (a0::a1::a2::a3::a4::a5::a6::a7::a8::a9::some v::l) H):cX 10 v (a0::a1::a2::a3::a4::a5::a6::a7::a8::a9::a::l) H q:=h
theorem WH {a0 a1 a2 a3 a4 a5 a6 a7 a8 a9 a10 a}{l:St} (h:q (a0::a1::a2::a3::a4::a5::a6::a7::a8::a9::a10::some v::l) H):cX 11 v (a0::a1::a2::a3::a4::a5::a6::a7::a8::a9::a10::a::l) H q:=h
theorem aAh (h:Q v H):tC v σ H Q:=h
theorem Y3 {r:R2}(h:ta σ H fun x H1=>tb σ H1 fun y H2=>r x y H2 Q):tOp r ta tb σ H Q:=h
theorem ZG {f:Int->Int->V}{i j:Int} (h:Q (f i j) H):rI0 f (.int i) (.int j) H Q:=⟨i,j,rfl,rfl,h⟩
theorem VJ {f:Int->Int->V}{i j:Int} (h0:0<j) (h1:j<1073741824) (h:Q (f i j) H):rI VO f (.int i) (.int j) H Q:=⟨i,j,rfl,rfl,⟨h0,h1⟩,h⟩
theorem W0 {f:Int->Int->V}{i j:Int} (h0:0<j) (h:Q (f i j) H):rI (fun _ j=>0<j) f (.int i) (.int j) H Q:=⟨i,j,rfl,rfl,h0,h⟩
theorem RL {f:Int->Int->V}{i j:Int} (h0: -18446744073709551616<i) (h1:i<18446744073709551616) (h:Q (f i j) H):rI CMul f (.int i) (.int j) H Q:=⟨i,j,rfl,rfl,.inl ⟨by lia,by lia⟩,h⟩
theorem TU {f:Int->Int->V}{i j:Int} (h0: -18446744073709551616<j) (h1:j<18446744073709551616) (h:Q (f i j) H):rI CMul f (.int i) (.int j) H Q:=⟨i,j,rfl,rfl,.inr ⟨by lia,by lia⟩,h⟩
theorem KQ {f:Int->Int->V}{i j:Int} (h0:0<=j) (h:Q (f i j) H):rI (fun _ j=>0<=j) f (.int i) (.int j) H Q:=⟨i,j,rfl,rfl,h0,h⟩
theorem Z2 {i j:Int}:decide (V.int i=V.int j)=decide (i=j):=by simp
theorem YR {i j:Str}:decide (V.str i=V.str j)=decide (i=j):=by simp
theorem VD {i j:Int}(h:Q (.bl (decide (i=j))) H):rEq (.int i) (.int j) H Q:=⟨rfl,by rw[Z2];exact h⟩
theorem W1 {i j:Str}(h:Q (.bl (decide (i=j))) H):rEq (.str i) (.str j) H Q:=⟨rfl,by rw[YR];exact h⟩
theorem RN {i:Str}(h:Q (.bl false) H):rEq .non (.str i) H Q:=⟨rfl,by rw[decide_eq_false (fun z=>by cases z)];exact h⟩
theorem SN (h:Q (.bl (decide (v= .non))) H):XR v .non H Q:=⟨rfl,h⟩
theorem RT (h:Q (.bl false) H):IH .non .non H Q:=⟨rfl,h⟩
theorem RU {i:Str}(h:Q (.bl true) H):IH (.str i) .non H Q:=⟨rfl,by rw[decide_eq_false (fun z=>by cases z)];exact h⟩
theorem RB (h:ta σ H (xG fun c H1=>if c=true then tb σ H1 Q else Q (.bl false) H1)):QX ta tb σ H Q:=h
theorem X3 (h:c σ H fun k H1=>if k=true then ta σ H1 Q else tb σ H1 Q):tIf c ta tb σ H Q:=h
theorem O2 {r r':R2}(h:ta σ H fun x H1=>tb σ H1 fun y H2=>r x y H2 (xG fun k H3=>if k=true then tc σ H3 fun w' H4=>r' y w' H4 Q else Q (.bl false) H3)):ET r r' ta tb tc σ H Q:=h
theorem SI {sp:Sp}{t:TA} (h:t σ H fun vs H1=>sp vs H1 Q E):xV sp [] E t σ H Q:=by
 unfold xV;simp only[List.append_nil];exact h
theorem Y0 {r:List V->Hp->VK->Prop}{t:TA} (h:t σ H fun vs H1=>r vs H1 Q):tCB r t σ H Q:=h
theorem WI {t:TA}(h:t σ H (XZ Q)):WD t σ H Q:=h
theorem VY {t:TA}(h:t σ H (X7 Q)):YE t σ H Q:=h
theorem fT {o:HO}{R:V->Hp->Prop} (h:∀p H',H p=none->Same H H'->H' p=some o->R (.ref p) H'):∀p,H p=none->R (.ref p) (upd H p o) :=
 fun p hp=>h p _ hp (fun b u e=>by rw[aT (bL e hp)];exact e) bK
theorem TL {xs:List V}(hn:xs.length<=sizeLine)(h:∀p H',H p=none->Same H H'->H' p=some (.lst xs)->Q (.ref p) H'):XZ Q xs H:=⟨hn,fT h⟩
theorem TZ {xs:List V}(hn:xs.length<=sizeLine)(h:∀p H',H p=none->Same H H'->H' p=some (.tup xs)->Q (.ref p) H'):X7 Q xs H:=⟨hn,fT h⟩
theorem SM {xs:List V}(h:∀p H',H p=none->Same H H'->H' p=some (.lst xs)->Q (.ref p) H'):X8 Q xs H:=fT h
theorem WY {f:Str}(h:ta σ H (XL K f Q)):OI K ta f σ H Q:=h
theorem RC {a C dx:Addr}{fs:List (Str×V)}{f:Str} (e:H a=some (.ins C dx fs)) (cl:Cls K C) (na:NoAttr K C f) (l:fs.lookup f=some v) (h:Q v H):XL K f Q (.ref a) H:=⟨a,C,dx,fs,v,rfl,e,cl,na,l,h⟩
theorem UH {f:Str}(h:ta σ H fun y H1=>tb σ H1 (QJ K f y (nx σ))):XY K tb ta f ⟨nx,rt,bk,ct⟩ σ H:=h
theorem NG {a C dx:Addr}{fs:List (Str×V)}{f:Str}{y:V}{w:Hp->Prop} (e:H a=some (.ins C dx fs)) (cl:Cls K C) (na:NoAttr K C f) (l:decide (fs.length<1000)=true)
  (h:∀H',(∀b o,H b=some o->b≠a->H' b=some o)->H' a=some (.ins C dx (cU f y fs))->w H'):QJ K f y w (.ref a) H :=
 ⟨a,C,dx,fs,rfl,e,cl,na,of_decide_eq_true l,h _ (fun b o q hb=>by rw[aT hb];exact q) bK⟩
theorem YV {M:Addr->Sp->Prop}{m:Str}{t:TA} (h:ta σ H (MdP M m t σ Q)):tMD M m ta t σ H Q:=h
theorem WF {M:Addr->Sp->Prop}{m:Str}{t:TA}{a C dx:Addr}{fs:List (Str×V)}{sp:Sp} (e:H a=some (.ins C dx fs)) (l:fs.lookup m=none) (F:M C sp) (h:t σ H fun vs H2=>sp (.ref a::vs) H2 Q E0):MdP M m t σ Q (.ref a) H :=
 ⟨a,C,dx,fs,sp,rfl,e,l,F,h⟩
theorem TR {C:Addr}{sp:Sp}{dvs:List V}{t:TA} (h:t σ H (uQ C sp dvs E Q)):IB C sp dvs E t σ H Q:=h
theorem wM {C:Addr}{sp:Sp}{dvs vs:List V}{fs:List (Str×V)}
  (hsp:∀p dx H0 (Q':VK),H0 p=some (.ins C dx [])->(∀H',(∀b o,H0 b=some o->b≠p->H' b=some o)->H' p=some (.ins C dx fs)->Q' .non H')->Same H H0->sp (.ref p::(vs++dvs)) H0 Q' E)
  (k:∀p dx H',H p=none->Same H H'->H' p=some (.ins C dx fs)->Q (.ref p) H'):uQ C sp dvs E Q vs H:=by
 intro x dx nx nd ne;have s0:Same H (upd (upd H dx (.own x)) x (.ins C dx [])):=fun b o e=>by
  rw[aT (bL e nx),aT (bL e nd)];exact e
 exact hsp x dx _ _ bK (fun H' sb e=>⟨rfl,k x dx H' nx (fun b o q=>sb b o (s0 b o q) (bL q nx)) e⟩) s0
theorem TB {wi:TI}{nl:Nat}{ci:List Nat}{ti:TT} (h:wi σ H fun J H1=>g9 J g ti te (cD nl ci σ) (X8 Q) H1):HS wi nl ci g ti te σ H Q:=h
theorem YU {r:V->Option Int->Option Int->Hp->VK->Prop}{tl th:TO} (h:te σ H fun x H1=>tl σ H1 fun l H2=>th σ H2 fun u H3=>r x l u H3 Q):tSl r te tl th σ H Q:=h
theorem LH {a:Addr}{xs:List V}{lo hi:Option Int} (e:SqL K H a xs) (h:∀p H',H p=none->Same H H'->H' p=some (.lst (vZ xs lo hi))->Q (.ref p) H'):N0 K (.ref a) lo hi H Q:=⟨a,xs,rfl,e,fT h⟩
theorem UF {p:Addr}{a b i:Int} (e:SqL K H p [.int a,.int b]) (h0:0<=i) (h1:i<2) (h:∀v,(i=0/\v=a)∨(i=1/\v=b)->Q (.int v) H):CN K (.ref p) (.int i) H Q:=by
 have:i=0∨i=1:=by lia
 rcases this with rfl|rfl
 ·exact⟨p,_,0,_,rfl,rfl,e,rfl,h a (.inl ⟨rfl,rfl⟩)⟩
 ·exact⟨p,_,1,_,rfl,rfl,e,rfl,h b (.inr ⟨rfl,rfl⟩)⟩
def yS (ns:List Int)(lo hi:Option Int):List Int:=(ns.drop (HT.sIx ns.length 0 lo)).take (HT.sIx ns.length ns.length hi - HT.sIx ns.length 0 lo)
theorem MI (ns:List Int)(lo hi:Option Int):vZ (ns.map V.int) lo hi=(yS ns lo hi).map V.int:=by
 unfold vZ yS;rw[List.length_map,List.map_take,List.map_drop]
theorem XA {a:Addr}{ns:List Int}{lo hi:Option Int} (e:SqL K H a (ns.map V.int)) (h:∀p H',H p=none->Same H H'->H' p=some (.lst ((yS ns lo hi).map V.int))->Q (.ref p) H'):N0 K (.ref a) lo hi H Q :=
 LH e (by rw[MI];exact h)
theorem GM {l b:Addr}{xs zs:List V} (e:H l=some (.lst xs)) (e2:H b=some (.lst zs)) (hn:xs.length+zs.length<=sizeLine) (h:∀p H',H p=none->Same H H'->H' p=some (.lst (xs++zs))->Q (.ref p) H'):W6 (.ref l) (.ref b) H Q :=
 ⟨l,b,xs,zs,rfl,rfl,e,e2,hn,fT h⟩
theorem YY {T:String}{r:V->List V->Hp->VK->Prop}{to:TE}{t:TA} (h:to σ H (BmP K T r t σ Q)):tBM K T r to t σ H Q:=h
theorem WK {T:String}{r:V->List V->Hp->VK->Prop}{to:TE} (h:to σ H (XG K T r Q)):W3 K T r to σ H Q:=h
theorem VH {r:V->List V->Hp->VK->Prop}{t:TA}{p:Addr}{xs:List V} (e:SqL K H p xs) (h:t σ H fun xs H2=>r (.ref p) xs H2 Q):BmP K "list" r t σ Q (.ref p) H:=⟨.inl ⟨rfl,xs,e⟩,h⟩
theorem UI {r:V->List V->Hp->VK->Prop}{i:Int} (h:r (.int i) [] H Q):XG K "int" r Q (.int i) H:=⟨rfl,h⟩
structure ICls (K:PySem.W.Frag)(C:Addr):Prop where
 cl:Cls K C
 ha:PySem.W.findIn K (.ref C) "__class__" =some (some (.builtin "object.__class__"))
 hn:PySem.W.specialIn K (.builtin "object.__class__") "__get__" =some (some (.builtin "getset_descriptor.__get__"))
 tk:PySem.W.takesIn K (.builtin "object.__class__")=some true
 hm:PySem.W.mroIn K C (.type "object")=some true
theorem RP {p:Addr}{ys:List V} (e:SqL K H p ys) (h:Q (.int ys.length) H):QP K [.ref p] H Q:=⟨p,ys,rfl,.inl e,h⟩
theorem RS {i j:Int}(h:Q (.int (max i j)) H):QI [.int i,.int j] H Q:=⟨i,j,rfl,by
 have e:(if j>i then j else i)=max i j:=by lia
 rw[e];exact h⟩
theorem LW {p:Addr}{ys:List V} (e:SqL K H p ys) (h:∀l H',H l=none->Same H H'->H' l=some (.lst ys)->Q (.ref l) H'):HC K [.ref p] H Q:=⟨p,ys,rfl,.inl e,fT h⟩
variable {B:Bool->Hp->Prop}
theorem UG (h:te σ H (xG B)):IN te σ H B:=h
theorem ZV (h:te σ H (xG B)):tB te σ H B:=h
theorem VC (h:c σ H fun k H1=>if k=true then d σ H1 B else B false H1):WM c d σ H B:=h
theorem ZL (h:c σ H fun k H1=>if k=true then B true H1 else d σ H1 B):tOr c d σ H B:=h
theorem VL (h:c σ H fun k H1=>B (!k) H1):X0 c σ H B:=h
theorem VB {b:Bool}{P:Bool->Hp->Prop} (h:P b H):xG P (.bl b) H:=⟨b,rfl,h⟩
theorem LB {A B:Prop}(h:A):if true=true then A else B:=by rw[if_pos rfl];exact h
theorem J5 {A B:Prop}(h:B):if false=true then A else B:=by rw[if_neg Bool.false_ne_true];exact h
theorem R6 {A B:Prop}(h:B):if (!true)=true then A else B:=J5 h
theorem SY {A B:Prop}(h:A):if (!false)=true then A else B:=LB h
theorem VZ {p A B:Prop}[Decidable p](hp:¬p)(h:B):if decide p=true then A else B:=by rw[if_neg (by rw[decide_eq_false hp];exact Bool.false_ne_true)];exact h
theorem cS {p A B:Prop}[Decidable p](h1:p->A)(h2:¬p->B):if decide p=true then A else B:=yH (fun h=>h1 (of_decide_eq_true h)) fun h=>h2 fun z=>h (decide_eq_true z)
variable {L:List V->Hp->Prop}{O:Option Int->Hp->Prop}{tr:TA}
theorem U8 (h:L [] H):O5 σ H L:=h
theorem TK (h:te σ H fun x H1=>tr σ H1 fun xs H2=>L (x::xs) H2):Q3 te tr σ H L:=h
theorem RA (h:te σ H (X5 O)):Q2 te σ H O:=h
theorem XC {i:Int}(h:O (some i) H):X5 O (.int i) H:=⟨i,rfl,h⟩
variable {vs:List V}{gs:TGs}
theorem R9 (h:q σ H):DB [] σ H q:=⟨rfl,h⟩
theorem P5 (h:g v σ H fun σ' H'=>gs vs σ' H' q):m9 g gs (v::vs) σ H q:=⟨v,vs,rfl,h⟩
theorem SJ {a:Addr}{n:Nat} (e:SqT K H a vs) (hl:vs.length=n) (h:gs vs σ H q):yT K n gs (.ref a) σ H q:=⟨a,vs,rfl,e,hl,h⟩
variable {R:It->Hp->Prop}
theorem NJ (h:te σ H (X4 K R)):QO K te σ H R:=h
theorem AG {a:Addr}{xs:List V} (e:SqL K H a xs) (h:R (Itl K a) H):X4 K R (.ref a) H:=⟨a,rfl,⟨xs,e⟩,h⟩
theorem NP (h:tr σ H (XU R)):Q0 tr σ H R:=h
theorem LU {j:Int}(h0: -4611686018427387904<=j)(h1:j<4611686018427387904)(h:R (Itr 0 j.toNat) H):XU R [.int j] H:=⟨j,rfl,by lia,by lia,h⟩
theorem NR (h:tr σ H (WU R)):Q5 tr σ H R:=h
theorem LQ {i j:Int}(h0: -4611686018427387904<=i)(h1:i<4611686018427387904)(h2: -4611686018427387904<=j)(h3:j<4611686018427387904)(h:R (Itr i (j - i).toNat) H):WU R [.int i,.int j] H:=⟨i,j,rfl,⟨by lia,by lia,by lia,by lia⟩,h⟩
theorem fS {a:Addr}{tb:TS} (xs:List V) (Pv:Nat->St->Hp->Prop) (h0:Pv 0 σ H) (hl:∀i σ H,i<=xs.length->Pv i σ H->SqL K H a xs)
  (hs:∀i x σ H,xs[i]? =some x->Pv i σ H->g x σ H fun σ2 H2=>tb ⟨Pv (i+1),rt,nx,Pv (i+1)⟩ σ2 H2)(hd:∀σ H,Pv xs.length σ H->nx σ H):CM (Itl K a) g tb ⟨nx,rt,bk,ct⟩ σ H :=
 NA (D:=⟨nx,rt,bk,ct⟩) Pv h0 hl hs hd
theorem yN {lo:Int}{n:Nat}{tb:TS} (Pv:Nat->St->Hp->Prop) (h0:Pv 0 σ H)
  (hs:∀i σ H,i<n->Pv i σ H->g (.int (lo+i)) σ H fun σ2 H2=>tb ⟨Pv (i+1),rt,nx,Pv (i+1)⟩ σ2 H2)(hd:∀σ H,Pv n σ H->nx σ H):CM (Itr lo n) g tb ⟨nx,rt,bk,ct⟩ σ H :=
 K7 (D:=⟨nx,rt,bk,ct⟩) Pv h0 hs hd
end
section
variable {K:PySem.W.Frag}{te:TE}{σ:St}{ci:List Nat}{rest:St}{fin:List V->Hp->Prop}{H:Hp}{a:Addr}
theorem EK (hr:ci.map (fun i=>(σ[i]?).join)=rest):cD 1 ci σ=none::rest:=by
 unfold cD;rw[hr];rfl
end
section
variable {K:PySem.W.Frag}{te:TE}{σ:St}{ci:List Nat}{rest:St}{fin:List V->Hp->Prop}{H:Hp}{a:Addr}
end
theorem Same.at {H H':Hp}{b:Addr}{o:HO} (s:Same H H') (h:H b=some o):H' b=some o:=s b o h
def SameBut (p:Addr)(H H':Hp):Prop:=∀b o,H b=some o->b≠p->H' b=some o
theorem SameBut.upd {p:Addr}{H:Hp}{o:HO}:SameBut p H (upd H p o):=fun b u e hb=>by rw[aT hb];exact e
theorem SameBut.trans {p:Addr}{H H1 H2:Hp} (a:SameBut p H H1) (b:SameBut p H1 H2):SameBut p H H2:=fun c o h hc=>b c o (a c o h hc) hc
theorem Same.but {p:Addr}{H H':Hp} (s:Same H H'):SameBut p H H':=fun b o e _=>s b o e
theorem SameBut.same {p:Addr}{H H0 H':Hp} (n:H0 p=none) (s:Same H0 H) (b:SameBut p H H'):Same H0 H':=fun c o e=>b c o (s c o e) (bL e n)
theorem aR {t:TS}{D:pK}{N:List Str}{vs:List V}{σ:St}{H:Hp} (e:lP N vs=σ) (h:t D σ H):t D (lP N vs) H:=e▸h
theorem SameBut.refl {p:Addr}{H:Hp}:SameBut p H H:=fun _ _ e _=>e
theorem SameBut.snoc {p:Addr}{H H1 H2:Hp} (b:∀c o,H1 c=some o->c≠p->H2 c=some o) (a:SameBut p H H1):SameBut p H H2:=fun c o h hc=>b c o (a c o h hc) hc
theorem SameBut.snocS {p:Addr}{H H1 H2:Hp} (b:Same H1 H2) (a:SameBut p H H1):SameBut p H H2:=fun c o h hc=>b c o (a c o h hc)
theorem Same.snoc {H H1 H2:Hp}(b:Same H1 H2)(a:Same H H1):Same H H2:=a.trans b
theorem RW {f:Str}{v:V}{fs:List (Str×V)}:(cU f v fs).lookup f=some v:=by rw[lQ,if_pos rfl]
theorem ZH {f g:Str}{v:V}{o:Option V}{fs:List (Str×V)} (h:decide (g=f)=false) (l:fs.lookup g=o):(cU f v fs).lookup g=o:=by rw[lQ,if_neg (of_decide_eq_false h)];exact l
theorem V7 {f:Str}:([]:List (Str×V)).lookup f=none:=rfl
section
variable {K:PySem.W.Frag}{x qual:Str}{st:Stmt}{kV doc pm cdv ct:Value}{an:Option Addr}{ps:List Str}
theorem aS (h:∀us:List Value,us.length=ps.length->bindArgs (PySem.W.fnOf x qual (aJ st) (aI st) (aB st) .none kV doc pm an cdv ct) ⟨us,[]⟩=pure (ps.zip us)) :
  Binds K (PySem.W.fnOf x qual (aJ st) (aI st) (aB st) .none kV doc pm an cdv ct) ps []:= .all h
theorem qI (k:Nat){T:Addr}{ds:List Value}{oc:Value}{od:Option Addr}{sl:Array (Option Value)}{items:Array Value}{n:Nat} (lt:K.lookup T=some ⟨oc,od,.seq items n,sl⟩)
  (h:∀us:List Value,us.length=k->∃k,bindArgs (PySem.W.fnOf x qual (aJ st) (aI st) (aB st) (.ref T) kV doc pm an cdv ct) ⟨us,[]⟩=seqItems? (.ref T) >>= k/\k (some items)=pure (ps.zip (us++ds)))(hk:k+ds.length=ps.length:=by rfl) :
  Binds K (PySem.W.fnOf x qual (aJ st) (aI st) (aB st) (.ref T) kV doc pm an cdv ct) ps ds:=fun s us hK hl=>by
 obtain⟨k,h1,h2⟩:=h us (by rw[List.length_append]at hl;lia);exact .of_defaults (T:=T) (items:=items) (n:=n) rfl (hK T _ lt) rfl h1 h2
end
theorem bS (s:String):(Str.ofString s).length=s.length:=by
 rw[Str.ofString_eq_toList];show (s.toList.map Char.toNat).toArray.size=_;rw[List.size_toArray,List.length_map,String.length_toList]
def sgB (c:Nat):Bool:=decide (97<=c)&&decide (c<=122)
def tR (z:Str):Bool:=z.cps.toList.all sgB
def bN (z:Str):Bool:=decide (1<=(z.length:Int))&&decide ((z.length:Int)<=8)&&tR z
theorem MA {z:Str}(h:bN z=true):z.length<=8:=by
 unfold bN at h;simp only[Bool.and_eq_true,decide_eq_true_eq]at h
 lia
theorem N5 {z:Str}(h0:1<=z.length)(h1:z.length<=8)(h2:tR z=true):bN z=true:=by
 unfold bN;simp only[Bool.and_eq_true,decide_eq_true_eq];exact⟨⟨by lia,by lia⟩,h2⟩
theorem NQ {c:Nat}{z:Str} (h:tR z=true) (hc:c∈z.cps.toList):tR ⟨#[c]⟩=true:=by
 unfold tR at h ⊢;rw[List.all_eq_true]at h;show [c].all sgB=true;rw[List.all_cons,h c hc];rfl
theorem pN (x y:Str):(x++y).length=x.length+y.length:=by
 show (x.cps++y.cps).size=_;rw[Array.size_append];rfl
theorem yG (c:Nat):(⟨#[c]⟩:Str).length=1:=rfl
end L2
namespace L2
open PySem PySem.Spec PyProof.Rows
section
variable {prog:Program}{w:World}{A:Around}{E:Value->Shared->Prop}{s:Shared}
end
section
variable {X:Cx}{pos:Pos}
end
section
variable {nx bk ct:St->Hp->Prop}{rt:VK}{σ:St}{H:Hp}{g:TG}{K:PySem.W.Frag}{a:Addr}{tb:TS}{xs:List V}
end
theorem SL {H:Hp}{Q:VK}{i j:Int} (h0:0<j) (h:0<=i%j->i%j<j->Q (.int (i%j)) H):rI (fun _ j=>0<j) (fun i j=> .int (i%j)) (.int i) (.int j) H Q:=⟨i,j,rfl,rfl,h0,h (Int.emod_nonneg _ (by lia)) (Int.emod_lt_of_pos _ h0)⟩
end L2
namespace L2
open PySem PySem.Spec PyProof.Rows PySem.W
section
variable {prog:Program}{w:World}{A:Around}{E:Value->Shared->Prop}{h:Heap}{g:Array GenState}{d:Drawn}{t:Nat}{os:OsState}{a C:Addr}{o:Obj}{vs:Array Value}{K:Frag}
end
end L2
namespace L2
open PySem PySem.Spec PyProof.Rows PySem.W
section
variable {M:Model}{A:Around}{E:Value->Shared->Prop}{s:Shared}{base:Heap}{env:Env}{outer:List Env}{L ea:Addr}{Q:Unit->Shared->Prop}
end
end L2
namespace L2
open PySem PySem.Spec PyProof.Rows PySem.W
section
variable {P:Program}{w:World}{H H':Hp}{h h':Heap}{a:Addr}{o:HO}
end
section
variable {X:Cx}{pins:List (Addr×Obj)}{σ:St}{H H1:Hp}{s s1:Shared}{h2 B:Heap}
end
end L2
namespace L2
open PySem PySem.Spec PyProof.Rows PySem.W
section
variable {X:Cx}{E:XK}{x:Str}{C:Addr}{np cpos pos:Pos}{e:Expr}{es:List Expr}{t:TA}
end
section
variable {X:Cx}{k k':Nat}{sp:Sp}{x m:Str}{p pos apos:Pos}{e o:Expr}{es:List Expr}{ta:TE}{t:TA}{C:Addr}{dvs:List V}{E:XK}{ps:List Str}
end
section
variable {P:Program}{w:World}{K:PySem.W.Frag}{mg:Str->Option Value}{base:Heap}
end
end L2
namespace L2
open PySem PySem.Spec PyProof.Rows PySem.W
section
variable {M:Model}{A:Around}{E:Value->Shared->Prop}{s:Shared}{base:Heap}{env:Env}{outer:List Env}{L ea:Addr}{Q:Unit->Shared->Prop}
end
end L2
namespace L2
open PySem PySem.Spec PyProof.Rows PySem.W
section
variable {X:Cx}{pins:List (Addr×Obj)}{σ:St}{H:Hp}{s:Shared}{ea:Addr}
end
section
variable {X:Cx}{k k':Nat}{sp:Sp}{x m:Str}{p pos apos:Pos}{e o:Expr}{es:List Expr}{ta:TE}{t:TA}{C f:Addr}{dvs:List V}{ds:List Value}{R:XK}{ps:List Str}{fd:FuncData}
end
section
variable {X:Cx}{k k':Nat}{sp:Sp}{x m:Str}{p pos apos:Pos}{e o:Expr}{es:List Expr}{ta:TE}{t:TA}{C:Addr}{dvs:List V}{R:XK}
end
section
variable {X:Cx}{i:Nat}{n x:Str}{T:Addr}{np hpos pos epos:Pos}{e:Expr}{tc:XK->TE}{b₀:Stmt}{suite:List Stmt}{ts:TS}
end
end L2
namespace L2
open PySem PySem.Spec PyProof.Rows PySem.W
section
variable {X:Cx}{x:Str}{j:Nat}{p pos:Pos}{e v1 v2:Expr}{es:List Expr}{te:TE}{t:TJ}
end
end L2
namespace L2
open PySem PySem.W
section
variable {K:Frag}{C D:Addr}{cd:ClassData}{b:Bool}
end
variable {K:Frag}{H:Hp}{Q:VK}
end L2
namespace L2
open PySem PySem.W
end L2
set_option maxHeartbeats 4000000
namespace L2
open PySem PySem.Spec PyProof.Rows
section
variable {X:Cx}{pins:List (Addr×Obj)}{σ:St}{H:Hp}{s:Shared}
end
section
variable {X:Cx}{CX:CXT}{k k':Nat}{sp:Sp}{E:XK}{x y:Str}{p pos:Pos}{e:Expr}{es:List Expr}{t:TA}{i:Nat}{c:Addr}
end
section
variable {P:Program}{w:World}{K:PySem.W.Frag}{mg:Str->Option Value}{base:Heap}
end
section
variable {X:Cx}{k k':Nat}{x:Str}{p pos:Pos}{e:Expr}{es:List Expr}{t:TA}
end
section
variable {X:Cx}{args:Arguments}{body:Expr}{lsc:Scope}{pos:Pos}{y:Str}{c cL PL:Addr}
end
end L2
namespace L2
open PySem PySem.Spec PyProof.Rows
section
variable {P:Program}{w:World}{K:PySem.W.Frag}{mg:Str->Option Value}{base:Heap}
end
section
variable {X:Cx}{o:Expr}{to:TE}{ap pos:Pos}
def rBL:V->List V->Hp->VK->Prop:=fun x xs H Q=>∃i,x= .int i/\xs=[]/\Q (.int (Builtin.Int.intBits i)) H
theorem LV:MtR X "int.bit_length" rBL:=by
 intro pins s σ H x xs v us Q I rx rs h;obtain⟨i,rfl,rfl,q⟩:=h;obtain⟨t,rfl⟩:=rx;cases rs;exact call_int_bit_length ⟨.int (Builtin.Int.intBits i),H,I.tok _,⟨_,rfl⟩,q⟩
theorem LI {b t:Int}(hb:0<=b)(h:(Builtin.Int.intBits b:Int)<=t):b/2^t.toNat%2=0:=by
 have ht:Builtin.Int.intBits b<=t.toNat:=by lia
 have hlt:b<2^t.toNat:=by
  unfold Builtin.Int.intBits at ht
  by_cases h0:b=0
  ·subst h0;exact Int.pow_pos (by decide)
  ·rw[if_neg (by simpa using h0)]at ht;have h1:b.natAbs<2^(b.natAbs.log2+1):=Nat.lt_log2_self;have h2:2^(b.natAbs.log2+1)<=2^t.toNat:=Nat.pow_le_pow_right (by decide) ht;have h3:((2^t.toNat:Nat):Int)=(2:Int)^t.toNat:=by simp
   lia
 rw[Int.ediv_eq_zero_of_lt hb hlt];rfl
theorem LP {H:Hp}{Q:VK}{i:Int} (h:Q (.int (Builtin.Int.intBits i)) H):rBL (.int i) [] H Q:=⟨i,rfl,rfl,h⟩
theorem vV:∀{xs:List V}{us:List Value},xs.length=us.length->(∀(i:Nat) x u,xs[i]? =some x->us[i]? =some u->RelV x u)->Vals xs us
 | [],[],_,_=> .nil
 | [],_::_,h,_=>by simp at h
 | _::_,[],h,_=>by simp at h
 | x::xs,u::us,h,k=> .cons (k 0 x u rfl rfl) (vV (by simpa using h) fun i y w e1 e2=>k (i+1) y w (by simpa using e1) (by simpa using e2))
end
section
variable {X:Cx}{k k':Nat}{sp:Sp}{x m:Str}{p pos apos:Pos}{e:Expr}{es:List Expr}{t:TA}{dvs:List V}
end
end L2
namespace L2
open PySem PySem.Spec PyProof.Rows
section
variable {P:Program}{w:World}
end
section
variable {P:Program}{w:World}{K:PySem.W.Frag}{mg:Str->Option Value}{base:Heap}
end
section
variable {X:Cx}{st:Stmt}{rest:List Stmt}{t:TS}{u:pK->(St->V->Hp->Prop)->St->Hp->Prop}{e:Expr}{te:TE}{pos:Pos}
end
section
variable {P:Program}{w:World}{K:PySem.W.Frag}{mg:Str->Option Value}{base:Heap}
end
section
open PySem.W
variable {X:Cx}{i j:Nat}{n x y:Str}{T:Addr}{np yp hpos pos epos:Pos}{e:Expr}{tc:XK->TE}{b₀:Stmt}{suite:List Stmt}{ts:TS}
end
end L2
namespace L2
open PySem PySem.Spec PyProof.Rows
end L2
namespace L2
open PySem PySem.Spec PyProof.Rows
section
variable {X:Cx}
def V1 (K:PySem.W.Frag):R2:=fun x y H Q=>∃a b xs,x= .ref a/\y= .ref b/\SqL K H a xs/\SqL K H b []/\Q (.bl (!xs.isEmpty)) H
theorem X1 (hu:X.A.units<cLine):OpR X (compareOp .NotEq) (V1 X.K):=by
 intro pins s σ H x y v u Q I rx ry h;obtain⟨a,b,xs,rfl,rfl,ha,hb,q⟩:=h;cases rx;cases ry;obtain⟨its,r,pl,hz⟩:=I.list ha;obtain⟨its2,r2,pl2,_⟩:=I.list hb;cases r2;cases xs with
 | nil =>
  cases r;refine SeqAt.RcNeAt.lists (e:=fun _=>true) pl.isList pl2.isList rfl hu (fun j h1=>absurd h1 (Nat.not_lt_zero _)) X.prog X.w X.xe _ ⟨.bl false,H,I,rfl,q⟩
 | cons x xs =>
  cases r with
  | cons r1 r2 =>
   exact SeqAt.RcNeAt.lists_lengths pl.isList pl2.isList (by simp) hu X.prog X.w X.xe _ ⟨.bl true,H,I,rfl,q⟩
theorem XV {K:PySem.W.Frag}{H:Hp}{Q:VK}{a b:Addr}{xs:List V} (ha:SqL K H a xs) (hb:SqL K H b []) (h:Q (.bl (!xs.isEmpty)) H):V1 K (.ref a) (.ref b) H Q:=⟨a,b,xs,rfl,rfl,ha,hb,h⟩
end
end L2
namespace L2
open PySem PySem.Spec PyProof.Rows
section
variable {κ:Type}[DecidableEq κ]
def bD (kvs:List (κ×V))(k:κ):Option V:=(kvs.find? fun kv=>decide (kv.1=k)).map (·.2)
def bU (kvs:List (κ×V))(k:κ)(v:V):List (κ×V) :=
 if (kvs.any fun kv=>decide (kv.1=k))=true then kvs.map (fun kv=>if kv.1=k then (kv.1,v) else kv) else kvs++[(k,v)]
theorem dS {p:κ×V}{r:List (κ×V)}{k:κ} (e:p.1=k):bD (p::r) k=some p.2:=by simp[bD,List.find?_cons,e]
theorem cZ {p:κ×V}{r:List (κ×V)}{k:κ} (e:¬p.1=k):bD (p::r) k=bD r k:=by simp[bD,List.find?_cons,e]
theorem kE (k:κ):∀kvs:List (κ×V),(kvs.any fun kv=>decide (kv.1=k))=(bD kvs k).isSome
 | []=>rfl
 | p::r=>by
  rw[List.any_cons]
  by_cases e:p.1=k
  ·simp only[dS e,decide_eq_true e,Bool.true_or,Option.isSome_some]
  ·rw[cZ e,decide_eq_false e,Bool.false_or];exact kE k r
theorem DF (k j:κ)(y:V):∀kvs:List (κ×V),bD (kvs.map fun kv=>if kv.1=k then (kv.1,y) else kv) j=(bD kvs j).map fun x=>if j=k then y else x
 | []=>rfl
 | p::r=>by
  have ih:=DF k j y r;rw[List.map_cons]
  by_cases h:p.1=k
  ·rw[if_pos h]
   by_cases e:p.1=j
   ·rw[dS (p:=(p.1,y)) e,dS e,Option.map_some,if_pos (e.symm.trans h)]
   ·rw[cZ (p:=(p.1,y)) e,cZ e,ih]
  ·rw[if_neg h]
   by_cases e:p.1=j
   ·rw[dS (p:=p) e,dS e,Option.map_some,if_neg (fun z=>h (e.trans z))]
   ·rw[cZ (p:=p) e,cZ e,ih]
theorem AH (k j:κ)(y:V):∀kvs:List (κ×V),bD kvs k=none->bD (kvs++[(k,y)]) j=if j=k then some y else bD kvs j
 | [],_=>by
  by_cases e:k=j
  ·rw[if_pos e.symm];exact dS (p:=(k,y)) e
  ·rw[if_neg (fun z=>e z.symm)];exact cZ (p:=(k,y)) e
 | p::r,hn=>by
  rw[List.cons_append];have hk:¬p.1=k:=fun z=>by rw[dS z]at hn;cases hn
  rw[cZ hk]at hn;have ih:=AH k j y r hn
  by_cases e:p.1=j
  ·rw[dS e,dS e,if_neg (fun z=>hk (e.trans z))]
  ·rw[cZ e,cZ e,ih]
theorem i6 (kvs:List (κ×V))(k j:κ)(y:V):bD (bU kvs k y) j=if j=k then some y else bD kvs j:=by
 unfold bU
 by_cases a:(kvs.any fun kv=>decide (kv.1=k))=true
 ·rw[if_pos a,DF];rw[kE]at a
  by_cases e:j=k
  ·obtain⟨x,hx⟩:=Option.isSome_iff_exists.mp a;rw[if_pos e,e,hx,Option.map_some,if_pos rfl]
  ·rw[if_neg e];cases bD kvs j with
   | none=>rfl
   | some x=>rw[Option.map_some,if_neg e]
 ·rw[if_neg a];refine AH k j y kvs ?_;rw[kE]at a;cases q:bD kvs k with
  | none=>rfl
  | some x=>rw[q]at a;exact(a rfl).elim
theorem dI (kvs:List (κ×V))(k:κ)(v:V):(bU kvs k v).length<=kvs.length+1:=by
 unfold bU
 split
 ·rw[List.length_map];lia
 ·rw[List.length_append,List.length_cons,List.length_nil];lia
theorem nO {kvs:List (κ×V)}{k:κ} (v:V) (h:bD kvs k=none):bU kvs k v=kvs++[(k,v)]:=by
 unfold bU;rw[kE,h];exact if_neg (by decide)
theorem RelO.isSome_eq {o:Option V}{u:Option Value} (r:RelO o u):o.isSome=u.isSome:=by
 cases o with
 | none=>cases u with
  | none=>rfl
  | some _=>exact(show False from r).elim
 | some _=>cases u with
  | none=>exact(show False from r).elim
  | some _=>rfl
theorem RelO.getD {o:Option V}{u:Option Value}{d:V}{d':Value} (r:RelO o u) (rd:RelV d d'):RelV (o.getD d) (u.getD d'):=by
 cases o with
 | none=>cases u with
  | none=>exact rd
  | some _=>exact(show False from r).elim
 | some _=>cases u with
  | none=>exact(show False from r).elim
  | some _=>exact r
theorem KV.val {kvs:List (κ×V)}{vs:List (κ×Value)} (r:KV kvs vs) (k:κ):RelO (bD kvs k) (valueAt vs k):=by
 unfold KV at r
 induction r with
 | nil=>exact True.intro
 | @cons p q ps qs h t ih =>
  obtain⟨h1,h2⟩:=h
  by_cases e:p.1=k
  ·have e':q.1=k:=h1.symm.trans e;have b:valueAt (q::qs) k=some q.2:=by simp[valueAt,List.find?_cons,e']
   rw[dS e,b];exact h2
  ·have e':¬q.1=k:=fun z=>e (h1.trans z);have b:valueAt (q::qs) k=valueAt qs k:=by simp[valueAt,List.find?_cons,e']
   rw[cZ e,b];exact ih
theorem KV.any {kvs:List (κ×V)}{vs:List (κ×Value)} (r:KV kvs vs) (k:κ):(kvs.any fun kv=>decide (kv.1=k))=vs.any fun kv=>decide (kv.1=k):=by
 unfold KV at r
 induction r with
 | nil=>rfl
 | cons h t ih=>rw[List.any_cons,List.any_cons,ih,h.1]
theorem KV.repl {kvs:List (κ×V)}{vs:List (κ×Value)} (r:KV kvs vs) (k:κ) {y:V}{u:Value} (ry:RelV y u) :
  KV (kvs.map fun kv=>if kv.1=k then (kv.1,y) else kv) (vs.map fun kv=>if kv.1=k then (kv.1,u) else kv):=by
 unfold KV at r ⊢
 induction r with
 | nil=>exact .nil
 | @cons p q ps qs h t ih =>
  rw[List.map_cons,List.map_cons];refine .cons ?_ ih;obtain⟨h1,h2⟩:=h
  by_cases e:p.1=k
  ·rw[if_pos e,if_pos (h1.symm.trans e)];exact⟨h1,ry⟩
  ·rw[if_neg e,if_neg (fun z=>e (h1.trans z))];exact⟨h1,h2⟩
theorem KV.put {kvs:List (κ×V)}{vs:List (κ×Value)} (r:KV kvs vs) (k:κ) {y:V}{u:Value} (ry:RelV y u):KV (bU kvs k y) (stored vs k u):=by
 unfold bU stored;rw[r.any k]
 by_cases e:(vs.any fun kv=>decide (kv.1=k))=true
 ·rw[if_pos e,if_pos e];exact r.repl k ry
 ·rw[if_neg e,if_neg e];exact Paired.snoc r ⟨rfl,ry⟩
theorem KV.length {kvs:List (κ×V)}{vs:List (κ×Value)} (r:KV kvs vs):kvs.length=vs.length:=Paired.length r
end
theorem rX {P:Program}{w:World}{k:Key}{u:Value} (r:RelV (kV k) u):(cA P w).is k u=true:=by
 cases k with
 | inl i=>obtain⟨t,e⟩:=(show ∃t,u=Value.int i t from r);subst e;exact FT P w i t
 | inr x=>obtain⟨t,e⟩:=(show ∃t,u=Value.str x t from r);subst e;exact FX P w x t
theorem AR {P:Program}{w:World}:∀{ks:List Key}{us:List Value},Vals (ks.map kV) us->ItemsAre (cA P w) ks us
 | [],_,r=>by rw[List.map_nil]at r;cases r;exact .nil
 | k::ks,_,r=>by
  rw[List.map_cons]at r;cases r with
  | cons h t=>exact .cons (rX h) (AR t)
abbrev KT (H:Hp):List (List Key×V)->List (List Key×Addr×Value)->Prop:=Paired fun p q=>p.1=q.1/\H q.2.1=some (.tup (p.1.map kV))/\RelV p.2 q.2.2
theorem KT.val {H:Hp}{kvs:List (List Key×V)}{xs:List (List Key×Addr×Value)} (r:KT H kvs xs) (k:List Key):RelO (bD kvs k) ((atKey xs k).map (·.2)):=by
 induction r with
 | nil=>exact True.intro
 | @cons p q ps qs h t ih =>
  obtain⟨h1,_,h2⟩:=h
  by_cases e:p.1=k
  ·have e':q.1=k:=h1.symm.trans e;have b:atKey (q::qs) k=some q.2:=by simp[atKey,List.find?_cons,e']
   rw[dS e,b];exact h2
  ·have e':¬q.1=k:=fun z=>e (h1.trans z);have b:atKey (q::qs) k=atKey qs k:=by simp[atKey,List.find?_cons,e']
   rw[cZ e,b];exact ih
theorem KT.repl {H:Hp}{kvs:List (List Key×V)}{xs:List (List Key×Addr×Value)} (r:KT H kvs xs) (k:List Key) {y:V}{u:Value} (ry:RelV y u) :
  KT H (kvs.map fun kv=>if kv.1=k then (kv.1,y) else kv) (xs.map (putAt k u)):=by
 induction r with
 | nil=>exact .nil
 | @cons p q ps qs h t ih =>
  rw[List.map_cons,List.map_cons];refine .cons ?_ ih;obtain⟨h1,h2,h3⟩:=h;unfold putAt
  by_cases e:p.1=k
  ·rw[if_pos e,if_pos (h1.symm.trans e)];exact⟨h1,h2,ry⟩
  ·rw[if_neg e,if_neg (fun z=>e (h1.trans z))];exact⟨h1,h2,h3⟩
theorem KT.put {H:Hp}{kvs:List (List Key×V)}{xs:List (List Key×Addr×Value)} (r:KT H kvs xs) (k:List Key) {b:Addr}{y:V}{u:Value} (hb:H b=some (.tup (k.map kV))) (ry:RelV y u) :
  KT H (bU kvs k y) (storedH xs k b u):=by
 have e:(kvs.any fun kv=>decide (kv.1=k))=(atKey xs k).isSome:=by
  rw[kE,(r.val k).isSome_eq,Option.isSome_map]
 unfold bU storedH;rw[e]
 by_cases q:(atKey xs k).isSome=true
 ·rw[if_pos q,if_pos q];exact r.repl k ry
 ·rw[if_neg q,if_neg q];exact Paired.snoc r ⟨rfl,hb,ry⟩
theorem KT.keeps {H H':Hp}{kvs:List (List Key×V)}{xs:List (List Key×Addr×Value)} (r:KT H kvs xs) (ht:∀b ys,H b=some (.tup ys)->H' b=some (.tup ys)):KT H' kvs xs :=
 Paired.mapP r fun _ _ z=>⟨z.1,ht _ _ z.2.1,z.2.2⟩
section
variable {P:Program}{w:World}{H:Hp}{h:Heap}{a:Addr}
theorem QL {u:HO}(ok:HOk P w H h)(e:Rd H a u):ObjOk P w H h a u:=e.ok ok
theorem oT {kvs:List (Key×V)}(ok:HOk P w H h)(e:Rd H a (.dK kvs)):kvs.length<=sizeLine/\(a==sysModules)=false/\∃vs,KV kvs vs/\h.DictOf (cA P w) a vs :=
 show ObjOk P w H h a (.dK kvs) from QL ok e
theorem ZO {kvs:List (Key×V)}(ok:HOk P w H h)(e:H a=some (.dK kvs)):kvs.length<=sizeLine/\(a==sysModules)=false/\∃vs,KV kvs vs/\h.DictOf (cA P w) a vs:=oT ok (.inl e)
theorem qB {ks:List Key}(ok:HOk P w H h)(e:H a=some (.tup (ks.map kV))):(tupleKind (cA P w)).is h ks a:=by
 obtain⟨_,its,r,o,h1,h2,n,h3⟩:=(show ObjOk P w H h a (.tup (ks.map kV)) from ok a _ e)
 exact⟨o,its.toArray,n,h1,h2,h3,by simpa using AR r⟩
theorem rD {kvs:List (List Key×V)}(ok:HOk P w H h)(e:Rd H a (.dT kvs)):kvs.length<=sizeLine/\(a==sysModules)=false ∧
  ∃xs,KT H kvs xs/\h.DictOfH (tupleKind (cA P w)) a xs:=by
 obtain⟨z,y,xs,r,o,es,ep,h1,h2,h3,h4,h5⟩:=(show ObjOk P w H h a (.dT kvs) from QL ok e)
 refine⟨z,y,xs,r,o,es,ep,h1,h2,h3,h4,fun x hx=> ?_,h5⟩;have all:∀{l:List (List Key×V)}{m:List (List Key×Addr×Value)},KT H l m->∀x∈m,(tupleKind (cA P w)).is h x.1 x.2.1:=by
  intro l m q
  induction q with
  | nil=>intro x hx;exact nomatch hx
  | @cons p q ps qs hq t ih =>
   intro x hx;rcases List.mem_cons.mp hx with e|hx
   ·subst e;exact qB ok (by rw[←hq.1];exact hq.2.1)
   ·exact ih x hx
 exact all r x hx
theorem YO {kvs:List (List Key×V)}(ok:HOk P w H h)(e:H a=some (.dT kvs)):kvs.length<=sizeLine/\(a==sysModules)=false ∧
  ∃xs,KT H kvs xs/\h.DictOfH (tupleKind (cA P w)) a xs:=rD ok (.inl e)
end
def DGet (H:Hp)(a:Addr)(y:V)(r:Option V):Prop :=
 (∃kvs k,Rd H a (.dK kvs)/\y=kV k/\r=bD kvs k)∨∃kvs k b,Rd H a (.dT kvs)/\y= .ref b/\H b=some (.tup (k.map kV))/\r=bD kvs k
def DPut (H:Hp)(a:Addr)(y v:V)(H':Hp):Prop :=
 (∃kvs k,H a=some (.dK kvs)/\y=kV k/\kvs.length<sizeLine/\H'=upd H a (.dK (bU kvs k v))) ∨
 ∃kvs k b,H a=some (.dT kvs)/\y= .ref b/\H b=some (.tup (k.map kV))/\kvs.length<sizeLine/\H'=upd H a (.dT (bU kvs k v))
theorem DGet.t {H:Hp}{a b:Addr}{kvs:List (List Key×V)}{k:List Key} (e:H a=some (.dT kvs)) (eb:H b=some (.tup (k.map kV))):DGet H a (.ref b) (bD kvs k):= .inr ⟨kvs,k,b,.inl e,rfl,eb,rfl⟩
theorem DPut.k {H:Hp}{a:Addr}{kvs:List (Key×V)}{k:Key}{v:V} (e:H a=some (.dK kvs)) (hl:kvs.length<sizeLine):DPut H a (kV k) v (upd H a (.dK (bU kvs k v))):= .inl ⟨kvs,k,e,rfl,hl,rfl⟩
theorem DPut.t {H:Hp}{a b:Addr}{kvs:List (List Key×V)}{k:List Key}{v:V} (e:H a=some (.dT kvs)) (eb:H b=some (.tup (k.map kV))) (hl:kvs.length<sizeLine) :
  DPut H a (.ref b) v (upd H a (.dT (bU kvs k v))):= .inr ⟨kvs,k,b,e,rfl,eb,hl,rfl⟩
section
variable {X:Cx}{pins:List (Addr×Obj)}{σ:St}{H:Hp}{s:Shared}{a:Addr}{y v:V}{u r:Value}{o:Option V}{A:Around}{E:Value->Shared->Prop}
theorem Inv.big (I:Inv X pins σ H s):sysModules<s.heap.objs.size:=by
 have h:mainGlobals<s.heap.objs.size:=(I.mod.glob.keeps I.bk).lt;exact Nat.lt_trans (by decide) h
theorem AA {Q:Value->Shared->Prop}(hu:A.units+1<cLine)(I:Inv X pins σ H s)(g:DGet H a y (some v))(ry:RelV y u)(h:∀w' s',Inv X pins σ H s'->RelV v w'->Q w' s') :
  wpAny (model X.prog X.w) A (getItem (.ref a) u) Q E s:=by
 rcases g with⟨kvs,k,e,ey,l⟩|⟨kvs,k,b,e,ey,eb,l⟩
 ·subst ey;obtain⟨z,hd,vs,rel,dd⟩:=oT I.hok e;obtain⟨w',hw,rw'⟩:=RelO.some_of (v:=v) (o:=valueAt vs k) (by rw[l];exact rel.val k);exact wpAny_getItem_of (rX ry) dd.mapOf hw (h w' _ (I.tok _) rw')
 ·subst ey;cases (show u=Value.ref b from ry);obtain⟨z,hd,xs,rel,dd⟩:=rD I.hok e;obtain⟨w',hw,rw'⟩:=RelO.some_of (v:=v) (o:=(atKey xs k).map (·.2)) (by rw[l];exact rel.val k);obtain⟨p,hp,hp2⟩:=Option.map_eq_some_iff.mp hw;refine wpAny_getItem_heap (tupleKind_room_in1 hu) (qB I.hok eb) dd hp ?_;rw[hp2];exact h w' _ (I.tok _) rw'
theorem aAg {Q:Value->Shared->Prop}(hu:A.units+1<cLine)(I:Inv X pins σ H s)(g:DGet H a y o)(ry:RelV y u)(h:∀s',Inv X pins σ H s'->Q (.bool o.isSome) s') :
  wpAny (model X.prog X.w) A (compareOp .In u (.ref a)) Q E s:=by
 rcases g with⟨kvs,k,e,ey,l⟩|⟨kvs,k,b,e,ey,eb,l⟩
 ·subst ey;obtain⟨z,hd,vs,rel,dd⟩:=oT I.hok e;refine wpAny_in_of (rX ry) hd dd.mapOf ?_;rw[←(rel.val k).isSome_eq,←l];exact h _ (I.tok _)
 ·subst ey;cases (show u=Value.ref b from ry);obtain⟨z,hd,xs,rel,dd⟩:=rD I.hok e;refine wpAny_in_heap (tupleKind_room_in1 hu) (qB I.hok eb) hd dd ?_;have q:=(rel.val k).isSome_eq;rw[Option.isSome_map]at q;rw[←q,←l];exact h _ (I.tok _)
theorem TQ {Q:Value->Shared->Prop}(hu:A.units+1<cLine)(I:Inv X pins σ H s)(g:DGet H a y o)(ry:RelV y u)(h:∀s',Inv X pins σ H s'->Q (.bool (!o.isSome)) s') :
  wpAny (model X.prog X.w) A (compareOp .NotIn u (.ref a)) Q E s:=by
 rcases g with⟨kvs,k,e,ey,l⟩|⟨kvs,k,b,e,ey,eb,l⟩
 ·subst ey;obtain⟨z,hd,vs,rel,dd⟩:=oT I.hok e;refine wpAny_notIn_of (rX ry) hd dd.mapOf ?_;rw[←(rel.val k).isSome_eq,←l];exact h _ (I.tok _)
 ·subst ey;cases (show u=Value.ref b from ry);obtain⟨z,hd,xs,rel,dd⟩:=rD I.hok e;refine wpAny_notIn_heap (tupleKind_room_in1 hu) (qB I.hok eb) hd dd ?_;have q:=(rel.val k).isSome_eq;rw[Option.isSome_map]at q;rw[←q,←l];exact h _ (I.tok _)
theorem HE {h':Heap}{t':Nat}{ob:HO} (I:Inv X pins σ H s) (mu:Mut (H a)) (hs:Heap.SameBut a s.heap h') (he:∃q,h'.get? a=some q) (new:ObjOk X.prog X.w (upd H a ob) h' a ob) :
  Inv X pins σ (upd H a ob) { s with heap:=h',toks:=t' } :=
 I.write (x:=a) (e:=a) mu (.inl rfl) (fun b q hb z=>(hs.2 b hb).trans z) he new
theorem JX {P:Program}{w:World}{H':Hp}{h':Heap}{kvs:List (Key×V)}{vs:List (Key×Value)} (z:kvs.length<=sizeLine) (hd:(a==sysModules)=false) (rel:KV kvs vs) (dd:h'.DictOf (cA P w) a vs) :
  ObjOk P w H' h' a (.dK kvs):=⟨z,hd,vs,rel,dd⟩
theorem AM {H':Hp}{Q:Unit->Shared->Prop} (hu:A.units+1<cLine) (I:Inv X pins σ H s) (g:DPut H a y v H') (ry:RelV y u) (rv:RelV v r) (h:∀s',Inv X pins σ H' s'->Q () s') :
  wpAny (model X.prog X.w) A (setItem (.ref a) u r) Q E s:=by
 rcases g with⟨kvs,k,e,ey,l,eH⟩|⟨kvs,k,b,e,ey,eb,l,eH⟩
 ·subst ey eH;obtain⟨z,hd,vs,rel,dd⟩:=ZO I.hok e;have hz:vs.length<=sizeLine:=by rw[←rel.length];exact z
  have hl:(bU kvs k v).length<=sizeLine:=by have:=dI kvs k v;lia
  refine wpAny_setItem_pairs (hsz:=hz) (rX ry) dd fun h' dd' hs=>h _ ?_;have he:∃q,h'.get? a=some q:=let ⟨q,_,_,hq,_⟩:=dd';⟨q,hq⟩;exact HE I (by rw[e];exact True.intro) hs he (JX hl hd (rel.put k rv) dd')
 ·subst ey eH;cases (show u=Value.ref b from ry);obtain⟨z,hd,xs,rel,dd⟩:=YO I.hok e;have hz:xs.length<=sizeLine:=by rw[←Paired.length rel];exact z
  have hl:(bU kvs k v).length<=sizeLine:=by have:=dI kvs k v;lia
  refine wpAny_setItem_heap (hsz:=hz) (tupleKind_room_in1 hu) (qB I.hok eb) dd fun h' dd' hs=>h _ ?_;obtain⟨q,es,ep,hq,h2,h3,h4,_,h5⟩:=dd';refine HE I (by rw[e];exact True.intro) hs ⟨q,hq⟩ ⟨hl,hd,_,(rel.put k eb rv).keeps fun c ys ec=> ?_,q,es,ep,hq,h2,h3,h4,h5⟩;rw[aT (ZW ec e (fun z=>nomatch z))];exact ec
end
section
variable {X:Cx}{pins:List (Addr×Obj)}{σ:St}{H:Hp}{s:Shared}{a:Addr}{kvs:List (Key×V)}{k:Key}{u:Value}{A:Around}{E:Value->Shared->Prop}
end
def U9 (i:Expr):Prop:=∀ov iv,subscripted i false ov iv=operate [ov,iv] (getItem ov iv)
theorem TC {prog:Program}{w:World}{A:Around}{E:Value->Shared->Prop}{s:Shared}{env:Env}{value slice:Expr}{pos:Pos}{T id:String}{Q:Value->Shared->Prop}
  (hl:typeLookup (.type T) "__getitem__" =pure (some (.builtin id)))(hs:U9 slice)
  (h:wpAny (model prog w) A (eval value env) (fun o s₁=>wpAny (model prog w) A (eval slice env) (fun i s₂=>s₂.TypeIs o T/\wpAny (model prog w) A (getItem o i) Q E s₂) E s₁) E s) :
  wpAny (model prog w) A (eval (.Subscript value slice pos) env) Q E s:=by
 refine Subscript_ (wpAny_mono h (fun o s₁ h₁=>wpAny_mono h₁ (fun i s₂ h₂=> ?_) fun _ _ x=>x) fun _ _ x=>x);obtain⟨hT,h₂⟩:=h₂;unfold subscriptTail;refine wpAny_bind ?_;rw[getitemInPython_of_ne hT.not_modules];refine wpAny_bind (wpAny_specialOf hT hl ?_);have fin:wpAny (model prog w) A (subscripted slice false o i) (fun r s₃=>wpAny (model prog w) A (letTemporaryGo value o r >>= fun _=>pure r) Q E s₃) E s₂:=by
  rw[hs o i];exact wpAny_operating (wpAny_mono h₂ (fun r s₃ h₃=>wpAny_bind (wpAny_letTemporaryGo (wpAny_pure h₃))) fun _ _ x=>x)
 first
  | exact wpAny_pure (wpAny_bind fin)
  | exact wpAny_bind (wpAny_pure (wpAny_bind fin))
  | exact wpAny_bind fin
theorem F2 {X:Cx}{pins:List (Addr×Obj)}{σ:St}{H:Hp}{s:Shared}{a:Addr}{y:V}{o:Option V} (I:Inv X pins σ H s) (g:DGet H a y o):s.TypeIs (.ref a) "dict" :=by
 rcases g with⟨kvs,k,e,_,_⟩|⟨kvs,k,b,e,_,_,_⟩
 ·obtain⟨_,_,vs,_,dd⟩:=oT I.hok e;exact dd.typeIs
 ·obtain⟨_,_,xs,_,dd⟩:=rD I.hok e;exact dd.typeIs
def Q4 (td ty:TE):TE:=fun σ H Q=>td σ H fun x H1=>ty σ H1 fun y H2=>∃a v,x= .ref a/\DGet H2 a y (some v)/\Q v H2
def U7 (ty td:TE):TE:=fun σ H Q=>ty σ H fun y H1=>td σ H1 fun x H2=>∃a o,x= .ref a/\DGet H2 a y o/\Q (.bl o.isSome) H2
def GJ (ty td:TE):TE:=fun σ H Q=>ty σ H fun y H1=>td σ H1 fun x H2=>∃a o,x= .ref a/\DGet H2 a y o/\Q (.bl (!o.isSome)) H2
def QM (td ty tv:TE):TS:=fun D σ H=>tv σ H fun v H1=>td σ H1 fun x H2=>ty σ H2 fun y H3=>∃a H4,x= .ref a/\DPut H3 a y v H4/\D.nx σ H4
def Q1 (td ty tv:TE)(rd:V->V->Hp->VK->Prop):TS:=fun D σ H=>td σ H fun x H1=>ty σ H1 fun y H2=>∃a v,x= .ref a/\DGet H2 a y (some v) ∧
 tv σ H2 fun y2 H3=>rd v y2 H3 fun z H4=>∃H5,DPut H4 a y z H5/\D.nx σ H5
section
variable {X:Cx}{o i e value:Expr}{pos pos' tpos:Pos}{td ty tv:TE}
theorem iE (hu:X.A.units+1<cLine)(ho:PE X o td)(hi:PE X i ty)(hs:U9 i):PE X (.Subscript o i pos) (Q4 td ty):=by
 intro pins s σ H Q I h;refine TC PySem.F.slot_dict_getitem.lookup hs (thn (ho pins s σ H _ I h) fun u s1 ⟨x,H1,I1,rx,q1⟩=>thn (hi pins s1 σ H1 _ I1 q1) fun iv s2 ⟨y,H2,I2,ry,a,v,ex,g,q2⟩=> ?_);subst ex;obtain rfl:u=Value.ref a:=rx;exact⟨F2 I2 g,AA hu I2 g ry fun w' s3 I3 rw'=>⟨v,H2,I3,rw',q2⟩⟩
theorem VQ (hu:X.A.units+1<cLine)(hi:PE X i ty)(ho:PE X o td):PC X .In i o (U7 ty td):=by
 intro pins s σ H Q I h;refine thn (hi pins s σ H _ I h) fun iv s1 ⟨y,H1,I1,ry,q1⟩=>thn (ho pins s1 σ H1 _ I1 q1) fun u s2 ⟨x,H2,I2,rx,a,ov,ex,g,q2⟩=> ?_;subst ex;obtain rfl:u=Value.ref a:=rx;exact aAg hu I2 g ry fun s3 I3=>⟨.bl ov.isSome,H2,I3,rfl,q2⟩
theorem AF (hu:X.A.units+1<cLine)(hi:PE X i ty)(ho:PE X o td):PC X .NotIn i o (GJ ty td):=by
 intro pins s σ H Q I h;refine thn (hi pins s σ H _ I h) fun iv s1 ⟨y,H1,I1,ry,q1⟩=>thn (ho pins s1 σ H1 _ I1 q1) fun u s2 ⟨x,H2,I2,rx,a,ov,ex,g,q2⟩=> ?_;subst ex;obtain rfl:u=Value.ref a:=rx;exact TQ hu I2 g ry fun s3 I3=>⟨.bl (!ov.isSome),H2,I3,rfl,q2⟩
theorem fM (hu:X.A.units+1<cLine)(ho:PE X o td)(hi:PE X i ty)(hv:PE X value tv)(hs:swapsWith value (some (.Subscript o i pos')) pos.line X.env=pure false) :
  PS X (.Assign [.Subscript o i pos'] value pos) (QM td ty tv):=by
 intro pins s σ H D I h;refine wpAny_Assign_Subscript (thn (hv pins s σ H _ I h) fun r s1 ⟨v,H1,I1,rv,q1⟩=>thn (ho pins s1 σ H1 _ I1 q1) fun u s2 ⟨x,H2,I2,rx,q2⟩=>thn (hi pins s2 σ H2 _ I2 q2) fun iv s3 ⟨y,H3,I3,ry,a,H4,ex,g,q3⟩=> ?_) hs;subst ex;obtain rfl:u=Value.ref a:=rx;exact AM hu I3 g ry rv fun s4 I4=>⟨σ,H4,I4,q3⟩
theorem UD {op:Operator}{rd:V->V->Hp->VK->Prop} (hu:X.A.units+1<cLine) (ho:PE X o td) (hi:PE X i ty) (hv:PE X value tv) (hop:YA X op rd)
  (ha:∀ov iv new,augStore i ov iv new=(do holding [new,ov,iv] (setItem ov iv new);release [new,ov,iv] [];pure .next)):PS X (.AugAssign (.Subscript o i tpos) op value pos) (Q1 td ty tv rd):=by
 intro pins s σ H D I h;refine wpAny_AugAssign_SubscriptAny (thn (ho pins s σ H _ I h) fun u s1 ⟨x,H1,I1,rx,q1⟩=>thn (hi pins s1 σ H1 _ I1 q1) fun iv s2 ⟨y,H2,I2,ry,a,v,ex,g,q2⟩=> ?_) ha;subst ex;obtain rfl:u=Value.ref a:=rx;refine AA hu I2 g ry fun w' s3 I3 rw'=>thn (hv pins s3 σ H2 _ I3 q2) fun w2 s4 ⟨y2,H3,I4,ry2,q3⟩=>thn (hop pins s4 σ H3 v y2 w' w2 _ I4 rw' ry2 q3) fun w3 s5 ⟨z,H4,I5,rz,H5,g5,q4⟩=> ?_;exact AM hu I5 g5 ry rz fun s6 I6=>⟨σ,H5,I6,q4⟩
end
theorem OD {P:Program}{w:World}{H:Hp} (h:Heap) (hb:sysModules<h.objs.size):ObjOk P w H (h.push { cls:= .type "dict",data:= .dict #[] }) h.objs.size (.dK []) :=
 ⟨Nat.zero_le _,beq_eq_false_iff_ne.mpr (Ne.symm (Nat.ne_of_lt hb)),[],.nil,Heap.DictOf.new h⟩
theorem OQ {P:Program}{w:World}{H:Hp} (h:Heap) (hb:sysModules<h.objs.size):ObjOk P w H (h.push { cls:= .type "dict",data:= .dict #[] }) h.objs.size (.dT []) :=
 ⟨Nat.zero_le _,beq_eq_false_iff_ne.mpr (Ne.symm (Nat.ne_of_lt hb)),[],.nil,_,#[],0,Heap.get?_push_size _ rfl,⟨rfl,rfl,rfl⟩,rfl,rfl,List.nodup_nil⟩
def LO:TE:=fun _ H Q=>∀p,H p=none->Q (.ref p) (upd H p (.dK []))
def LJ:TE:=fun _ H Q=>∀p,H p=none->Q (.ref p) (upd H p (.dT []))
section
variable {X:Cx}{pos:Pos}
theorem vW:PE X (.Dict [] [] pos) LO:=fun pins s σ H Q I h =>
 wpAny_Dict_empty ⟨.ref s.heap.objs.size,_,I.laid (a:=s.heap.objs.size) (o:= .dK []) (t':=s.toks) (fun _ _ q=>Heap.get?_push_of_some _ q) (Nat.le_refl _) (OD s.heap I.big),rfl,h _ (I.hok.fresh (Nat.le_refl _))⟩
theorem nM:PE X (.Dict [] [] pos) LJ:=fun pins s σ H Q I h =>
 wpAny_Dict_empty ⟨.ref s.heap.objs.size,_,I.laid (a:=s.heap.objs.size) (o:= .dT []) (t':=s.toks) (fun _ _ q=>Heap.get?_push_of_some _ q) (Nat.le_refl _) (OQ s.heap I.big),rfl,h _ (I.hok.fresh (Nat.le_refl _))⟩
end
def jV (kvs more:List (Key×V)):List (Key×V):=more.foldl (fun acc kv=>bU acc kv.1 kv.2) kvs
theorem KV.merge:∀{more:List (Key×V)}{rs:List (Key×Value)}{kvs:List (Key×V)}{vs:List (Key×Value)},KV more rs->KV kvs vs->KV (jV kvs more) (merged vs rs):=by
 intro more rs kvs vs r;unfold KV at r
 induction r generalizing kvs vs with
 | nil=>intro q;exact q
 | @cons p q ps qs h t ih =>
  intro r0;have e:KV (bU kvs p.1 p.2) (stored vs q.1 q.2):=by
   have:=r0.put p.1 h.2;rw[←h.1];exact this
  exact ih e
theorem sS:∀(more kvs:List (Key×V)),(jV kvs more).length<=kvs.length+more.length
 | [],kvs=>by show kvs.length<=kvs.length+0;lia
 | p::r,kvs=>by
  have h1:=sS r (bU kvs p.1 p.2);have h2:=dI kvs p.1 p.2;show (jV (bU kvs p.1 p.2) r).length<=_;rw[List.length_cons];lia
structure M2 (X:Cx)(o:Expr)(m:Str)(apos:Pos)(e f:Expr)(cpos:Pos):Prop where
 base:attributeBase o m X.env (eval o X.env)=eval o X.env
 few:((backTo cpos (starEach [e,f] X.env)).all (fun x=> !x.1)&&(backToKw cpos (keywordEach [] X.env)).all (fun x=>x.1.isSome)
  && decide (([e,f]:List Expr).length+([]:List Keyword).length+(if ([]:List Keyword).isEmpty then 0 else 1)<30))=true
 line:(apos.endLine==cpos.line)=true
 trees:backTo cpos (starEach [e,f] X.env)=[(false,eval e X.env),(false,eval f X.env)]
def IsD (H:Hp)(a:Addr):Prop:=(∃kvs,Rd H a (.dK kvs))∨∃kvs,Rd H a (.dT kvs)
theorem KW {X:Cx}{pins:List (Addr×Obj)}{σ:St}{H:Hp}{s:Shared}{a:Addr} (I:Inv X pins σ H s) (d:IsD H a) :
  s.TypeIs (.ref a) "dict" /\(∀b,Value.ref a= .ref b->∃ob,s.heap.get? b=some ob/\ob.dict=none)/\(a==sysModules)=false:=by
 rcases d with⟨kvs,e⟩|⟨kvs,e⟩
 ·obtain⟨_,hd,vs,_,dd⟩:=oT I.hok e;refine⟨dd.typeIs,fun b q=> ?_,hd⟩;cases q;obtain⟨ob,_,_,h1,h2,_⟩:=dd;exact⟨ob,h1,h2.2.1⟩
 ·obtain⟨_,hd,xs,_,dd⟩:=rD I.hok e;refine⟨dd.typeIs,fun b q=> ?_,hd⟩;cases q;obtain⟨ob,_,_,h1,h2,_⟩:=dd;exact⟨ob,h1,h2.2.1⟩
section
variable {X:Cx}{pins:List (Addr×Obj)}{σ:St}{H:Hp}{s:Shared}{a:Addr}{y d:V}{u r:Value}{o:Option V}{A:Around}{E:Value->Shared->Prop}
theorem XH {Q:Value->Shared->Prop}(hu:A.units+1<cLine)(I:Inv X pins σ H s)(g:DGet H a y o)(ry:RelV y u)(rd:RelV d r)(h:∀w' s',Inv X pins σ H s'->RelV (o.getD d) w'->Q w' s') :
  wpAny (model X.prog X.w) A (call (.builtin "dict.get") [.ref a,u,r]) Q E s:=by
 rcases g with⟨kvs,k,e,ey,l⟩|⟨kvs,k,b,e,ey,eb,l⟩
 ·subst ey;obtain⟨z,hd,vs,rel,dd⟩:=oT I.hok e;refine call_meetsIn PySem.F.slot_dict_get dd.typeIs PySem.F.entry_dict_get (PySem.F.args_dict_get_3 _ _ _) (meets_dict_get_default (cA X.prog X.w) a (rX ry) hd r) ⟨_,dd.mapOf,h _ _ (I.tok _) ?_⟩;rw[l];exact(rel.val k).getD rd
 ·subst ey;cases (show u=Value.ref b from ry);obtain⟨z,hd,xs,rel,dd⟩:=rD I.hok e;refine call_meetsIn PySem.F.slot_dict_get dd.typeIs PySem.F.entry_dict_get (PySem.F.args_dict_get_3 _ _ _) (meetsH_dict_get_default (tupleKind (cA X.prog X.w)) a b hd r) ⟨tupleKind_room_in1 hu,k,xs,qB I.hok eb,dd,h _ _ (I.tok _) ?_⟩;rw[l];exact(rel.val k).getD rd
end
def JU (td ty tx:TE):TE:=fun σ H Q=>td σ H fun x H1=>∃a,x= .ref a/\IsD H1 a/\ty σ H1 fun y H2=>tx σ H2 fun z H3=>∃o,DGet H3 a y o/\Q (o.getD z) H3
section
variable {X:Cx}{o e f:Expr}{apos cpos:Pos}{td ty tx:TE}
theorem kX (hu:X.A.units+1<cLine)(ho:PE X o td)(he:PE X e ty)(hf:PE X f tx)(m:M2 X o "get" apos e f cpos):PE X (.Call (.Attribute o "get" apos) [e,f] [] cpos) (JU td ty tx):=by
 intro pins s σ H Q I h;refine wpAny_Call_method m.base m.few m.line PySem.F.plainAttrs_dict PySem.F.slot_dict_get PySem.F.type_dict_get (thn (ho pins s σ H _ I h) fun u s1 ⟨x,H1,I1,rx,a,ex,d,q1⟩=> ?_);subst ex;obtain rfl:u=Value.ref a:=rx;obtain⟨t1,t2,_⟩:=KW I1 d;refine⟨t1,t2,?_⟩;rw[m.trees];refine Calls.callWith_builtin rfl (Calls.evalArgs_plain (Calls.spliced_cons (thn (he pins s1 σ H1 _ I1 q1) fun iv s2 ⟨y,H2,I2,ry,q2⟩ =>
  Calls.spliced_cons (thn (hf pins s2 σ H2 _ I2 q2) fun fv s3 ⟨z,H3,I3,rz,ov,g,q3⟩=>Calls.spliced_nil ?_))))
 exact XH hu I3 g ry rz fun w' s4 I4 rw'=>⟨_,H3,I4,rw',q3⟩
end
section
variable {X:Cx}{pins:List (Addr×Obj)}{σ:St}{H:Hp}{s:Shared}{a:Addr}{kvs:List (Key×V)}{A:Around}{E:Value->Shared->Prop}
end
section
variable {X:Cx}{pins:List (Addr×Obj)}{σ:St}{H:Hp}{s:Shared}{a:Addr}{y:V}{u:Value}{A:Around}{E:Value->Shared->Prop}
end
end L2
namespace L2
open PySem PySem.Spec PyProof.Rows
section
variable {κ:Type}[DecidableEq κ]
theorem GO:∀{l:List κ}{k:κ},l.Nodup->¬k∈l->(l++[k]).Nodup
 | [],k,_,_=>by simp
 | a::r,k,h,hk=>by
  obtain⟨h1,h2⟩:=List.nodup_cons.mp h;show (a::(r++[k])).Nodup;refine List.nodup_cons.mpr ⟨fun m=> ?_,GO h2 fun m=>hk (List.mem_cons.mpr (Or.inr m))⟩;rcases List.mem_append.mp m with q|q
  ·exact h1 q
  ·exact hk (List.mem_cons.mpr (Or.inl (List.mem_singleton.mp q).symm))
end
end L2
namespace L2
open PySem PySem.W PyProof.Rows
def aZ {α:Type}(c:Nat->Nat->Bool):KasT α->α
 | .ret a=>a
 | .ask i j k=>aZ c (k (c i j))
def KasIn {α:Type}(n:Nat)(R:α->Prop):KasT α->Prop
 | .ret a=>R a
 | .ask i j k=>i<n/\j<n/\∀b,KasIn n R (k b)
theorem KasIn.bind {α β:Type}{n:Nat}{R:α->Prop}{S:β->Prop}{f:α->KasT β} (hf:∀a,R a->KasIn n S (f a)):∀{t:KasT α},KasIn n R t->KasIn n S (t.bind f)
 | .ret _,h=>hf _ h
 | .ask _ _ _,h=>⟨h.1,h.2.1,fun b=>KasIn.bind hf (h.2.2 b)⟩
theorem KasIn.val {α:Type}{n:Nat}{R:α->Prop} (c:Nat->Nat->Bool):∀{t:KasT α},KasIn n R t->R (aZ c t)
 | .ret _,h=>h
 | .ask i j k,h=>KasIn.val c (t:=k (c i j)) (h.2.2 (c i j))
abbrev Places (n:Nat)(p:Array Nat):Prop:=p.Perm (List.range n).toArray
theorem Places.lt {n:Nat}{p:Array Nat} (h:Places n p) (h0:0<n) (i:Nat):p.getD i 0<n:=by
 by_cases hi:i<p.size
 ·have e:p.getD i 0=p[i]:=by simp[Array.getD,hi]
  rw[e];have:=h.mem_iff.mp (Array.getElem_mem hi)
  simpa using this
 ·have e:p.getD i 0=0:=by simp[Array.getD,hi]
  rw[e];exact h0
theorem jR {n:Nat}{p:Array Nat} (h:Places n p) (i j:Nat):Places n (kas_rev p i j):=(mirror_perm _ _ _ _).trans h
theorem CS {n:Nat}{p:Array Nat} (h0:0<n) (hp:Places n p):∀(f k:Nat),KasIn n (fun _=>True) (kas_asc p f k)
 | 0,_=>trivial
 | f+1,k=>⟨hp.lt h0 _,hp.lt h0 _,fun b=>by cases b with|true=>exact trivial|false=>exact CS h0 hp f (k+1)⟩
theorem uU {n:Nat}(h0:0<n):∀(f:Nat) {p:Array Nat},Places n p->∀k q,KasIn n (fun r:Array Nat×Nat×Nat=>Places n r.1) (kas_desc f p k q)
 | 0,_,hp,_,_=>hp
 | f+1,p,hp,k,q=>by
  refine⟨hp.lt h0 _,hp.lt h0 _,fun b=> ?_⟩;cases b with
  | true =>
   show KasIn n _ (if q>0 then _ else _)
   split
   ·exact uU h0 f (jR hp _ _) _ _
   ·exact uU h0 f hp _ _
  | false =>
   refine⟨hp.lt h0 _,hp.lt h0 _,fun b=> ?_⟩;cases b with
   | true=>exact hp
   | false=>exact uU h0 f hp _ _
theorem DK {n k m:Nat}{p:Array Nat} (h0:0<n) (hp:Places n p):KasIn n (fun r:Nat×Array Nat=>Places n r.2) (kas_tail3 k m p) :=
 KasIn.bind (R:=fun _=>True) (S:=fun r:Nat×Array Nat=>Places n r.2) (f:=fun j=> .ret (j,kas_rev p 0 k)) (fun _ _=>jR hp 0 k) (CS h0 (jR hp 0 k) (m - k) k)
theorem vT {n k m:Nat}{p:Array Nat} (h0:0<n) (hp:Places n p):KasIn n (fun r:Nat×Array Nat=>Places n r.2) (kas_descPart k m p) :=
 KasIn.bind (fun r hr=>by
  split
  ·exact DK h0 (jR hr _ _)
  ·exact DK h0 hr) (uU h0 _ hp _ _)
theorem P2 {n m:Nat}{p:Array Nat} (h0:0<n) (hp:Places n p):KasIn n (fun r:Nat×Array Nat=>Places n r.2) (kas_count m p) :=
 KasIn.bind (fun k _=>by
  split
  ·exact hp
  ·split
   ·refine⟨hp.lt h0 _,hp.lt h0 _,fun b=> ?_⟩;cases b with
    | true=>exact hp
    | false=>exact vT h0 (jR hp _ _)
   ·exact vT h0 hp) (CS h0 hp _ _)
theorem wB {n k:Nat}{p:Array Nat} (h0:0<n) (hp:Places n p):∀(f l r:Nat),KasIn n (fun _=>True) (kas_place p k f l r)
 | 0,_,_=>trivial
 | f+1,l,r=>by
  unfold kas_place
  split
  ·exact trivial
  ·refine⟨hp.lt h0 _,hp.lt h0 _,fun b=> ?_⟩;cases b with
   | true=>exact wB h0 hp f _ _
   | false=>exact wB h0 hp f _ _
theorem KD {n:Nat}(h0:0<n):∀(f:Nat) {p:Array Nat} (k:Nat),Places n p->KasIn n (Places n) (kas_bin f p k)
 | 0,_,_,hp=>hp
 | f+1,_,k,hp=>KasIn.bind (fun _ _=>KD h0 f (k+1) ((bubble_perm _ _ _).trans hp)) (wB h0 hp _ _ _)
theorem GN {n:Nat}(h0:0<n):KasIn n (Places n) (kas_sort n) :=
 KasIn.bind (fun r hr=>by
  split
  ·exact KD h0 _ _ hr
  ·exact hr) (P2 h0 (Array.Perm.refl _))
def bP {α:Type}(d:α)(c:Nat->Nat->Bool)(l:List α):List α:=if l.length<2 then l else (aZ c (kas_sort l.length)).toList.map fun i=>l.getD i d
theorem fF {n:Nat}(c:Nat->Nat->Bool)(h:0<n):Places n (aZ c (kas_sort n)):=(GN h).val c
theorem qO {α:Type}(d:α)(c:Nat->Nat->Bool)(l:List α):(bP d c l).length=l.length:=by
 unfold bP
 split
 ·rfl
 ·have h:=(fF (n:=l.length) c (by lia)).size_eq;rw[List.length_map,Array.length_toList,h];simp
end L2
namespace L2
open PySem PySem.W PyProof.Rows PySem.Calls
section
variable {prog:Program}{w:World}{A:Around}{E:Value->Shared->Prop}{s:Shared}
abbrev nF (a:Addr)(h h':Heap):Prop:=∀b o,b≠a->h.get? b=some o->h'.get? b=some o
end
end L2
namespace L2
open PySem PySem.W PyProof.Rows
def cO:Key->Bool
 | .inl _=>true
 | .inr _=>false
def gA:Key->Key->Bool
 | .inl i,.inl j=>decide (i<j)
 | .inr x,.inr y=>decide (x.cps.toList<y.cps.toList)
 | _,_=>false
def c9:List Key->List Key->Bool
 | a::as,b::bs=>if a=b then c9 as bs else gA a b
 | _,_=>false
section
variable {prog:Program}{w:World}{A:Around}{s:Shared}
theorem WW {a b:Key}{u v:Value}{Q:Bool->Shared->Prop}{E:Value->Shared->Prop} (k:cO a=cO b) (ru:RelV (kV a) u) (rv:RelV (kV b) v) (q:Q (decide (a=b)) s):wpAny (model prog w) A (eqBool u v) Q E s:=by
 cases a<;>cases b<;>first|(cases k;done)|skip
 ·obtain⟨t,rfl⟩:=ru;obtain⟨t',rfl⟩:=rv;refine wpAny_eqBool_int ?_;rename_i i j;have e:(i==j)=decide ((Sum.inl i:Key)=Sum.inl j):=by
   by_cases z:i=j
   ·subst z;simp
   ·rw[beq_false_of_ne z,decide_eq_false (fun y=>z (Sum.inl.inj y))]
  rw[e];exact q
 ·obtain⟨t,rfl⟩:=ru;obtain⟨t',rfl⟩:=rv;refine wpAny_eqBool_str ?_;rename_i i j;have e:decide (i=j)=decide ((Sum.inr i:Key)=Sum.inr j):=by
   by_cases z:i=j
   ·subst z;simp
   ·rw[decide_eq_false z,decide_eq_false (fun y=>z (Sum.inr.inj y))]
  rw[e];exact q
theorem XJ {a b:Key}{u v:Value}{Q:Bool->Shared->Prop}{E:Value->Shared->Prop} (k:cO a=cO b) (ru:RelV (kV a) u) (rv:RelV (kV b) v) (q:Q (gA a b) s) (t:Bool):wpAny (model prog w) A (oneLt' t u v) Q E s:=by
 cases a<;>cases b<;>first|(cases k;done)|skip
 ·obtain⟨t1,rfl⟩:=ru;obtain⟨t2,rfl⟩:=rv;cases t with
  | true=>exact oneLt_int q
  | false=>exact kat_one _ _ (lt_int q)
 ·obtain⟨t1,rfl⟩:=ru;obtain⟨t2,rfl⟩:=rv;cases t with
  | true=>exact oneLt_str q
  | false=>exact kat_one _ _ (lt_str q)
theorem EA {Q:Bool->Shared->Prop}:∀{as bs:List Key}{us vs:List Value} (i:Nat),as.map cO=bs.map cO->Vals (as.map kV) us->Vals (bs.map kV) vs->Q (c9 as bs) s->KatLex prog w A true false Q (us.zip vs) i s
 | [],[],_,_,_,_,.nil,.nil,q=>kat_nil q
 | [],_::_,_,_,_,k,_,_,_=>by cases k
 | _::_,[],_,_,_,k,_,_,_=>by cases k
 | a::as,b::bs,_,_,i,k,.cons ra rs,.cons rb rt,q=>by
  have k1:cO a=cO b:=(List.cons.inj k).1;refine kat_cons (WW k1 ra rb ?_);have q':Q (if a=b then c9 as bs else gA a b) s:=q
  by_cases z:a=b
  ·rw[if_pos z]at q';rw[decide_eq_true z];exact kat_yes (EA (i+1) (List.cons.inj k).2 rs rt q')
  ·rw[if_neg z]at q';rw[decide_eq_false z];exact kat_no (XJ k1 ra rb q' _)
end
abbrev KRows (H:Hp):List V->List (List Key)->Prop:=Paired fun v r=>∃p,v= .ref p/\H p=some (.tup (r.map kV))
theorem KRows.map {H H':Hp}(f:∀p xs,H p=some (.tup xs)->H' p=some (.tup xs)):∀{vs:List V}{rs:List (List Key)},KRows H vs rs->KRows H' vs rs
 | _,_,.nil=> .nil
 | _,_,.cons ⟨p,e,h⟩ r=> .cons ⟨p,e,f _ _ h⟩ (KRows.map f r)
theorem KRows.same {H H':Hp}{vs:List V}{rs:List (List Key)} (x:KRows H vs rs) (s:Same H H'):KRows H' vs rs:=x.map fun p xs h=>s _ _ h
theorem KRows.get {H:Hp}:∀{vs:List V}{rs:List (List Key)}{i:Nat}{v:V},KRows H vs rs->vs[i]? =some v->∃p r,v= .ref p/\rs[i]? =some r/\H p=some (.tup (r.map kV))
 | _,_,0,_,.cons ⟨p,e,h⟩ _,z=>by cases z;exact⟨p,_,e,rfl,h⟩
 | _,_,i+1,_,.cons _ t,z=>KRows.get (i:=i) t (by simpa using z)
 | _,_,_,_,.nil,z=>by simp at z
def nB (rs:List (List Key))(i j:Nat):Bool:=c9 (rs.getD i []) (rs.getD j [])
def CF (rs:List (List Key))(vs:List V):List V:=bP .non (nB rs) vs
section
variable {X:Cx}{pins:List (Addr×Obj)}{σ:St}{H:Hp}{s:Shared}
theorem kO (I:Inv X pins σ H s){p:Addr}{r:List Key} (e:H p=some (.tup (r.map kV))):∃(o:Obj) (us:List Value) (n:Nat),s.heap.get? p=some o/\o.cls= .type "tuple" /\o.data= .seq us.toArray n/\Vals (r.map kV) us:=by
 obtain⟨_,its,r',o,h1,h2,n,h3⟩:=(show ObjOk X.prog X.w H s.heap p (.tup (r.map kV)) from I.hok p _ e)
 exact⟨o,its,n,h1,h2,h3,r'⟩
theorem tU (I:Inv X pins σ H s){sh:List Bool}{T:Value}{h':Heap} (kp:∀b o,s.heap.get? b=some o->h'.get? b=some o) (hT:∀(k:Key) (u:Value),sh.head? =some (cO k)->RelV (kV k) u->Looks (model X.prog X.w) h' (typeOf u) T) :
  ∀{vs:List V}{rs:List (List Key)}{us:List Value},KRows H vs rs->Vals vs us->(∀r∈rs,r.map cO=sh)->sh≠[]->∃fs,KatTups h' us fs/\fs.length=us.length/\∀v∈fs,Looks (model X.prog X.w) h' (typeOf v) T
 | _,_,_,.nil,.nil,_,_=>⟨[],trivial,rfl,fun _ z=>nomatch z⟩
 | _::_,r::_,_::_,.cons ⟨p,hv,e⟩ q,.cons rv rt,hs,hn=>by
  obtain⟨fs,f1,f2,f3⟩:=tU I kp hT q rt (fun r hr=>hs r (List.mem_cons_of_mem _ hr)) hn;subst hv;cases rv;have hr:=hs r (.head _);cases r with
  | nil=>exact absurd hr.symm hn
  | cons k ks =>
   obtain⟨o,us,n,o1,o2,o3,o4⟩:=kO I e;cases o4 with
   | cons r1 r2 =>
    rename_i u us;refine⟨u::fs,KatTups.cons (kp _ _ o1) o2 o3 (by simp) f1,by simp[f2],fun v hv=> ?_⟩;rcases List.mem_cons.mp hv with rfl|hv
    ·exact hT k _ (by rw[←hr];rfl) r1
    ·exact f3 v hv
theorem t7 {xs:List V}{us:List Value} (c:Nat->Nat->Bool) (r:Vals xs us):Vals (bP .non c xs) (bP Value.none c us):=by
 have hl:=r.length;unfold bP;rw[hl]
 split
 ·exact r
 ·have hp:=fF (n:=us.length) c (by lia);have hm:∀i∈(aZ c (kas_sort us.length)).toList,i<us.length:=fun i hi=>by
   have h:=hp.mem_iff.mp (Array.mem_toList_iff.mp hi)
   simpa using h
  revert hm;generalize (aZ c (kas_sort us.length)).toList=l;intro hm
  induction l with
  | nil=>exact .nil
  | cons i l ih =>
   refine .cons ?_ (ih fun j hj=>hm j (List.mem_cons_of_mem _ hj));have hi:=hm i (.head _);have hx:xs[i]? =some (xs[i]'(by lia)):=List.getElem?_eq_getElem _;obtain⟨u,hu,ru⟩:=r.get hx;show RelV (xs.getD i .non) (us.getD i Value.none);rw[List.getD_eq_getElem?_getD,List.getD_eq_getElem?_getD,hx,hu];exact ru
end
end L2
namespace L2
open PySem PySem.W PyProof.Rows
section
variable {prog:Program}{w:World}{A:Around}{E:Value->Shared->Prop}{s:Shared}{d it:Addr}{o:Obj}{es:Array DictEntry}{ep i:Nat}
theorem v7 {Q:Value->Shared->Prop}(hd:(d==sysModules)=false)(ho:s.heap.get? d=some o)(hc:o.ExactDict)(hq:o.data= .dict es ep)
  (k:Q (.ref s.heap.objs.size) { s with heap:=s.heap.push { cls:= .type "dict_keyiterator",data:= .fields #[.ref d,.int 0 0,.int es.size 0,.int ep 0] } }):wpAny (model prog w) A (pyIter (.ref d)) Q E s:=by
 have T:s.TypeIs (.ref d) "dict" :=⟨o,ho,hc.1⟩
 refine wpAny_pyIter_slot T F.slot_dict_iter (wpAny_call_entry F.slot_dict_iter T F.entry_dict_iter ?_ (F.args_dict_iter_1 _));unfold Builtin.«dict.__iter__» Builtin.Dict.dictSlotNone;refine wpAny_bind (wpAny_bind (wpAny_notOrdered_dict T (wpAny_pure ?_)));show wpAny _ A.in1 (Builtin.Dict.showsAll d >>= _) _ _ s;unfold Builtin.Dict.showsAll;rw[if_neg (fun z=>by rw[hd]at z;cases z)];refine wpAny_bind (wpAny_pure (wpAny_bind (wpAny_dictEntries ho hq (wpAny_bind (wpAny_dictEpoch ho hq ?_)))));exact wpAny_bind (wpAny_newObj_type (wpAny_pure ⟨_,rfl,"dict_keyiterator",_,⟨_,Heap.get?_push_size _ rfl,rfl⟩,F.slot_dict_keyiterator_next.lookup,k⟩))
theorem wE {Q:Option Value->Shared->Prop}{e:DictEntry} (hit:s.heap.IsKeyIter it d i es.size ep) (ho:s.heap.get? d=some o) (hq:o.data= .dict es ep) (hx:es[i]? =some e)
  (k:∀h',h'.IsKeyIter it d (i+1) es.size ep->Heap.SameBut it s.heap h'->Q (some e.key) { s with heap:=h' }):wpAny (model prog w) A (pyNext (.ref it)) Q E s:=by
 obtain⟨oi,hi,ci,di⟩:=id hit;have T:=hit.typeIs;unfold pyNext;refine wpAny_bind (wpAny_attempt (wpAny_callSpecial?_slot (name:=Str.ofString "__next__") T F.slot_dict_keyiterator_next (wpAny_call_entry F.slot_dict_keyiterator_next T F.entry_dict_keyiterator_next ?_ (F.args_dict_keyiterator_next_1 _))));refine wpAny_bind (wpAny_pure (wpAny_bind (wpAny_bind ?_)))
 first|refine wpAny_bind (wpAny_typeNameOfWhole_keyiter T (wpAny_pure (wpAny_bind (wpAny_fieldsOf hi di ?_))))|refine wpAny_bind (wpAny_typeNameOf_keyiter T (wpAny_pure (wpAny_bind (wpAny_fieldsOf hi di ?_))))
 simp only[show Builtin.Dict_items.ownsTuple "dict_keyiterator" =false by decide,Bool.false_eq_true,if_false];show wpAny _ A.in1 (if (Value.ref d==Value.none)=true then _ else _) _ _ s;rw[if_neg (show ¬(Value.ref d==Value.none)=true from Bool.false_ne_true)];refine wpAny_bind (wpAny_pure (wpAny_bind (wpAny_dictEntries ho hq ?_)));rw[if_neg (by simp)];refine wpAny_bind (wpAny_pure (wpAny_bind (wpAny_dictEpoch ho hq ?_)));rw[if_neg (by simp)];refine wpAny_pure ?_;simp only[show ¬((i:Int)<0) from by lia,if_false,Int.toNat_natCast,hx];refine wpAny_bind ?_
 first|refine wpAny_bind (wpAny_typeNameOfWhole_keyiter T (wpAny_pure (wpAny_bind (wpAny_isOneOf_keyiter T ?_))))|refine wpAny_bind (wpAny_typeNameOf_keyiter T (wpAny_pure (wpAny_bind (wpAny_isOneOf_keyiter T ?_))))
 show wpAny _ A.in1 (setField (.ref it) 1 (rawInt ((i:Int)+1)) >>= _) _ _ s;refine wpAny_bind (wpAny_setField hi di (by simp) ?_);have H2:(s.heap.update it (Obj.mapFields (·.setIfInBounds 1 (rawInt ((i:Int)+1))))).IsKeyIter it d (i+1) es.size ep :=
  ⟨_,Heap.get?_update_self _ hi (Obj.isFreed_of_fields (Obj.data_mapFields di _)),(Obj.cls_mapFields ..).trans ci,(Obj.data_mapFields di _).trans (by simp[rawInt])⟩
 refine wpAny_bind (wpAny_holding (wpAny_bind (wpAny_isOneOf_keyiter (s:={ s with heap:=s.heap.update it (Obj.mapFields (·.setIfInBounds 1 (rawInt ((i:Int)+1)))) }) H2.typeIs ?_)));show wpAny _ A.in1 (pure e.key) _ _ _;exact wpAny_pure (wpAny_pure ⟨_,rfl,wpAny_pure (k _ H2 (Heap.SameBut.update ..))⟩)
theorem yF {Q:Option Value->Shared->Prop}(hh:A.handled=none)(hit:s.heap.IsKeyIter it d i es.size ep)(ho:s.heap.get? d=some o)(hq:o.data= .dict es ep)(hx:es.size<=i)
  (k:∀h',Heap.ExtBut it s.heap h'->Q none { s with heap:=h' }):wpAny (model prog w) A (pyNext (.ref it)) Q E s:=by
 obtain⟨oi,hi,ci,di⟩:=id hit;have T:=hit.typeIs;unfold pyNext;refine wpAny_bind (wpAny_attempt (wpAny_callSpecial?_slot (name:=Str.ofString "__next__") T F.slot_dict_keyiterator_next (wpAny_call_entry F.slot_dict_keyiterator_next T F.entry_dict_keyiterator_next ?_ (F.args_dict_keyiterator_next_1 _))));refine wpAny_bind (wpAny_pure (wpAny_bind (wpAny_bind ?_)))
 first|refine wpAny_bind (wpAny_typeNameOfWhole_keyiter T (wpAny_pure (wpAny_bind (wpAny_fieldsOf hi di ?_))))|refine wpAny_bind (wpAny_typeNameOf_keyiter T (wpAny_pure (wpAny_bind (wpAny_fieldsOf hi di ?_))))
 simp only[show Builtin.Dict_items.ownsTuple "dict_keyiterator" =false by decide,Bool.false_eq_true,if_false];show wpAny _ A.in1 (if (Value.ref d==Value.none)=true then _ else _) _ _ s;rw[if_neg (show ¬(Value.ref d==Value.none)=true from Bool.false_ne_true)];refine wpAny_bind (wpAny_pure (wpAny_bind (wpAny_dictEntries ho hq ?_)));rw[if_neg (by simp)];refine wpAny_bind (wpAny_pure (wpAny_bind (wpAny_dictEpoch ho hq ?_)));rw[if_neg (by simp)];refine wpAny_pure ?_;simp only[show ¬((i:Int)<0) from by lia,if_false,Int.toNat_natCast,Array.getElem?_eq_none hx];refine wpAny_bind ?_
 first|refine wpAny_bind (wpAny_typeNameOfWhole_keyiter T (wpAny_pure ?_))|refine wpAny_bind (wpAny_typeNameOf_keyiter T (wpAny_pure ?_))
 show wpAny _ A.in1 (setField (.ref it) 0 .none >>= _) _ _ s;refine wpAny_bind (wpAny_setField hi di (by simp) ?_);show wpAny _ A.in1 (newExc (.type "StopIteration") [] >>= _) _ _ _;refine wpAny_bind ?_;simp only[newExc,newTuple];refine wpAny_bind (wpAny_newObj_type (wpAny_bind (m:=firstArgMember _ _) (wpAny_of_eq (a:=Value.none) (by first|rfl|(simp only[firstArgMember];rfl)) (wpAny_newObj_type ?_ (by size_fits)))) (by size_fits));simp only[raiseNew];refine wpAny_bind (wpAny_handled ?_);rw[show A.in1.handled=none from hh];refine wpAny_bind (wpAny_pure (wpAny_throw ?_));refine wpAny_bind (wpAny_isInstance (b:=true) (T:= "StopIteration") ⟨_,Heap.get?_push_size _ rfl,rfl⟩ isSubtype_stop ?_);exact wpAny_pure (k _ (((Heap.SameBut.update ..).extBut.push _).push _))
end
end L2
namespace L2
open PySem PySem.W PyProof.Rows
def Itk (a:Addr)(o:Obj)(kvs:List (Key×V)):It :=
 ⟨fun i H=>H a=some (.frz o (.dK kvs))/\i<kvs.length,fun i H x H'=>H'=H/\∃k v,kvs[i]? =some (k,v)/\x=kV k,fun i H=>H a=some (.frz o (.dK kvs))/\kvs.length<=i⟩
def Itq (a:Addr)(o:Obj)(kvs:List (List Key×V)):It :=
 ⟨fun i H=>H a=some (.frz o (.dT kvs))/\i<kvs.length,fun i H x H'=>H'=H/\∃k v q,kvs[i]? =some (k,v)/\x= .ref q/\H q=some (.tup (k.map kV)),fun i H=>H a=some (.frz o (.dT kvs))/\kvs.length<=i⟩
theorem KT.get {H:Hp}:∀{kvs:List (List Key×V)}{xs:List (List Key×Addr×Value)}{i:Nat},KT H kvs xs->i<kvs.length->∃k v b u,kvs[i]? =some (k,v)/\xs[i]? =some (k,b,u)/\H b=some (.tup (k.map kV))
 | _,_,0,.cons h _,_=>⟨_,_,_,_,rfl,by rw[h.1];rfl,h.2.1⟩
 | _,_,i+1,.cons _ t,hi=>by
  obtain⟨k,v,b,u,e1,e2,e3⟩:=KT.get (i:=i) t (by simpa using hi);exact⟨k,v,b,u,by simpa using e1,by simpa using e2,e3⟩
 | _,_,_,.nil,hi=>by simp at hi
theorem KT.len {H:Hp}{kvs:List (List Key×V)}{xs:List (List Key×Addr×Value)} (r:KT H kvs xs):kvs.length=xs.length:=Paired.length r
theorem IJ {P:Program}{w:World}{K:PySem.W.Frag}{tg:Expr} (a it:Addr) {o:Obj}{es:Array DictEntry}{ep:Nat} (kvs:List (List Key×V)) (hd:o.data= .dict es ep) (hz:es.size=kvs.length) :
  tH P w K tg (Itq a o kvs) [it] it (fun i h=>h.IsKeyIter it a i es.size ep) where
 mem:=by simp
 obj:=fun i h st b hb=>by
  have e:b=it:=by simpa using hb
  subst e;obtain⟨ob,e,c,d⟩:=st;exact⟨ob,e,fun v z=>by rw[d]at z;cases z⟩
 keep:=fun i h h' st k=>st.at fun ob e=>k it (by simp) ob e
 item:=by
  intro X hP hw hK hc i pins s σ H E I hf st hg;subst hP hw hK;obtain⟨ha,hi⟩:=hg;obtain⟨ho,hok⟩:=(show ObjOk X.prog X.w H s.heap a (.frz o (.dT kvs)) from I.hok a _ ha)
  obtain⟨z,y,xs,r,o',es',ep',h1,h2,h3,h4,h5⟩:=hok;rw[ho]at h1;cases h1;rw[hd]at h3;cases h3;obtain⟨k,v,b,u,e1,e2,e3⟩:=KT.get r hi;have e4:=entry_at h4 i;rw[e2]at e4;obtain⟨f0,f1,f2,f3,f4,f5⟩:=hf it (by simp);refine wE st ho hd e4 fun h' st' sb=> ?_;have I1:Inv X pins σ H { s with heap:=h' }:=I.turned (t':=s.toks) (fun b o hb e=>(sb.2 b hb).trans e) f0 f1 f3 f4 f5;exact⟨_,rfl,letGo_keyiter (s':={ s with heap:=h' }) st' ⟨.ref b,H,I1,rfl,⟨rfl,k,v,b,e1,rfl,e3⟩,st',fun b hb=>(hf b hb).1⟩⟩
 done:=by
  intro X hP hw hK hc i pins s σ H E I hf st hg;subst hP hw hK;obtain⟨ha,hi⟩:=hg;obtain⟨ho,hok⟩:=(show ObjOk X.prog X.w H s.heap a (.frz o (.dT kvs)) from I.hok a _ ha)
  obtain⟨f0,f1,f2,f3,f4,f5⟩:=hf it (by simp);exact yF (I.ok.hd hc) st ho hd (by lia) fun h' eb=>⟨rfl,I.turned (t':=s.toks) (fun b o hb e=>eb b o hb e) f0 f1 f3 f4 f5⟩
 self:=fun _ _ _ _ _ st h=>wpAny_pyIter_keyiter st h
def LG (td:TE):TI:=fun σ H R=>td σ H fun x H1=>∃a kvs,x= .ref a/\H1 a=some (.dT kvs)/\∀o,R (Itq a o kvs) (upd H1 a (.frz o (.dT kvs)))
section
variable {X:Cx}{tg:Expr}
theorem Inv.freeze {pins:List (Addr×Obj)}{σ:St}{H:Hp}{s:Shared}{a:Addr}{u:HO}{o:Obj} (I:Inv X pins σ H s) (mu:Mut (some u)) (e:H a=some u) (ho:s.heap.get? a=some o) (new:ObjOk X.prog X.w (upd H a (.frz o u)) s.heap a (.frz o u)):Inv X pins σ (upd H a (.frz o u)) s :=
 I.write (t':=s.toks) (h':=s.heap) (by rw[e];exact mu) (.inl rfl) (fun b u _ z=>z) ⟨_,ho⟩ new
theorem P0 {l:Expr}{td:TE} (hl:PE X l td):PI X tg l (LG td):=by
 intro pins s σ H R I h;refine thn (hl pins s σ H _ I h) fun v s1 ⟨x,H1,I1,r1,q1⟩=> ?_;obtain⟨a,kvs,rfl,hq,q⟩:=q1;cases r1;obtain⟨z,y,xs,r,o,es,ep,h1,h2,h3,h4,h5⟩:=(show ObjOk X.prog X.w H1 s1.heap a (.dT kvs) from I1.hok a _ hq)
 have hz:es.size=kvs.length:=by rw[size_of_entries h4,KT.len r]
 have hne:∀b ys,H1 b=some (.tup ys)->upd H1 a (.frz o (.dT kvs)) b=some (.tup ys):=fun b ys e=>by
  have hb:b≠a:=fun z=>by rw[z,hq]at e;cases e
  rw[aT hb];exact e
 have new:ObjOk X.prog X.w (upd H1 a (.frz o (.dT kvs))) s1.heap a (.frz o (.dT kvs)):=⟨h1,z,y,xs,KT.keeps r hne,o,es,ep,h1,h2,h3,h4,h5⟩
 have I2:Inv X pins σ (upd H1 a (.frz o (.dT kvs))) s1:=I1.freeze trivial hq h1 new;refine v7 y h1 h2 h3 ?_;refine⟨s1.heap.objs.size,[s1.heap.objs.size],_,_,upd H1 a (.frz o (.dT kvs)),rfl,I2.kept (t':=s1.toks) fun b o e=>Heap.get?_push_of_some _ e,IJ a _ kvs h3 hz,⟨_,Heap.get?_push_size _ rfl,rfl,rfl⟩,fun b hb=> ?_,q o⟩;have e:b=s1.heap.objs.size:=by simpa using hb
 subst e;exact I2.fpOk (Nat.le_refl _) (I2.hok.fresh (Nat.le_refl _))
end
end L2
namespace L2
open PySem PySem.W PyProof.Rows
section
variable {X:Cx}{e c:Expr}{te:TE}{lo hi:Option Expr}{tl th ts:TO}{pos p2:Pos}
end
def w6:V->Bool
 | .ref _=>true
 | x=>jU x
theorem VP {A:Around}{s:Shared}{xs:List V}{us ws:List Value} (hf:xs.all w6=true) (r:Vals xs us) (q:Vals xs ws) (j:Nat) (h1:j<us.toArray.size) (h2:j<ws.toArray.size):SeqAt.EqAt A s us.toArray[j] ws.toArray[j] true:=by
 have hj:j<xs.length:=by rw[r.length];simpa using h1
 obtain⟨u,e1,ru⟩:=r.get (i:=j) (x:=xs[j]) (List.getElem?_eq_getElem hj);obtain⟨v,e2,rv⟩:=q.get (i:=j) (x:=xs[j]) (List.getElem?_eq_getElem hj);have hfx:w6 xs[j]=true:=(List.all_eq_true.mp hf) _ (List.getElem_mem hj);have q1:us.toArray[j]=u:=by simpa using (List.getElem?_eq_some_iff.mp e1).2
 have q2:ws.toArray[j]=v:=by simpa using (List.getElem?_eq_some_iff.mp e2).2
 rw[q1,q2];revert hfx ru rv;generalize xs[j]=x;intro ru rv hfx;have base:jU x=true->SeqAt.EqAt A s u v true:=fun hx=>by
  have:=LX (A:=A) (s:=s) ru rv hx hx;rw[NF hx]at this;exact this
 cases x<;>first|(cases ru;cases rv;exact SeqAt.EqAt.same _)|exact base hfx
def K4 (K:PySem.W.Frag)(r:Bool):R2:=fun x y H Q=>∃a b xs,x= .ref a/\y= .ref b/\SqL K H a xs/\SqL K H b xs/\xs.all w6=true/\Q (.bl r) H
section
variable {X:Cx}
theorem VA (hu:X.A.units<cLine):OpR X (compareOp .NotEq) (K4 X.K false):=by
 intro pins s σ H x y v u Q I rx ry h;obtain⟨a,b,xs,rfl,rfl,ha,hb,hf,q⟩:=h;cases rx;cases ry;obtain⟨its,r,pl,hz⟩:=I.list ha;obtain⟨its2,r2,pl2,_⟩:=I.list hb;exact SeqAt.RcNeAt.lists (e:=fun _=>true) pl.isList pl2.isList (by simp[←r.length,←r2.length]) hu (VP hf r r2) X.prog X.w X.xe _ ⟨.bl false,H,I,by rw[qV];rfl,q⟩
end
section
variable {X:Cx}{pins:List (Addr×Obj)}{σ:St}{H:Hp}{s:Shared}
end
section
variable {X:Cx}
end
end L2
namespace L2
open PySem PySem.W PyProof.Rows
section
variable {K:PySem.W.Frag}{ti:TT}{te:TE}{σ:St}{ci:List Nat}{rest:St}{fin:List V->Hp->Prop}{H:Hp}{a:Addr}
end
end L2
namespace L2
open PySem PySem.W PyProof.Rows
theorem AV:bootBuiltins "sorted" =some (.builtin "sorted"):=by decide +kernel
theorem Room.units1 {k:Nat}{A:Around} (r:Room k A):A.units+1<cLine:=by have:=r.un;lia
section
variable {K:PySem.W.Frag}{H:Hp}{Q:VK}
theorem NN {a b:Addr}{xs:List V}{r:Bool} (e:SqL K H a xs) (e2:SqL K H b xs) (h:xs.all w6=true) (k:Q (.bl r) H):K4 K r (.ref a) (.ref b) H Q:=⟨a,b,xs,rfl,rfl,e,e2,h,k⟩
end
section
variable {H:Hp}{Q:VK}{σ:St}
theorem OL (h:∀p H',H p=none->Same H H'->H' p=some (.dT [])->Q (.ref p) H'):LJ σ H Q:=fT h
theorem q0 {κ:Type}[DecidableEq κ]{kvs:List (κ×V)}{k:κ}{v:V}{e:κ×V} (h:e∈bU kvs k v):e∈kvs∨e.1=k/\e.2=v:=by
 unfold bU at h
 split at h
 ·obtain⟨p,hp,e1⟩:=List.mem_map.mp h
  by_cases z:p.1=k
  ·rw[if_pos z]at e1;subst e1;exact .inr ⟨z,rfl⟩
  ·rw[if_neg z]at e1;subst e1;exact .inl hp
 ·rcases List.mem_append.mp h with h|h
  ·exact .inl h
  ·cases List.mem_singleton.mp h;exact .inr ⟨rfl,rfl⟩
end
end L2
namespace L2
open PySem PySem.W PyProof.Rows
section
variable {X:Cx}{K:PySem.W.Frag}
theorem k4 {es:List Expr}{k:Nat}{t:TGs}{n:Nat}{pos:Pos} (hc:X.calm=true) (h:PGs X es t) (hK:X.K=K:=by rfl)
  (hn:(assignEach es X.env).length=n:=by rfl)(hst:(assignEach es X.env).findIdx? (·.1)=none:=by rfl):PG X (.Tuple es k pos) (yT K n t):=by
 subst hK;exact l0 hc h hn hst
theorem qN (hK:X.K=K:=by rfl):IxR X (V4 K):=by
 subst hK;exact xZ
end
def HR (nx:St->Hp->Prop)(σ:St)(x v:V):VK:=fun y H3=>∃a H4,x= .ref a/\DPut H3 a y v H4/\nx σ H4
def IM (Q:VK)(x:V):VK:=fun y H2=>∃a v,x= .ref a/\DGet H2 a y (some v)/\Q v H2
def QW (R:It->Hp->Prop):VK:=fun x H1=>∃a kvs,x= .ref a/\H1 a=some (.dT kvs)/\∀o,R (Itq a o kvs) (upd H1 a (.frz o (.dT kvs)))
section
variable {K:PySem.W.Frag}{H:Hp}{Q:VK}{σ:St}{nx rt bk ct:St->Hp->Prop}
theorem TY {td ty tv:TE}{nx:St->Hp->Prop}{rt:VK}{bk ct:St->Hp->Prop} (h:tv σ H fun v H1=>td σ H1 fun x H2=>ty σ H2 (HR nx σ x v)):QM td ty tv ⟨nx,rt,bk,ct⟩ σ H:=h
theorem gX {p b:Addr}{v:V}{kvs:List (List Key×V)} (k:List Key) (e:H p=some (.dT kvs)) (eb:H b=some (.tup (k.map kV))) (hl:kvs.length<sizeLine)
  (h:∀H',SameBut p H H'->H' p=some (.dT (bU kvs k v))->nx σ H'):HR nx σ (.ref p) v (.ref b) H :=
 ⟨p,_,rfl,DPut.t e eb hl,h _ SameBut.upd bK⟩
theorem RF {td ty:TE}(h:td σ H fun x H1=>ty σ H1 (IM Q x)):Q4 td ty σ H Q:=h
theorem rB {p b:Addr}{v:V}{kvs:List (List Key×V)} (k:List Key) (e:Rd H p (.dT kvs)) (eb:H b=some (.tup (k.map kV))) (hv:bD kvs k=some v) (h:Q v H):IM Q (.ref p) (.ref b) H :=
 ⟨p,v,rfl,.inr ⟨kvs,k,b,e,rfl,eb,hv.symm⟩,h⟩
theorem OG {td:TE}{R:It->Hp->Prop} (h:td σ H (QW R)):LG td σ H R:=h
theorem O8 {p:Addr}{kvs:List (List Key×V)}{R:It->Hp->Prop} (e:H p=some (.dT kvs)) (h:∀o H',SameBut p H H'->H' p=some (.frz o (.dT kvs))->R (Itq p o kvs) H'):QW R (.ref p) H :=
 ⟨p,kvs,rfl,e,fun o=>h o _ SameBut.upd bK⟩
theorem nK {p:Addr}{xs:List V}{i:Int} (e:SqL K H p xs) (h0:0<=i) (h1:i<xs.length) (h:∀v∈xs,Q v H):CN K (.ref p) (.int i) H Q:=by
 have hl:i.toNat<xs.length:=by lia
 have e1:=u5 (xs:=xs) (j:=i.toNat) (v:=xs[i.toNat]) (List.getElem?_eq_getElem hl);rw[show ((i.toNat:Nat):Int)=i by lia]at e1;exact⟨p,xs,i,_,rfl,rfl,e,e1,h _ (List.getElem_mem hl)⟩
end
end L2
namespace L2
open PySem PySem.W PyProof.Rows
theorem GX {P:Program}{w:World}{k:Key}{u:Value} (h:(cA P w).is k u=true):RelV (kV k) u:=by
 rcases cY h with⟨i,t,rfl,rfl⟩|⟨x,t,rfl,rfl⟩
 ·exact⟨t,rfl⟩
 ·exact⟨t,rfl⟩
theorem L1 {κ:Type}{kvs:List (κ×V)}{vs:List (κ×Value)}{i:Nat} (h:KV kvs vs) (hi:i<kvs.length):∃k v u,kvs[i]? =some (k,v)/\vs[i]? =some (k,u)/\RelV v u:=by
 induction h generalizing i with
 | nil=>exact absurd hi (Nat.not_lt_zero _)
 | @cons x y l m h t ih =>
  cases i with
  | zero=>exact⟨x.1,x.2,y.2,rfl,by rw[h.1];rfl,h.2⟩
  | succ i=>exact ih (Nat.lt_of_succ_lt_succ hi)
theorem AY {P:Program}{w:World}{κ:Type} [DecidableEq κ] {knd:KeyKind P w κ}:∀{es:List DictEntry}{kvs:List (κ×Value)}{i:Nat}{k:κ}{u:Value},Pairs knd es kvs->kvs[i]? =some (k,u)->∃e,es[i]? =some e/\knd.is k e.key=true/\e.val=u
 | _,_,0,_,_,.cons h1 h2 _,z=>by cases z;exact⟨_,rfl,h1,h2⟩
 | _,_,i+1,_,_,.cons _ _ t,z=>by
  obtain⟨e,e1,e2⟩:=AY (i:=i) t (by simpa using z);exact⟨e,by simpa using e1,e2⟩
 | _,_,_,_,_,.nil,z=>by simp at z
theorem IA {P:Program}{w:World}{K:PySem.W.Frag}{tg:Expr} (a it:Addr) {o:Obj}{es:Array DictEntry}{ep:Nat} (kvs:List (Key×V)) (hd:o.data= .dict es ep) (hz:es.size=kvs.length) :
  tH P w K tg (Itk a o kvs) [it] it (fun i h=>h.IsKeyIter it a i es.size ep) where
 mem:=by simp
 obj:=fun i h st b hb=>by
  have e:b=it:=by simpa using hb
  subst e;obtain⟨ob,e,c,d⟩:=st;exact⟨ob,e,fun v z=>by rw[d]at z;cases z⟩
 keep:=fun i h h' st k=>st.at fun ob e=>k it (by simp) ob e
 item:=by
  intro X hP hw hK hc i pins s σ H E I hf st hg;subst hP hw hK;obtain⟨ha,hi⟩:=hg;obtain⟨ho,z,y,vs,r,o',es',ep',h1,h2,h3,h4,h5,h6⟩:=(show ObjOk X.prog X.w H s.heap a (.frz o (.dK kvs)) from I.hok a _ ha)
  rw[ho]at h1;cases h1;rw[hd]at h3;cases h3;obtain⟨k,v,u,e1,e2,e3⟩:=L1 r hi;obtain⟨e,f6,f7,f8⟩:=AY h5 e2;obtain⟨f0,f1,f2,f3,f4,f5⟩:=hf it (by simp);refine wE st ho hd (e:=e) (by simpa using f6) fun h' st' sb=> ?_;have I1:Inv X pins σ H { s with heap:=h' }:=I.turned (t':=s.toks) (fun b o hb e=>(sb.2 b hb).trans e) f0 f1 f3 f4 f5;exact⟨_,rfl,letGo_keyiter (s':={ s with heap:=h' }) st' ⟨kV k,H,I1,GX f7,⟨rfl,k,v,e1,rfl⟩,st',fun b hb=>(hf b hb).1⟩⟩
 done:=by
  intro X hP hw hK hc i pins s σ H E I hf st hg;subst hP hw hK;obtain⟨ha,hi⟩:=hg;obtain⟨ho,hok⟩:=(show ObjOk X.prog X.w H s.heap a (.frz o (.dK kvs)) from I.hok a _ ha)
  obtain⟨f0,f1,f2,f3,f4,f5⟩:=hf it (by simp);exact yF (I.ok.hd hc) st ho hd (by lia) fun h' eb=>⟨rfl,I.turned (t':=s.toks) (fun b o hb e=>eb b o hb e) f0 f1 f3 f4 f5⟩
 self:=fun _ _ _ _ _ st h=>wpAny_pyIter_keyiter st h
def J0 (td:TE):TI:=fun σ H R=>td σ H fun x H1=>∃a kvs,x= .ref a/\H1 a=some (.dK kvs)/\∀o,R (Itk a o kvs) (upd H1 a (.frz o (.dK kvs)))
section
variable {X:Cx}{tg:Expr}
theorem v8 {l:Expr}{td:TE} (hl:PE X l td):PI X tg l (J0 td):=by
 intro pins s σ H R I h;refine thn (hl pins s σ H _ I h) fun v s1 ⟨x,H1,I1,r1,q1⟩=> ?_;obtain⟨a,kvs,rfl,hq,q⟩:=q1;cases r1;obtain⟨z,y,vs,r,o,es,ep,h1,h2,h3,h4,h5,h6⟩:=(show ObjOk X.prog X.w H1 s1.heap a (.dK kvs) from I1.hok a _ hq)
 have hz:es.size=kvs.length:=by rw[r.length,←h5.length];simp
 have new:ObjOk X.prog X.w (upd H1 a (.frz o (.dK kvs))) s1.heap a (.frz o (.dK kvs)):=⟨h1,z,y,vs,r,o,es,ep,h1,h2,h3,h4,h5,h6⟩
 have I2:Inv X pins σ (upd H1 a (.frz o (.dK kvs))) s1:=I1.freeze trivial hq h1 new;refine v7 y h1 h2 h3 ?_;refine⟨s1.heap.objs.size,[s1.heap.objs.size],_,_,upd H1 a (.frz o (.dK kvs)),rfl,I2.kept (t':=s1.toks) fun b o e=>Heap.get?_push_of_some _ e,IA a _ kvs h3 hz,⟨_,Heap.get?_push_size _ rfl,rfl,rfl⟩,fun b hb=> ?_,q o⟩;have e:b=s1.heap.objs.size:=by simpa using hb
 subst e;exact I2.fpOk (Nat.le_refl _) (I2.hok.fresh (Nat.le_refl _))
end
section
variable {X:Cx}
end
end L2
namespace L2
open PySem PySem.W PyProof.Rows
section
variable {X:Cx}{pins:List (Addr×Obj)}{σ:St}{H:Hp}{s:Shared}{a:Addr}{o:Obj}{u:HO}
theorem Inv.thaw (I:Inv X pins σ H s)(h0:∀o u,X.H₀ a≠some (.frz o u))(e:H a=some (.frz o u)):Inv X pins σ (upd H a u) s:=by
 have nn:∀b,H b=none->b≠a:=fun b n z=>by rw[z,e]at n;cases n
 have no:∀b c,H b=some (.own c)->b≠a:=fun b c n z=>by rw[z,e]at n;cases n
 have nt:∀b xs,H b=some (.tup xs)->b≠a:=fun b c n z=>by rw[z,e]at n;cases n
 refine⟨I.ok,I.os,I.bare,⟨I.base.keep,I.base.slot,fun b ob q n hx=> ?_,I.base.there,fun b xs q=> ?_,fun b ob xs q=> ?_,fun b ps q=> ?_⟩,I.loc,I.cell,?_,fun x c ec=> ?_,fun p hp=> ?_,fun b v q=> ?_,I.len⟩
 ·have z:=I.base.free b ob q n hx;rw[aT (nn b z)];exact z
 ·have z:=I.base.tups b xs q;rw[aT (nt b xs z)];exact z
 ·have z:=I.base.frzs b ob xs q;have hb:b≠a:=fun y=>h0 ob xs (by rw[←y];exact q);rw[aT hb];exact z
 ·obtain⟨more,z⟩:=I.base.tbls b ps q;refine⟨more,?_⟩;rw[aT (fun y=>by rw[y,e]at z;cases z)];exact z
 ·rw[aT (nn _ I.free)];exact I.free
 ·rw[aT (nn _ (I.freeC x c ec))];exact I.freeC x c ec
 ·obtain⟨p1,p2,p3⟩:=I.pin p hp;exact⟨p1,by rw[aT (nn _ p2)];exact p2,p3⟩
 ·have so:∀b c,H b=some (.own c)->upd H a u b=some (.own c):=fun b c z=>by rw[aT (no b c z)];exact z
  have st:∀b xs,H b=some (.tup xs)->upd H a u b=some (.tup xs):=fun b c z=>by rw[aT (nt b c z)];exact z
  by_cases hb:b=a
  ·subst hb;rw[bK]at q;cases q;obtain⟨_,z⟩:=(show ObjOk X.prog X.w H s.heap b (.frz o u) from I.hok b _ e)
   exact z.stay (fun _ _ _ q=>q) (fun c z=>so c b z) st
  ·rw[aT hb]at q;exact(I.hok b v q).stay (fun _ _ _ q=>q) (fun c z=>so c b z) st
theorem Inv.wasFree (I:Inv X pins σ H s)(h:∀o u,H a≠some (.frz o u)):∀o u,X.H₀ a≠some (.frz o u):=fun o u z=>h o u (I.base.frzs a o u z)
end
def g7 (a:Addr)(R:Hp->Prop):Hp->Prop:=fun H=>∃o u,H a=some (.frz o u)/\R (upd H a u)
def QZ (te:TE):TE:=fun σ H Q=>∃a,(∀o u,H a≠some (.frz o u))/\te σ H fun x=>g7 a (Q x)
def QR (ts:TS):TS:=fun D σ H=>∃a,(∀o u,H a≠some (.frz o u))/\ts ⟨fun σ'=>g7 a (D.nx σ'),fun v=>g7 a (D.rt v),fun σ'=>g7 a (D.bk σ'),fun σ'=>g7 a (D.ct σ')⟩ σ H
section
variable {X:Cx}
theorem yM {e:Expr}{te:TE} (he:PE X e te):PE X e (QZ te):=by
 intro pins s σ H Q I h;obtain⟨a,h0,h⟩:=h;refine thn (he pins s σ H _ I h) fun v s1 ⟨x,H1,I1,r1,o,u,e,q⟩=> ?_;exact⟨x,_,I1.thaw (I.wasFree h0) e,r1,q⟩
theorem SO {st:Stmt}{ts:TS} (he:PS X st ts):PS X st (QR ts):=by
 intro pins s σ H D I h;obtain⟨a,h0,h⟩:=h;refine thn (he pins s σ H _ I h) fun f s1 z=> ?_;cases f with
 | next=>obtain⟨σ1,H1,I1,o,u,e,q⟩:=z;exact⟨σ1,_,I1.thaw (I.wasFree h0) e,q⟩
 | brk=>obtain⟨σ1,H1,I1,o,u,e,q⟩:=z;exact⟨σ1,_,I1.thaw (I.wasFree h0) e,q⟩
 | cont=>obtain⟨σ1,H1,I1,o,u,e,q⟩:=z;exact⟨σ1,_,I1.thaw (I.wasFree h0) e,q⟩
 | ret v=>obtain⟨x,σ1,H1,I1,r,o,u,e,q⟩:=z;exact⟨x,σ1,_,I1.thaw (I.wasFree h0) e,r,q⟩
end
end L2
namespace L2
open PySem PySem.W PyProof.Rows
theorem ES:∀bs:List Bool,((List.range bs.length).any fun i=>bs.getD i false)=bs.any id
 | []=>rfl
 | b::bs=>by
  rw[List.length_cons,List.range_succ_eq_map,List.any_cons,List.any_map,List.any_cons,←ES bs];rfl
theorem xF:∀{ns:List Int}{us:List Value},Vals (ns.map V.int) us->∃xs:List (Int×Tok),us=xs.map (fun p=>Value.int p.1 p.2)/\ns=xs.map (·.1)
 | [],_,.nil=>⟨[],rfl,rfl⟩
 | n::ns,_,.cons r t=>by
  obtain⟨xs,rfl,rfl⟩:=xF t;obtain⟨tk,rfl⟩:=r;exact⟨(n,tk)::xs,rfl,rfl⟩
section
variable {X:Cx}
def V5 (K:PySem.W.Frag):List V->Hp->VK->Prop:=fun xs H Q=>∃(p:Addr) (bs:List Bool),xs=[.ref p]/\SqL K H p (bs.map V.bl)/\Q (.bl (bs.any id)) H
theorem z7 (hc:X.calm=true):dO X (.builtin "any") (V5 X.K):=by
 intro pins s σ H xs us Q I r h;obtain⟨p,bs,rfl,hq,q⟩:=h;obtain⟨u,rfl,rx⟩:=jZ r;cases rx;obtain⟨its,r',pl,hz⟩:=I.list hq;have hl:=pl.isList;have hlt:p<s.heap.objs.size:=by obtain⟨_,e,_⟩:=hl;exact Heap.lt_size e
 have hlen:bs.length=its.length:=by have:=r'.length;rw[List.length_map]at this;exact this
 refine call_any_walk (wpAny_pyIter_list hl ?_);refine⟨s.heap.objs.size,_,_,its.toArray.size,_,_,fun i=>bs.getD i false,rfl,Walks.list (show X.A.in1.handled=none from I.ok.hd hc) s.heap.objs.size p (Nat.ne_of_lt hlt) its.toArray,⟨⟨_,Heap.get?_push_size _ rfl,rfl,rfl⟩,hl.push _⟩,?_,?_⟩
 ·intro i v s' Q' E' hi hQ;have hi':its[i]? =some v:=by simpa using hi
  have hib:i<bs.length:=by rw[hlen];exact(List.getElem?_eq_some_iff.mp hi').1
  obtain⟨u,hu,ru⟩:=r'.get (i:=i) (x:=V.bl bs[i]) (by rw[List.getElem?_map,List.getElem?_eq_getElem hib];rfl);rw[hi']at hu;cases hu;have:v=Value.bool bs[i]:=ru;subst this;refine wpAny_truthy_bool ?_;have eb:bs.getD i false=bs[i]:=by rw[List.getD_eq_getElem?_getD,List.getElem?_eq_getElem hib];rfl
  have hQ':Q' (bs.getD i false) s':=hQ;rw[eb]at hQ';exact hQ'
 ·intro h' tk hk;have eany:(List.range its.toArray.size).any (fun i=>bs.getD i false)=bs.any id:=by
   rw[List.size_toArray,←hlen];exact ES bs
  rw[eany];refine⟨.bl (bs.any id),H,?_,rfl,q⟩;have I1:Inv X pins σ H { s with heap:=s.heap.push { cls:= .type "list_iterator",data:= .fields #[.ref p,.int 0 0] },toks:=s.toks }:=I.kept fun b u e=>Heap.get?_push_of_some _ e;obtain⟨f0,f1,f2,f3,f4,f5⟩:=I.fpOk (Nat.le_refl _) (I.hok.fresh (Nat.le_refl _));exact I1.turned (fun b o hb e=>hk b o (by simpa using hb) e) f0 f1 f3 f4 f5
def VG (K:PySem.W.Frag):List V->Hp->VK->Prop:=fun xs H Q=>∃(p:Addr) (ns:List Int),xs=[.ref p]/\SqL K H p (ns.map V.int)/\Q (.int ns.sum) H
theorem L5 (hc:X.calm=true):dO X (.builtin "sum") (VG X.K):=by
 intro pins s σ H xs us Q I r h;obtain⟨p,ns,rfl,hq,q⟩:=h;obtain⟨u,rfl,rx⟩:=jZ r;cases rx;obtain⟨its,r',pl,hz⟩:=I.list hq;obtain⟨zs,rfl,rfl⟩:=xF r';have hl:s.heap.IsList p (intItems zs.toArray):=by
  have:=pl.isList
  simpa [intItems] using this
 refine sum_intListG (I.ok.hd hc) hl fun h' tk t' hk=> ?_;have e2:preSum (numAt zs.toArray) zs.toArray.size=(zs.map (·.1)).sum:=by
  rw[preSum_eq,List.take_of_length_le (by simp)]
 rw[e2];exact⟨.int (zs.map (·.1)).sum,H,I.kept hk,⟨t',rfl⟩,q⟩
end
section
variable {K:PySem.W.Frag}{H:Hp}{Q:VK}
theorem LK {p:Addr}{bs:List Bool} (e:SqL K H p (bs.map V.bl)) (h:Q (.bl (bs.any id)) H):V5 K [.ref p] H Q:=⟨p,bs,rfl,e,h⟩
theorem WB {p:Addr}{ns:List Int} (e:SqL K H p (ns.map V.int)) (h:Q (.int ns.sum) H):VG K [.ref p] H Q:=⟨p,ns,rfl,e,h⟩
end
theorem MO:bootBuiltins "any" =some (.builtin "any"):=by decide +kernel
theorem WC:bootBuiltins "sum" =some (.builtin "sum"):=by decide +kernel
end L2
namespace L2
open PySem PySem.W PyProof.Rows
theorem RZ:typeLookup (.type "list") "keys" =pure none:=by rw[typeLookup_type,builtinLookup_eq_fast];kernel_rfl
theorem SA:typeLookup (.type "list") "__getattr__" =pure none:=by rw[typeLookup_type,builtinLookup_eq_fast];kernel_rfl
theorem C8:isSubtype (.type "AttributeError") (.type "AttributeError")=pure true:=by rw[isSubtype_type];kernel_rfl
theorem OH:((Manifest.find? "AttributeError").elim false fun t=>t.mro.contains "StopIteration" ||t.mro.contains "SystemExit")=false:=by decide +kernel
section
variable {prog:Program}{w:World}{A:Around}{E:Value->Shared->Prop}{s:Shared}
theorem OM {α:Type}{v:Value}{a:Addr}{Q:α->Shared->Prop} (hh:A.handled=none)
  (k:∀e h' tk' o,h'.get? e=some o->o.cls= .type "AttributeError" ->(∀b o,s.heap.get? b=some o->h'.get? b=some o)->E (.ref e) { s with heap:=h',toks:=tk' }) :
  wpAny (model prog w) A (do
   let e ←newExc (.type "AttributeError") [v];let l ←mkText "keys"
   noteAttr e (.ref a) l
   raiseNew e) Q E s:=by
 unfold newExc newTuple;refine wpAny_bind (wpAny_bind (wpAny_newObj_type (wpAny_bind (m:=firstArgMember _ _) (wpAny_of_eq (a:=Value.none) (by simp only[firstArgMember,OH];rfl) (wpAny_newObj_type ?_ (by size_fits)))) (by size_fits)));refine wpAny_bind (wpAny_mkText ?_);refine wpAny_bind ?_;unfold noteAttr;refine wpAny_bind ?_;unfold lacksNameAndObj;have e1:(#[Value.ref s.heap.objs.size,.none,.none,.none,.bool false,.none]++ownMembersOf (.type "AttributeError") [v]:Array Value)= #[Value.ref s.heap.objs.size,.none,.none,.none,.bool false,.none,unsetMember,unsetMember]:=rfl;rw[e1];generalize hs:s.heap.push { cls:=Value.type "tuple",data:=Data.seq #[v] }=h1;have ho:(h1.push { cls:= .type "AttributeError",data:= .fields #[Value.ref s.heap.objs.size,.none,.none,.none,.bool false,.none,unsetMember,unsetMember] }).get? h1.objs.size=some { cls:= .type "AttributeError",data:= .fields #[Value.ref s.heap.objs.size,.none,.none,.none,.bool false,.none,unsetMember,unsetMember] }:=Heap.get?_push_size _ rfl;refine wpAny_bind (wpAny_isInstance (b:=true) (T:= "AttributeError") ⟨_,ho,rfl⟩ C8 ?_);refine wpAny_bind (wpAny_load ho ?_);refine wpAny_pure ?_;refine wpAny_bind (wpAny_rule ?_);refine wpAny_bind (wpAny_typeOf (T:= "AttributeError") ⟨_,ho,rfl⟩ ?_);unfold layMembers;refine wpAny_bind (wpAny_load ho ?_);refine wpAny_update ho ?_;simp only[raiseNew];refine wpAny_bind (wpAny_handled ?_);rw[hh];refine wpAny_bind (wpAny_pure (wpAny_throw ?_));refine k h1.objs.size _ _ _ (Heap.get?_update_self _ ho (Obj.isFreed_of_fields (Obj.data_mapFields rfl _))) (Obj.cls_mapFields ..) fun b o e=> ?_;have hb:b≠h1.objs.size:=fun z=>by
  have h2:h1.objs.size=s.heap.objs.size+1:=by rw[←hs];simp[Heap.push]
  have h3:=Heap.lt_size e;rw[z,h2]at h3;exact absurd h3 (Nat.not_lt.mpr (Nat.le_succ _))
 exact(Heap.get?_update_other _ _ (Ne.symm hb)).trans (Heap.get?_push_of_some _ (by rw[←hs];exact Heap.get?_push_of_some _ e))
theorem IT {a:Addr}{its:Array Value}{n:Nat}{tk:Tok}{Q:Fin->Shared->Prop} (hh:A.handled=none) (hx:s.heap.get? a=some { cls:= .type "list",data:= .seq its n })
  (k:∀e h' tk' o,h'.get? e=some o->o.cls= .type "AttributeError" ->(∀b o,s.heap.get? b=some o->h'.get? b=some o)->E (.ref e) { s with heap:=h',toks:=tk' }) :
  wpAny (model prog w) A (Builtin.«object.__getattribute__» ⟨[.ref a,.str "keys" tk],[]⟩) Q E s:=by
 obtain⟨h,g,d,t,os⟩:=s;have hT:(⟨h,g,d,t,os⟩:Shared).TypeIs (.ref a) "list" :=⟨_,hx,rfl⟩
 have f4:=RZ
 repeat (any_goals (first|assumption|wp_step))
 refine wpAny_bind (wpAny_mkStr ?_ (by rw[sizeLine_eq];decide +kernel));exact OM hh fun e h' tk' o e1 e2 e3=>k e h' tk' o e1 e2 e3
theorem MV {a:Addr}{its:Array Value}{n:Nat}{tk:Tok}{R:Result->Shared->Prop} (hh:A.handled=none) (hx:s.heap.get? a=some { cls:= .type "list",data:= .seq its n })
  (k:∀e h' tk' o,h'.get? e=some o->o.cls= .type "AttributeError" ->(∀b o,s.heap.get? b=some o->h'.get? b=some o)->R (.error (.ref e)) { s with heap:=h',toks:=tk' }) :
  codeAny (model prog w) A (.call (.builtin "list.__getattribute__") ⟨[.ref a,.str "keys" tk],[]⟩) R s:=by
 obtain⟨h,g,d,t,os⟩:=s;exact codeAny_call_builtin F.slot_list_getattribute.plain F.entry_list_ga (F.slot_list_getattribute.check _ _ _ _ _ _ _ _ (show (⟨h,g,d,t,os⟩:Shared).TypeIs (.ref a) "list" from⟨_,hx,rfl⟩) (F.args_list_getattribute_2 _ _) (IT hh hx k))
theorem RX {a:Addr}{its:Array Value}{n:Nat}{Q:Option Value->Shared->Prop} (hh:A.handled=none) (hx:s.heap.get? a=some { cls:= .type "list",data:= .seq its n })
  (k:∀h' tk',(∀b o,s.heap.get? b=some o->h'.get? b=some o)->Q none { s with heap:=h',toks:=tk' }):wpAny (model prog w) A (getAttr? (.ref a) "keys") Q E s:=by
 obtain⟨h,g,d,t,os⟩:=s;have hT:(⟨h,g,d,t,os⟩:Shared).TypeIs (.ref a) "list" :=⟨_,hx,rfl⟩
 have f2:=F.slot_list_getattribute.lookup;have f3:=F.slot_list_getattribute.bind (.ref a);unfold getAttr? getAttrBy?
 repeat (any_goals (first|assumption|wp_step))
 refine MV hh hx fun e h' tk' o e1 e2 e3=> ?_;have hE:(⟨h',g,d,tk',os⟩:Shared).TypeIs (.ref e) "AttributeError" :=⟨_,e1,e2⟩
 show wpAny (model prog w) A (getattributeRaised (Value.ref a) (Value.str (Str.ofString "keys") t) (.type "list") (.ref e) none false false) _ _ (⟨h',g,d,tk',os⟩:Shared);unfold getattributeRaised;refine wpAny_bind (wpAny_isInstance (b:=true) hE C8 ?_);show wpAny (model prog w) A (typeLookup (.type "list") "__getattr__" >>= fun x=>hookOrError (Value.ref a) (Value.str (Str.ofString "keys") t) (.ref e) false false x) _ _ (⟨h',g,d,tk',os⟩:Shared);rw[SA];refine wpAny_bind (wpAny_pure ?_);refine wpAny_throw ?_;refine wpAny_bind (wpAny_isInstance (b:=true) hE C8 ?_);exact wpAny_pure (k h' tk' e3)
end
end L2
namespace L2
open PySem PySem.W PyProof.Rows
theorem qJ:entryFor table "dict.update.loop" =some Builtin.«dict.update.loop»:=entryFor_of_tree (by kernel_rfl)
theorem hZ:plainId "dict.update.loop" =true:=by decide +kernel
def L3 {κ:Type}[DecidableEq κ](kvs ps:List (κ×Value)):List (κ×Value):=ps.foldl (fun acc p=>stored acc p.1 p.2) kvs
theorem HK {κ:Type}[DecidableEq κ](kvs:List (κ×Value))(k:κ)(v:Value):(stored kvs k v).length<=kvs.length+1:=by
 unfold stored
 split
 ·rw[List.length_map];exact Nat.le_succ _
 ·rw[List.length_append];exact Nat.le_refl _
section
variable {prog:Program}{w:World}{A:Around}{E:Value->Shared->Prop}{κ:Type} [DecidableEq κ] {knd:KeyKind prog w κ}{I d:Addr}{fp wr:List Addr}{n:Nat}{P:Nat->Value->Prop}{St:Nat->Heap->Prop}{R:Result->Shared->Prop}
def ZY (knd:KeyKind prog w κ)(d:Addr)(wr:List Addr)(P:Nat->Value->Prop)(ps:List (κ×Value))(h:Heap):Prop :=
 ∀i v,P i v->∃(q:Addr) (o:Obj) (key:Value) (k:κ) (u:Value) (c:Nat),v= .ref q/\q∉wr/\q≠d/\h.get? q=some o/\o.cls= .type "tuple" /\o.data= .seq #[key,u] c/\knd.is k key=true/\ps[i]? =some (k,u)
theorem NY (W:Walks prog w A.in1 I fp wr n P St)(hdf:d∉fp)(ps:List (κ×Value))(hn:ps.length=n)(hsz:n<=sizeLine) :
  ∀(k i:Nat) (s:Shared) (kvs:List (κ×Value)),n - i=k->i<=n->St i s.heap->kvs.length<=i->s.heap.DictOf knd d kvs->ZY knd d wr P ps s.heap →
  (∀h' tk,h'.DictOf knd d (L3 kvs (ps.drop i))->(∀b o,b∉wr->b≠d->s.heap.get? b=some o->h'.get? b=some o)->R (.ok (.ret .none)) { s with heap:=h',toks:=tk }) →
  codeAny (model prog w) A (.builtin "dict.update.loop" ⟨[.ref d,.ref I,rawInt i,.none],[]⟩) R s:=by
 have hdw:d∉wr:=fun h=>hdf (W.sub _ h);intro k
 induction k with
 | zero =>
  intro i s kvs hk hi hst hl hd hrow hR;have hin:i=n:=by lia
  subst hin;refine codeAny_builtin qJ ?_;rw[Around.under_plainId hZ _];show wpAny _ A.in1 (pyNext (.ref I) >>= _) _ _ s;refine wpAny_bind (W.done s _ _ hst fun h' tk hk'=> ?_);show wpAny _ _ (Builtin.Dict.addKeywords d [] >>= _) _ _ _;refine wpAny_bind (wpAny_pure (wpAny_pure (hR h' tk ?_ fun b o hb _ e=>hk' b o hb e)));rw[List.drop_of_length_le (by lia)];exact hd.at fun o e=>hk' d o hdw e
 | succ k ih =>
  intro i s kvs hk hi hst hl hd hrow hR;have hlt:i<n:=by lia
  refine codeAny_builtin qJ ?_;rw[Around.under_plainId hZ _];show wpAny _ A.in1 (pyNext (.ref I) >>= _) _ _ s;refine wpAny_bind (W.item i s _ _ hlt hst fun v h' tk hP hst' hk'=> ?_);obtain⟨q,o,key,kk,u,c,rfl,hqw,hqd,ho,hc,hdt,his,hps⟩:=hrow i v hP;have ho':=hk' q o hqw ho;refine wpAny_bind (wpAny_holding (wpAny_bind (wpAny_tryCatch ?_)));unfold Builtin.Dict.pairItems;refine wpAny_bind (wpAny_typeOf (T:= "tuple") ⟨o,ho',hc⟩ ?_);rw[if_pos (by rfl)];refine wpAny_bind (wpAny_seqItems ho' hdt (wpAny_pure ?_));have hd':h'.DictOf knd d kvs:=hd.at fun o e=>hk' d o hdw e;refine wpAny_holding (wpAny_dictSet_pairs his hd' (fun h2 hd2 sb=> ?_) (by lia));have keep:∀b o,b∉wr->b≠d->s.heap.get? b=some o->h2.get? b=some o:=fun b o hb hbd e=>(sb.2 b hbd).trans (hk' b o hb e);refine wpAny_pure ⟨plainId_quiet hZ _,ih (i+1) _ (stored kvs kk u) (by lia) hlt (W.frame _ _ _ hst' fun b hb o e=>(sb.2 b (fun z=>hdf (z▸hb))).trans e) (Nat.le_trans (HK ..) (by lia)) hd2 (fun j v hj=> ?_) fun h3 tk3 hd3 hk3=> ?_⟩
  ·obtain⟨q,o,key,kk,u,c,e1,e2,e3,e4,e5⟩:=hrow j v hj;exact⟨q,o,key,kk,u,c,e1,e2,e3,keep q o e2 e3 e4,e5⟩
  ·refine hR h3 tk3 ?_ fun b o hb hbd e=>hk3 b o hb hbd (keep b o hb hbd e);have ed:ps.drop i=(kk,u)::ps.drop (i+1):=by
    have hi2:i<ps.length:=by lia
    rw[List.drop_eq_getElem_cons hi2];have:=(List.getElem?_eq_some_iff.mp hps).2;rw[this]
   rw[ed];exact hd3
end
end L2
namespace L2
open PySem PySem.W PyProof.Rows
section
variable {prog:Program}{w:World}{A:Around}{E:Value->Shared->Prop}{κ:Type} [DecidableEq κ] {knd:KeyKind prog w κ}{s:Shared}{l:Addr}{its:Array Value}{c:Nat}
theorem KC {ps:List (κ×Value)}{Q:Value->Shared->Prop} (hh:A.handled=none) (hl:s.heap.get? l=some { cls:= .type "list",data:= .seq its c }) (hsz:its.size<=sizeLine) (hlen:ps.length=its.size)
  (hrow:∀(i:Nat) (v:Value),its[i]? =some v->∃(q:Addr) (o:Obj) (key:Value) (k:κ) (u:Value) (c:Nat),v= .ref q/\s.heap.get? q=some o/\o.cls= .type "tuple" /\o.data= .seq #[key,u] c/\knd.is k key=true/\ps[i]? =some (k,u))
  (h:∀h' tk,h'.DictOf knd s.heap.objs.size (L3 [] ps)->(∀b o,s.heap.get? b=some o->h'.get? b=some o)->Q (.ref s.heap.objs.size) { s with heap:=h',toks:=tk }) :
  wpAny (model prog w) A (call (.type "dict") [.ref l]) Q E s:=by
 refine callType_codes (Q₁:=fun obj s₁=>obj= .ref s.heap.objs.size/\s₁={ s with heap:=s.heap.push { cls:= .type "dict",data:= .dict #[] } }) F.kt_called_dict (F.kt_typeCall_dict_1 _) F.entry_dict_init (kt_code_dict_new _ ⟨rfl,rfl⟩) ?_;rintro obj s₁ ⟨rfl,rfl⟩;have hnew:(s.heap.push { cls:= .type "dict",data:= .dict #[] }).DictOf knd s.heap.objs.size []:=Heap.DictOf.new s.heap;have hl':(s.heap.push { cls:= .type "dict",data:= .dict #[] }).get? l=some { cls:= .type "list",data:= .seq its c }:=Heap.get?_push_of_some _ hl;refine⟨hnew.typeIs,F.args_dict_init_2 _ _,?_⟩;unfold Builtin.«dict.__init__»;refine wpAny_bind ?_;unfold Builtin.Dict.selfAndRest;refine wpAny_bind (wpAny_notOrdered_dict hnew.typeIs ?_);show wpAny _ _ (pure (s.heap.objs.size,[Value.ref l])) _ _ _;refine wpAny_pure ?_;show wpAny _ _ (Builtin.Dict.updateFrom "dict.__init__" s.heap.objs.size (.ref l) [] .none) _ _ _;unfold Builtin.Dict.updateFrom;refine wpAny_bind (wpAny_typeOf (T:= "list") ⟨_,hl',rfl⟩ ?_);rw[if_pos (by decide)];refine wpAny_bind (RX hh hl' fun h1 t1 kp1=> ?_);rw[if_pos (show (none:Option Value).isNone=true from rfl)];refine wpAny_bind (wpAny_rule ?_);have hl1:=kp1 _ _ hl';have isl:h1.IsList l its:=⟨_,hl1,rfl,_,rfl⟩
 have lt1:∀b o,s.heap.get? b=some o->b≠h1.objs.size:=fun b o e z=>by
  have:=Heap.lt_size (kp1 b o (Heap.get?_push_of_some _ e));rw[z]at this;exact Nat.lt_irrefl _ this
 have hdI:s.heap.objs.size≠h1.objs.size:=fun z=>by
  have:=Heap.lt_size (kp1 _ _ (Heap.get?_push_size s.heap (o:={ cls:= .type "dict",data:= .dict #[] }) rfl));rw[z]at this;exact Nat.lt_irrefl _ this
 have hdl:∀b o,s.heap.get? b=some o->b≠s.heap.objs.size:=fun b o e z=>by
  have:=Heap.lt_size e;rw[z]at this;exact Nat.lt_irrefl _ this
 refine wpAny_bind (wpAny_pyIter_list isl ?_);refine wpAny_pure ⟨plainId_quiet hZ _,?_⟩;have W:=Walks.list (prog:=prog) (w:=w) (A:=A.in1.in1) hh h1.objs.size l (lt1 _ _ hl) its;refine NY (knd:=knd) W (by simp only[List.mem_cons,List.not_mem_nil,or_false,not_or];exact⟨hdI,Ne.symm (hdl _ _ hl)⟩) ps hlen hsz its.size 0 _ [] (Nat.sub_zero _) (Nat.zero_le _) ⟨⟨_,Heap.get?_push_size _ rfl,rfl,rfl⟩,isl.push _⟩ (Nat.le_refl _) ((hnew.at fun o e=>kp1 _ o e).push _) (fun i v hi=> ?_) fun h' tk hd hk=> ?_
 ·obtain⟨q,o,key,k,u,c',e1,e2,e3,e4,e5,e6⟩:=hrow i v hi;refine⟨q,o,key,k,u,c',e1,?_,hdl _ _ e2,Heap.get?_push_of_some _ (kp1 _ _ (Heap.get?_push_of_some _ e2)),e3,e4,e5,e6⟩;simp only[List.mem_cons,List.not_mem_nil,or_false];exact lt1 _ _ e2
 ·refine⟨rfl,h h' tk hd fun b o e=>hk b o ?_ (hdl _ _ e) (Heap.get?_push_of_some _ (kp1 _ _ (Heap.get?_push_of_some _ e)))⟩;simp only[List.mem_cons,List.not_mem_nil,or_false];exact lt1 _ _ e
end
end L2
namespace L2
open PySem PySem.W PyProof.Rows
abbrev CI (H:Hp):List V->List (Key×V)->Prop:=Paired fun v p=>∃q,v= .ref q/\H q=some (.tup [kV p.1,p.2])
section
variable {X:Cx}{pins:List (Addr×Obj)}{σ:St}{H:Hp}{s:Shared}
theorem NL (I:Inv X pins σ H s){q:Addr}{k:Key}{x:V} (e:H q=some (.tup [kV k,x])):∃(o:Obj) (key u:Value) (n:Nat),s.heap.get? q=some o/\o.cls= .type "tuple" /\o.data= .seq #[key,u] n/\(cA X.prog X.w).is k key=true/\RelV x u:=by
 obtain⟨_,us,r,o,h1,h2,n,h3⟩:=(show ObjOk X.prog X.w H s.heap q (.tup [kV k,x]) from I.hok q _ e)
 cases r with
 | @cons _ key _ _ r1 r =>
  cases r with
  | @cons _ u _ _ r2 r =>
   cases r;exact⟨o,key,u,n,h1,h2,h3,rX r1,r2⟩
theorem x9 (I:Inv X pins σ H s):∀{vs:List V}{ps:List (Key×V)}{us:List Value},CI H vs ps->Vals vs us →
  ∃rs:List (Key×Value),KV ps rs/\rs.length=us.length/\∀(i:Nat) (v:Value),us[i]? =some v->∃(q:Addr) (o:Obj) (key:Value) (k:Key) (u:Value) (c:Nat),v= .ref q/\s.heap.get? q=some o/\o.cls= .type "tuple" /\o.data= .seq #[key,u] c/\(cA X.prog X.w).is k key=true/\rs[i]? =some (k,u)
 | _,_,_,.nil,.nil=>⟨[],.nil,rfl,fun i v z=>by simp at z⟩
 | _::_,(k,x)::_,_::us,.cons ⟨q,e,hq⟩ t,.cons r rt=>by
  obtain⟨rs,h1,h2,h3⟩:=x9 I t rt;obtain⟨o,key,u,n,o1,o2,o3,o4,o5⟩:=NL I hq;subst e;cases r;refine⟨(k,u)::rs,.cons ⟨rfl,o5⟩ h1,by simp[h2],fun i v z=> ?_⟩;cases i with
  | zero=>cases z;exact⟨q,o,key,k,u,n,rfl,o1,o2,o3,o4,rfl⟩
  | succ i =>
   obtain⟨q,o,key,k,u,c,w1⟩:=h3 i v (by simpa using z);exact⟨q,o,key,k,u,c,by simpa using w1⟩
def L0:List V->Hp->VK->Prop:=fun xs H Q=>∃p vs ps,xs=[.ref p]/\Rd H p (.lst vs)/\CI H vs ps/\∀l,H l=none->Q (.ref l) (upd H l (.dK (jV [] ps)))
theorem JB (hc:X.calm=true):dO X (.type "dict") L0:=by
 intro pins s σ H xs us Q I r h;obtain⟨p,vs,ps,rfl,hq,pr,q⟩:=h;obtain⟨u,rfl,rx⟩:=jZ r;cases rx;obtain⟨z,its,n,rv,e⟩:=(show ObjOk X.prog X.w H s.heap p (.lst vs) from hq.ok I.hok)
 obtain⟨rs,h1,h2,h3⟩:=x9 I pr rv;have hl:=rv.length;have hlp:=h1.length;refine KC (knd:=cA X.prog X.w) (ps:=rs) (I.ok.hd hc) e (by rw[List.size_toArray];lia) (by rw[List.size_toArray];exact h2) (fun i v hv=>h3 i v (by simpa using hv)) fun h' tk hd kp=> ?_;have lm:(jV [] ps).length<=sizeLine:=Nat.le_trans (sS ps []) (by simp;lia);have nm:(s.heap.objs.size==sysModules)=false:=by
  have:=I.big;simp only[beq_eq_false_iff_ne];exact fun z=>by rw[z]at this;exact Nat.lt_irrefl _ this
 exact⟨.ref _,_,I.laid (t':=tk) kp (Nat.le_refl _) (JX lm nm (KV.merge h1 .nil) hd),rfl,q _ (I.hok.fresh (Nat.le_refl _))⟩
end
end L2
namespace L2
open PySem PySem.W PyProof.Rows
section
variable {prog:Program}{w:World}{A:Around}{E:Value->Shared->Prop}{s:Shared}{d it:Addr}{o:Obj}{es:Array DictEntry}{ep i:Nat}{k0 v0:Value}
end
end L2
namespace L2
open PySem PySem.W PyProof.Rows
section
variable {prog:Program}{w:World}{A:Around}{E:Value->Shared->Prop}{s:Shared}{d it:Addr}{o:Obj}{es:Array DictEntry}{ep i:Nat}
end
section
variable {X:Cx}
end
end L2
namespace L2
open PySem PySem.W PyProof.Rows
section
variable (r:Nat->Int)
def rk (p:Array Nat)(i:Nat):Int:=r (p.getD i 0)
def Asc (p:Array Nat)(m:Nat):Prop:=∀i j,i<=j->j<m->rk r p i<=rk r p j
def cR (i j:Nat):Bool:=decide (r i<r j)
variable {r}{p:Array Nat}
theorem nP {p q:Array Nat}{i j:Nat} (h:p[i]? =q[j]?):rk r p i=rk r q j:=by
 unfold rk;rw[Array.getD_eq_getD_getElem?,Array.getD_eq_getD_getElem?,h]
theorem AN {src d:Nat}(hs:src<p.size)(hd:d<=src)(k:Nat):rk r (bubble p src d) k=if k=src - d then rk r p src else if src - d<k/\k<=src then rk r p (k - 1) else rk r p k:=by
 have e:=getElem?_bubble hs d hd k
 split
 ·rename_i h;rw[if_pos h]at e;exact nP e
 ·rename_i h;rw[if_neg h]at e
  split
  ·rename_i h2;rw[if_pos h2]at e;exact nP e
  ·rename_i h2;rw[if_neg h2]at e;exact nP e
theorem kM {α β:Type}(c:Nat->Nat->Bool)(f:α->KasT β):∀t:KasT α,aZ c (t.bind f)=aZ c (f (aZ c t))
 | .ret _=>rfl
 | .ask i j k=>kM c f (k (c i j))
theorem vY {k:Nat}(hk:Asc r p k):∀(f a b:Nat),a<=b->b<=k->b - a<=f->(∀i,i<a->rk r p i<=rk r p k)->(∀i,b<=i->i<k->rk r p k<rk r p i) →
  aZ (cR r) (kas_place p k f a b)<=k/\(∀i,i<aZ (cR r) (kas_place p k f a b)->rk r p i<=rk r p k)/\∀i,aZ (cR r) (kas_place p k f a b)<=i->i<k->rk r p k<rk r p i
 | 0,a,b,h1,h2,h3,h4,h5=>by
  have e:aZ (cR r) (kas_place p k 0 a b)=a:=rfl;rw[e];exact⟨by lia,h4,fun i hi=>h5 i (by lia)⟩
 | f+1,a,b,h1,h2,h3,h4,h5=>by
  unfold kas_place
  by_cases hab:a≥b
  ·rw[if_pos hab];show a<=k/\(∀i,i<a->_)/\∀i,a<=i->i<k->_;exact⟨by lia,h4,fun i hi=>h5 i (by lia)⟩
  ·rw[if_neg hab];have ea:aZ (cR r) (KasT.ask (p.getD k 0) (p.getD ((a+b)/2) 0) fun c=>if c=true then kas_place p k f a ((a+b)/2) else kas_place p k f ((a+b)/2+1) b) =
    aZ (cR r) (if cR r (p.getD k 0) (p.getD ((a+b)/2) 0)=true then kas_place p k f a ((a+b)/2) else kas_place p k f ((a+b)/2+1) b):=rfl
   rw[ea]
   by_cases hc:cR r (p.getD k 0) (p.getD ((a+b)/2) 0)=true
   ·rw[if_pos hc];have hc':rk r p k<rk r p ((a+b)/2):=of_decide_eq_true hc;refine vY hk f a ((a+b)/2) (by lia) (by lia) (by lia) h4 fun i hi hik=> ?_;have:=hk ((a+b)/2) i hi hik
    lia
   ·rw[if_neg hc];have hc':¬rk r p k<rk r p ((a+b)/2):=fun z=>hc (decide_eq_true z);refine vY hk f ((a+b)/2+1) b (by lia) h2 (by lia) (fun i hi=> ?_) h5;have:=hk i ((a+b)/2) (by lia) (by lia)
    lia
theorem IU {k l:Nat}(hs:k<p.size)(hk:Asc r p k)(hl:l<=k)(h1:∀i,i<l->rk r p i<=rk r p k)(h2:∀i,l<=i->i<k->rk r p k<rk r p i):Asc r (bubble p k (k - l)) (k+1):=by
 intro i j hij hj;rw[AN hs (by lia),AN hs (by lia),show k - (k - l)=l by lia]
 by_cases e1:i=l
 ·rw[if_pos e1]
  by_cases e2:j=l
  ·rw[if_pos e2];exact Int.le_refl _
  ·rw[if_neg e2];rw[if_pos (by lia)];have:=h2 (j - 1) (by lia) (by lia)
   lia
 ·rw[if_neg e1]
  by_cases e2:j=l
  ·rw[if_pos e2,if_neg (by lia)];exact h1 i (by lia)
  ·rw[if_neg e2]
   by_cases e3:l<i
   ·rw[if_pos (by lia),if_pos (by lia)];exact hk (i - 1) (j - 1) (by lia) (by lia)
   ·rw[if_neg (by lia)]
    by_cases e4:l<j
    ·rw[if_pos (by lia)];exact hk i (j - 1) (by lia) (by lia)
    ·rw[if_neg (by lia)];exact hk i j hij (by lia)
theorem J8 {n:Nat}:∀(f:Nat) {p:Array Nat} (k:Nat),p.size=n->k+f=n->Asc r p k->Asc r (aZ (cR r) (kas_bin f p k)) n
 | 0,p,k,hs,hk,h=>by
  have e:k=n:=by lia
  rw[←e];exact h
 | f+1,p,k,hs,hk,h=>by
  unfold kas_bin;rw[kM];obtain⟨h1,h2,h3⟩:=vY h k 0 k (Nat.zero_le _) (Nat.le_refl _) (by lia) (fun i hi=>by lia) (fun i h1 h2=>by lia);exact J8 f (k+1) ((bubble_size _ _ _).trans hs) (by lia) (IU (by lia) h h1 h2 h3)
theorem DV:∀(f k:Nat),1<=k->Asc r p k->k<=aZ (cR r) (kas_asc p f k)/\aZ (cR r) (kas_asc p f k)<=k+f/\Asc r p (aZ (cR r) (kas_asc p f k))/\(aZ (cR r) (kas_asc p f k)<k+f->rk r p (aZ (cR r) (kas_asc p f k))<rk r p (aZ (cR r) (kas_asc p f k) - 1))
 | 0,k,h0,h=>by
  show k<=k/\k<=k+0/\Asc r p k/\(k<k+0->_);exact⟨Nat.le_refl _,Nat.le_refl _,h,fun z=>by lia⟩
 | f+1,k,h0,h=>by
  unfold kas_asc;have ea:aZ (cR r) (KasT.ask (p.getD k 0) (p.getD (k - 1) 0) fun c=>if c=true then .ret k else kas_asc p f (k+1))=aZ (cR r) (if cR r (p.getD k 0) (p.getD (k - 1) 0)=true then .ret k else kas_asc p f (k+1)):=rfl;rw[ea]
  by_cases hc:cR r (p.getD k 0) (p.getD (k - 1) 0)=true
  ·rw[if_pos hc];show k<=k/\k<=k+(f+1)/\Asc r p k/\(k<k+(f+1)->rk r p k<rk r p (k - 1));exact⟨Nat.le_refl _,by lia,h,fun _=>of_decide_eq_true hc⟩
  ·rw[if_neg hc];have hc':¬rk r p k<rk r p (k - 1):=fun z=>hc (decide_eq_true z);have h':Asc r p (k+1):=fun i j hij hj=>by
    by_cases e:j=k
    ·subst e
     by_cases e2:i=j
     ·subst e2;exact Int.le_refl _
     ·have:=h i (j - 1) (by lia) (by lia)
      lia
    ·exact h i j hij (by lia)
   obtain⟨a1,a2,a3,a4⟩:=DV f (k+1) (by lia) h';exact⟨by lia,by lia,a3,fun z=>a4 (by lia)⟩
end
end L2
namespace L2
open PySem PySem.W PyProof.Rows
section
variable {r:Nat->Int}{p:Array Nat}
def Dif (r:Nat->Int)(p:Array Nat):Prop:=∀i j,i<p.size->j<p.size->rk r p i=rk r p j->i=j
def Dsc (r:Nat->Int)(p:Array Nat)(m:Nat):Prop:=∀i j,i<j->j<m->rk r p j<rk r p i
theorem KZ {m:Nat}(hm:m<=p.size)(k:Nat):rk r (kas_rev p 0 m) k=if k<m then rk r p (m - 1 - k) else rk r p k:=by
 have e:=getElem?_mirror_all (i:=0) hm k
 split
 ·rename_i h;rw[if_pos ⟨Nat.zero_le _,h⟩,Nat.zero_add]at e;exact nP e
 ·rename_i h;rw[if_neg (by lia)]at e;exact nP e
theorem GQ (hd:Dif r p):∀(f k:Nat),1<=k->k+f<=p.size->Dsc r p k->∃m,aZ (cR r) (kas_desc f p k 0)=(p,m,0)/\k<=m/\m<=k+f/\Dsc r p m
 | 0,k,h0,h1,h=>⟨k,rfl,Nat.le_refl _,Nat.le_refl _,h⟩
 | f+1,k,h0,h1,h=>by
  unfold kas_desc
  by_cases hc:cR r (p.getD k 0) (p.getD (k - 1) 0)=true
  ·have hc':rk r p k<rk r p (k - 1):=of_decide_eq_true hc;have h':Dsc r p (k+1):=fun i j hij hj=>by
    by_cases e:j=k
    ·subst e
     by_cases e2:i=j - 1
     ·subst e2;exact hc'
     ·have:=h i (j - 1) (by lia) (by lia)
      lia
    ·exact h i j hij (by lia)
   obtain⟨m,e,a1,a2,a3⟩:=GQ hd f (k+1) (by lia) (by lia) h';refine⟨m,?_,by lia,by lia,a3⟩;rw[←e];show aZ (cR r) (if cR r (p.getD k 0) (p.getD (k - 1) 0)=true then _ else _)=_;rw[if_pos hc];rfl
  ·have hc':¬rk r p k<rk r p (k - 1):=fun z=>hc (decide_eq_true z);have hn:rk r p (k - 1)<rk r p k:=by
    have h2:rk r p (k - 1)≠rk r p k:=fun z=>by
     have:=hd (k - 1) k (by lia) (by lia) z
     lia
    lia
   refine⟨k,?_,Nat.le_refl _,by lia,h⟩;show aZ (cR r) (if cR r (p.getD k 0) (p.getD (k - 1) 0)=true then _ else _)=_;rw[if_neg hc];show aZ (cR r) (if cR r (p.getD (k - 1) 0) (p.getD k 0)=true then _ else _)=_;rw[if_pos (show cR r (p.getD (k - 1) 0) (p.getD k 0)=true from decide_eq_true hn)];rfl
theorem NT {m n:Nat}(h1:1<=m)(hm:m<=n)(hs:p.size=n)(h:Dsc r p m):∃a q,aZ (cR r) (kas_tail3 m n p)=(a,q)/\a<=n/\q.size=n/\Asc r q a:=by
 have hasc:Asc r (kas_rev p 0 m) m:=fun i j hij hj=>by
  rw[KZ (by lia),KZ (by lia),if_pos (by lia),if_pos hj]
  by_cases e:i=j
  ·subst e;exact Int.le_refl _
  ·exact Int.le_of_lt (h (m - 1 - j) (m - 1 - i) (by lia) (by lia))
 obtain⟨a1,a2,a3,_⟩:=DV (n - m) m h1 hasc;refine⟨_,kas_rev p 0 m,by unfold kas_tail3;rw[kM];rfl,by lia,(mirror_size _ _ _ _).trans hs,a3⟩
theorem OR {n:Nat}(hn:1<=n)(hs:p.size=n)(hd:Dif r p):∃a q,aZ (cR r) (kas_count n p)=(a,q)/\a<=n/\q.size=n/\Asc r q a:=by
 have h0:Asc r p 1:=fun i j hij hj=>by
  have:i=j:=by lia
  subst this;exact Int.le_refl _
 obtain⟨a1,a2,a3,a4⟩:=DV (n - 1) 1 (Nat.le_refl _) h0;unfold kas_count;rw[kM];generalize aZ (cR r) (kas_asc p (n - 1) 1)=k at a1 a2 a3 a4 ⊢
 by_cases e1:k=n
 ·rw[if_pos (by rw[e1];exact beq_self_eq_true _)];exact⟨k,p,rfl,by lia,hs,a3⟩
 ·rw[if_neg (by rw[beq_iff_eq];exact e1)]
  by_cases e2:k>1
  ·rw[if_pos e2];have hlt:rk r p 0<rk r p (k - 1):=by
    have h2:=a3 0 (k - 1) (Nat.zero_le _) (by lia);have h3:rk r p 0≠rk r p (k - 1):=fun z=>by
     have:=hd 0 (k - 1) (by lia) (by lia) z
     lia
    lia
   refine⟨k,p,?_,by lia,hs,a3⟩;show aZ (cR r) (if cR r (p.getD 0 0) (p.getD (k - 1) 0)=true then _ else _)=_;rw[if_pos (show cR r (p.getD 0 0) (p.getD (k - 1) 0)=true from decide_eq_true hlt)];rfl
  ·rw[if_neg e2];have ek:k=1:=by lia
   subst ek;have h10:rk r p 1<rk r p 0:=a4 (by lia);unfold kas_descPart;rw[kM];obtain⟨m,e,b1,b2,b3⟩:=GQ hd (n - (1+1)) (1+1) (by lia) (by lia) (fun i j hij hj=>by
    have:i=0/\j=1:=by lia
    rw[this.1,this.2];exact h10)
   rw[e];have hmn:m<=n:=by
    have:2<=n:=by lia
    lia
   exact NT (p:=p) (m:=m) (n:=n) (by lia) hmn hs b3
theorem PK {n:Nat}(hn:1<=n)(hr:∀i j,i<n->j<n->r i=r j->i=j):Asc r (aZ (cR r) (kas_sort n)) n:=by
 unfold kas_sort;rw[kM];have hs:(List.range n).toArray.size=n:=by simp
 have eg:∀i,i<n->(List.range n).toArray.getD i 0=i:=fun i hi=>by simp[Array.getD,hi]
 obtain⟨a,q,e,h1,h2,h3⟩:=OR (r:=r) hn hs (fun i j hi hj z=>by
  unfold rk at z;rw[hs]at hi hj;rw[eg i hi,eg j hj]at z;exact hr i j hi hj z)
 rw[e]
 by_cases hlt:a<n
 ·show Asc r (aZ (cR r) (if a<n then _ else _)) n;rw[if_pos hlt];refine J8 _ _ h2 (by lia) fun i j hij hj=> ?_
  by_cases ha:a=0
  ·have:i=j:=by lia
   subst this;exact Int.le_refl _
  ·exact h3 i j hij (by lia)
 ·show Asc r (aZ (cR r) (if a<n then _ else _)) n;rw[if_neg hlt];have:a=n:=by lia
  rw[←this];exact h3
end
end L2
namespace L2
open PySem PySem.W PyProof.Rows
theorem A0 {α:Type}{n:Nat}{R:α->Prop}{c c':Nat->Nat->Bool} (h:∀i j,i<n->j<n->c i j=c' i j):∀{t:KasT α},KasIn n R t->aZ c t=aZ c' t
 | .ret _,_=>rfl
 | .ask i j k,q=>by
  show aZ c (k (c i j))=aZ c' (k (c' i j));rw[h i j q.1 q.2.1];exact A0 h (q.2.2 _)
theorem tG {α:Type}{p q:α->Bool}:∀{l:List α},(∀y∈l,p y=true->q y=true)->(∃x∈l,q x=true/\p x=false)->l.countP p<l.countP q
 | [],_,⟨x,hx,_⟩=>nomatch hx
 | a::l,h,⟨x,hx,h1,h2⟩=>by
  have hl:l.countP p<=l.countP q:=List.countP_mono_left fun y hy=>h y (List.mem_cons_of_mem _ hy);rcases List.mem_cons.mp hx with e|hx
  ·subst e;rw[List.countP_cons_of_pos h1,List.countP_cons_of_neg (by rw[h2];exact Bool.false_ne_true)]
   lia
  ·have ih:=tG (fun y hy=>h y (List.mem_cons_of_mem _ hy)) ⟨x,hx,h1,h2⟩;cases hp:p a with
   | true =>
    rw[List.countP_cons_of_pos hp,List.countP_cons_of_pos (h a (.head _) hp)]
    lia
   | false =>
    rw[List.countP_cons_of_neg (by rw[hp];exact Bool.false_ne_true)];cases hq:q a with
    | true=>rw[List.countP_cons_of_pos hq];lia
    | false=>rw[List.countP_cons_of_neg (by rw[hq];exact Bool.false_ne_true)];exact ih
structure Ord {α:Type}(lt:α->α->Bool)(l:List α):Prop where
 irr:∀x∈l,lt x x=false
 tr:∀x∈l,∀y∈l,∀z∈l,lt x y=true->lt y z=true->lt x z=true
 tot:∀x∈l,∀y∈l,x≠y->lt x y=true∨lt y x=true
section
variable {α:Type}{lt:α->α->Bool}{l:List α}{d:α}
theorem d6 {i:Nat}(h:i<l.length):l.getD i d∈l:=by
 rw[List.getD_eq_getElem?_getD,List.getElem?_eq_getElem h];exact List.getElem_mem h
theorem rH (nd:l.Nodup){i j:Nat}(hi:i<l.length)(hj:j<l.length)(e:l.getD i d=l.getD j d):i=j:=by
 rw[List.getD_eq_getElem?_getD,List.getElem?_eq_getElem hi,List.getD_eq_getElem?_getD,List.getElem?_eq_getElem hj]at e;have hp:=List.pairwise_iff_getElem.mp nd;rcases Nat.lt_trichotomy i j with h|h|h
 ·exact absurd e (hp i j hi hj h)
 ·exact h
 ·exact absurd e.symm (hp j i hj hi h)
theorem MN (o:Ord lt l)(nd:l.Nodup)(h2:2<=l.length):∀i j,i<j->j<l.length->lt (l.getD ((aZ (fun i j=>lt (l.getD i d) (l.getD j d)) (kas_sort l.length)).getD i 0) d) (l.getD ((aZ (fun i j=>lt (l.getD i d) (l.getD j d)) (kas_sort l.length)).getD j 0) d)=true:=by
 let r:Nat->Int:=fun i=>((l.countP fun y=>lt y (l.getD i d):Nat):Int)
 have hlt:∀i j,i<l.length->j<l.length->lt (l.getD i d) (l.getD j d)=true->r i<r j:=fun i j hi hj h=>by
  have:=tG (l:=l) (p:=fun y=>lt y (l.getD i d)) (q:=fun y=>lt y (l.getD j d)) (fun y hy h'=>o.tr y hy _ (d6 hi) _ (d6 hj) h' h) ⟨l.getD i d,d6 hi,h,o.irr _ (d6 hi)⟩;exact Int.ofNat_lt.mpr this
 have hrc:∀i j,i<l.length->j<l.length->(fun i j=>lt (l.getD i d) (l.getD j d)) i j=cR r i j:=fun i j hi hj=>by
  show lt (l.getD i d) (l.getD j d)=decide (r i<r j);cases e:lt (l.getD i d) (l.getD j d) with
  | true=>rw[decide_eq_true (hlt i j hi hj e)]
  | false =>
   rw[decide_eq_false];intro z
   by_cases e2:l.getD i d=l.getD j d
   ·rw[rH nd hi hj e2]at z;exact absurd z (Int.lt_irrefl _)
   ·rcases o.tot _ (d6 hi) _ (d6 hj) e2 with h|h
    ·rw[h]at e;cases e
    ·have:=hlt j i hj hi h
     lia
 have hinj:∀i j,i<l.length->j<l.length->r i=r j->i=j:=fun i j hi hj e=>by
  by_cases e2:l.getD i d=l.getD j d
  ·exact rH nd hi hj e2
  ·rcases o.tot _ (d6 hi) _ (d6 hj) e2 with h|h
   ·have:=hlt i j hi hj h;lia
   ·have:=hlt j i hj hi h;lia
 rw[A0 hrc (GN (by lia))];have hs:=PK (n:=l.length) (by lia) hinj;have hp:=fF (n:=l.length) (cR r) (by lia);generalize aZ (cR r) (kas_sort l.length)=q at hs hp;intro i j hij hj;have hqs:q.size=l.length:=by have:=hp.size_eq;simpa using this
 have li:=hp.lt (by lia) i;have lj:=hp.lt (by lia) j;have hne:q.getD i 0≠q.getD j 0:=fun z=>by
  have hnd:q.toList.Nodup:=by
   have h1:=Array.perm_iff_toList_perm.mp hp;exact h1.nodup_iff.mpr (by simpa using List.nodup_range)
  have ei:q.getD i 0=q.toList.getD i 0:=by simp[Array.getD,List.getD_eq_getElem?_getD,show i<q.size by lia]
  have ej:q.getD j 0=q.toList.getD j 0:=by simp[Array.getD,List.getD_eq_getElem?_getD,show j<q.size by lia]
  rw[ei,ej]at z;have:=rH hnd (by rw[Array.length_toList];lia) (by rw[Array.length_toList];lia) z
  lia
 have hle:=hs i j (by lia) (by lia);have e3:l.getD (q.getD i 0) d≠l.getD (q.getD j 0) d:=fun z=>hne (rH nd li lj z);rcases o.tot _ (d6 li) _ (d6 lj) e3 with h|h
 ·exact h
 ·have:=hlt _ _ lj li h;unfold rk at hle
  lia
theorem nQ (c:Nat->Nat->Bool):(bP d c l).Perm l:=by
 unfold bP
 split
 ·exact List.Perm.refl _
 ·have h:=Array.perm_iff_toList_perm.mp (fF (n:=l.length) c (by lia));refine(h.map fun i=>l.getD i d).trans ?_;have e:((List.range l.length).toArray.toList.map fun i=>l.getD i d)=l:=by
   apply List.ext_getElem?
   intro i
   by_cases hi:i<l.length
   ·simp[hi,List.getD_eq_getElem?_getD]
   ·simp[hi]
  rw[e]
theorem xW (o:Ord lt l)(nd:l.Nodup):(bP d (fun i j=>lt (l.getD i d) (l.getD j d)) l).Pairwise fun x y=>lt x y=true:=by
 unfold bP
 split
 ·rename_i h
  match l,h with
  | [],_=>exact .nil
  | [x],_=>exact List.pairwise_singleton _ _
 ·rename_i h;have ha:=MN (d:=d) o nd (by lia);have hp:=fF (n:=l.length) (fun i j=>lt (l.getD i d) (l.getD j d)) (by lia);generalize aZ (fun i j=>lt (l.getD i d) (l.getD j d)) (kas_sort l.length)=q at ha hp;have hqs:q.size=l.length:=by have:=hp.size_eq;simpa using this
  rw[List.pairwise_iff_getElem];intro i j hi hj hij;rw[List.length_map,Array.length_toList]at hi hj;have:=ha i j hij (by lia)
  simpa [Array.getD,hi,hj] using this
theorem yL:∀{l k:List α},(∀x∈l,lt x x=false)->(∀x∈l,∀y∈l,∀z∈l,lt x y=true->lt y z=true->lt x z=true)->l.Perm k->l.Pairwise (fun x y=>lt x y=true)->k.Pairwise (fun x y=>lt x y=true)->l=k
 | [],k,_,_,hp,_,_=>(List.nil_perm.mp hp).symm
 | a::l,[],_,_,hp,_,_=>nomatch (List.perm_nil.mp hp)
 | a::l,b::k,hi,ht,hp,h1,h2=>by
  have ha:a∈b::k:=hp.mem_iff.mp (.head _);have hb:b∈a::l:=hp.mem_iff.mpr (.head _);have e:a=b:=by
   rcases List.mem_cons.mp ha with e|ha'
   ·exact e
   ·rcases List.mem_cons.mp hb with e|hb'
    ·exact e.symm
    ·have q1:=(List.pairwise_cons.mp h2).1 a ha';have q2:=(List.pairwise_cons.mp h1).1 b hb';have:=ht a (.head _) b hb a (.head _) q2 q1;rw[hi a (.head _)]at this;cases this
  subst e;rw[yL (fun x hx=>hi x (List.mem_cons_of_mem _ hx)) (fun x hx y hy z hz=>ht x (List.mem_cons_of_mem _ hx) y (List.mem_cons_of_mem _ hy) z (List.mem_cons_of_mem _ hz)) (List.perm_cons a |>.mp hp) (List.pairwise_cons.mp h1).2 (List.pairwise_cons.mp h2).2]
end
end L2
namespace L2
open PySem PySem.W PyProof.Rows
def ltS (x y:Str):Bool:=decide (x.cps.toList<y.cps.toList)
theorem N3 {x y:Str}(h:x.cps.toList=y.cps.toList):x=y:=by
 cases x;cases y
 congr 1
 exact Array.toList_inj.mp h
theorem TD (x:Str):ltS x x=false:=decide_eq_false (List.lt_irrefl _)
theorem WZ {x y z:Str}(h1:ltS x y=true)(h2:ltS y z=true):ltS x z=true:=decide_eq_true (List.lt_trans (of_decide_eq_true h1) (of_decide_eq_true h2))
theorem RY {x y:Str}(h:x≠y):ltS x y=true∨ltS y x=true:=by
 by_cases h1:x.cps.toList<y.cps.toList
 ·exact .inl (decide_eq_true h1)
 ·by_cases h2:y.cps.toList<x.cps.toList
  ·exact .inr (decide_eq_true h2)
  ·exact absurd (N3 (List.le_antisymm (List.not_lt.mp h2) (List.not_lt.mp h1))) h
theorem FN {α β:Type}(f:α->β)(d:α)(e:β)(c:Nat->Nat->Bool)(l:List α):bP e c (l.map f)=(bP d c l).map f:=by
 unfold bP;rw[List.length_map]
 split
 ·rfl
 ·rename_i h;rw[List.map_map]
  apply List.map_congr_left
  intro i hi;have h':=(fF (n:=l.length) c (by lia)).mem_iff.mp (Array.mem_toList_iff.mp hi);have hl:i<l.length:=by simpa using h'
  show (l.map f).getD i e=f (l.getD i d);rw[List.getD_eq_getElem?_getD,List.getD_eq_getElem?_getD,List.getElem?_map,List.getElem?_eq_getElem hl];rfl
section
variable {X:Cx}
end
def xE (rs:List (List Key)):Prop:=∃sh,∀r∈rs,r.map cO=sh
theorem KY (a:Key):gA a a=false:=by
 cases a with
 | inl i=>exact decide_eq_false (Int.lt_irrefl _)
 | inr x=>exact TD x
theorem OE {a b c:Key}(h1:gA a b=true)(h2:gA b c=true):gA a c=true:=by
 cases a<;>cases b<;>cases c<;>first|(cases h1;done)|(cases h2;done)|skip
 ·exact decide_eq_true (Int.lt_trans (of_decide_eq_true h1) (of_decide_eq_true h2))
 ·exact WZ h1 h2
theorem KM {a b:Key}(k:cO a=cO b)(h:a≠b):gA a b=true∨gA b a=true:=by
 cases a<;>cases b<;>first|(cases k;done)|skip
 ·rename_i i j;have hij:i≠j:=fun z=>h (by rw[z]);rcases Int.lt_or_gt_of_ne hij with z|z
  ·exact .inl (decide_eq_true z)
  ·exact .inr (decide_eq_true z)
 ·rename_i x y;exact RY fun z=>h (by rw[z])
theorem wH:∀a:List Key,c9 a a=false
 | []=>rfl
 | a::as=>by
  show (if a=a then c9 as as else gA a a)=false;rw[if_pos rfl];exact wH as
theorem D9:∀{a b:List Key},a.map cO=b.map cO->a≠b->c9 a b=true∨c9 b a=true
 | [],[],_,h=>absurd rfl h
 | [],_::_,k,_=>by cases k
 | _::_,[],k,_=>by cases k
 | a::as,b::bs,k,h=>by
  show (if a=b then c9 as bs else gA a b)=true∨(if b=a then c9 bs as else gA b a)=true
  by_cases e:a=b
  ·subst e;rw[if_pos rfl,if_pos rfl];exact D9 (List.cons.inj k).2 fun z=>h (by rw[z])
  ·rw[if_neg e,if_neg (fun z=>e z.symm)];exact KM (List.cons.inj k).1 e
theorem zJ:∀{a b c:List Key},c9 a b=true->c9 b c=true->c9 a c=true
 | [],_,_,h,_=>by cases h
 | _::_,[],_,h,_=>by cases h
 | _::_,_::_,[],_,h=>by cases h
 | a::as,b::bs,c::cs,h1,h2=>by
  have h1':(if a=b then c9 as bs else gA a b)=true:=h1;have h2':(if b=c then c9 bs cs else gA b c)=true:=h2;show (if a=c then c9 as cs else gA a c)=true
  by_cases e1:a=b
  ·subst e1;rw[if_pos rfl]at h1'
   by_cases e2:a=c
   ·subst e2;rw[if_pos rfl]at h2' ⊢;exact zJ h1' h2'
   ·rw[if_neg e2]at h2' ⊢;exact h2'
  ·rw[if_neg e1]at h1'
   by_cases e2:b=c
   ·subst e2;rw[if_neg e1];exact h1'
   ·rw[if_neg e2]at h2';have h3:=OE h1' h2'
    by_cases e3:a=c
    ·subst e3;rw[KY]at h3;cases h3
    ·rw[if_neg e3];exact h3
theorem wC {rs:List (List Key)}(h:xE rs):Ord c9 rs:=⟨fun x _=>wH x,fun _ _ _ _ _ _ h1 h2=>zJ h1 h2,fun x hx y hy e=>by
 obtain⟨sh,h⟩:=h;exact D9 ((h x hx).trans (h y hy).symm) e⟩
def gT (rs:List (List Key)):List (List Key):=bP [] (nB rs) rs
theorem rY (rs:List (List Key)):(gT rs).Perm rs:=nQ _
theorem EJ {rs:List (List Key)}(h:xE rs)(nd:rs.Nodup):(gT rs).Pairwise fun x y=>c9 x y=true:=xW (d:=[]) (wC h) nd
theorem IE {rs ks:List (List Key)}(h:xE rs)(nd:rs.Nodup)(p:rs.Perm ks):gT rs=gT ks:=by
 have h2:xE ks:=let ⟨sh,q⟩:=h;⟨sh,fun r hr=>q r (p.mem_iff.mpr hr)⟩;exact yL (lt:=c9) (fun x _=>wH x) (fun _ _ _ _ _ _ a b=>zJ a b) (((rY rs).trans p).trans (rY ks).symm) (EJ h nd) (EJ h2 (p.nodup_iff.mp nd))
theorem w9 {H:Hp}{vs:List V}{rs:List (List Key)} (k:KRows H vs rs):KRows H (CF rs vs) (gT rs):=by
 have hl:vs.length=rs.length:=Paired.length k;unfold CF gT bP;rw[hl]
 split
 ·exact k
 ·have hp:=fF (n:=rs.length) (nB rs) (by lia);have hm:∀i∈(aZ (nB rs) (kas_sort rs.length)).toList,i<rs.length:=fun i hi=>by
   have h:=hp.mem_iff.mp (Array.mem_toList_iff.mp hi)
   simpa using h
  revert hm;generalize (aZ (nB rs) (kas_sort rs.length)).toList=l;intro hm
  induction l with
  | nil=>exact .nil
  | cons i l ih =>
   refine .cons ?_ (ih fun j hj=>hm j (List.mem_cons_of_mem _ hj));have hi:=hm i (.head _);obtain⟨p,r,e1,e2,e3⟩:=k.get (i:=i) (v:=vs.getD i .non) (by rw[List.getD_eq_getElem?_getD,List.getElem?_eq_getElem (by lia)];rfl);refine⟨p,e1,?_⟩;show H p=some (.tup ((rs.getD i []).map kV));rw[List.getD_eq_getElem?_getD,e2];exact e3
end L2
namespace L2
open PySem PySem.W PyProof.Rows
theorem VX {A:Around}{s:Shared}{a:Key}{u v:Value} (ru:RelV (kV a) u) (rv:RelV (kV a) v):SeqAt.EqAt A s u v true:=by
 cases a<;>obtain⟨t,rfl⟩:=ru<;>obtain⟨t',rfl⟩:=rv
 ·have:=SeqAt.EqAt.int_int (A:=A) (s:=s) (by assumption) t (by assumption) t'
  simpa using this
 ·have:=SeqAt.EqAt.str_str (A:=A) (s:=s) (by assumption) t (by assumption) t'
  simpa using this
section
variable {X:Cx}{pins:List (Addr×Obj)}{σ:St}{H:Hp}{s:Shared}
theorem SH {A:Around}(I:Inv X pins σ H s)(hu:A.units<cLine){p q:Addr}{r:List Key} (e:H p=some (.tup (r.map kV))) (e2:H q=some (.tup (r.map kV))):SeqAt.EqAt A s (.ref p) (.ref q) true:=by
 by_cases hpq:p=q
 ·subst hpq;exact SeqAt.EqAt.same _
 ·obtain⟨o1,us1,n1,g1,c1,d1,l1⟩:=kO I e;obtain⟨o2,us2,n2,g2,c2,d2,l2⟩:=kO I e2;have h1:=l1.length;have h2:=l2.length;have:=SeqAt.EqAt.of_refs hpq (SeqAt.RcAt.tuples (A:=A) (e:=fun _=>true) ⟨o1,g1,c1,n1,d1⟩ ⟨o2,g2,c2,n2,d2⟩ hu fun j h1' h2'=>by
   have h1'':j<us1.length:=by simpa using h1'
   have h2'':j<us2.length:=by simpa using h2'
   have hj:j<(r.map kV).length:=by lia
   have hx:(r.map kV)[j]? =some (kV (r[j]'(by simpa using hj))):=by rw[List.getElem?_map,List.getElem?_eq_getElem (by simpa using hj)];rfl
   obtain⟨u,e1,ru⟩:=l1.get hx;obtain⟨v,e2,rv⟩:=l2.get hx;have q1:us1.toArray[j]=u:=by simpa using (List.getElem?_eq_some_iff.mp e1).2
   have q2:us2.toArray[j]=v:=by simpa using (List.getElem?_eq_some_iff.mp e2).2
   rw[q1,q2];exact VX ru rv)
  simpa [qV,←h1,←h2] using this
end
end L2
namespace L2
open PySem PySem.W PyProof.Rows
section
variable {X:Cx}
def EI (K:PySem.W.Frag)(r:Bool):R2:=fun x y H Q=>∃a b xs ys rs,x= .ref a/\y= .ref b/\SqL K H a xs/\SqL K H b ys/\KRows H xs rs/\KRows H ys rs/\Q (.bl r) H
theorem LN {A:Around}{pins:List (Addr×Obj)}{σ:St}{H:Hp}{s:Shared} (I:Inv X pins σ H s) (hu:A.units<cLine) {xs ys:List V}{rs:List (List Key)}{us ws:List Value} (k1:KRows H xs rs) (k2:KRows H ys rs) (r:Vals xs us) (q:Vals ys ws) (j:Nat) (h1:j<us.toArray.size) (h2:j<ws.toArray.size):SeqAt.EqAt A s us.toArray[j] ws.toArray[j] true:=by
 have hj:j<xs.length:=by rw[r.length];simpa using h1
 have hj2:j<ys.length:=by rw[q.length];simpa using h2
 obtain⟨u,e1,ru⟩:=r.get (i:=j) (x:=xs[j]) (List.getElem?_eq_getElem hj);obtain⟨v,e2,rv⟩:=q.get (i:=j) (x:=ys[j]) (List.getElem?_eq_getElem hj2);obtain⟨p1,r1,x1,y1,z1⟩:=k1.get (i:=j) (List.getElem?_eq_getElem hj);obtain⟨p2,r2,x2,y2,z2⟩:=k2.get (i:=j) (List.getElem?_eq_getElem hj2);rw[y1]at y2;cases y2;have q1:us.toArray[j]=u:=by simpa using (List.getElem?_eq_some_iff.mp e1).2
 have q2:ws.toArray[j]=v:=by simpa using (List.getElem?_eq_some_iff.mp e2).2
 rw[q1,q2];rw[x1]at ru;rw[x2]at rv;cases ru;cases rv;exact SH I hu z1 z2
theorem XI (hu:X.A.units+1<cLine):OpR X (compareOp .Eq) (EI X.K true):=by
 intro pins s σ H x y v u Q I rx ry h;obtain⟨a,b,xs,ys,rs,rfl,rfl,ha,hb,k1,k2,q⟩:=h;cases rx;cases ry;obtain⟨its,r,pl,hz⟩:=I.list ha;obtain⟨its2,r2,pl2,_⟩:=I.list hb;have l1:xs.length=rs.length:=Paired.length k1;have l2:ys.length=rs.length:=Paired.length k2;exact SeqAt.eq_listAt (e:=fun _=>true) pl.isList pl2.isList (by simp[←r.length,←r2.length,l1,l2]) (Nat.lt_of_succ_lt hu) (LN I hu k1 k2 r r2) ⟨.bl true,H,I,by rw[qV];rfl,q⟩
theorem XB (hu:X.A.units+1<cLine):OpR X (compareOp .NotEq) (EI X.K false):=by
 intro pins s σ H x y v u Q I rx ry h;obtain⟨a,b,xs,ys,rs,rfl,rfl,ha,hb,k1,k2,q⟩:=h;cases rx;cases ry;obtain⟨its,r,pl,hz⟩:=I.list ha;obtain⟨its2,r2,pl2,_⟩:=I.list hb;have l1:xs.length=rs.length:=Paired.length k1;have l2:ys.length=rs.length:=Paired.length k2;exact SeqAt.RcNeAt.lists (e:=fun _=>true) pl.isList pl2.isList (by simp[←r.length,←r2.length,l1,l2]) (Nat.lt_of_succ_lt hu) (LN I hu k1 k2 r r2) X.prog X.w X.xe _ ⟨.bl false,H,I,by rw[qV];rfl,q⟩
end
end L2
namespace L2
open PySem PySem.W PyProof.Rows
theorem Paired.snoc {α β:Type}{F:α->β->Prop}:∀{l:List α}{m:List β}{a:α}{b:β},Paired F l m->F a b->Paired F (l++[a]) (m++[b])
 | _,_,_,_,.nil,h=> .cons h .nil
 | _,_,_,_,.cons r t,h=> .cons r (Paired.snoc t h)
theorem Paired.at2 {α β:Type}{F:α->β->Prop}:∀{l:List α}{m:List β}{i:Nat}{a:α}{b:β},Paired F l m->l[i]? =some a->m[i]? =some b->F a b
 | _,_,0,_,_,.cons r _,h1,h2=>by cases h1;cases h2;exact r
 | _,_,i+1,_,_,.cons _ t,h1,h2=>Paired.at2 (i:=i) t (by simpa using h1) (by simpa using h2)
 | _,_,_,_,_,.nil,h1,_=>by simp at h1
theorem kH {α:Type}{J:It}{g:TG}{ti:TT}{te:TE}{σ0:St}{fin:List V->Hp->Prop}{H:Hp} (xs:List α) (c:α->Bool) (P:α->V->Hp->Prop) (hm:∀x y H1 H2,P x y H1->Same H1 H2->P x y H2) (hn:xs.length<=sizeLine)
  (hgo:∀i H1,Same H H1->i<xs.length->J.go i H1)(hst:∀H1,Same H H1->J.stop xs.length H1)
  (hb:∀i x H1,xs[i]? =some x->Same H H1->∀v H',J.yld i H1 v H'->Same H1 H'/\∃σ2:St,σ2.length=σ0.length/\(∀(j:Nat) v,σ0[j]? =some (some v)->σ2[j]? =some (some v))/\(∀R:St->Hp->Prop,R σ2 H'->g v σ0 H' R) ∧
   (∀R:Bool->Hp->Prop,(∀H2,Same H' H2->R (c x) H2)->ti σ2 H' R)/\(c x=true->∀H2,Same H' H2->∀R:VK,(∀y H3,P x y H3->Same H2 H3->R y H3)->te σ2 H2 R))
  (hf:∀ys H1,Same H H1->Paired (fun x y=>P x y H1) (xs.filter c) ys->fin ys H1):g9 J g ti te σ0 fin H:=by
 refine⟨fun i m ys H1=>i+m=xs.length/\Same H H1/\Paired (fun x y=>P x y H1) ((xs.take i).filter c) ys,⟨xs.length,by lia,Same.refl _,.nil⟩,?_⟩;rintro i m ys H1 ⟨e1,s1,pr⟩;cases m with
 | zero =>
  have ei:i=xs.length:=by lia
  subst ei;rw[List.take_length]at pr;exact .inl ⟨hst H1 s1,hf ys H1 s1 pr⟩
 | succ m =>
  have hi:i<xs.length:=by lia
  refine .inr ⟨hgo i H1 s1 hi,fun v H' y=> ?_⟩;have ex:xs[i]? =some xs[i]:=List.getElem?_eq_getElem hi;have etake:xs.take (i+1)=xs.take i++[xs[i]]:=by rw[List.take_succ,ex];rfl
  have hlen:ys.length<=i:=by
   rw[←Paired.length pr];exact Nat.le_trans (List.length_filter_le _ _) (by rw[List.length_take];lia)
  obtain⟨s2,σ2,l2,c2,hg,ht,he⟩:=hb i xs[i] H1 ex s1 v H' y;refine hg _ ⟨⟨l2,c2⟩,ht _ fun H2 s3=> ?_⟩;cases hc:c xs[i] with
  | true =>
   show te σ2 H2 _;refine he hc H2 s3 _ fun y H3 py s4=>⟨by lia,m,by lia,by lia,((s1.trans s2).trans s3).trans s4,?_⟩
   rw[etake,List.filter_append,List.filter_cons_of_pos hc];exact Paired.snoc (Paired.imp' (fun a b h=>hm a b _ _ h ((s2.trans s3).trans s4)) pr) py
  | false =>
   show ∃m',_;refine⟨m,by lia,by lia,(s1.trans s2).trans s3,?_⟩;rw[etake,List.filter_append,List.filter_cons_of_neg (by rw[hc];exact Bool.false_ne_true),List.filter_nil,List.append_nil];exact Paired.imp' (fun a b h=>hm a b _ _ h (s2.trans s3)) pr
section
variable {K:PySem.W.Frag}{ti:TT}{te:TE}{σ:St}{ci:List Nat}{rest:St}{fin:List V->Hp->Prop}{H:Hp}{a:Addr}
theorem O4 {n:Nat}(hr:ci.map (fun i=>(σ[i]?).join)=rest):cD n ci σ=List.replicate n none++rest:=by unfold cD;rw[hr]
theorem qH {α:Type}{vs:List V}{xs:List α} (f1 f2:α->V) (c:α->Bool) (P:α->V->Hp->Prop) (hm:∀x y H1 H2,P x y H1->Same H1 H2->P x y H2) (hn:xs.length<=sizeLine) (hr:ci.map (fun i=>(σ[i]?).join)=rest) (hl:SqL K H a vs)
  (hv:Paired (fun v x=>∃q,v= .ref q/\H q=some (.tup [f1 x,f2 x])) vs xs)
  (ht:∀x H1,x∈xs->Same H H1->∀R:Bool->Hp->Prop,(∀H2,Same H1 H2->R (c x) H2)->ti (some (f1 x)::some (f2 x)::rest) H1 R)
  (he:∀x H1,x∈xs->c x=true->Same H H1->∀R:VK,(∀y H2,P x y H2->Same H1 H2->R y H2)->te (some (f1 x)::some (f2 x)::rest) H1 R)
  (hf:∀ys H1,Same H H1->Paired (fun x y=>P x y H1) (xs.filter c) ys->fin ys H1):g9 (Itl K a) (yT K 2 (m9 (cX 0) (m9 (cX 1) DB))) ti te (cD 2 ci σ) fin H:=by
 have e0:cD 2 ci σ=none::none::rest:=O4 hr;rw[e0];have hlen:vs.length=xs.length:=Paired.length hv;refine kH xs c P hm hn (fun i H1 s hi=>⟨vs,vs[i],s.seq hl,List.getElem?_eq_getElem (by lia)⟩) (fun H1 s=>⟨vs,s.seq hl,by lia⟩) (fun i x H1 hx s1 v H' y=> ?_) hf;obtain⟨rfl,e2⟩:=y;have ev:=e2 vs (s1.seq hl);obtain⟨q,rfl,hq⟩:∃q,v= .ref q/\H q=some (.tup [f1 x,f2 x]):=Paired.at2 hv ev hx;have hmem:=List.mem_of_getElem? hx;refine⟨Same.refl _,some (f1 x)::some (f2 x)::rest,rfl,fun j v hv=> ?_,fun R h=>⟨q,[f1 x,f2 x],rfl,.inl (.inl (s1 _ _ hq)),rfl,f1 x,[f2 x],rfl,f2 x,[],rfl,rfl,h⟩,fun R h=>ht x _ hmem s1 R h,fun hc H2 s2 R h=>he x H2 hmem hc (s1.trans s2) R h⟩
 match j,hv with
 | 0,hv=>cases hv
 | 1,hv=>cases hv
 | j+2,hv=>exact hv
end
end L2
namespace L2
open PySem PySem.W PyProof.Rows
section
variable {K:PySem.W.Frag}{ti:TT}{te:TE}{σ:St}{ci:List Nat}{rest:St}{fin:List V->Hp->Prop}{H:Hp}{a:Addr}
theorem rS {H:Hp}{q:Addr}{o:HO} (h:H q=none):Same H (upd H q o):=fun b u e=>by
 have:b≠q:=fun z=>by rw[z,h]at e;cases e
 rw[aT this];exact e
theorem UA {α:Type}{vs:List V}{xs:List α} (f1 f2 f3:α->V) (c:α->Bool) (P:α->V->Hp->Prop) (hm:∀x y H1 H2,P x y H1->Same H1 H2->P x y H2) (hn:xs.length<=sizeLine) (hr:ci.map (fun i=>(σ[i]?).join)=rest) (hl:SqL K H a vs)
  (hv:Paired (fun v x=>∃q,v= .ref q/\H q=some (.tup [f1 x,f2 x,f3 x])) vs xs)
  (ht:∀x H1,x∈xs->Same H H1->∀R:Bool->Hp->Prop,(∀H2,Same H1 H2->R (c x) H2)->ti (some (f1 x)::some (f2 x)::some (f3 x)::rest) H1 R)
  (he:∀x H1,x∈xs->c x=true->Same H H1->∀R:VK,(∀y H2,P x y H2->Same H1 H2->R y H2)->te (some (f1 x)::some (f2 x)::some (f3 x)::rest) H1 R)
  (hf:∀ys H1,Same H H1->Paired (fun x y=>P x y H1) (xs.filter c) ys->fin ys H1):g9 (Itl K a) (yT K 3 (m9 (cX 0) (m9 (cX 1) (m9 (cX 2) DB)))) ti te (cD 3 ci σ) fin H:=by
 have e0:cD 3 ci σ=none::none::none::rest:=O4 hr;rw[e0];have hlen:vs.length=xs.length:=Paired.length hv;refine kH xs c P hm hn (fun i H1 s hi=>⟨vs,vs[i],s.seq hl,List.getElem?_eq_getElem (by lia)⟩) (fun H1 s=>⟨vs,s.seq hl,by lia⟩) (fun i x H1 hx s1 v H' y=> ?_) hf;obtain⟨rfl,e2⟩:=y;have ev:=e2 vs (s1.seq hl);obtain⟨q,rfl,hq⟩:∃q,v= .ref q/\H q=some (.tup [f1 x,f2 x,f3 x]):=Paired.at2 hv ev hx;have hmem:=List.mem_of_getElem? hx;refine⟨Same.refl _,some (f1 x)::some (f2 x)::some (f3 x)::rest,rfl,fun j v hv=> ?_,fun R h=>⟨q,[f1 x,f2 x,f3 x],rfl,.inl (.inl (s1 _ _ hq)),rfl,f1 x,[f2 x,f3 x],rfl,f2 x,[f3 x],rfl,f3 x,[],rfl,rfl,h⟩,fun R h=>ht x _ hmem s1 R h,fun hc H2 s2 R h=>he x H2 hmem hc (s1.trans s2) R h⟩
 match j,hv with
 | 0,hv=>cases hv
 | 1,hv=>cases hv
 | 2,hv=>cases hv
 | j+3,hv=>exact hv
theorem KF {kvs:List (Key×V)}{o:Obj} (c:Key×V->Bool) (P:Key×V->V->Hp->Prop) (hm:∀x y H1 H2,P x y H1->Same H1 H2->P x y H2) (hn:kvs.length<=sizeLine) (hr:ci.map (fun i=>(σ[i]?).join)=rest) (h0:H a=some (.frz o (.dK kvs)))
  (ht:∀x H1,x∈kvs->Same H H1->∀R:Bool->Hp->Prop,(∀H2,Same H1 H2->R (c x) H2)->ti (some (kV x.1)::rest) H1 R)
  (he:∀x H1,x∈kvs->c x=true->Same H H1->∀R:VK,(∀y H2,P x y H2->Same H1 H2->R y H2)->te (some (kV x.1)::rest) H1 R)
  (hf:∀ys H1,Same H H1->Paired (fun x y=>P x y H1) (kvs.filter c) ys->fin ys H1):g9 (Itk a o kvs) (cX 0) ti te (cD 1 ci σ) fin H:=by
 rw[EK hr];refine kH kvs c P hm hn (fun i H1 s hi=>⟨s _ _ h0,hi⟩) (fun H1 s=>⟨s _ _ h0,Nat.le_refl _⟩) (fun i x H1 hx s1 v H' y=> ?_) hf;obtain⟨rfl,k,u,e2,rfl⟩:=y;rw[hx]at e2;cases e2;have hmem:=List.mem_of_getElem? hx;refine⟨Same.refl _,some (kV k)::rest,rfl,fun j v hv=> ?_,fun R h=>h,fun R h=>ht _ _ hmem s1 R h,fun hc H2 s2 R h=>he _ H2 hmem hc (s1.trans s2) R h⟩;cases j with
 | zero=>cases hv
 | succ j=>exact hv
end
section
variable {σ:St}{H:Hp}{g:TG}{tb:TS}{nx bk ct:St->Hp->Prop}{rt:VK}
theorem OX {p:Addr}{o:Obj} (kvs:List (Key×V)) (Pv:Nat->St->Hp->Prop) (h0:Pv 0 σ H) (hl:∀i σ H,Pv i σ H->H p=some (.frz o (.dK kvs)))
  (hs:∀i k v σ H,kvs[i]? =some (k,v)->Pv i σ H->g (kV k) σ H fun σ2 H2=>tb ⟨Pv (i+1),rt,nx,Pv (i+1)⟩ σ2 H2)(hd:∀σ H,Pv kvs.length σ H->nx σ H):CM (Itk p o kvs) g tb ⟨nx,rt,bk,ct⟩ σ H:=by
 refine⟨fun i m σ H=>m=kvs.length - i/\i<=kvs.length/\Pv i σ H,⟨kvs.length,by simp,Nat.zero_le _,h0⟩,?_⟩;rintro i m σ H ⟨rfl,hi,q⟩
 by_cases hlt:i<kvs.length
 ·refine .inr ⟨⟨hl i σ H q,hlt⟩,Pv (i+1),fun σ' H' p'=>⟨kvs.length - (i+1),by lia,rfl,hlt,p'⟩,fun x H' y=> ?_⟩;obtain⟨rfl,k,v,e,rfl⟩:=y;exact hs i k v σ _ e q
 ·have e:i=kvs.length:=by lia
  subst e;exact .inl ⟨⟨hl _ σ H q,Nat.le_refl _⟩,hd σ H q⟩
end
def MR (R:It->Hp->Prop):VK:=fun x H1=>∃a kvs,x= .ref a/\H1 a=some (.dK kvs)/\∀o,R (Itk a o kvs) (upd H1 a (.frz o (.dK kvs)))
def XF (Q:VK)(y:V):VK:=fun x H2=>∃a o,x= .ref a/\DGet H2 a y o/\Q (.bl o.isSome) H2
def HD (Q:VK)(y:V):VK:=fun x H2=>∃a o,x= .ref a/\DGet H2 a y o/\Q (.bl (!o.isSome)) H2
def MQ (σ:St)(ty tx:TE)(Q:VK):VK:=fun x H1=>∃a,x= .ref a/\IsD H1 a/\ty σ H1 fun y H2=>tx σ H2 fun z H3=>∃o,DGet H3 a y o/\Q (o.getD z) H3
def VT (a:Addr)(Q:VK)(y:V):VK:=fun z H3=>∃o,DGet H3 a y o/\Q (o.getD z) H3
section
variable {K:PySem.W.Frag}{H:Hp}{Q:VK}{σ:St}{nx:St->Hp->Prop}{R:It->Hp->Prop}{td ty tx:TE}
theorem L6 (h:td σ H (MR R)):J0 td σ H R:=h
theorem wL {p:Addr}{kvs:List (Key×V)} (e:H p=some (.dK kvs)) (h:∀o H',SameBut p H H'->H' p=some (.frz o (.dK kvs))->R (Itk p o kvs) H'):MR R (.ref p) H:=⟨p,kvs,rfl,e,fun o=>h o _ SameBut.upd bK⟩
theorem XS (h:ty σ H fun y H1=>td σ H1 (XF Q y)):U7 ty td σ H Q:=h
theorem LR (h:ty σ H fun y H1=>td σ H1 (HD Q y)):GJ ty td σ H Q:=h
theorem T6 {p:Addr}{z:Str}{kvs:List (Key×V)} (e:Rd H p (.dK kvs)) (h:Q (.bl (bD kvs (.inr z)).isSome) H):XF Q (.str z) (.ref p) H:=⟨p,_,rfl,.inl ⟨kvs,.inr z,e,rfl,rfl⟩,h⟩
theorem xY {p:Addr}{z:Str}{kvs:List (Key×V)} (e:Rd H p (.dK kvs)) (h:Q (.bl (!(bD kvs (.inr z)).isSome)) H):HD Q (.str z) (.ref p) H:=⟨p,_,rfl,.inl ⟨kvs,.inr z,e,rfl,rfl⟩,h⟩
theorem v9 {p:Addr}{v:V}{z:Str}{kvs:List (Key×V)} (e:H p=some (.dK kvs)) (hl:kvs.length<sizeLine) (h:∀H',SameBut p H H'->H' p=some (.dK (bU kvs (.inr z) v))->nx σ H'):HR nx σ (.ref p) v (.str z) H :=
 ⟨p,_,rfl,DPut.k (k:= .inr z) e hl,h _ SameBut.upd bK⟩
theorem nJ {p:Addr}{v:V}{z:Str}{kvs:List (Key×V)} (e:Rd H p (.dK kvs)) (hv:bD kvs (.inr z)=some v) (h:Q v H):IM Q (.ref p) (.str z) H:=⟨p,v,rfl,.inl ⟨kvs,.inr z,e,rfl,hv.symm⟩,h⟩
theorem N4 (h:∀p H',H p=none->Same H H'->H' p=some (.dK [])->Q (.ref p) H'):LO σ H Q:=fT h
theorem PJ (h:td σ H (MQ σ ty tx Q)):JU td ty tx σ H Q:=h
theorem jJ {p:Addr}{kvs:List (List Key×V)} (e:H p=some (.dT kvs)) (h:ty σ H fun y H2=>tx σ H2 (VT p Q y)):MQ σ ty tx Q (.ref p) H:=⟨p,rfl,.inr ⟨kvs,.inl e⟩,h⟩
theorem kK {p b:Addr}{z:V}{kvs:List (List Key×V)} (k:List Key) (e:H p=some (.dT kvs)) (eb:H b=some (.tup (k.map kV))) (h:Q ((bD kvs k).getD z) H):VT p Q (.ref b) z H:=⟨_,DGet.t e eb,h⟩
theorem N2 {p:Addr}{vs:List V}{ps:List (Key×V)} (e:H p=some (.lst vs)) (r:CI H vs ps) (h:∀l H',H l=none->Same H H'->H' l=some (.dK (jV [] ps))->Q (.ref l) H'):L0 [.ref p] H Q:=⟨p,vs,ps,rfl,.inl e,r,fT h⟩
theorem CW {a b:Addr}{xs ys:List V}{rs:List (List Key)}{r:Bool} (e:SqL K H a xs) (e2:SqL K H b ys) (k1:KRows H xs rs) (k2:KRows H ys rs) (h:Q (.bl r) H):EI K r (.ref a) (.ref b) H Q:=⟨a,b,xs,ys,rs,rfl,rfl,e,e2,k1,k2,h⟩
theorem wP {te:TE}{p:Addr}{u:HO} (e:H p=some u) (nf:∀o x,u≠ .frz o x) (h:te σ H fun x=>g7 p (Q x)):QZ te σ H Q:=⟨p,fun o x z=>nf o x (by rw[e]at z;exact Option.some.inj z),h⟩
theorem N8 {ts:TS}{bk ct:St->Hp->Prop}{rt:VK}{p:Addr}{u:HO} (e:H p=some u) (nf:∀o x,u≠ .frz o x) (h:ts ⟨fun σ'=>g7 p (nx σ'),fun v=>g7 p (rt v),fun σ'=>g7 p (bk σ'),fun σ'=>g7 p (ct σ')⟩ σ H):QR ts ⟨nx,rt,bk,ct⟩ σ H :=
 ⟨p,fun o x z=>nf o x (by rw[e]at z;exact Option.some.inj z),h⟩
theorem o0 {p:Addr}{o:Obj}{u:HO}{R:Hp->Prop} (e:H p=some (.frz o u)) (h:∀H',SameBut p H H'->H' p=some u->R H'):g7 p R H:=⟨o,u,e,h _ SameBut.upd bK⟩
theorem AS {H Hf H1 H2:Hp}{p:Addr}{u:HO} (e:H p=some u) (a:SameBut p H Hf) (b:SameBut p Hf H1) (c:SameBut p H1 H2) (e2:H2 p=some u):Same H H2:=fun x o z=>by
 by_cases hx:x=p
 ·subst hx;rw[e]at z;cases z;exact e2
 ·exact c x o (b x o (a x o z hx) hx) hx
end
section
variable {X:Cx}{K:PySem.W.Frag}
theorem nI {e:Expr}{ta:TE}{f:Str}{pos:Pos} (he:PE X e ta) (hb:attributeBase e f X.env (eval e X.env)=eval e X.env) (hK:X.K=K:=by rfl):PE X (.Attribute e f pos) (OI K ta f):=by
 subst hK;exact bJ he hb
theorem xP (hK:X.K=K:=by rfl):OpR X (compareOp .In) (rIn K false):=by
 subst hK;exact AB
end
end L2
namespace L2
open PySem PySem.W PyProof.Rows
section
variable {K:PySem.W.Frag}{ti:TT}{te:TE}{σ:St}{ci:List Nat}{rest:St}{fin:List V->Hp->Prop}{H:Hp}{a:Addr}{α:Type}
theorem qE {vs:List V}{xs:List α} (F:V->α->Prop) (c:α->Bool) (P:α->V->Hp->Prop) (hm:∀x y H1 H2,P x y H1->Same H1 H2->P x y H2) (hn:xs.length<=sizeLine) (hr:ci.map (fun i=>(σ[i]?).join)=rest) (hl:SqL K H a vs) (hv:Paired F vs xs)
  (ht:∀v x H1,F v x->x∈xs->Same H H1->∀R:Bool->Hp->Prop,(∀H2,Same H1 H2->R (c x) H2)->ti (some v::rest) H1 R)
  (he:∀v x H1,F v x->x∈xs->c x=true->Same H H1->∀R:VK,(∀y H2,P x y H2->Same H1 H2->R y H2)->te (some v::rest) H1 R)
  (hf:∀ys H1,Same H H1->Paired (fun x y=>P x y H1) (xs.filter c) ys->fin ys H1):g9 (Itl K a) (cX 0) ti te (cD 1 ci σ) fin H:=by
 rw[EK hr];have hlen:vs.length=xs.length:=Paired.length hv;refine kH xs c P hm hn (fun i H1 s hi=>⟨vs,vs[i],s.seq hl,List.getElem?_eq_getElem (by lia)⟩) (fun H1 s=>⟨vs,s.seq hl,by lia⟩) (fun i x H1 hx s1 v H' y=> ?_) hf;obtain⟨rfl,e2⟩:=y;have ev:=e2 vs (s1.seq hl);have hF:=Paired.at2 hv ev hx;have hmem:=List.mem_of_getElem? hx;refine⟨Same.refl _,some v::rest,rfl,fun j v hv=> ?_,fun R h=>h,fun R h=>ht v x _ hF hmem s1 R h,fun hc H2 s2 R h=>he v x H2 hF hmem hc (s1.trans s2) R h⟩;cases j with
 | zero=>cases hv
 | succ j=>exact hv
end
theorem gW {α:Type}{f:α->V}:∀{l:List α}{ys:List V},Paired (fun x y=>y=f x) l ys->ys=l.map f
 | _,_,.nil=>rfl
 | _,_,.cons h t=>by rw[h,gW t];rfl
theorem i7 {α:Type}(l:List α):l.filter (fun _=>true)=l:=by simp
theorem xH {K:PySem.W.Frag}{H:Hp}{Q:VK}{p:Addr}{z:Str}{ss:List Str} (e:SqL K H p (ss.map V.str)) (h:Q (.bl (decide (z∈ss))) H):rIn K false (.str z) (.ref p) H Q:=by
 refine⟨p,_,rfl,.inl e,rfl,?_,?_⟩
 ·rw[List.all_eq_true];intro x hx;obtain⟨y,_,rfl⟩:=List.mem_map.mp hx;rfl
 ·have e2:inV (.str z) (ss.map V.str)=decide (z∈ss):=by
   rw[Bool.eq_iff_iff,decide_eq_true_eq];unfold inV;rw[List.any_eq_true]
   constructor
   ·rintro ⟨x,hx,h⟩;obtain⟨y,hy,rfl⟩:=List.mem_map.mp hx;have:y=z:=by simpa [eqV] using h
    rw[←this];exact hy
   ·intro h;exact⟨.str z,List.mem_map.mpr ⟨z,h,rfl⟩,by simp[eqV]⟩
  show Q (.bl (inV (.str z) (ss.map V.str))) H;rw[e2];exact h
end L2
namespace L2
open PySem PySem.W PyProof.Rows
abbrev aN:=Int×Str×Int
def eV (t:Int)(n:Str):List Key:=[.inl t,.inr n]
def oV:V->Int
 | .int i=>i
 | _=>0
def zD (kvs:List (List Key×V))(r:aN):List (List Key×V):=bU kvs (eV r.1 r.2.1) (.int (oV ((bD kvs (eV r.1 r.2.1)).getD (.int 0))+r.2.2))
def gP (rows:List aN):List (List Key×V):=rows.foldl zD []
theorem g8 (rows:List aN)(r:aN):gP (rows++[r])=zD (gP rows) r:=by unfold gP;rw[List.foldl_append];rfl
def iU (rows:List aN)(t:Int)(n:Str):Int:=((rows.filter fun r=>decide (r.1=t)&&decide (r.2.1=n)).map (·.2.2)).sum
theorem JH (rows:List aN)(r:aN)(t:Int)(n:Str):iU (rows++[r]) t n=iU rows t n+if r.1=t/\r.2.1=n then r.2.2 else 0:=by
 unfold iU;rw[List.filter_append,List.map_append,List.sum_append]
 congr 1
 by_cases h:r.1=t/\r.2.1=n
 ·rw[if_pos h,List.filter_cons_of_pos (by simp[h])];simp
 ·rw[if_neg h,List.filter_cons_of_neg (by simpa using h)];simp
theorem D7 {t t':Int}{n n':Str} (h:eV t n=eV t' n'):t=t'/\n=n':=by
 unfold eV at h;injection h with h1 h2;injection h2 with h2;exact⟨Sum.inl.inj h1,Sum.inr.inj h2⟩
theorem jM {α:Type}{P:List α->Prop} (h0:P []) (hs:∀l a,P l->P (l++[a])) (l:List α):P l:=by
 have:∀m:List α,P m.reverse:=fun m=>by
  induction m with
  | nil=>exact h0
  | cons a m ih=>rw[List.reverse_cons];exact hs _ _ ih
 rw[←List.reverse_reverse l];exact this _
theorem CU (t:Int)(n:Str)(rows:List aN):oV ((bD (gP rows) (eV t n)).getD (.int 0))=iU rows t n:=by
 induction rows using jM with
 | h0=>rfl
 | hs l r ih =>
  rw[g8,JH];unfold zD;rw[i6]
  by_cases e:eV t n=eV r.1 r.2.1
  ·obtain⟨rfl,rfl⟩:=D7 e;rw[if_pos rfl,if_pos ⟨rfl,rfl⟩,←ih];rfl
  ·rw[if_neg e,if_neg (fun h=>e (by rw[h.1,h.2])),ih];lia
theorem AZ {κ:Type}[DecidableEq κ]{kvs:List (κ×V)}{k:κ}{v:V} (nd:(kvs.map (·.1)).Nodup):((bU kvs k v).map (·.1)).Nodup:=by
 unfold bU
 split
 ·have e:(kvs.map fun kv=>if kv.1=k then (kv.1,v) else kv).map (·.1)=kvs.map (·.1):=by
   rw[List.map_map]
   apply List.map_congr_left
   intro x _;show (if x.1=k then (x.1,v) else x).1=x.1
   split<;>rfl
  rw[e];exact nd
 ·rename_i h;rw[List.map_append];refine GO nd fun hk=>h ?_;obtain⟨x,hx,e⟩:=List.mem_map.mp hk;rw[List.any_eq_true];exact⟨x,hx,decide_eq_true e⟩
theorem kU {κ:Type}[DecidableEq κ]:∀{kvs:List (κ×V)}{e:κ×V},(kvs.map (·.1)).Nodup->e∈kvs->bD kvs e.1=some e.2
 | a::l,e,nd,h=>by
  have nd':=List.pairwise_cons.mp nd;rcases List.mem_cons.mp h with rfl|h
  ·exact dS rfl
  ·rw[cZ (nd'.1 e.1 (List.mem_map.mpr ⟨e,h,rfl⟩))];exact kU nd'.2 h
theorem oY {κ:Type}[DecidableEq κ]{kvs:List (κ×V)}{k:κ}{v:V} (h:bD kvs k=some v):(k,v)∈kvs:=by
 unfold bD at h;obtain⟨x,hx,e⟩:=Option.map_eq_some_iff.mp h;have h1:=List.find?_some hx;have h2:=List.mem_of_find?_eq_some hx;have h3:x.1=k:=of_decide_eq_true h1;rw[←h3,←e];exact h2
def aAf (kvs:List (List Key×V)):Prop:=(kvs.map (·.1)).Nodup/\∀e∈kvs,∃t n i,e=(eV t n,.int i)
theorem fZ (rows:List aN):aAf (gP rows):=by
 induction rows using jM with
 | h0=>exact⟨List.nodup_nil,fun e h=>nomatch h⟩
 | hs l r ih =>
  rw[g8];refine⟨AZ ih.1,fun e he=> ?_⟩;rcases q0 he with h|⟨h1,h2⟩
  ·exact ih.2 e h
  ·exact⟨_,_,_,Prod.ext h1 h2⟩
theorem OZ (rows:List aN)(t:Int)(n:Str):∃i,(bD (gP rows) (eV t n)).getD (.int 0)= .int i:=by
 cases h:bD (gP rows) (eV t n) with
 | none=>exact⟨0,rfl⟩
 | some v =>
  obtain⟨t',n',i,e⟩:=(fZ rows).2 _ (oY h);cases e;exact⟨i,rfl⟩
theorem wQ (rows:List aN):(gP rows).length<=rows.length:=by
 induction rows using jM with
 | h0=>exact Nat.le_refl _
 | hs l r ih =>
  rw[g8,List.length_append];exact Nat.le_trans (dI _ _ _) (by simp;lia)
end L2
namespace L2
open PySem PySem.W PyProof.Rows
theorem R0:typeLookup (.type "dict") "__len__" =pure (some (.builtin "dict.__len__")):=by rw[typeLookup_type,builtinLookup_eq_fast];kernel_rfl
section
variable {prog:Program}{w:World}{A:Around}{E:Value->Shared->Prop}{s:Shared}{d:Addr}{κ:Type} [DecidableEq κ] {knd:KeyKind prog w κ}{ps:List (κ×Value)}{ep:Nat}
theorem KH (T:s.TypeIs (.ref d) "dict"){Q:Bool->Shared->Prop}(h:Q false s):wpAny (model prog w) A (Builtin.List.listLengthHint (.ref d)) Q E s:=by
 unfold Builtin.List.listLengthHint;refine wpAny_bind (wpAny_specialOf T R0 ?_);generalize q:("dict.__len__" :String)=i0
 wp_delta
 rw[show splitId i0=some ("dict","__len__") from by subst q;decide +kernel];subst q;refine wpAny_bind (wpAny_isInstance (T:= "dict") (b:=true) T (by rw[isSubtype_type];kernel_rfl) (wpAny_ite_split (fun z=>absurd z (by decide)) (fun _=>wpAny_ite_split (fun _=> ?_) (fun z=>absurd (by decide +kernel) z))));exact wpAny_bind (wpAny_typeOf T (wpAny_pure h))
theorem FS {R:Result->Shared->Prop}(hh:A.handled=none)(hm:s.heap.DictAt knd d ps ep)(hd0:(d==sysModules)=false)(S:Addr)(hSd:S≠d)(c0:Nat)(hS:s.heap.get? S=some { cls:= .type "list",data:= .seq #[] c0 })(hn:ps.length<=sizeLine)
  (k:∀h' tk acc c,(∀b o,b≠S->s.heap.get? b=some o->h'.get? b=some o)->h'.get? S=some { cls:= .type "list",dict:=none,data:= .seq acc c,slots:= #[] }->ItemsOf (fun i v=>∃k x,ps[i]? =some (k,x)/\knd.is k v=true) acc ps.length->R (.ok (.ret .none)) { s with heap:=h',toks:=tk }) :
  wpAny (model prog w) A.in1 (Builtin.List.listExtendWith (.ref S) (.ref d) .none) (fun fin s'=>match fin with| .done f=>R (.ok f) s'| .again c'=>c'.quiet=true/\codeAny (model prog w) A c' R s') (fun e s'=>R (.error e) s') s:=by
 obtain⟨o,es,ho,hc,hq,hk,hp,hnd⟩:=id hm;have T:s.TypeIs (.ref d) "dict" :=⟨o,ho,hc.1⟩
 have lS:S<s.heap.objs.size:=Heap.lt_size hS;have ld:d<s.heap.objs.size:=Heap.lt_size ho;have hsz:es.size=ps.length:=by rw[←hp.length];simp
 have W:=(Walks.dictKeys (prog:=prog) (w:=w) (knd:=knd) (A:=A.in1) hh s.heap.objs.size d (Nat.ne_of_lt ld) ps ep).toS;have run:∀(h:Heap) (c1 tk:Nat),h.IsKeyIter s.heap.objs.size d 0 ps.length ep->(∀b u,b≠S->s.heap.get? b=some u->h.get? b=some u)->h.get? S=some { cls:= .type "list",data:= .seq #[] c1 } →
   codeAny (model prog w) A (.builtin "list.extend.loop" ⟨[.ref S,.ref s.heap.objs.size,.none],[]⟩) R { s with heap:=h,toks:=tk }:=by
  intro h c1 tk hit kp hS1;refine codeAny_extend_loopS W hn S (by simp only[List.mem_cons,List.not_mem_nil,or_false,not_or];exact⟨Nat.ne_of_lt lS,hSd⟩) .none ps.length 0 _ #[] c1 rfl (Nat.zero_le _) ⟨hit,o,es,kp d o (Ne.symm hSd) ho,hc,hq,hk,hp,hnd⟩ hS1 (ItemsOf.nil _) fun s' acc c' mv hS2 hacc=> ?_;rw[Moved.eq_with mv];refine k s'.heap s'.toks acc c' (fun b u hb e=>mv.heap b u (fun z=> ?_) (kp b u hb e)) hS2 hacc;rcases List.mem_cons.mp z with z|z
  ·exact hb z
  ·have:=Heap.lt_size e;rw[List.mem_singleton.mp z]at this;exact Nat.lt_irrefl _ this
 unfold Builtin.List.listExtendWith;refine wpAny_bind (wpAny_typeOf (T:= "dict") T ?_);simp only[show Builtin.List.listSameRef (.ref S) (.ref d)=false by simp[Builtin.List.listSameRef,hSd],show (Value.type "dict" ==Value.type "list")=false by decide,show (Value.type "dict" ==Value.type "tuple")=false by decide,Bool.or_false,Bool.false_eq_true,if_false];refine wpAny_bind (v7 hd0 ho hc hq ?_);have hS1:=Heap.get?_push_of_some { cls:= .type "dict_keyiterator",data:= .fields #[.ref d,.int 0 0,.int es.size 0,.int ep 0] } hS;refine wpAny_bind (wpAny_holding (KH ⟨o,Heap.get?_push_of_some _ ho,hc.1⟩ ?_));have hit:(s.heap.push { cls:= .type "dict_keyiterator",data:= .fields #[.ref d,.int 0 0,.int es.size 0,.int ep 0] }).IsKeyIter s.heap.objs.size d 0 ps.length ep:=⟨_,Heap.get?_push_size _ rfl,rfl,by rw[hsz];rfl⟩
 refine wpAny_ite_split (fun z=> ?_) (fun _=>wpAny_pure ⟨plainId_quiet F.plain_extend_loop _,run _ c0 _ hit (fun b u _ e=>Heap.get?_push_of_some _ e) hS1⟩);refine wpAny_bind (wpAny_rule (wpAny_bind ?_));show wpAny _ A.in1 (updateSeq S (·.push .none) >>= fun _=>updateSeq S (·.pop)) _ _ _;have u1:=Heap.get?_update_self (Obj.mapSeq (·.push Value.none)) hS1 rfl;have u2:=Heap.get?_update_self (Obj.mapSeq (·.pop)) u1 rfl;refine wpAny_bind (wpAny_updateSeq hS1 rfl (wpAny_updateSeq (hz:=by seq_fits) u1 rfl (wpAny_pure ⟨plainId_quiet F.plain_extend_loop _,run _ _ _ ?_ (fun b u hb e=> ?_) u2⟩)))
 ·exact hit.at fun u e=>(Heap.get?_update_other _ _ (Nat.ne_of_lt lS)).trans ((Heap.get?_update_other _ _ (Nat.ne_of_lt lS)).trans e)
 ·exact(Heap.get?_update_other _ _ (Ne.symm hb)).trans ((Heap.get?_update_other _ _ (Ne.symm hb)).trans (Heap.get?_push_of_some _ e))
theorem L4 {Q:Value->Shared->Prop}(hh:A.handled=none)(hm:s.heap.DictAt knd d ps ep)(hd0:(d==sysModules)=false)(hn:ps.length<=sizeLine)
  (k:∀h' tk acc c,(∀b o,s.heap.get? b=some o->h'.get? b=some o)->h'.get? s.heap.objs.size=some { cls:= .type "list",dict:=none,data:= .seq acc c,slots:= #[] }->ItemsOf (fun i v=>∃k x,ps[i]? =some (k,x)/\knd.is k v=true) acc ps.length->Q (.ref s.heap.objs.size) { s with heap:=h',toks:=tk }) :
  wpAny (model prog w) A (call (.type "list") [.ref d]) Q E s:=by
 refine callType_codes (Q₁:=fun x s1=>x= .ref s.heap.objs.size/\s1={ s with heap:=s.heap.push { cls:= .type "list",data:= .seq #[] } }) F.called_list (F.typeCall_list_1 _) F.entry_list_init (code_list_new _ ⟨rfl,rfl⟩) ?_;rintro x s1 ⟨rfl,rfl⟩;have hS:(s.heap.push { cls:= .type "list",data:= .seq #[] }).get? s.heap.objs.size=some { cls:= .type "list",data:= .seq #[] }:=Heap.get?_push_size _ rfl;have hm1:(s.heap.push { cls:= .type "list",data:= .seq #[] }).DictAt knd d ps ep:=hm.at' fun o e=>Heap.get?_push_of_some _ e;have hdS:s.heap.objs.size≠d:=fun z=>by
  obtain⟨o,_,ho,_⟩:=hm;have:=Heap.lt_size ho;rw[←z]at this;exact Nat.lt_irrefl _ this
 refine⟨⟨_,hS,rfl⟩,F.args_list_init_2 _ _,?_⟩;show wpAny _ A.in1.in1 (Builtin.List.listItems (.ref s.heap.objs.size) >>= fun old=>Builtin.List.listUpdate (.ref s.heap.objs.size) (fun _=> #[]) >>= fun _=>letGo old.toList.reverse >>= fun _=>Builtin.List.listExtendWith (.ref s.heap.objs.size) (.ref d) .none) _ _ _;refine wpAny_bind ?_;unfold Builtin.List.listItems;refine wpAny_bind (wpAny_seqItems hS rfl (wpAny_pure ?_));show wpAny _ A.in1.in1 (updateSeq s.heap.objs.size (fun _=> #[]) >>= fun _=>letGo (#[]:Array Value).toList.reverse >>= fun _=>Builtin.List.listExtendWith (.ref s.heap.objs.size) (.ref d) .none) _ _ _;have u1:=Heap.get?_update_self (Obj.mapSeq (fun _=>(#[]:Array Value))) hS rfl;have kp:∀b o,b≠s.heap.objs.size->(s.heap.push { cls:= .type "list",data:= .seq #[] }).get? b=some o->((s.heap.push { cls:= .type "list",data:= .seq #[] }).update s.heap.objs.size (Obj.mapSeq (fun _=>(#[]:Array Value)))).get? b=some o:=fun b o hb e=>(Heap.get?_update_other _ _ (Ne.symm hb)).trans e;refine wpAny_bind (wpAny_updateSeq hS rfl (wpAny_bind (wpAny_letGo ?_)));refine FS (A:=A.in1) hh (hm1.at' fun o e=>kp d o (Ne.symm hdS) e) hd0 _ hdS _ u1 hn fun h' tk acc c kk hS' hacc=> ?_;exact⟨rfl,k h' tk acc c (fun b o e=>kk b o (Nat.ne_of_lt (Heap.lt_size e)) (kp b o (Nat.ne_of_lt (Heap.lt_size e)) (Heap.get?_push_of_some _ e))) hS' hacc⟩
end
section
variable {X:Cx}
def KK:List V->Hp->VK->Prop:=fun xs H Q=>∃p kvs,xs=[.ref p]/\Rd H p (.dK kvs)/\∀l,H l=none->Q (.ref l) (upd H l (.lst (kvs.map fun e=>kV e.1)))
theorem BJ {P:Program}{w:World}{kvs:List (Key×V)}{rs:List (Key×Value)} (r:KV kvs rs) {acc:Array Value} (h:ItemsOf (fun i v=>∃k x,rs[i]? =some (k,x)/\(cA P w).is k v=true) acc rs.length):Vals (kvs.map fun e=>kV e.1) acc.toList:=by
 have e0:acc.toList.length=rs.length:=by rw[Array.length_toList];exact h.1
 refine vV (by rw[List.length_map,e0];exact r.length) fun i x u h1 h2=> ?_;obtain⟨k,y,e1,e2⟩:=h.2 i u (by simpa using h2);rw[List.getElem?_map]at h1;obtain⟨e,he,rfl⟩:=Option.map_eq_some_iff.mp h1;have hi:i<kvs.length:=(List.getElem?_eq_some_iff.mp he).1;obtain⟨k',v',u',f1,f2,f3⟩:=L1 r hi;rw[he]at f1;cases f1;rw[e1]at f2;cases f2;exact GX e2
theorem x6 (hc:X.calm=true):dO X (.type "list") KK:=by
 intro pins s σ H xs us Q I r h;obtain⟨p,kvs,rfl,hq,q⟩:=h;obtain⟨u,rfl,rx⟩:=jZ r;cases rx;obtain⟨z,y,rs,kv,o,es,ep,h1,h2,h3,h4,h5,h6⟩:=oT I.hok hq;have hl:=kv.length;refine L4 (knd:=cA X.prog X.w) (ps:=rs) (ep:=ep) (I.ok.hd hc) ⟨o,es,h1,h2,h3,h4,h5,h6⟩ y (by lia) fun h' tk acc c kp hS hacc=> ?_;exact⟨.ref _,_,I.laid (t':=tk) kp (Nat.le_refl _) (show ObjOk X.prog X.w _ h' _ (.lst (kvs.map fun e=>kV e.1)) from⟨by rw[List.length_map];exact z,acc.toList,c,BJ kv hacc,by rw[Array.toArray_toList];exact hS⟩),rfl,q _ (I.hok.fresh (Nat.le_refl _))⟩
end
end L2
namespace L2
open PySem PySem.W PyProof.Rows
section
variable {X:Cx}
end
end L2
namespace L2
open PySem PySem.W PyProof.Rows
section
variable {X:Cx}{pins:List (Addr×Obj)}{σ:St}{H:Hp}{s:Shared}{h':Heap}
theorem Inv.turns {t':Nat}{ch:List Addr} (I:Inv X pins σ H s) (k:∀b o,b∉ch->s.heap.get? b=some o->h'.get? b=some o) (hf:∀b∈ch,kQ X pins H b):Inv X pins σ H { s with heap:=h',toks:=t' }:=by
 have nit:∀b u,H b=some u->b∉ch:=fun b u e z=>by have:=(hf b z).1;rw[e]at this;cases this
 refine I.step (g':=s.gens) (d':=s.drawn) (ch:=ch) (fun b hb=> ?_) (fun b o _ _ hc e _=>k b o hc e) (fun b o _ _ hc e _=>⟨o.slots,k b o hc e⟩) (fun _ _ _ _ n=>n) (fun b o hc e=>⟨o,k b o hc e⟩) (fun _ _ e=>e) (fun _ _ _ e=>e) (fun b ps e=>⟨#[],by rw[e];simp⟩) (fun m hm=> ?_) (fun b u e=> ?_) I.bare
 ·obtain⟨f0,f1,f2,f3,f4,f5⟩:=hf b hb;exact⟨f3,f1,f4,f5⟩
 ·obtain⟨o,es,ep,ho,r⟩:=hm;exact⟨o,es,ep,k _ o (fun z=>(hf _ z).2.1 rfl) ho,r⟩
 ·refine(I.hok b u e).stay (fun c v hc q=>k c v ?_ q) (fun _ q=>q) fun _ _ q=>q;rcases hc with z|z
  ·rw[z];exact nit b u e
  ·exact nit c _ z
end
def Ite (K:PySem.W.Frag)(a:Addr):It :=
 ⟨fun i H=>∃xs x,SqL K H a xs/\xs[i]? =some x,fun i H x H'=>∃q,x= .ref q/\H q=none/\∀xs,SqL K H a xs->∃y,xs[i]? =some y/\H'=upd H q (.tup [.int i,y]),fun i H=>∃xs,SqL K H a xs/\xs.length<=i⟩
theorem LE {P:Program}{w:World}{K:PySem.W.Frag}{elts:List Expr}{x1:Nat}{tpos:Pos} (a e it:Addr) (hne:e≠it) :
  tH P w K (.Tuple elts x1 tpos) (Ite K a) [e,it] e (fun i h=>(∃old,IsEnum h e it i old)/\h.IsListIter it a i) where
 mem:=by simp
 obj:=fun i h st b hb=>by
  obtain⟨⟨old,e1⟩,o2,e2,c2,d2⟩:=st;simp only[List.mem_cons,List.not_mem_nil,or_false]at hb;rcases hb with rfl|rfl
  ·exact⟨_,e1,fun v z=>by cases z⟩
  ·exact⟨o2,e2,fun v z=>by rw[d2]at z;cases z⟩
 keep:=fun i h h' st k=>⟨let ⟨old,e1⟩:=st.1;⟨old,k e (by simp) _ e1⟩,st.2.at fun o q=>k it (by simp) o q⟩
 item:=by
  intro X hP hw hK hc i pins s σ H E I hf st hg;subst hP hw hK;obtain⟨xs,x,hq,hx⟩:=hg;obtain⟨⟨old,st1⟩,st2⟩:=st;obtain⟨its,rv,p,hz⟩:=I.list hq;obtain⟨u,hu,ru⟩:=rv.get hx;refine wpAny_pyNext_enum_item st1 st2 p.isList (x:=u) (by simpa using hu) hne fun h1 heo hit1 ht1 hz1 hk1=> ?_;refine⟨_,rfl,?_⟩;refine wpAny_letOwnedTupleGo_enum (s:={ s with heap:=h1,toks:=s.toks+1 }) heo fun h2 he2 sb2=> ?_;have hq0:H s.heap.objs.size=none:=I.hok.fresh (Nat.le_refl _);have le1:e<s.heap.objs.size:=Heap.lt_size st1;have li1:it<s.heap.objs.size:=by obtain⟨o,q,_⟩:=st2;exact Heap.lt_size q
  have I1:Inv X pins σ (upd H s.heap.objs.size (.tup [.int i,x])) { s with heap:=s.heap.push { cls:= .type "tuple",data:= .seq #[.int i s.toks,u] } } :=
   I.laid (t':=s.toks) (fun b u e=>Heap.get?_push_of_some _ e) (Nat.le_refl _) ⟨(show 2<=sizeLine by rw[sizeLine_eq];decide),[.int i s.toks,u],.cons ⟨_,rfl⟩ (.cons ru .nil),⟨_,Heap.get?_push_size _ rfl,rfl,0,rfl⟩⟩
  have hf':∀b∈[e,it],kQ X pins (upd H s.heap.objs.size (.tup [.int i,x])) b:=fun b hb=>by
   obtain⟨f0,f1⟩:=hf b hb;refine⟨?_,f1⟩;simp only[List.mem_cons,List.not_mem_nil,or_false]at hb;rcases hb with rfl|rfl
   ·rw[aT (Nat.ne_of_lt le1)];exact f0
   ·rw[aT (Nat.ne_of_lt li1)];exact f0
  have I2:Inv X pins σ (upd H s.heap.objs.size (.tup [.int i,x])) { s with heap:=h2,toks:=s.toks+1 }:=Inv.turns (s:={ s with heap:=s.heap.push { cls:= .type "tuple",data:= .seq #[.int i s.toks,u] } }) (h':=h2) (t':=s.toks+1) I1 (fun c o hb q=>by
   simp only[List.mem_cons,List.not_mem_nil,or_false,not_or]at hb;rcases Heap.get?_push_cases q with⟨rfl,rfl⟩|q
   ·exact(sb2.2 _ hb.1).trans ht1
   ·exact(sb2.2 c hb.1).trans (hk1 c o hb.1 hb.2 q)) hf'
  refine⟨.ref s.heap.objs.size,_,I2,rfl,⟨_,rfl,hq0,fun ys hy=>⟨x,by rw[I.list_inj hy hq];exact hx,rfl⟩⟩,⟨⟨u,?_⟩,hit1.at fun o q=>(sb2.2 it (Ne.symm hne)).trans q⟩,fun b hb=>(hf' b hb).1⟩;rw[show ((i+1:Nat):Int)=(i:Int)+1 by lia];exact he2
 done:=by
  intro X hP hw hK hc i pins s σ H E I hf st hg;subst hP hw hK;obtain⟨xs,hq,hx⟩:=hg;obtain⟨⟨old,st1⟩,st2⟩:=st;obtain⟨its,rv,p,hz⟩:=I.list hq;have hl:=rv.length;obtain⟨f0,f1,f2,f3,f4,f5⟩:=hf it (by simp);exact wpAny_pyNext_enum_end (I.ok.hd hc) st1 st2 p.isList (by simp;lia) fun h' eb=>⟨rfl,I.turned (t':=s.toks) (fun b o hb q=>eb b o hb q) f0 f1 f3 f4 f5⟩
 self:=fun A i s Q E st h=>by
  obtain⟨⟨old,st1⟩,_⟩:=st;exact wpAny_pyIter_enum st1 h
theorem EV:bootBuiltins "enumerate" =some (.type "enumerate"):=by decide +kernel
def QS (K:PySem.W.Frag)(ta:TA):TI:=fun σ H R=>ta σ H fun vs H1=>∃b xs,vs=[.ref b]/\SqL K H1 b xs/\R (Ite K b) H1
section
variable {X:Cx}
theorem SS {a:Expr}{ta:TA}{p pos:Pos}{elts:List Expr}{x1:Nat}{tpos:Pos} (hg:Gl X "enumerate") (hm:X.mg "enumerate" =none) (ha:PA X [a] ta) (hs:starEach [a] X.env=[(false,eval a X.env)]:=by rfl):PI X (.Tuple elts x1 tpos) (.Call (.Name "enumerate" p) [a] [] pos) (QS X.K ta):=by
 intro pins s σ H R I h;refine Call_ (p9 I hg hm EV (PyProof.Rows.callWith_type1 (thn (ha pos pins s σ H _ I h) fun us s1 ⟨vs,H1,I1,r1,q1⟩=> ?_) hs rfl));obtain⟨b,xs,rfl,hq,q⟩:=q1;obtain⟨u,rfl,rx⟩:=jZ r1;cases rx;obtain⟨its,rv,pl,hz⟩:=I1.list hq;refine call_enumerate_list pl.isList fun h' he hit hsz kp=> ?_;refine wpAny_pyIter_enum (s:={ s1 with heap:=h' }) he ?_;have I2:Inv X pins σ H1 { s1 with heap:=h' }:=I1.kept (t':=s1.toks) kp;refine⟨s1.heap.objs.size+1,[s1.heap.objs.size+1,s1.heap.objs.size],_,_,H1,rfl,I2,LE b _ _ (Nat.succ_ne_self _),⟨⟨.none,he⟩,hit⟩,fun c hc=> ?_,q⟩;simp only[List.mem_cons,List.not_mem_nil,or_false]at hc;rcases hc with rfl|rfl
 ·exact I1.fpOk (Nat.le_succ _) (I1.hok.fresh (Nat.le_succ _))
 ·exact I1.fpOk (Nat.le_refl _) (I1.hok.fresh (Nat.le_refl _))
end
end L2
namespace L2
open PySem PySem.W PyProof.Rows
def XM (σ:St)(tv:TE)(rd:V->V->Hp->VK->Prop)(nx:St->Hp->Prop)(x:V):VK:=fun y H2=>∃a v,x= .ref a/\DGet H2 a y (some v)/\tv σ H2 fun y2 H3=>rd v y2 H3 fun z H4=>∃H5,DPut H4 a y z H5/\nx σ H5
def XE (σ:St)(p:Addr)(k:V)(nx:St->Hp->Prop):VK:=fun z H4=>∃H5,DPut H4 p k z H5/\nx σ H5
section
variable {K:PySem.W.Frag}{H:Hp}{Q:VK}{σ:St}{nx:St->Hp->Prop}{td ty tv:TE}{rd:V->V->Hp->VK->Prop}{rt:VK}{bk ct:St->Hp->Prop}{R:It->Hp->Prop}
theorem TF (h:td σ H fun x H1=>ty σ H1 (XM σ tv rd nx x)):Q1 td ty tv rd ⟨nx,rt,bk,ct⟩ σ H:=h
theorem PD {p:Addr}{z:Str}{kvs:List (Key×V)}{v:V} (e:Rd H p (.dK kvs)) (hv:bD kvs (.inr z)=some v) (h:tv σ H fun y2 H3=>rd v y2 H3 (XE σ p (.str z) nx)):XM σ tv rd nx (.ref p) (.str z) H:=⟨p,v,rfl,.inl ⟨kvs,.inr z,e,rfl,hv.symm⟩,h⟩
theorem SZ {p:Addr}{z:Str}{kvs:List (Key×V)}{v:V} (e:H p=some (.dK kvs)) (hl:kvs.length<sizeLine) (h:∀H',SameBut p H H'->H' p=some (.dK (bU kvs (.inr z) v))->nx σ H'):XE σ p (.str z) nx v H:=⟨_,DPut.k (k:= .inr z) e hl,h _ SameBut.upd bK⟩
theorem D4 {p:Addr}{kvs:List (Key×V)} (e:Rd H p (.dK kvs)) (h:∀l H',H l=none->Same H H'->H' l=some (.lst (kvs.map fun e=>kV e.1))->Q (.ref l) H'):KK [.ref p] H Q:=⟨p,kvs,rfl,e,fT h⟩
def QK (K:PySem.W.Frag)(R:It->Hp->Prop):List V->Hp->Prop:=fun vs H1=>∃b xs,vs=[.ref b]/\SqL K H1 b xs/\R (Ite K b) H1
theorem OY {ta:TA}(h:ta σ H (QK K R)):QS K ta σ H R:=h
theorem KB {b:Addr}{xs:List V} (e:SqL K H b xs) (h:R (Ite K b) H):QK K R [.ref b] H:=⟨b,xs,rfl,e,h⟩
theorem K9 {l b:Addr}{xs zs:List V} (e:H l=some (.lst xs)) (e2:H b=some (.lst zs)) (hz:xs.length+zs.length<=sizeLine) (h:∀H',SameBut l H H'->H' l=some (.lst (xs++zs))->Q .non H'):G0 (.ref l) [.ref b] H Q:=⟨l,b,xs,zs,rfl,rfl,e,e2,hz,h _ SameBut.upd bK⟩
theorem R7 {g:TG}{tb:TS}{a:Addr} (xs:List V) (Pv:Nat->St->Hp->Prop) (h0:Pv 0 σ H) (hl:∀i σ H,Pv i σ H->SqL K H a xs)
  (hs:∀i x σ H q H',xs[i]? =some x->Pv i σ H->H q=none->Same H H'->H' q=some (.tup [.int i,x])->g (.ref q) σ H' fun σ2 H2=>tb ⟨Pv (i+1),rt,nx,Pv (i+1)⟩ σ2 H2)(hd:∀σ H,Pv xs.length σ H->nx σ H):CM (Ite K a) g tb ⟨nx,rt,bk,ct⟩ σ H:=by
 refine⟨fun i m σ H=>m=xs.length - i/\i<=xs.length/\Pv i σ H,⟨xs.length,by simp,Nat.zero_le _,h0⟩,?_⟩;rintro i m σ H ⟨rfl,hi,p⟩;have q:=hl i σ H p
 by_cases hlt:i<xs.length
 ·refine .inr ⟨⟨xs,xs[i],q,by simp[hlt]⟩,Pv (i+1),fun σ' H' p'=>⟨xs.length - (i+1),by lia,rfl,hlt,p'⟩,fun x H' y=> ?_⟩;obtain⟨r,rfl,hr,hy⟩:=y;obtain⟨y,e1,rfl⟩:=hy xs q;exact hs i y σ H r _ e1 p hr (rS hr) bK
 ·have e:i=xs.length:=by lia
  subst e;exact .inl ⟨⟨xs,q,Nat.le_refl _⟩,hd σ H p⟩
end
def gR (ps:List (Str×Int))(z:Str):Int:=((ps.filter fun p=>decide (p.1=z)).map (·.2)).sum
theorem MJ (ps:List (Str×Int))(p:Str×Int)(z:Str):gR (ps++[p]) z=gR ps z+if p.1=z then p.2 else 0:=by
 unfold gR;rw[List.filter_append,List.map_append,List.sum_append]
 congr 1
 by_cases h:p.1=z
 ·rw[if_pos h];simp[h]
 ·rw[if_neg h];simp[h]
end L2
namespace L2
open PySem PySem.W PyProof.Rows
theorem LA {te:TE}{σ:St}{ci:List Nat}{rest:St}{fin:List V->Hp->Prop}{H:Hp}{lo:Int}{n:Nat} (P:Nat->V->Hp->Prop) (hm:∀x y H1 H2,P x y H1->Same H1 H2->P x y H2) (hn:n<=sizeLine) (hr:ci.map (fun i=>(σ[i]?).join)=rest)
  (he:∀(i:Nat) H1,i<n->Same H H1->∀R:VK,(∀y H2,P i y H2->Same H1 H2->R y H2)->te (some (.int (lo+i))::rest) H1 R)
  (hf:∀ys H1,Same H H1->Paired (fun x y=>P x y H1) (List.range n) ys->fin ys H1):g9 (Itr lo n) (cX 0) VI te (cD 1 ci σ) fin H:=by
 rw[EK hr];refine kH (List.range n) (fun _=>true) P hm (by rw[List.length_range];exact hn) (fun i H1 s hi=>by rw[List.length_range]at hi;exact hi) (fun H1 s=>by rw[List.length_range];exact Nat.le_refl _) (fun i x H1 hx s1 v H' y=> ?_) (fun ys H1 s1 h=>hf ys H1 s1 (by rw[i7]at h;exact h));obtain⟨rfl,rfl⟩:=y;obtain⟨hi,e⟩:=List.getElem?_eq_some_iff.mp hx;rw[List.length_range]at hi;rw[List.getElem_range]at e;subst e;refine⟨Same.refl _,some (.int (lo+(i:Nat)))::rest,rfl,fun j v hv=> ?_,fun R h=>h,fun R h=>h _ (Same.refl _),fun hc H2 s2 R h=>he i H2 hi (s1.trans s2) R h⟩;cases j with
 | zero=>cases hv
 | succ j=>exact hv
end L2
namespace L2
open PySem PySem.W PyProof.Rows PySem.Calls
section
variable {prog:Program}{w:World}{A:Around}{E:Value->Shared->Prop}{s:Shared}{d v:Addr}{o:Obj}{es:Array DictEntry}{ep:Nat}
theorem HW {Q:Value->Shared->Prop}(hd:(d==sysModules)=false)(T:s.TypeIs (.ref d) "dict")
  (k:Q (.ref s.heap.objs.size) { s with heap:=s.heap.push { cls:= .type "dict_keys",data:= .fields #[.ref d] } }):wpAny (model prog w) A (call (.builtin "dict.keys") [.ref d]) Q E s:=by
 refine wpAny_call_entry F.slot_dict_keys T F.entry_dict_keys ?_ (F.args_dict_keys_1 _);refine wpAny_bind ?_;unfold Builtin.Dict.noArgs;refine wpAny_bind (wpAny_notOrdered_dict T (show wpAny _ _ (pure d) _ _ s from wpAny_pure ?_));show wpAny _ A.in1 (Builtin.Dict.showsAll d >>= _) _ _ s;unfold Builtin.Dict.showsAll;rw[if_neg (fun z=>by rw[hd]at z;cases z)];exact wpAny_bind (wpAny_pure (wpAny_bind (wpAny_newObj_type (wpAny_pure ⟨_,rfl,k⟩))))
theorem MM {Q:Value->Shared->Prop}(hv:KdlKeysView s.heap v d)(ho:s.heap.get? d=some o)(hq:o.data= .dict es ep)
  (k:Q (.ref s.heap.objs.size) { s with heap:=s.heap.push { cls:= .type "dict_keyiterator",data:= .fields #[.ref d,.int 0 0,.int es.size 0,.int ep 0] } }):wpAny (model prog w) A (pyIter (.ref v)) Q E s:=by
 obtain⟨ov,hov,hcv,hdv⟩:=id hv;refine wpAny_pyIter_slot hv.typeIs kdl_slot_keys_iter (wpAny_call_entry kdl_slot_keys_iter hv.typeIs kdl_entry_keys_iter ?_ (kdl_args_keys_iter _));unfold Builtin.«dict_keys.__iter__» Builtin.Dict_items.dictOf Builtin.Dict_items.newIterator;refine wpAny_bind (wpAny_pure (wpAny_bind (wpAny_bind (wpAny_field hov hdv (x:= .ref d) rfl (wpAny_pure (wpAny_bind (wpAny_bind (wpAny_dictEntries ho hq (wpAny_bind (wpAny_dictEpoch ho hq ?_))))))))));simp only[show Builtin.Dict_items.ownsTuple "dict_keyiterator" =false by decide,Bool.false_eq_true,if_false];refine wpAny_newObj_type (wpAny_pure ⟨_,rfl,"dict_keyiterator",_,⟨_,Heap.get?_push_size _ rfl,rfl⟩,F.slot_dict_keyiterator_next.lookup,?_⟩)
 simpa [rawInt] using k
theorem HN (hh:A.handled=none)(I:Addr)(hne:d≠I)(hq:o.data= .dict es ep) :
  Walks prog w A I [I,d] [I] es.size (fun i u=>∃e,es[i]? =some e/\u=e.key) (fun i h=>h.IsKeyIter I d i es.size ep/\h.get? d=some o) where
 sub:=fun b hb=>by rw[List.mem_singleton.mp hb];exact .head _
 frame:=fun _ _ _ st hk=>⟨st.1.at fun o e=>hk I (.head _) o e,hk d (.tail _ (.head _)) _ st.2⟩
 item:=fun i s Q E hi st hQ=>by
  have hx:es[i]? =some es[i]:=Array.getElem?_eq_getElem hi;refine wE st.1 st.2 hq hx fun h' st' sb=> ?_;exact hQ _ h' s.toks ⟨_,hx,rfl⟩ ⟨st',(sb.2 d hne).trans st.2⟩ fun b o hb e=>(sb.2 b fun z=>hb (by rw[z];exact .head _)).trans e
 done:=fun s Q E st hQ=>yF hh st.1 st.2 hq (Nat.le_refl _) fun h' eb=>hQ h' s.toks fun b o hb e=>eb b o (fun z=>hb (by rw[z];exact .head _)) e
 self:=fun _ _ _ _ st hQ=>wpAny_pyIter_keyiter st.1 hQ
theorem ND (hq:o.data= .dict es ep):KdlSrc prog w "dict_keys" v d es.size (fun i u=>∃e,es[i]? =some e/\u=e.key) (fun h=>KdlKeysView h v d/\h.get? d=some o) where
 type:=fun _ hm=>hm.1.typeIs
 there:=fun _ hm=>⟨let ⟨_,ho,_⟩:=hm.1;Heap.lt_size ho,Heap.lt_size hm.2⟩
 keep:=fun _ _ hm hk=>⟨let ⟨o,ho,x⟩:=hm.1;⟨o,hk v (.inl rfl) o ho,x⟩,hk d (.inr rfl) _ hm.2⟩
 notList:=by decide
 notTuple:=by decide
 hint:=fun _ _ _ _ hm hq=>kdl_hint_keys hm.1.typeIs hq
 iter:=fun _ _ hh hm=>⟨_,_,(fun _ _ h=>MM hm.1 hm.2 hq h),HN hh _ (Nat.ne_of_lt (Heap.lt_size hm.2)) hq,⟨⟨_,Heap.get?_push_size _ rfl,rfl,rfl⟩,Heap.get?_push_of_some _ hm.2⟩⟩
theorem FK {T:String}{r:Addr}{n:Nat}{P:Nat->Value->Prop}{OK:Heap->Prop}{F:List Value->Shared->Prop} (S:KdlSrc prog w T r d n P OK) (hh:A.handled=none) (hok:OK s.heap) (hn:n<=sizeLine)
  (fin:∀(g:Heap) (t:Nat) (xs:Array Value),(∀b u,s.heap.get? b=some u->g.get? b=some u)->s.heap.objs.size<g.objs.size->ItemsOf P xs n->F xs.toList { s with heap:=g,toks:=t }):wpAny (model prog w) A (collect (.ref r)) F E s:=by
 obtain⟨lr,ld⟩:=S.there _ hok;unfold collect;refine wpAny_bind (wpAny_runValue (codeAny_builtin entry_proto_collect' ?_));rw[Around.under_plainId PySem.F.plain_proto_collect _];show wpAny _ A.in1 (newList [] >>= fun x=>again (.builtin "list.__iadd__" ⟨[x,.ref r],[]⟩)) _ _ s;refine wpAny_bind (wpAny_newObj_type (wpAny_pure ⟨plainId_quiet PySem.F.plain_list_iadd _,codeAny_builtin entry_list_iadd' ?_⟩));rw[Around.under_plainId PySem.F.plain_list_iadd _];have e0:(s.heap.push { cls:= .type "list",data:= .seq ([]:List Value).toArray }).get? s.heap.objs.size=some { cls:= .type "list",data:= .seq #[] }:=Heap.get?_push_size _ rfl;have go:=kdl_extend (A:=A) (s:={ s with heap:=s.heap.push { cls:= .type "list",data:= .seq ([]:List Value).toArray } }) (R:=fun (z:Result) (s2:Shared)=>∃(g:Heap) (t:Nat) (xs:Array Value) (c:Nat),z= .ok (.ret (.ref s.heap.objs.size))/\s2={ s with heap:=g,toks:=t }/\(∀b u,s.heap.get? b=some u->g.get? b=some u)/\g.get? s.heap.objs.size=some { cls:= .type "list",dict:=none,data:= .seq xs c,slots:= #[] }/\ItemsOf P xs n)
  S hh (S.keep _ _ hok fun b _ u q=>Heap.get?_push_of_some _ q) s.heap.objs.size (Nat.ne_of_gt lr) (Nat.ne_of_gt ld) (.ref s.heap.objs.size) 0 e0 (fun g t xs c kp hx hi=>⟨g,t,xs,c,rfl,rfl,fun b u q=>kp b u (Nat.ne_of_lt (Heap.lt_size q)) (Heap.get?_push_of_some _ q),hx,hi⟩) hn
 have last:∀(g:Heap) (t:Nat) (xs:Array Value) (c:Nat),(∀b u,s.heap.get? b=some u->g.get? b=some u)->g.get? s.heap.objs.size=some { cls:= .type "list",dict:=none,data:= .seq xs c,slots:= #[] }->ItemsOf P xs n->wpAny (model prog w) A (load s.heap.objs.size >>= fun o=>match o.data with| .seq ys _=>pure ys.toList|_=>unsupported "internal:collect") F E { s with heap:=g,toks:=t }:=fun g t xs c kp hx hi =>
  wpAny_bind (wpAny_load hx (wpAny_pure (fin g t xs kp (Heap.lt_size hx) hi)))
 refine wpAny_mono go (fun z s2 y=> ?_) (fun z s2 y=>by obtain⟨_,_,_,_,y,_⟩:=y;cases y);cases z with
 | done f=>obtain⟨g,t,xs,c,y,rfl,kp,hx,hi⟩:=y;cases y;exact last g t xs c kp hx hi
 | again c1=>exact⟨y.1,codeAny_mono y.2 fun q s3 y=>by obtain⟨g,t,xs,c,rfl,rfl,kp,hx,hi⟩:=y;exact last g t xs c kp hx hi⟩
end
def zC (v d:Addr):HO:= .ext fun h=>KdlKeysView h v d
def HU (Q:VK):VK:=fun x H1=>∃a kvs,x= .ref a/\H1 a=some (.dT kvs)/\∀v,H1 v=none->Q (.ref v) (upd H1 v (zC v a))
def J9 (td:TE):TE:=fun σ H Q=>td σ H (HU Q)
theorem GR {H:Hp}:∀{kvs:List (List Key×V)}{xs:List (List Key×Addr×Value)},KT H kvs xs->KRows H (xs.map fun x=>V.ref x.2.1) (kvs.map (·.1))
 | _,_,.nil=> .nil
 | _,_,.cons h t=> .cons ⟨_,rfl,h.2.1⟩ (GR t)
section
variable {X:Cx}
theorem LD {l:Expr}{td:TE}{apos cpos:Pos} (hl:PE X l td) (hbase:attributeBase l "keys" X.env (eval l X.env)=eval l X.env:=by rfl) (hline:(apos.endLine==cpos.line)=true:=by rfl) :
  PE X (.Call (.Attribute l "keys" apos) [] [] cpos) (J9 td):=by
 intro pins s σ H Q I h;refine wpAny_Call_method0_late hbase hline (thn (hl pins s σ H _ I h) fun v s1 ⟨x,H1,I1,r1,q1⟩=> ?_);obtain⟨a,kvs,rfl,hq,q⟩:=q1;cases r1;obtain⟨t1,t2,_⟩:=KW I1 (.inr ⟨kvs,.inl hq⟩);refine⟨"dict","dict.keys",F.plainAttrs_dict,F.slot_dict_keys,F.type_dict_keys,t1,t2,Calls.callWith_builtin rfl (PySem.evalArgs_none ?_)⟩;obtain⟨z,y,xs,r,o,es,ep,h1,h2,h3,h4,h5⟩:=(show ObjOk X.prog X.w H1 s1.heap a (.dT kvs) from I1.hok a _ hq)
 refine HW y t1 ?_;refine⟨.ref s1.heap.objs.size,_,I1.laid (t':=s1.toks) (fun b u e=>Heap.get?_push_of_some _ e) (Nat.le_refl _) (show ObjOk X.prog X.w _ _ _ (zC s1.heap.objs.size a) from⟨⟨_,Heap.get?_push_size _ rfl,rfl,rfl⟩,⟨_,Heap.get?_push_size _ rfl⟩,fun g1 g2 p k=> ?_⟩),rfl,q _ (I1.hok.fresh (Nat.le_refl _))⟩;obtain⟨o,e,c⟩:=p;exact⟨o,k o e,c⟩
theorem DJ {K:PySem.W.Frag}(h:X.K=K:=by rfl):IxR X (CN K):=by subst h;exact gK
end
section
variable {K:PySem.W.Frag}{H:Hp}{Q:VK}{σ:St}{td:TE}
theorem RH (h:td σ H (HU Q)):J9 td σ H Q:=h
theorem P3 {a:Addr}{kvs:List (List Key×V)} (e:H a=some (.dT kvs)) (h:∀v H',H v=none->Same H H'->H' v=some (zC v a)->Q (.ref v) H'):HU Q (.ref a) H:=⟨a,kvs,rfl,e,fun v hv=>h v _ hv (rS hv) bK⟩
end
end L2
namespace L2
open PySem PySem.W PyProof.Rows
section
variable {X:Cx}
end
def VV (K:PySem.W.Frag):R2:=fun x y H Q=>∃a b xs,x= .ref a/\y= .ref b/\SqL K H a xs/\SqL K H b []/\Q (.bl xs.isEmpty) H
theorem WE {X:Cx}(hu:X.A.units<cLine):OpR X (compareOp .Eq) (VV X.K):=by
 intro pins s σ H x y v u Q I rx ry h;obtain⟨a,b,xs,rfl,rfl,ha,hb,q⟩:=h;cases rx;cases ry;obtain⟨its,r,pl,hz⟩:=I.list ha;obtain⟨its2,r2,pl2,_⟩:=I.list hb;cases r2;cases xs with
 | nil=>cases r;exact SeqAt.RcAt.lists (e:=fun _=>true) pl.isList pl2.isList rfl hu (fun j h1=>absurd h1 (Nat.not_lt_zero _)) X.prog X.w X.xe _ ⟨.bl true,H,I,rfl,q⟩
 | cons x xs=>cases r with|cons r1 r2=>exact SeqAt.RcAt.lists_lengths pl.isList pl2.isList (by simp) hu X.prog X.w X.xe _ ⟨.bl false,H,I,rfl,q⟩
theorem VS {K:PySem.W.Frag}{H:Hp}{Q:VK}{a b:Addr}{xs:List V} (ha:SqL K H a xs) (hb:SqL K H b []) (h:Q (.bl xs.isEmpty) H):VV K (.ref a) (.ref b) H Q:=⟨a,b,xs,rfl,rfl,ha,hb,h⟩
section
variable {X:Cx}{P:Program}{w:World}{K:PySem.W.Frag}{mg:Str->Option Value}{base:Heap}{k':Nat}{o e:Expr}{es:List Expr}{m:Str}{ta:TE}{t:TA}{apos pos:Pos}
theorem DL (k:Nat){pl:Sem Bool}(hr:Room k' X.A)(ho:PE X o ta)(ha:PA X (e::es) t)(hk:k<=k':=by decide)(hst:starEach (e::es) X.env=(false,eval e X.env)::starEach es X.env:=by rfl)(hpl:(backTo pos (starEach es X.env)).any (·.1)=false:=by rfl)
  (ht:eval (.Call (.Attribute o m apos) (e::es) [] pos) X.env=(do let ov ←eval o X.env;standAt apos.atName;let (f,first) ←holding [ov] (getMethod ov m pl);callWith pos f first (backTo pos (starEach (e::es) X.env)) (backToKw pos (keywordEach [] X.env))):=by rfl)
  (h1:X.prog=P:=by rfl)(h2:X.w=w:=by rfl)(h3:X.K=K:=by rfl)(h4:X.mg=mg:=by rfl)(h5:X.base=base:=by rfl):PE X (.Call (.Attribute o m apos) (e::es) [] pos) (tMD (fun C sp=>Mc P w K mg base C m k sp) m ta t):=by
 subst h1 h2 h3 h4 h5;exact hU k hr ho ha hk hst hpl ht
end
end L2
namespace L2
open PySem PySem.W PyProof.Rows
section
variable {X:Cx}{pins:List (Addr×Obj)}{σ:St}{H:Hp}{s:Shared}
end
section
variable {X:Cx}
end
section
variable {K:PySem.W.Frag}{H H':Hp}{Q:VK}
end
section
variable {H:Hp}{Q:VK}{σ:St}{ty tx:TE}
end
end L2
namespace L2
open PySem PySem.W PyProof.Rows
section
variable {H:Hp}{Q:VK}
end
end L2
namespace L2
open PySem PySem.Spec PyProof.Rows
section
variable {X:Cx}{args:Arguments}{body:Expr}{lsc:Scope}{pos:Pos}{y:Str}{c cL PL:Addr}
end
section
variable {K:PySem.W.Frag}{ti:TT}{te:TE}{σ:St}{ci:List Nat}{rest:St}{fin:List V->Hp->Prop}{H:Hp}{a:Addr}{α:Type}
end
end L2
namespace L2
open PySem PySem.W PyProof.Rows
section
variable {X:Cx}{pins:List (Addr×Obj)}{σ:St}{H:Hp}{s:Shared}
end
open Classical in
section
variable {X:Cx}{K:PySem.W.Frag}
open Classical in
open Classical in
open Classical in
end
end L2
namespace L2
open PySem PySem.W PyProof.Rows
section
variable {K:PySem.W.Frag}{ti:TT}{te:TE}{σ:St}{ci:List Nat}{rest:St}{fin:List V->Hp->Prop}{H:Hp}{a:Addr}
theorem WR {kvs:List (List Key×V)}{o:Obj} (c:List Key×V->Bool) (P:List Key×V->V->Hp->Prop) (hm:∀x y H1 H2,P x y H1->Same H1 H2->P x y H2) (hk:∀e∈kvs,e.1.length=2) (hn:kvs.length<=sizeLine) (hr:ci.map (fun i=>(σ[i]?).join)=rest) (h0:H a=some (.frz o (.dT kvs)))
  (ht:∀k1 k2 v H1,([k1,k2],v)∈kvs->Same H H1->∀R:Bool->Hp->Prop,(∀H2,Same H1 H2->R (c ([k1,k2],v)) H2)->ti (some (kV k1)::some (kV k2)::rest) H1 R)
  (he:∀k1 k2 v H1,([k1,k2],v)∈kvs->c ([k1,k2],v)=true->Same H H1->∀R:VK,(∀y H2,P ([k1,k2],v) y H2->Same H1 H2->R y H2)->te (some (kV k1)::some (kV k2)::rest) H1 R)
  (hf:∀ys H1,Same H H1->Paired (fun x y=>P x y H1) (kvs.filter c) ys->fin ys H1):g9 (Itq a o kvs) (yT K 2 (m9 (cX 0) (m9 (cX 1) DB))) ti te (cD 2 ci σ) fin H:=by
 have e0:cD 2 ci σ=none::none::rest:=O4 hr;rw[e0];refine kH kvs c P hm hn (fun i H1 s hi=>⟨s _ _ h0,hi⟩) (fun H1 s=>⟨s _ _ h0,Nat.le_refl _⟩) (fun i x H1 hx s1 v H' y=> ?_) hf;obtain⟨rfl,k,u,q,e2,rfl,hq⟩:=y;rw[hx]at e2;cases e2;have hmem:=List.mem_of_getElem? hx;have hl2:=hk _ hmem;obtain⟨k1,k2,rfl⟩:∃k1 k2,k=[k1,k2]:=by
  match k,hl2 with
  | [k1,k2],_=>exact⟨k1,k2,rfl⟩
 refine⟨Same.refl _,some (kV k1)::some (kV k2)::rest,rfl,fun j v hv=> ?_,fun R h=>⟨q,[kV k1,kV k2],rfl,.inl (.inl hq),rfl,kV k1,[kV k2],rfl,kV k2,[],rfl,rfl,h⟩,fun R h=>ht _ _ _ _ hmem s1 R h,fun hc H2 s2 R h=>he _ _ _ H2 hmem hc (s1.trans s2) R h⟩
 match j,hv with
 | 0,hv=>cases hv
 | 1,hv=>cases hv
 | j+2,hv=>exact hv
end
end L2
namespace L2
open PySem PySem.W PyProof.Rows
section
variable {X:Cx}
end
end L2
namespace L2
open PySem PySem.W PyProof.Rows
section
variable {X:Cx}{ek ev:Expr}{tk tv:TE}{pos:Pos}
end
end L2
namespace L2
open PySem PySem.W PyProof.Rows
section
variable {K:Frag}{x qual:Str}{st:Stmt}{f:Addr}
end
end L2
namespace L2
open PySem PySem.W PyProof.Rows
def rnk (ρ:Keyed->Int)(a:Array Keyed)(i:Nat):Int:=ρ (a.getD i (.none,.none))
def Up (ρ:Keyed->Int)(a:Array Keyed)(lo hi:Nat):Prop:=∀i j,lo<=i->i<j->j<hi->rnk ρ a i<rnk ρ a j
structure l8 (prog:Program)(w:World)(A:Around)(E:Value->Shared->Prop)(s:Shared)(κ:SortKind)(D:Keyed->Prop)(ρ:Keyed->Int):Prop where
 lt:∀{x y:Keyed}{st:SortSt}{Q:Option Bool->SortSt->Prop},D x->D y->kindOf st=κ->Q (some (decide (ρ x<ρ y))) st->wpS (model prog w) A E s (lt' x y) Q st
def GT:Bool->Keyed->Array Keyed->Nat->Nat->Nat->StateT SortSt Sem (Option Nat):=sortPriv% PySem.Builtin.gallop
section
variable {prog:Program}{w:World}{A:Around}{E:Value->Shared->Prop}{s:Shared}{κ:SortKind}{D:Keyed->Prop}{ρ:Keyed->Int}{st:SortSt}
theorem aQ {a:Array Keyed}{i:Nat}{Q:Keyed->SortSt->Prop} (hi:i<a.size) (h:Q (a.getD i (.none,.none)) st):wpS (model prog w) A E s (elem' a i) Q st:=by
 rw[elem'_eq];have e:a[i]? =some (a.getD i (.none,.none)):=by simp[Array.getD,hi]
 rw[e];exact wpS_pure h
theorem aO {a:Array Keyed}{i:Nat} (hi:i<a.size):a.getD i (.none,.none)∈a.toList:=by simp[Array.getD,hi]
def bey (ρ:Keyed->Int)(left:Bool)(key:Keyed)(arr:Array Keyed)(i:Nat):Bool:=if left=true then decide (rnk ρ arr i<ρ key) else !decide (ρ key<rnk ρ arr i)
theorem V6 (C:l8 prog w A E s κ D ρ)(hk:kindOf st=κ){left:Bool}{key:Keyed}{arr:Array Keyed}{i:Nat} (hD:D key) (hA:∀x∈arr.toList,D x) (hi:i<arr.size) {Q:Option Bool->SortSt->Prop} (h:Q (some (bey ρ left key arr i)) st) :
  wpS (model prog w) A E s (do let x ←elem' arr i;if left=true then lt' x key else do let r ←lt' key x;pure (Option.map (fun x=> !x) r)) Q st:=by
 refine wpS_bind (aQ hi ?_);have hx:=hA _ (aO hi);unfold bey at h;cases left with
 | true =>
  rw[if_pos rfl]at h ⊢;exact C.lt hx hD hk h
 | false =>
  rw[if_neg Bool.false_ne_true]at h ⊢;exact wpS_bind (C.lt hD hx hk (wpS_pure h))
theorem NI {left:Bool}{key:Keyed}{arr:Array Keyed}{lo hi i j:Nat} (up:Up ρ arr lo hi) (h0:lo<=i) (hij:i<=j) (hj:j<hi) (h:bey ρ left key arr j=true):bey ρ left key arr i=true:=by
 rcases Nat.lt_or_ge i j with hlt|hge
 ·have:=up i j h0 hlt hj;unfold bey at h ⊢;cases left with
  | true =>
   rw[if_pos rfl]at h ⊢;have:=of_decide_eq_true h;exact decide_eq_true (by lia)
  | false =>
   rw[if_neg Bool.false_ne_true]at h ⊢;simp only[Bool.not_eq_true',decide_eq_false_iff_not]at h ⊢
   lia
 ·have:i=j:=by lia
  rw[this];exact h
theorem cP (C:l8 prog w A E s κ D ρ)(hk:kindOf st=κ){left:Bool}{key:Keyed}{arr:Array Keyed}{base n hint:Nat} (hD:D key) (hA:∀x∈arr.toList,D x) (hn:base+n<=arr.size) (hh:hint<n) (up:Up ρ arr base (base+n)) {Q:Option Nat->SortSt->Prop}
  (h:∀k,k<=n->(∀i,i<k->bey ρ left key arr (base+i)=true)->(∀i,k<=i->i<n->bey ρ left key arr (base+i)=false)->Q (some k) st) :
  wpS (model prog w) A E s (GT left key arr base n hint) Q st:=by
 unfold GT;have ask:∀{i:Nat}{Q:Option Bool->SortSt->Prop},i<n->Q (some (bey ρ left key arr (base+i))) st->wpS (model prog w) A E s (do let x ←elem' arr (base+i);if left=true then lt' x key else do let r ←lt' key x;pure (Option.map (fun x=> !x) r)) Q st:=fun hi hq=>V6 C hk hD hA (by lia) hq;have anti:∀{i j:Nat},i<=j->j<n->bey ρ left key arr (base+j)=true->bey ρ left key arr (base+i)=true:=fun hij hj hb=>NI up (by lia) (by lia) (by lia) hb;have antiF:∀{i j:Nat},i<=j->j<n->bey ρ left key arr (base+i)=false->bey ρ left key arr (base+j)=false:=fun {i j} hij hj hb=>by
  cases e:bey ρ left key arr (base+j) with
  | false=>rfl
  | true=>rw[anti hij hj e]at hb;cases hb
 have fin:∀lo hi:Nat,lo<=hi->hi<=n->(∀i,i<lo->bey ρ left key arr (base+i)=true)->(∀i,hi<=i->i<n->bey ρ left key arr (base+i)=false)->∀(f:Nat->Option (Option Nat)×Nat×Nat->StateT SortSt Sem (ForInStep (Option (Option Nat)×Nat×Nat))),
   (∀x l r,l<r->r<=n->∀Q':ForInStep (Option (Option Nat)×Nat×Nat)->SortSt->Prop,(bey ρ left key arr (base+(l+(r - l)/2))=true->Q' (.yield (none,l+(r - l)/2+1,r)) st)->(bey ρ left key arr (base+(l+(r - l)/2))=false->Q' (.yield (none,l,l+(r - l)/2)) st)->wpS (model prog w) A E s (f x (none,l,r)) Q' st) →
   (∀x l r,r<=l->∀Q':ForInStep (Option (Option Nat)×Nat×Nat)->SortSt->Prop,Q' (.done (none,l,r)) st->wpS (model prog w) A E s (f x (none,l,r)) Q' st) →
   wpS (model prog w) A E s (forIn [:n] (none,lo,hi) f) (fun c st'=>st'=st/\∃k,c=(none,k,k)/\k<=n/\(∀i,i<k->bey ρ left key arr (base+i)=true)/\(∀i,k<=i->i<n->bey ρ left key arr (base+i)=false)) st:=by
  intro lo hi hlh hhn hl hr f f1 f2;refine wpS_forRange (I:=fun x c st'=>st'=st/\∃l r,c=(none,l,r)/\l<=r/\r<=n/\r - l<=n - x/\(∀i,i<l->bey ρ left key arr (base+i)=true)/\(∀i,r<=i->i<n->bey ρ left key arr (base+i)=false)) ?_ ?_ ⟨rfl,lo,hi,rfl,hlh,hhn,by lia,hl,hr⟩
  ·rintro x c _ _ hx ⟨rfl,l,r,rfl,a1,a2,a3,a4,a5⟩;rcases Nat.lt_or_ge l r with hlr|hlr
   ·refine f1 x l r hlr a2 _ (fun hb=>⟨rfl,_,_,rfl,by lia,a2,by lia,fun i hi=>anti (by lia) (by lia) hb,a5⟩) fun hb=>⟨rfl,_,_,rfl,by lia,by lia,by lia,a4,fun i h1 h2=>antiF h1 h2 hb⟩
   ·have:l=r:=by lia
    subst this;exact f2 x l l hlr _ ⟨rfl,l,rfl,a2,a4,a5⟩
  ·rintro c _ ⟨rfl,l,r,rfl,a1,a2,a3,a4,a5⟩;have:l=r:=by lia
   subst this;exact⟨rfl,l,rfl,a2,a4,a5⟩
 refine wpS_bind (ask hh ?_)
 dsimp only
 cases hb:bey ρ left key arr (base+hint) with
 | true =>
  rw[if_pos rfl];refine wpS_bind (wpS_mono (wpS_forRange (I:=fun x c st'=>st'=st/\∃lo of:Nat,c=(none,lo,of)/\lo<of/\x+1<=of/\hint+lo<n/\bey ρ left key arr (base+(hint+lo))=true) (Q:=fun c st'=>st'=st/\∃lo of:Nat,c=(none,lo,of)/\lo<of/\hint+lo<n/\bey ρ left key arr (base+(hint+lo))=true/\(n - hint<=of∨(hint+of<n/\bey ρ left key arr (base+(hint+of))=false))) ?_ ?_ ⟨rfl,0,1,rfl,by lia,by lia,by lia,hb⟩) ?_)
  ·rintro x c _ _ hx ⟨rfl,lo,of,rfl,a1,a2,a3,a4⟩
   dsimp only
   by_cases hm:of≥n - hint
   ·rw[if_pos hm];exact wpS_pure ⟨rfl,lo,of,rfl,a1,a3,a4,.inl hm⟩
   ·rw[if_neg hm];refine wpS_bind (ask (i:=hint+of) (by lia) ?_)
    dsimp only
    cases hc:bey ρ left key arr (base+(hint+of)) with
    | true =>
     rw[if_neg (by decide)];exact wpS_pure ⟨rfl,of,2 * of+1,rfl,by lia,by lia,by lia,hc⟩
    | false =>
     rw[if_pos (by decide)];exact wpS_pure ⟨rfl,lo,of,rfl,a1,a3,a4,.inr ⟨by lia,hc⟩⟩
  ·rintro c _ ⟨rfl,lo,of,rfl,a1,a2,a3,a4⟩;exact⟨rfl,lo,of,rfl,a1,a3,a4,.inl (by lia)⟩
  ·rintro c _ ⟨rfl,lo,of,rfl,a1,a3,a4,a5⟩
   dsimp only
   refine wpS_bind (wpS_mono (fin (hint+lo+1) (hint+min of (n - hint)) (by lia) (by lia) (fun i hi=>anti (by lia) a3 a4) (fun i h1 h2=> ?_) _ ?_ ?_) ?_)
   ·rcases a5 with a5|⟨a5,a6⟩
    ·lia
    ·exact antiF (by lia) h2 a6
   ·intro x l r hlr hrn Q' q1 q2
    dsimp only
    rw[if_neg (by lia)];refine wpS_bind (ask (i:=l+(r - l)/2) (by lia) ?_)
    dsimp only
    cases hc:bey ρ left key arr (base+(l+(r - l)/2)) with
    | true=>rw[if_pos rfl];exact wpS_pure (q1 hc)
    | false=>rw[if_neg Bool.false_ne_true];exact wpS_pure (q2 hc)
   ·intro x l r hrl Q' q1
    dsimp only
    rw[if_pos hrl];exact wpS_pure q1
   ·rintro c _ ⟨rfl,k,rfl,b1,b2,b3⟩
    dsimp only
    exact wpS_pure (h k b1 b2 b3)
 | false =>
  rw[if_neg Bool.false_ne_true];refine wpS_bind (wpS_mono (wpS_forRange (I:=fun x c st'=>st'=st/\∃lo of:Nat,c=(none,lo,of)/\lo<of/\x+1<=of/\lo<=hint/\bey ρ left key arr (base+(hint - lo))=false) (Q:=fun c st'=>st'=st/\∃lo of:Nat,c=(none,lo,of)/\lo<of/\lo<=hint/\bey ρ left key arr (base+(hint - lo))=false/\(hint+1<=of∨(of<=hint/\bey ρ left key arr (base+(hint - of))=true))) ?_ ?_ ⟨rfl,0,1,rfl,by lia,by lia,by lia,hb⟩) ?_)
  ·rintro x c _ _ hx ⟨rfl,lo,of,rfl,a1,a2,a3,a4⟩
   dsimp only
   by_cases hm:of≥hint+1
   ·rw[if_pos hm];exact wpS_pure ⟨rfl,lo,of,rfl,a1,a3,a4,.inl hm⟩
   ·rw[if_neg hm];refine wpS_bind (ask (i:=hint - of) (by lia) ?_)
    dsimp only
    cases hc:bey ρ left key arr (base+(hint - of)) with
    | true =>
     rw[if_pos rfl];exact wpS_pure ⟨rfl,lo,of,rfl,a1,a3,a4,.inr ⟨by lia,hc⟩⟩
    | false =>
     rw[if_neg Bool.false_ne_true];exact wpS_pure ⟨rfl,of,2 * of+1,rfl,by lia,by lia,by lia,hc⟩
  ·rintro c _ ⟨rfl,lo,of,rfl,a1,a2,a3,a4⟩;exact⟨rfl,lo,of,rfl,a1,a3,a4,.inl (by lia)⟩
  ·rintro c _ ⟨rfl,lo,of,rfl,a1,a3,a4,a5⟩
   dsimp only
   refine wpS_bind (wpS_mono (fin (hint+1 - min of (hint+1)) (hint - lo) (by lia) (by lia) (fun i hi=> ?_) (fun i h1 h2=>antiF h1 h2 a4) _ ?_ ?_) ?_)
   ·rcases a5 with a5|⟨a5,a6⟩
    ·lia
    ·exact anti (by lia) (by lia) a6
   ·intro x l r hlr hrn Q' q1 q2
    dsimp only
    rw[if_neg (by lia)];refine wpS_bind (ask (i:=l+(r - l)/2) (by lia) ?_)
    dsimp only
    cases hc:bey ρ left key arr (base+(l+(r - l)/2)) with
    | true=>rw[if_pos rfl];exact wpS_pure (q1 hc)
    | false=>rw[if_neg Bool.false_ne_true];exact wpS_pure (q2 hc)
   ·intro x l r hrl Q' q1
    dsimp only
    rw[if_pos hrl];exact wpS_pure q1
   ·rintro c _ ⟨rfl,k,rfl,b1,b2,b3⟩
    dsimp only
    exact wpS_pure (h k b1 b2 b3)
end
end L2
namespace L2
open PySem PySem.W PyProof.Rows
def DG:Array Keyed->Array Keyed->StateT SortSt Sem (Array Keyed):=sortPriv% PySem.Builtin.mergeLo
def C1:Array Keyed->Array Keyed->StateT SortSt Sem (Array Keyed):=sortPriv% PySem.Builtin.mergeHi
abbrev bE (st:SortSt)(g:Nat):SortSt:=SortSt.mk' (kindOf st) (arrOf st) (pendingOf st) g (failedOf st)
def SameSt (st st':SortSt):Prop:=kindOf st'=kindOf st/\arrOf st'=arrOf st/\pendingOf st'=pendingOf st/\failedOf st'=failedOf st
theorem SameSt.refl (st:SortSt):SameSt st st:=⟨rfl,rfl,rfl,rfl⟩
section
variable {ρ:Keyed->Int}
abbrev bZ (ρ:Keyed->Int)(l:List Keyed):Prop:=l.Pairwise fun x y=>ρ x<ρ y
structure Mi (ρ:Keyed->Int)(all o ra rb:List Keyed):Prop where
 so:bZ ρ o
 oa:∀x∈o,∀y∈ra,ρ x<ρ y
 ob:∀x∈o,∀y∈rb,ρ x<ρ y
 sa:bZ ρ ra
 sb:bZ ρ rb
 pm:(o++ra++rb).Perm all
variable {all o p ra rb:List Keyed}
theorem Mi.goA (h:Mi ρ all o (p++ra) rb)(hp:∀x∈p,∀y∈rb,ρ x<ρ y):Mi ρ all (o++p) ra rb:=by
 obtain⟨so,oa,ob,sa,sb,pm⟩:=h;have sa':=List.pairwise_append.mp sa;refine⟨List.pairwise_append.mpr ⟨so,sa'.1,fun x hx y hy=>oa x hx y (List.mem_append_left _ hy)⟩,fun x hx y hy=> ?_,fun x hx y hy=> ?_,sa'.2.1,sb,?_⟩
 ·rcases List.mem_append.mp hx with hx|hx
  ·exact oa x hx y (List.mem_append_right _ hy)
  ·exact sa'.2.2 x hx y hy
 ·rcases List.mem_append.mp hx with hx|hx
  ·exact ob x hx y hy
  ·exact hp x hx y hy
 ·rw[List.append_assoc o p ra];exact pm
theorem Mi.swap (h:Mi ρ all o ra rb):Mi ρ all o rb ra:=⟨h.so,h.ob,h.oa,h.sb,h.sa,by
 refine List.Perm.trans ?_ h.pm;rw[List.append_assoc,List.append_assoc];exact List.Perm.append_left o List.perm_append_comm⟩
theorem Mi.goB (h:Mi ρ all o ra (p++rb))(hp:∀x∈p,∀y∈ra,ρ x<ρ y):Mi ρ all (o++p) ra rb:=(h.swap.goA hp).swap
theorem Mi.end (h:Mi ρ all o ra rb)(hab:∀x∈ra,∀y∈rb,ρ x<ρ y):bZ ρ (o++ra++rb)/\(o++ra++rb).Perm all:=by
 refine⟨List.pairwise_append.mpr ⟨List.pairwise_append.mpr ⟨h.so,h.sa,h.oa⟩,h.sb,fun x hx y hy=> ?_⟩,h.pm⟩;rcases List.mem_append.mp hx with hx|hx
 ·exact h.ob x hx y hy
 ·exact hab x hx y hy
theorem Mi.len (h:Mi ρ all o ra rb):o.length+ra.length+rb.length=all.length:=by
 have:=h.pm.length_eq;rw[List.length_append,List.length_append]at this;exact this
theorem dC {a:Array Keyed}{i:Nat} (hi:i<a.size):a.toList.drop i=a.getD i (.none,.none)::a.toList.drop (i+1):=by
 have h:i<a.toList.length:=by simpa using hi
 rw[List.drop_eq_getElem_cons h]
 congr 1
 simp[Array.getD,hi]
theorem C0 {a:Array Keyed}{i:Nat} (hi:a.size<=i):a.toList.drop i=[]:=List.drop_eq_nil_of_le (by simpa using hi)
theorem c4 {a:Array Keyed}{i:Nat}{x:Keyed} (h:x∈a.toList.drop i):∃j,i<=j/\j<a.size/\ρ x=rnk ρ a j:=by
 obtain⟨k,hk,e⟩:=List.getElem_of_mem h;rw[List.length_drop]at hk;rw[List.getElem_drop]at e;refine⟨i+k,by lia,by rw[Array.length_toList]at hk;lia,?_⟩;unfold rnk;have hl:i+k<a.size:=by rw[Array.length_toList]at hk;lia
 rw[←e]
 congr 1
 simp[Array.getD,hl]
theorem uY {a:Array Keyed}(h:Up ρ a 0 a.size):bZ ρ a.toList:=by
 rw[bZ,List.pairwise_iff_getElem];intro i j hi hj hij;rw[Array.length_toList]at hi hj;have:=h i j (Nat.zero_le _) hij hj;unfold rnk at this
 simpa [Array.getD,hi,hj] using this
theorem k6 {a:Array Keyed}{i k:Nat}:a.toList.drop i=(a.extract i (i+k)).toList++a.toList.drop (i+k):=by
 rw[Array.toList_extract,List.extract_eq_drop_take,Nat.add_sub_cancel_left,←List.drop_drop,List.take_append_drop]
end
end L2
namespace L2
open PySem PySem.W PyProof.Rows
theorem kT {a:Array Keyed}{i:Nat}:(a.extract i).toList=a.toList.drop i:=by
 rw[Array.toList_extract,List.extract_eq_drop_take,List.take_of_length_le];rw[List.length_drop,Array.length_toList];exact Nat.le_refl _
section
variable {prog:Program}{w:World}{A:Around}{E:Value->Shared->Prop}{s:Shared}{κ:SortKind}{D:Keyed->Prop}{ρ:Keyed->Int}{st:SortSt}
theorem gH {a:Array Keyed}{i n:Nat} (h:Up ρ a 0 a.size) (hn:i+n<=a.size):Up ρ a i (i+n):=fun x y _ h2 h3=>h x y (Nat.zero_le _) h2 (by lia)
theorem kS {a:Array Keyed}{i k:Nat}{x:Keyed} (h:x∈(a.extract i (i+k)).toList):∃u,(i<=u/\u<i+k/\u<a.size)/\ρ x=rnk ρ a u:=by
 rw[Array.toList_extract,List.extract_eq_drop_take,Nat.add_sub_cancel_left]at h;obtain⟨v,hv,e⟩:=List.getElem_of_mem h;rw[List.length_take,List.length_drop,Array.length_toList]at hv;rw[List.getElem_take,List.getElem_drop]at e;have hl:i+v<a.size:=by lia
 refine⟨i+v,⟨by lia,by lia,hl⟩,?_⟩;unfold rnk;rw[←e]
 congr 1
 simp[Array.getD,hl]
theorem iD {a:Array Keyed}{i:Nat}{y:Keyed}{z:Int} (up:Up ρ a 0 a.size) (hy:y∈a.toList.drop i) (hz:z<ρ (a.getD i (.none,.none))):z<ρ y:=by
 obtain⟨u,h1,h2,e⟩:=c4 (ρ:=ρ) hy;rw[e];have hz:z<rnk ρ a i:=hz;rcases Nat.lt_or_ge i u with h|h
 ·have:=up i u (Nat.zero_le _) h h2
  lia
 ·have:i=u:=by lia
  rw[←this];exact hz
theorem Y6 (C:l8 prog w A E s κ D ρ)(hk:kindOf st=κ){a b:Array Keyed}{Q:Array Keyed->SortSt->Prop} (dA:∀x∈a.toList,D x) (dB:∀x∈b.toList,D x) (upA:Up ρ a 0 a.size) (upB:Up ρ b 0 b.size) (a0:0<a.size) (b0:0<b.size) (ne:∀x∈a.toList,∀y∈b.toList,ρ x≠ρ y)
  (fst:rnk ρ b 0<rnk ρ a 0)(lst:rnk ρ b (b.size - 1)<rnk ρ a (a.size - 1))(hQ:∀m st',SameSt st st'->bZ ρ m.toList->m.toList.Perm (a.toList++b.toList)->Q m st') :
  wpS (model prog w) A E s (DG a b) Q st:=by
 have bl:∀y∈b.toList,ρ y<rnk ρ a (a.size - 1):=fun y hy=>by
  obtain⟨u,_,h2,e⟩:=c4 (ρ:=ρ) (i:=0) (show y∈b.toList.drop 0 from hy);rw[e];rcases Nat.lt_or_ge u (b.size - 1) with h|h
  ·have:=upB u (b.size - 1) (Nat.zero_le _) h (by lia)
   lia
  ·have:u=b.size - 1:=by lia
   rw[this];exact lst
 have doneR:∀{o:Array Keyed}{i j:Nat},Mi ρ (a.toList++b.toList) o.toList (a.toList.drop i) (b.toList.drop j)->j=b.size->bZ ρ (o++a.extract i++b.extract j).toList/\(o++a.extract i++b.extract j).toList.Perm (a.toList++b.toList):=fun hm hj=>by
  rw[Array.toList_append,Array.toList_append,kT,kT];refine hm.end fun x _ y hy=> ?_;rw[C0 (by lia)]at hy;exact nomatch hy
 have doneR2:∀{o:Array Keyed}{i j:Nat},Mi ρ (a.toList++b.toList) o.toList (a.toList.drop i) (b.toList.drop j)->i=a.size->bZ ρ (o++a.extract i++b.extract j).toList/\(o++a.extract i++b.extract j).toList.Perm (a.toList++b.toList):=fun hm hj=>by
  rw[Array.toList_append,Array.toList_append,kT,kT];refine hm.end fun x hx y _=> ?_;rw[C0 (by lia)]at hx;exact nomatch hx
 have lastR:∀{o:Array Keyed}{i j:Nat},Mi ρ (a.toList++b.toList) o.toList (a.toList.drop i) (b.toList.drop j)->i+1=a.size->bZ ρ (o++b.extract j++a.extract i).toList/\(o++b.extract j++a.extract i).toList.Perm (a.toList++b.toList):=fun {o i j} hm hi=>by
  rw[Array.toList_append,Array.toList_append,kT,kT];refine hm.swap.end fun x hx y hy=> ?_;obtain⟨u,h1,h2,e⟩:=c4 (ρ:=ρ) hy;have:u=a.size - 1:=by lia
  rw[e,this];exact bl x (List.mem_of_mem_drop hx)
 unfold DG;refine wpS_bind (wpS_lift (wpAny_rule ⟨rfl,?_⟩))
 try dsimp only
 refine wpS_bind (aQ b0 ?_)
 try dsimp only
 have m0:Mi ρ (a.toList++b.toList) (#[b.getD 0 (.none,.none)]:Array Keyed).toList (a.toList.drop 0) (b.toList.drop 1):=by
  have hb:b.toList=b.getD 0 (.none,.none)::b.toList.drop 1:=dC b0;have rb:=uY upB;rw[hb]at rb;have rb':=List.pairwise_cons.mp rb;refine⟨List.pairwise_singleton _ _,fun x hx y hy=> ?_,fun x hx y hy=> ?_,uY upA,rb'.2,?_⟩
  ·cases List.mem_singleton.mp hx;exact iD upA hy fst
  ·cases List.mem_singleton.mp hx;exact rb'.1 y hy
  ·conv=>rhs;rw[hb]
   show (b.getD 0 (.none,.none)::(a.toList++b.toList.drop 1)).Perm _;exact List.perm_middle.symm
 by_cases h1:1=b.size
 ·rw[if_pos (by simpa using h1)];exact wpS_pure (let r:=doneR m0 h1;hQ _ _ (SameSt.refl _) r.1 r.2)
 rw[if_neg (by simpa using h1)]
 by_cases h2:0+1=a.size
 ·rw[if_pos (by simpa using h2)];exact wpS_pure (let r:=lastR m0 h2;hQ _ _ (SameSt.refl _) r.1 r.2)
 rw[if_neg (by simpa using h2)];refine wpS_bind (wpS_get ?_)
 try dsimp only
 have leq:∀{o:Array Keyed}{i j:Nat},Mi ρ (a.toList++b.toList) o.toList (a.toList.drop i) (b.toList.drop j)->i<a.size->j<b.size->o.size+2<=a.size+b.size:=fun hm hi hj=>by
  have:=hm.len;rw[Array.length_toList,List.length_drop,List.length_drop,List.length_append,Array.length_toList,Array.length_toList]at this
  lia
 refine wpS_bind (wpS_mono (wpS_forRange (I:=fun x c st'=>SameSt st st'/\∃(o:Array Keyed) (i j g:Nat),c=(none,o,i,j,g)/\x+1<=o.size/\i+1<a.size/\j<b.size/\Mi ρ (a.toList++b.toList) o.toList (a.toList.drop i) (b.toList.drop j))
  (Q:=fun c st'=>SameSt st st'/\∃(r:Array Keyed) (rest:Array Keyed×Nat×Nat×Nat),c=(some r,rest)/\bZ ρ r.toList/\r.toList.Perm (a.toList++b.toList)) ?_ ?_ ⟨SameSt.refl _,_,_,_,_,rfl,Nat.le_refl _,by lia,by lia,m0⟩) ?_)
 ·rintro x c st' _ hx ⟨hs,o,i,j,g,rfl,hx1,hi,hj,hm⟩
  try dsimp only
  have hk':kindOf st'=κ:=hs.1.trans hk;refine wpS_bind (wpS_mono (wpS_forRange (I:=fun y c st''=>st''=st'/\∃(oo:Array Keyed) (ii jj ac bc:Nat),c=(none,oo,ii,jj,ac,bc)/\o.size+y<=oo.size/\ii+1<a.size/\jj<b.size/\Mi ρ (a.toList++b.toList) oo.toList (a.toList.drop ii) (b.toList.drop jj))
   (Q:=fun c st''=>st''=st'/\((∃(r:Array Keyed) (rest:Array Keyed×Nat×Nat×Nat×Nat),c=(some r,rest)/\bZ ρ r.toList/\r.toList.Perm (a.toList++b.toList))∨∃(oo:Array Keyed) (ii jj ac bc:Nat),c=(none,oo,ii,jj,ac,bc)/\o.size+1<=oo.size/\ii+1<a.size/\jj<b.size/\Mi ρ (a.toList++b.toList) oo.toList (a.toList.drop ii) (b.toList.drop jj))) ?_ ?_ ⟨rfl,o,i,j,0,0,rfl,Nat.le_refl _,hi,hj,hm⟩) ?_)
  ·rintro y c _ _ hy ⟨rfl,oo,ii,jj,ac,bc,rfl,hy1,hi,hj,hM⟩
   try dsimp only
   refine wpS_bind (aQ hj (wpS_bind (aQ (by lia) (wpS_bind (C.lt (dB _ (aO hj)) (dA _ (aO (by lia))) hk' ?_)))))
   try dsimp only
   by_cases hc:ρ (b.getD jj (.none,.none))<ρ (a.getD ii (.none,.none))
   ·rw[decide_eq_true hc,if_pos rfl];refine wpS_bind (aQ hj ?_)
    try dsimp only
    have mB:=(show Mi ρ (a.toList++b.toList) oo.toList (a.toList.drop ii) ([b.getD jj (.none,.none)]++b.toList.drop (jj+1)) by rw[dC hj]at hM;exact hM).goB (fun x hx y hy=>by cases List.mem_singleton.mp hx;exact iD upA hy hc);rw[←Array.toList_push]at mB
    by_cases he:jj+1=b.size
    ·rw[if_pos (by simpa using he)];exact wpS_pure ⟨rfl,.inl ⟨_,_,rfl,doneR mB he⟩⟩
    ·rw[if_neg (by simpa using he)]
     by_cases hg:bc+1≥g
     ·rw[if_pos hg];exact wpS_pure ⟨rfl,.inr ⟨_,_,_,_,_,rfl,by rw[Array.size_push];lia,hi,by lia,mB⟩⟩
     ·rw[if_neg hg];exact wpS_pure ⟨rfl,_,_,_,_,_,rfl,by rw[Array.size_push];lia,hi,by lia,mB⟩
   ·rw[decide_eq_false hc,if_neg Bool.false_ne_true];refine wpS_bind (aQ (i:=ii) (by lia) ?_)
    try dsimp only
    have hlt:ρ (a.getD ii (.none,.none))<ρ (b.getD jj (.none,.none)):=by
     have:=ne _ (aO (a:=a) (i:=ii) (by lia)) _ (aO (a:=b) (i:=jj) hj)
     lia
    have mA:=(show Mi ρ (a.toList++b.toList) oo.toList ([a.getD ii (.none,.none)]++a.toList.drop (ii+1)) (b.toList.drop jj) by rw[dC (i:=ii) (by lia)]at hM;exact hM).goA (fun x hx y hy=>by cases List.mem_singleton.mp hx;exact iD upB hy hlt);rw[←Array.toList_push]at mA
    by_cases he:ii+1+1=a.size
    ·rw[if_pos (by simpa using he)];exact wpS_pure ⟨rfl,.inl ⟨_,_,rfl,lastR mA he⟩⟩
    ·rw[if_neg (by simpa using he)]
     by_cases hg:ac+1≥g
     ·rw[if_pos hg];exact wpS_pure ⟨rfl,.inr ⟨_,_,_,_,_,rfl,by rw[Array.size_push];lia,by lia,hj,mA⟩⟩
     ·rw[if_neg hg];exact wpS_pure ⟨rfl,_,_,_,_,_,rfl,by rw[Array.size_push];lia,by lia,hj,mA⟩
  ·rintro c _ ⟨rfl,oo,ii,jj,ac,bc,rfl,hy1,hi,hj,hM⟩;have:=leq hM (by lia) hj
   lia
  ·rintro c _ ⟨rfl,⟨r,rest,rfl,hr⟩|⟨oo,ii,jj,ac,bc,rfl,ho,hi,hj,hM⟩⟩
   ·try dsimp only
    exact wpS_pure ⟨hs,_,_,rfl,hr⟩
   try dsimp only
   refine wpS_bind (wpS_lift (wpAny_rule ⟨rfl,?_⟩));refine wpS_bind (wpS_mono (wpS_forRange (I:=fun y c st''=>SameSt st st''/\∃(oo:Array Keyed) (ii jj gg ac bc:Nat),c=(none,oo,ii,jj,gg,ac,bc)/\x+2<=oo.size/\y<=oo.size/\ii+1<a.size/\jj<b.size/\Mi ρ (a.toList++b.toList) oo.toList (a.toList.drop ii) (b.toList.drop jj))
    (Q:=fun c st''=>SameSt st st''/\((∃(r:Array Keyed) (rest:Array Keyed×Nat×Nat×Nat×Nat×Nat),c=(some r,rest)/\bZ ρ r.toList/\r.toList.Perm (a.toList++b.toList))∨∃(oo:Array Keyed) (ii jj gg ac bc:Nat),c=(none,oo,ii,jj,gg,ac,bc)/\x+2<=oo.size/\ii+1<a.size/\jj<b.size/\Mi ρ (a.toList++b.toList) oo.toList (a.toList.drop ii) (b.toList.drop jj))) ?_ ?_ ⟨hs,oo,ii,jj,_,_,_,rfl,by lia,by lia,hi,hj,hM⟩) ?_)
   ·clear hM hi hj ho oo ii jj ac bc;rintro y c st'' _ hy ⟨hs1,oo,ii,jj,gg,ac,bc,rfl,hx2,hy2,hi,hj,hM⟩
    try dsimp only
    by_cases hgg:gg>1
    ·rw[if_pos hgg]
     try dsimp only
     refine wpS_bind (wpS_modify ?_);have hs2:SameSt st (bE st'' (gg - 1)):=hs1;refine wpS_bind (aQ hj ?_);refine wpS_bind (cP (st:=bE st'' (gg - 1)) (hint:=0) C (show kindOf (bE st'' (gg - 1))=κ from hs1.1.trans hk) (dB _ (aO hj)) dA (n:=a.size - ii) (by lia) (by lia) (gH upA (by lia)) fun k1 hk1 r1 r2=> ?_)
     try dsimp only
     have p1:∀x∈(a.extract ii (ii+k1)).toList,∀y∈b.toList.drop jj,ρ x<ρ y:=fun x hx y hy=>by
      obtain⟨u,hu,e⟩:=kS (ρ:=ρ) hx;have:=r1 (u - ii) (by lia);rw[show ii+(u - ii)=u by lia]at this;have h1:¬ρ (b.getD jj (.none,.none))<rnk ρ a u:=of_decide_eq_false (by unfold bey at this;rw[if_neg Bool.false_ne_true]at this;simpa using this);have h2:=ne _ (aO (a:=a) (i:=u) hu.2.2) _ (aO (a:=b) (i:=jj) hj);refine iD upB hy ?_;rw[e];have h2:rnk ρ a u≠ρ (b.getD jj (.none,.none)):=h2
      lia
     have p2':∀y∈a.toList.drop (ii+k1),ρ (b.getD jj (.none,.none))<ρ y:=fun y hy=>by
      obtain⟨u,hu1,hu2,e⟩:=c4 (ρ:=ρ) hy;have:=r2 (u - ii) (by lia) (by lia);rw[show ii+(u - ii)=u by lia]at this;rw[e];unfold bey at this;rw[if_neg Bool.false_ne_true]at this
      simpa using this
     by_cases hk1':k1>0
     ·rw[if_pos hk1'];have mA:Mi ρ (a.toList++b.toList) (oo++a.extract ii (ii+k1)).toList (a.toList.drop (ii+k1)) (b.toList.drop jj):=by
       rw[Array.toList_append (xs:=oo)];exact(show Mi ρ (a.toList++b.toList) oo.toList ((a.extract ii (ii+k1)).toList++a.toList.drop (ii+k1)) (b.toList.drop jj) by rw[←k6];exact hM).goA p1
      by_cases hl:ii+k1+1=a.size
      ·rw[if_pos (by simpa using hl)];exact wpS_pure ⟨hs2,.inl ⟨_,_,rfl,lastR mA hl⟩⟩
      rw[if_neg (by simpa using hl)]
      by_cases hl2:ii+k1=a.size
      ·rw[if_pos (by simpa using hl2)];exact wpS_pure ⟨hs2,.inl ⟨_,_,rfl,doneR2 mA hl2⟩⟩
      rw[if_neg (by simpa using hl2)];have hM:=mA;have p2:=p2';refine wpS_bind (aQ hj ?_)
      try dsimp only
      have mB:=(show Mi ρ (a.toList++b.toList) (oo++a.extract ii (ii+k1)).toList (a.toList.drop (ii+k1)) ([b.getD jj (.none,.none)]++b.toList.drop (jj+1)) by rw[dC hj]at hM;exact hM).goB (fun x hx y hy=>by cases List.mem_singleton.mp hx;exact p2 y hy);rw[←Array.toList_push]at mB
      by_cases he:jj+1=b.size
      ·rw[if_pos (by simpa using he)];exact wpS_pure ⟨hs2,.inl ⟨_,_,rfl,doneR mB he⟩⟩
      ·rw[if_neg (by simpa using he)];have hj2:jj+1<b.size:=by lia
       refine wpS_bind (aQ (i:=ii+k1) (by lia) ?_);refine wpS_bind (cP (st:=bE st'' (gg - 1)) (hint:=0) C (show kindOf (bE st'' (gg - 1))=κ from hs1.1.trans hk) (dA _ (aO (by lia))) dB (n:=b.size - (jj+1)) (by lia) (by lia) (gH upB (by lia)) fun k2 hk2 r1 r2=> ?_)
       try dsimp only
       have q1:∀x∈(b.extract (jj+1) (jj+1+k2)).toList,∀y∈a.toList.drop (ii+k1),ρ x<ρ y:=fun x hx y hy=>by
        obtain⟨u,hu,e⟩:=kS (ρ:=ρ) hx;rw[e];have:=r1 (u - (jj+1)) (by lia);rw[show jj+1+(u - (jj+1))=u by lia]at this;exact iD upA hy (of_decide_eq_true this)
       have q2:∀y∈b.toList.drop (jj+1+k2),ρ (a.getD (ii+k1) (.none,.none))<ρ y:=fun y hy=>by
        have hym:y∈b.toList:=List.mem_of_mem_drop hy;obtain⟨u,hu1,hu2,e⟩:=c4 (ρ:=ρ) hy;have:=r2 (u - (jj+1)) (by lia) (by lia);rw[show jj+1+(u - (jj+1))=u by lia]at this;have h1:=of_decide_eq_false this;have h2:=ne _ (aO (a:=a) (i:=ii+k1) (by lia)) y hym;rw[e]at h2 ⊢
        lia
       by_cases hk0:k2>0
       ·rw[if_pos hk0];have mC:Mi ρ (a.toList++b.toList) ((oo++a.extract ii (ii+k1)).push (b.getD jj (.none,.none))++b.extract (jj+1) (jj+1+k2)).toList (a.toList.drop (ii+k1)) (b.toList.drop (jj+1+k2)):=by
         rw[Array.toList_append (xs:=(oo++a.extract ii (ii+k1)).push (b.getD jj (.none,.none)))];exact(show Mi ρ (a.toList++b.toList) ((oo++a.extract ii (ii+k1)).push (b.getD jj (.none,.none))).toList (a.toList.drop (ii+k1)) ((b.extract (jj+1) (jj+1+k2)).toList++b.toList.drop (jj+1+k2)) by rw[←k6];exact mB).goB q1
        by_cases hz:jj+1+k2=b.size
        ·rw[if_pos (by simpa using hz)];exact wpS_pure ⟨hs2,.inl ⟨_,_,rfl,doneR mC hz⟩⟩
        ·rw[if_neg (by simpa using hz)];have hj3:jj+1+k2<b.size:=by lia
         refine wpS_bind (aQ (i:=ii+k1) (by lia) ?_)
         try dsimp only
         have mD:=(show Mi ρ (a.toList++b.toList) (((oo++a.extract ii (ii+k1)).push (b.getD jj (.none,.none))++b.extract (jj+1) (jj+1+k2))).toList ([a.getD (ii+k1) (.none,.none)]++a.toList.drop (ii+k1+1)) (b.toList.drop (jj+1+k2)) by rw[dC (i:=ii+k1) (by lia)]at mC;exact mC).goA (fun x hx y hy=>by cases List.mem_singleton.mp hx;exact q2 y hy);rw[←Array.toList_push]at mD
         by_cases hl:ii+k1+1+1=a.size
         ·rw[if_pos (by simpa using hl)];exact wpS_pure ⟨hs2,.inl ⟨_,_,rfl,lastR mD hl⟩⟩
         ·rw[if_neg (by simpa using hl)];have sz:oo.size+1<=((((oo++a.extract ii (ii+k1)).push (b.getD jj (.none,.none))++b.extract (jj+1) (jj+1+k2))).push (a.getD (ii+k1) (.none,.none))).size:=by simp only[Array.size_push,Array.size_append];lia
          have ip:ii+k1+1+1<a.size/\(jj+1+k2)<b.size/\Mi ρ (a.toList++b.toList) ((((oo++a.extract ii (ii+k1)).push (b.getD jj (.none,.none))++b.extract (jj+1) (jj+1+k2))).push (a.getD (ii+k1) (.none,.none))).toList (a.toList.drop (ii+k1+1)) (b.toList.drop (jj+1+k2)):=⟨by lia,hj3,mD⟩
          by_cases hg:(decide (k1<7)&&decide (k2<7))=true
          ·rw[if_pos hg];exact wpS_pure ⟨hs2,.inr ⟨_,_,_,_,_,_,rfl,by lia,ip⟩⟩
          ·rw[if_neg hg];exact wpS_pure ⟨hs2,_,_,_,_,_,_,rfl,by lia,by lia,ip⟩
       ·rw[if_neg hk0];have hk00:k2=0:=by lia
        subst hk00;refine wpS_bind (aQ (i:=ii+k1) (by lia) ?_)
        try dsimp only
        have mD:=(show Mi ρ (a.toList++b.toList) (((oo++a.extract ii (ii+k1)).push (b.getD jj (.none,.none)))).toList ([a.getD (ii+k1) (.none,.none)]++a.toList.drop (ii+k1+1)) (b.toList.drop (jj+1)) by rw[dC (i:=ii+k1) (by lia)]at mB;exact mB).goA (fun x hx y hy=>by cases List.mem_singleton.mp hx;exact q2 y hy);rw[←Array.toList_push]at mD
        by_cases hl:ii+k1+1+1=a.size
        ·rw[if_pos (by simpa using hl)];exact wpS_pure ⟨hs2,.inl ⟨_,_,rfl,lastR mD hl⟩⟩
        ·rw[if_neg (by simpa using hl)];have sz:oo.size+1<=((((oo++a.extract ii (ii+k1)).push (b.getD jj (.none,.none)))).push (a.getD (ii+k1) (.none,.none))).size:=by simp only[Array.size_push,Array.size_append];lia
         have ip:ii+k1+1+1<a.size/\(jj+1)<b.size/\Mi ρ (a.toList++b.toList) ((((oo++a.extract ii (ii+k1)).push (b.getD jj (.none,.none)))).push (a.getD (ii+k1) (.none,.none))).toList (a.toList.drop (ii+k1+1)) (b.toList.drop (jj+1)):=⟨by lia,hj2,mD⟩
         by_cases hg:(decide (k1<7)&&decide (0<7))=true
         ·rw[if_pos hg];exact wpS_pure ⟨hs2,.inr ⟨_,_,_,_,_,_,rfl,by lia,ip⟩⟩
         ·rw[if_neg hg];exact wpS_pure ⟨hs2,_,_,_,_,_,_,rfl,by lia,by lia,ip⟩
     ·rw[if_neg hk1'];have hk10:k1=0:=by lia
      subst hk10;have p2:=p2';refine wpS_bind (aQ hj ?_)
      try dsimp only
      have mB:=(show Mi ρ (a.toList++b.toList) (oo).toList (a.toList.drop (ii)) ([b.getD jj (.none,.none)]++b.toList.drop (jj+1)) by rw[dC hj]at hM;exact hM).goB (fun x hx y hy=>by cases List.mem_singleton.mp hx;exact p2 y hy);rw[←Array.toList_push]at mB
      by_cases he:jj+1=b.size
      ·rw[if_pos (by simpa using he)];exact wpS_pure ⟨hs2,.inl ⟨_,_,rfl,doneR mB he⟩⟩
      ·rw[if_neg (by simpa using he)];have hj2:jj+1<b.size:=by lia
       refine wpS_bind (aQ (i:=ii) (by lia) ?_);refine wpS_bind (cP (st:=bE st'' (gg - 1)) (hint:=0) C (show kindOf (bE st'' (gg - 1))=κ from hs1.1.trans hk) (dA _ (aO (by lia))) dB (n:=b.size - (jj+1)) (by lia) (by lia) (gH upB (by lia)) fun k2 hk2 r1 r2=> ?_)
       try dsimp only
       have q1:∀x∈(b.extract (jj+1) (jj+1+k2)).toList,∀y∈a.toList.drop (ii),ρ x<ρ y:=fun x hx y hy=>by
        obtain⟨u,hu,e⟩:=kS (ρ:=ρ) hx;rw[e];have:=r1 (u - (jj+1)) (by lia);rw[show jj+1+(u - (jj+1))=u by lia]at this;exact iD upA hy (of_decide_eq_true this)
       have q2:∀y∈b.toList.drop (jj+1+k2),ρ (a.getD (ii) (.none,.none))<ρ y:=fun y hy=>by
        have hym:y∈b.toList:=List.mem_of_mem_drop hy;obtain⟨u,hu1,hu2,e⟩:=c4 (ρ:=ρ) hy;have:=r2 (u - (jj+1)) (by lia) (by lia);rw[show jj+1+(u - (jj+1))=u by lia]at this;have h1:=of_decide_eq_false this;have h2:=ne _ (aO (a:=a) (i:=ii) (by lia)) y hym;rw[e]at h2 ⊢
        lia
       by_cases hk0:k2>0
       ·rw[if_pos hk0];have mC:Mi ρ (a.toList++b.toList) ((oo).push (b.getD jj (.none,.none))++b.extract (jj+1) (jj+1+k2)).toList (a.toList.drop (ii)) (b.toList.drop (jj+1+k2)):=by
         rw[Array.toList_append (xs:=(oo).push (b.getD jj (.none,.none)))];exact(show Mi ρ (a.toList++b.toList) ((oo).push (b.getD jj (.none,.none))).toList (a.toList.drop (ii)) ((b.extract (jj+1) (jj+1+k2)).toList++b.toList.drop (jj+1+k2)) by rw[←k6];exact mB).goB q1
        by_cases hz:jj+1+k2=b.size
        ·rw[if_pos (by simpa using hz)];exact wpS_pure ⟨hs2,.inl ⟨_,_,rfl,doneR mC hz⟩⟩
        ·rw[if_neg (by simpa using hz)];have hj3:jj+1+k2<b.size:=by lia
         refine wpS_bind (aQ (i:=ii) (by lia) ?_)
         try dsimp only
         have mD:=(show Mi ρ (a.toList++b.toList) (((oo).push (b.getD jj (.none,.none))++b.extract (jj+1) (jj+1+k2))).toList ([a.getD (ii) (.none,.none)]++a.toList.drop (ii+1)) (b.toList.drop (jj+1+k2)) by rw[dC (i:=ii) (by lia)]at mC;exact mC).goA (fun x hx y hy=>by cases List.mem_singleton.mp hx;exact q2 y hy);rw[←Array.toList_push]at mD
         by_cases hl:ii+1+1=a.size
         ·rw[if_pos (by simpa using hl)];exact wpS_pure ⟨hs2,.inl ⟨_,_,rfl,lastR mD hl⟩⟩
         ·rw[if_neg (by simpa using hl)];have sz:oo.size+1<=((((oo).push (b.getD jj (.none,.none))++b.extract (jj+1) (jj+1+k2))).push (a.getD (ii) (.none,.none))).size:=by simp only[Array.size_push,Array.size_append];lia
          have ip:ii+1+1<a.size/\(jj+1+k2)<b.size/\Mi ρ (a.toList++b.toList) ((((oo).push (b.getD jj (.none,.none))++b.extract (jj+1) (jj+1+k2))).push (a.getD (ii) (.none,.none))).toList (a.toList.drop (ii+1)) (b.toList.drop (jj+1+k2)):=⟨by lia,hj3,mD⟩
          by_cases hg:(decide (0<7)&&decide (k2<7))=true
          ·rw[if_pos hg];exact wpS_pure ⟨hs2,.inr ⟨_,_,_,_,_,_,rfl,by lia,ip⟩⟩
          ·rw[if_neg hg];exact wpS_pure ⟨hs2,_,_,_,_,_,_,rfl,by lia,by lia,ip⟩
       ·rw[if_neg hk0];have hk00:k2=0:=by lia
        subst hk00;refine wpS_bind (aQ (i:=ii) (by lia) ?_)
        try dsimp only
        have mD:=(show Mi ρ (a.toList++b.toList) (((oo).push (b.getD jj (.none,.none)))).toList ([a.getD (ii) (.none,.none)]++a.toList.drop (ii+1)) (b.toList.drop (jj+1)) by rw[dC (i:=ii) (by lia)]at mB;exact mB).goA (fun x hx y hy=>by cases List.mem_singleton.mp hx;exact q2 y hy);rw[←Array.toList_push]at mD
        by_cases hl:ii+1+1=a.size
        ·rw[if_pos (by simpa using hl)];exact wpS_pure ⟨hs2,.inl ⟨_,_,rfl,lastR mD hl⟩⟩
        ·rw[if_neg (by simpa using hl)];have sz:oo.size+1<=((((oo).push (b.getD jj (.none,.none)))).push (a.getD (ii) (.none,.none))).size:=by simp only[Array.size_push,Array.size_append];lia
         have ip:ii+1+1<a.size/\(jj+1)<b.size/\Mi ρ (a.toList++b.toList) ((((oo).push (b.getD jj (.none,.none)))).push (a.getD (ii) (.none,.none))).toList (a.toList.drop (ii+1)) (b.toList.drop (jj+1)):=⟨by lia,hj2,mD⟩
         by_cases hg:(decide (0<7)&&decide (0<7))=true
         ·rw[if_pos hg];exact wpS_pure ⟨hs2,.inr ⟨_,_,_,_,_,_,rfl,by lia,ip⟩⟩
         ·rw[if_neg hg];exact wpS_pure ⟨hs2,_,_,_,_,_,_,rfl,by lia,by lia,ip⟩
    ·rw[if_neg hgg]
     try dsimp only
     refine wpS_bind (wpS_modify ?_);have hs2:SameSt st (bE st'' (gg)):=hs1;refine wpS_bind (aQ hj ?_);refine wpS_bind (cP (st:=bE st'' (gg)) (hint:=0) C (show kindOf (bE st'' (gg))=κ from hs1.1.trans hk) (dB _ (aO hj)) dA (n:=a.size - ii) (by lia) (by lia) (gH upA (by lia)) fun k1 hk1 r1 r2=> ?_)
     try dsimp only
     have p1:∀x∈(a.extract ii (ii+k1)).toList,∀y∈b.toList.drop jj,ρ x<ρ y:=fun x hx y hy=>by
      obtain⟨u,hu,e⟩:=kS (ρ:=ρ) hx;have:=r1 (u - ii) (by lia);rw[show ii+(u - ii)=u by lia]at this;have h1:¬ρ (b.getD jj (.none,.none))<rnk ρ a u:=of_decide_eq_false (by unfold bey at this;rw[if_neg Bool.false_ne_true]at this;simpa using this);have h2:=ne _ (aO (a:=a) (i:=u) hu.2.2) _ (aO (a:=b) (i:=jj) hj);refine iD upB hy ?_;rw[e];have h2:rnk ρ a u≠ρ (b.getD jj (.none,.none)):=h2
      lia
     have p2':∀y∈a.toList.drop (ii+k1),ρ (b.getD jj (.none,.none))<ρ y:=fun y hy=>by
      obtain⟨u,hu1,hu2,e⟩:=c4 (ρ:=ρ) hy;have:=r2 (u - ii) (by lia) (by lia);rw[show ii+(u - ii)=u by lia]at this;rw[e];unfold bey at this;rw[if_neg Bool.false_ne_true]at this
      simpa using this
     by_cases hk1':k1>0
     ·rw[if_pos hk1'];have mA:Mi ρ (a.toList++b.toList) (oo++a.extract ii (ii+k1)).toList (a.toList.drop (ii+k1)) (b.toList.drop jj):=by
       rw[Array.toList_append (xs:=oo)];exact(show Mi ρ (a.toList++b.toList) oo.toList ((a.extract ii (ii+k1)).toList++a.toList.drop (ii+k1)) (b.toList.drop jj) by rw[←k6];exact hM).goA p1
      by_cases hl:ii+k1+1=a.size
      ·rw[if_pos (by simpa using hl)];exact wpS_pure ⟨hs2,.inl ⟨_,_,rfl,lastR mA hl⟩⟩
      rw[if_neg (by simpa using hl)]
      by_cases hl2:ii+k1=a.size
      ·rw[if_pos (by simpa using hl2)];exact wpS_pure ⟨hs2,.inl ⟨_,_,rfl,doneR2 mA hl2⟩⟩
      rw[if_neg (by simpa using hl2)];have hM:=mA;have p2:=p2';refine wpS_bind (aQ hj ?_)
      try dsimp only
      have mB:=(show Mi ρ (a.toList++b.toList) (oo++a.extract ii (ii+k1)).toList (a.toList.drop (ii+k1)) ([b.getD jj (.none,.none)]++b.toList.drop (jj+1)) by rw[dC hj]at hM;exact hM).goB (fun x hx y hy=>by cases List.mem_singleton.mp hx;exact p2 y hy);rw[←Array.toList_push]at mB
      by_cases he:jj+1=b.size
      ·rw[if_pos (by simpa using he)];exact wpS_pure ⟨hs2,.inl ⟨_,_,rfl,doneR mB he⟩⟩
      ·rw[if_neg (by simpa using he)];have hj2:jj+1<b.size:=by lia
       refine wpS_bind (aQ (i:=ii+k1) (by lia) ?_);refine wpS_bind (cP (st:=bE st'' (gg)) (hint:=0) C (show kindOf (bE st'' (gg))=κ from hs1.1.trans hk) (dA _ (aO (by lia))) dB (n:=b.size - (jj+1)) (by lia) (by lia) (gH upB (by lia)) fun k2 hk2 r1 r2=> ?_)
       try dsimp only
       have q1:∀x∈(b.extract (jj+1) (jj+1+k2)).toList,∀y∈a.toList.drop (ii+k1),ρ x<ρ y:=fun x hx y hy=>by
        obtain⟨u,hu,e⟩:=kS (ρ:=ρ) hx;rw[e];have:=r1 (u - (jj+1)) (by lia);rw[show jj+1+(u - (jj+1))=u by lia]at this;exact iD upA hy (of_decide_eq_true this)
       have q2:∀y∈b.toList.drop (jj+1+k2),ρ (a.getD (ii+k1) (.none,.none))<ρ y:=fun y hy=>by
        have hym:y∈b.toList:=List.mem_of_mem_drop hy;obtain⟨u,hu1,hu2,e⟩:=c4 (ρ:=ρ) hy;have:=r2 (u - (jj+1)) (by lia) (by lia);rw[show jj+1+(u - (jj+1))=u by lia]at this;have h1:=of_decide_eq_false this;have h2:=ne _ (aO (a:=a) (i:=ii+k1) (by lia)) y hym;rw[e]at h2 ⊢
        lia
       by_cases hk0:k2>0
       ·rw[if_pos hk0];have mC:Mi ρ (a.toList++b.toList) ((oo++a.extract ii (ii+k1)).push (b.getD jj (.none,.none))++b.extract (jj+1) (jj+1+k2)).toList (a.toList.drop (ii+k1)) (b.toList.drop (jj+1+k2)):=by
         rw[Array.toList_append (xs:=(oo++a.extract ii (ii+k1)).push (b.getD jj (.none,.none)))];exact(show Mi ρ (a.toList++b.toList) ((oo++a.extract ii (ii+k1)).push (b.getD jj (.none,.none))).toList (a.toList.drop (ii+k1)) ((b.extract (jj+1) (jj+1+k2)).toList++b.toList.drop (jj+1+k2)) by rw[←k6];exact mB).goB q1
        by_cases hz:jj+1+k2=b.size
        ·rw[if_pos (by simpa using hz)];exact wpS_pure ⟨hs2,.inl ⟨_,_,rfl,doneR mC hz⟩⟩
        ·rw[if_neg (by simpa using hz)];have hj3:jj+1+k2<b.size:=by lia
         refine wpS_bind (aQ (i:=ii+k1) (by lia) ?_)
         try dsimp only
         have mD:=(show Mi ρ (a.toList++b.toList) (((oo++a.extract ii (ii+k1)).push (b.getD jj (.none,.none))++b.extract (jj+1) (jj+1+k2))).toList ([a.getD (ii+k1) (.none,.none)]++a.toList.drop (ii+k1+1)) (b.toList.drop (jj+1+k2)) by rw[dC (i:=ii+k1) (by lia)]at mC;exact mC).goA (fun x hx y hy=>by cases List.mem_singleton.mp hx;exact q2 y hy);rw[←Array.toList_push]at mD
         by_cases hl:ii+k1+1+1=a.size
         ·rw[if_pos (by simpa using hl)];exact wpS_pure ⟨hs2,.inl ⟨_,_,rfl,lastR mD hl⟩⟩
         ·rw[if_neg (by simpa using hl)];have sz:oo.size+1<=((((oo++a.extract ii (ii+k1)).push (b.getD jj (.none,.none))++b.extract (jj+1) (jj+1+k2))).push (a.getD (ii+k1) (.none,.none))).size:=by simp only[Array.size_push,Array.size_append];lia
          have ip:ii+k1+1+1<a.size/\(jj+1+k2)<b.size/\Mi ρ (a.toList++b.toList) ((((oo++a.extract ii (ii+k1)).push (b.getD jj (.none,.none))++b.extract (jj+1) (jj+1+k2))).push (a.getD (ii+k1) (.none,.none))).toList (a.toList.drop (ii+k1+1)) (b.toList.drop (jj+1+k2)):=⟨by lia,hj3,mD⟩
          by_cases hg:(decide (k1<7)&&decide (k2<7))=true
          ·rw[if_pos hg];exact wpS_pure ⟨hs2,.inr ⟨_,_,_,_,_,_,rfl,by lia,ip⟩⟩
          ·rw[if_neg hg];exact wpS_pure ⟨hs2,_,_,_,_,_,_,rfl,by lia,by lia,ip⟩
       ·rw[if_neg hk0];have hk00:k2=0:=by lia
        subst hk00;refine wpS_bind (aQ (i:=ii+k1) (by lia) ?_)
        try dsimp only
        have mD:=(show Mi ρ (a.toList++b.toList) (((oo++a.extract ii (ii+k1)).push (b.getD jj (.none,.none)))).toList ([a.getD (ii+k1) (.none,.none)]++a.toList.drop (ii+k1+1)) (b.toList.drop (jj+1)) by rw[dC (i:=ii+k1) (by lia)]at mB;exact mB).goA (fun x hx y hy=>by cases List.mem_singleton.mp hx;exact q2 y hy);rw[←Array.toList_push]at mD
        by_cases hl:ii+k1+1+1=a.size
        ·rw[if_pos (by simpa using hl)];exact wpS_pure ⟨hs2,.inl ⟨_,_,rfl,lastR mD hl⟩⟩
        ·rw[if_neg (by simpa using hl)];have sz:oo.size+1<=((((oo++a.extract ii (ii+k1)).push (b.getD jj (.none,.none)))).push (a.getD (ii+k1) (.none,.none))).size:=by simp only[Array.size_push,Array.size_append];lia
         have ip:ii+k1+1+1<a.size/\(jj+1)<b.size/\Mi ρ (a.toList++b.toList) ((((oo++a.extract ii (ii+k1)).push (b.getD jj (.none,.none)))).push (a.getD (ii+k1) (.none,.none))).toList (a.toList.drop (ii+k1+1)) (b.toList.drop (jj+1)):=⟨by lia,hj2,mD⟩
         by_cases hg:(decide (k1<7)&&decide (0<7))=true
         ·rw[if_pos hg];exact wpS_pure ⟨hs2,.inr ⟨_,_,_,_,_,_,rfl,by lia,ip⟩⟩
         ·rw[if_neg hg];exact wpS_pure ⟨hs2,_,_,_,_,_,_,rfl,by lia,by lia,ip⟩
     ·rw[if_neg hk1'];have hk10:k1=0:=by lia
      subst hk10;have p2:=p2';refine wpS_bind (aQ hj ?_)
      try dsimp only
      have mB:=(show Mi ρ (a.toList++b.toList) (oo).toList (a.toList.drop (ii)) ([b.getD jj (.none,.none)]++b.toList.drop (jj+1)) by rw[dC hj]at hM;exact hM).goB (fun x hx y hy=>by cases List.mem_singleton.mp hx;exact p2 y hy);rw[←Array.toList_push]at mB
      by_cases he:jj+1=b.size
      ·rw[if_pos (by simpa using he)];exact wpS_pure ⟨hs2,.inl ⟨_,_,rfl,doneR mB he⟩⟩
      ·rw[if_neg (by simpa using he)];have hj2:jj+1<b.size:=by lia
       refine wpS_bind (aQ (i:=ii) (by lia) ?_);refine wpS_bind (cP (st:=bE st'' (gg)) (hint:=0) C (show kindOf (bE st'' (gg))=κ from hs1.1.trans hk) (dA _ (aO (by lia))) dB (n:=b.size - (jj+1)) (by lia) (by lia) (gH upB (by lia)) fun k2 hk2 r1 r2=> ?_)
       try dsimp only
       have q1:∀x∈(b.extract (jj+1) (jj+1+k2)).toList,∀y∈a.toList.drop (ii),ρ x<ρ y:=fun x hx y hy=>by
        obtain⟨u,hu,e⟩:=kS (ρ:=ρ) hx;rw[e];have:=r1 (u - (jj+1)) (by lia);rw[show jj+1+(u - (jj+1))=u by lia]at this;exact iD upA hy (of_decide_eq_true this)
       have q2:∀y∈b.toList.drop (jj+1+k2),ρ (a.getD (ii) (.none,.none))<ρ y:=fun y hy=>by
        have hym:y∈b.toList:=List.mem_of_mem_drop hy;obtain⟨u,hu1,hu2,e⟩:=c4 (ρ:=ρ) hy;have:=r2 (u - (jj+1)) (by lia) (by lia);rw[show jj+1+(u - (jj+1))=u by lia]at this;have h1:=of_decide_eq_false this;have h2:=ne _ (aO (a:=a) (i:=ii) (by lia)) y hym;rw[e]at h2 ⊢
        lia
       by_cases hk0:k2>0
       ·rw[if_pos hk0];have mC:Mi ρ (a.toList++b.toList) ((oo).push (b.getD jj (.none,.none))++b.extract (jj+1) (jj+1+k2)).toList (a.toList.drop (ii)) (b.toList.drop (jj+1+k2)):=by
         rw[Array.toList_append (xs:=(oo).push (b.getD jj (.none,.none)))];exact(show Mi ρ (a.toList++b.toList) ((oo).push (b.getD jj (.none,.none))).toList (a.toList.drop (ii)) ((b.extract (jj+1) (jj+1+k2)).toList++b.toList.drop (jj+1+k2)) by rw[←k6];exact mB).goB q1
        by_cases hz:jj+1+k2=b.size
        ·rw[if_pos (by simpa using hz)];exact wpS_pure ⟨hs2,.inl ⟨_,_,rfl,doneR mC hz⟩⟩
        ·rw[if_neg (by simpa using hz)];have hj3:jj+1+k2<b.size:=by lia
         refine wpS_bind (aQ (i:=ii) (by lia) ?_)
         try dsimp only
         have mD:=(show Mi ρ (a.toList++b.toList) (((oo).push (b.getD jj (.none,.none))++b.extract (jj+1) (jj+1+k2))).toList ([a.getD (ii) (.none,.none)]++a.toList.drop (ii+1)) (b.toList.drop (jj+1+k2)) by rw[dC (i:=ii) (by lia)]at mC;exact mC).goA (fun x hx y hy=>by cases List.mem_singleton.mp hx;exact q2 y hy);rw[←Array.toList_push]at mD
         by_cases hl:ii+1+1=a.size
         ·rw[if_pos (by simpa using hl)];exact wpS_pure ⟨hs2,.inl ⟨_,_,rfl,lastR mD hl⟩⟩
         ·rw[if_neg (by simpa using hl)];have sz:oo.size+1<=((((oo).push (b.getD jj (.none,.none))++b.extract (jj+1) (jj+1+k2))).push (a.getD (ii) (.none,.none))).size:=by simp only[Array.size_push,Array.size_append];lia
          have ip:ii+1+1<a.size/\(jj+1+k2)<b.size/\Mi ρ (a.toList++b.toList) ((((oo).push (b.getD jj (.none,.none))++b.extract (jj+1) (jj+1+k2))).push (a.getD (ii) (.none,.none))).toList (a.toList.drop (ii+1)) (b.toList.drop (jj+1+k2)):=⟨by lia,hj3,mD⟩
          by_cases hg:(decide (0<7)&&decide (k2<7))=true
          ·rw[if_pos hg];exact wpS_pure ⟨hs2,.inr ⟨_,_,_,_,_,_,rfl,by lia,ip⟩⟩
          ·rw[if_neg hg];exact wpS_pure ⟨hs2,_,_,_,_,_,_,rfl,by lia,by lia,ip⟩
       ·rw[if_neg hk0];have hk00:k2=0:=by lia
        subst hk00;refine wpS_bind (aQ (i:=ii) (by lia) ?_)
        try dsimp only
        have mD:=(show Mi ρ (a.toList++b.toList) (((oo).push (b.getD jj (.none,.none)))).toList ([a.getD (ii) (.none,.none)]++a.toList.drop (ii+1)) (b.toList.drop (jj+1)) by rw[dC (i:=ii) (by lia)]at mB;exact mB).goA (fun x hx y hy=>by cases List.mem_singleton.mp hx;exact q2 y hy);rw[←Array.toList_push]at mD
        by_cases hl:ii+1+1=a.size
        ·rw[if_pos (by simpa using hl)];exact wpS_pure ⟨hs2,.inl ⟨_,_,rfl,lastR mD hl⟩⟩
        ·rw[if_neg (by simpa using hl)];have sz:oo.size+1<=((((oo).push (b.getD jj (.none,.none)))).push (a.getD (ii) (.none,.none))).size:=by simp only[Array.size_push,Array.size_append];lia
         have ip:ii+1+1<a.size/\(jj+1)<b.size/\Mi ρ (a.toList++b.toList) ((((oo).push (b.getD jj (.none,.none)))).push (a.getD (ii) (.none,.none))).toList (a.toList.drop (ii+1)) (b.toList.drop (jj+1)):=⟨by lia,hj2,mD⟩
         by_cases hg:(decide (0<7)&&decide (0<7))=true
         ·rw[if_pos hg];exact wpS_pure ⟨hs2,.inr ⟨_,_,_,_,_,_,rfl,by lia,ip⟩⟩
         ·rw[if_neg hg];exact wpS_pure ⟨hs2,_,_,_,_,_,_,rfl,by lia,by lia,ip⟩
   ·rintro c st'' ⟨hs1,oo,ii,jj,gg,ac,bc,rfl,hx2,hy2,hi,hj,hM⟩;have:=leq hM (by lia) hj
    lia
   ·rintro c st'' ⟨hs1,⟨r,rest,rfl,hr⟩|⟨oo,ii,jj,gg,ac,bc,rfl,ho,hi,hj,hM⟩⟩
    ·try dsimp only
     exact wpS_pure ⟨hs1,_,_,rfl,hr⟩
    ·try dsimp only
     refine wpS_bind (wpS_modify (wpS_pure ⟨hs1,_,_,_,_,rfl,ho,hi,hj,hM⟩))
 ·rintro c st' ⟨hs,o,i,j,g,rfl,hx1,hi,hj,hm⟩;have:=leq hm (by lia) hj
  lia
 ·rintro c st' ⟨hs,r,rest,rfl,hr⟩
  try dsimp only
  exact wpS_pure (hQ _ _ hs hr.1 hr.2)
end
end L2
namespace L2
open PySem PySem.W PyProof.Rows
section
variable {prog:Program}{w:World}{A:Around}{E:Value->Shared->Prop}{s:Shared}{κ:SortKind}{D:Keyed->Prop}{ρ:Keyed->Int}{st:SortSt}
theorem cT {a:Array Keyed}{n:Nat} (h0:0<n) (hn:n<=a.size):(a.toList.take n).reverse=a.getD (n - 1) (.none,.none)::(a.toList.take (n - 1)).reverse:=by
 obtain⟨k,rfl⟩:∃k,n=k+1:=⟨n - 1,by lia⟩
 have h:k<a.toList.length:=by rw[Array.length_toList];lia
 rw[List.take_succ,List.getElem?_eq_getElem h,Nat.add_sub_cancel];show (a.toList.take k++[_]).reverse=_;rw[List.reverse_append];show _::_=_::_
 congr 1
 have hl:k<a.size:=by lia
 simp[Array.getD,hl]
theorem kI {a:Array Keyed}{k n:Nat} (h:k<=n) (hn:n<=a.size):(a.toList.take n).reverse=(a.extract k n).toList.reverse++(a.toList.take k).reverse:=by
 rw[←List.reverse_append,Array.toList_extract,List.extract_eq_drop_take]
 congr 1
 have e:n=k+(n - k):=by lia
 conv=>lhs;rw[e]
 rw[List.take_add]
theorem cQ {a:Array Keyed}{n:Nat}{x:Keyed} (h:x∈(a.toList.take n).reverse):∃u,u<n/\u<a.size/\ρ x=rnk ρ a u:=by
 obtain⟨v,hv,e⟩:=List.getElem_of_mem (List.mem_reverse.mp h);rw[List.length_take,Array.length_toList]at hv;rw[List.getElem_take]at e;have hl:v<a.size:=by lia
 refine⟨v,by lia,hl,?_⟩;unfold rnk;rw[←e]
 congr 1
 simp[Array.getD,hl]
theorem kN {a:Array Keyed}{k n:Nat}{x:Keyed} (h:x∈(a.extract k n).toList):∃u,(k<=u/\u<n/\u<a.size)/\ρ x=rnk ρ a u:=by
 rcases Nat.le_total k n with hkn|hkn
 ·rw[show n=k+(n - k) by lia]at h;obtain⟨u,hu,e⟩:=kS (ρ:=ρ) h;exact⟨u,⟨hu.1,by lia,hu.2.2⟩,e⟩
 ·rw[Array.toList_extract,List.extract_eq_drop_take,show n - k=0 by lia]at h;exact nomatch h
theorem iA {a:Array Keyed}{n:Nat}{y:Keyed}{z:Int} (up:Up ρ a 0 a.size) (h0:0<n) (hn:n<=a.size) (hy:y∈(a.toList.take n).reverse) (hz:ρ (a.getD (n - 1) (.none,.none))<z):ρ y<z:=by
 obtain⟨u,h1,h2,e⟩:=cQ (ρ:=ρ) hy;rw[e];have hz:rnk ρ a (n - 1)<z:=hz;rcases Nat.lt_or_ge u (n - 1) with h|h
 ·have:=up u (n - 1) (Nat.zero_le _) h (by lia)
  lia
 ·have:u=n - 1:=by lia
  rw[this];exact hz
theorem C7 {l:List Keyed}(h:bZ (fun x=> - ρ x) l):bZ ρ l.reverse:=by
 rw[bZ,List.pairwise_reverse];exact List.Pairwise.imp (fun {x y} (hxy: - ρ x< - ρ y)=>by lia) h
theorem ZJ (C:l8 prog w A E s κ D ρ)(hk:kindOf st=κ){a b:Array Keyed}{Q:Array Keyed->SortSt->Prop} (dA:∀x∈a.toList,D x) (dB:∀x∈b.toList,D x) (upA:Up ρ a 0 a.size) (upB:Up ρ b 0 b.size) (a0:0<a.size) (b0:0<b.size) (ne:∀x∈a.toList,∀y∈b.toList,ρ x≠ρ y)
  (fst:rnk ρ b 0<rnk ρ a 0)(lst:rnk ρ b (b.size - 1)<rnk ρ a (a.size - 1))(hQ:∀m st',SameSt st st'->bZ ρ m.toList->m.toList.Perm (a.toList++b.toList)->Q m st') :
  wpS (model prog w) A E s (C1 a b) Q st:=by
 have doneR:∀{o:Array Keyed}{n m:Nat},Mi (fun x=> - ρ x) (a.toList++b.toList) o.toList (a.toList.take (n)).reverse (b.toList.take (m)).reverse->n=0∨m=0->bZ ρ (a.extract 0 n++b.extract 0 m++o.reverse).toList/\(a.extract 0 n++b.extract 0 m++o.reverse).toList.Perm (a.toList++b.toList):=fun {o n m} hm hz=>by
  have e:(a.extract 0 n++b.extract 0 m++o.reverse).toList=(o.toList++(b.toList.take (m)).reverse++(a.toList.take (n)).reverse).reverse:=by
   simp only[Array.toList_append,Array.toList_extract,List.extract_eq_drop_take,List.drop_zero,Nat.sub_zero,Array.toList_reverse,List.reverse_append,List.reverse_reverse,List.append_assoc]
  have h:=hm.swap.end fun x hx y hy=>by
   rcases hz with rfl|rfl
   ·exact nomatch hy
   ·exact nomatch hx
  rw[e];exact⟨C7 h.1,(List.reverse_perm _).trans h.2⟩
 have firstR:∀{o:Array Keyed}{n m:Nat},Mi (fun x=> - ρ x) (a.toList++b.toList) o.toList (a.toList.take (n)).reverse (b.toList.take (m)).reverse->m=1->bZ ρ (b.extract 0 m++a.extract 0 n++o.reverse).toList/\(b.extract 0 m++a.extract 0 n++o.reverse).toList.Perm (a.toList++b.toList):=fun {o n m} hm hz=>by
  have e:(b.extract 0 m++a.extract 0 n++o.reverse).toList=(o.toList++(a.toList.take (n)).reverse++(b.toList.take (m)).reverse).reverse:=by
   simp only[Array.toList_append,Array.toList_extract,List.extract_eq_drop_take,List.drop_zero,Nat.sub_zero,Array.toList_reverse,List.reverse_append,List.reverse_reverse,List.append_assoc]
  have h:=hm.end fun x hx y hy=>by
   obtain⟨u,h1,h2,e1⟩:=cQ (ρ:=ρ) hx;obtain⟨v,g1,g2,e2⟩:=cQ (ρ:=ρ) hy;have hv:v=0:=by lia
   subst hv;show - ρ x< - ρ y;rw[e1,e2];rcases Nat.eq_zero_or_pos u with hu|hu
   ·subst hu;lia
   ·have:=upA 0 u (Nat.le_refl _) hu h2
    lia
  rw[e];exact⟨C7 h.1,(List.reverse_perm _).trans h.2⟩
 unfold C1;refine wpS_bind (wpS_lift (wpAny_rule ⟨rfl,?_⟩))
 try dsimp only
 refine wpS_bind (aQ (i:=a.size - 1) (by lia) ?_)
 try dsimp only
 have m0:Mi (fun x=> - ρ x) (a.toList++b.toList) (#[a.getD (a.size - 1) (.none,.none)]:Array Keyed).toList (a.toList.take (a.size - 1)).reverse (b.toList.take (b.size)).reverse:=by
  have ha:(a.toList.take a.size).reverse=a.getD (a.size - 1) (.none,.none)::(a.toList.take (a.size - 1)).reverse:=cT a0 (Nat.le_refl _);refine⟨List.pairwise_singleton _ _,fun x hx y hy=> ?_,fun x hx y hy=> ?_,?_,?_,?_⟩
  ·cases List.mem_singleton.mp hx;obtain⟨u,h1,h2,e⟩:=cQ (ρ:=ρ) hy;have:=upA u (a.size - 1) (Nat.zero_le _) (by lia) (by lia);show - rnk ρ a (a.size - 1)< - ρ y;rw[e];lia
  ·cases List.mem_singleton.mp hx;have:=iA (z:=rnk ρ a (a.size - 1)) upB b0 (Nat.le_refl _) hy lst;show - rnk ρ a (a.size - 1)< - ρ y
   lia
  ·rw[bZ,List.pairwise_reverse];exact List.Pairwise.imp (fun {x y} (hxy:ρ x<ρ y)=>by show - ρ y< - ρ x;lia) ((uY upA).take)
  ·rw[bZ,List.pairwise_reverse];exact List.Pairwise.imp (fun {x y} (hxy:ρ x<ρ y)=>by show - ρ y< - ρ x;lia) ((uY upB).take)
  ·show (([a.getD (a.size - 1) (.none,.none)]++(a.toList.take (a.size - 1)).reverse)++(b.toList.take b.size).reverse).Perm _;have e1:[a.getD (a.size - 1) (.none,.none)]++(a.toList.take (a.size - 1)).reverse=(a.toList.take a.size).reverse:=ha.symm;have t1:a.toList.take a.size=a.toList:=List.take_of_length_le (by rw[Array.length_toList];exact Nat.le_refl _);have t2:b.toList.take b.size=b.toList:=List.take_of_length_le (by rw[Array.length_toList];exact Nat.le_refl _);rw[e1,t1,t2];exact List.Perm.append (List.reverse_perm _) (List.reverse_perm _)
 by_cases h1:a.size - 1=0
 ·rw[if_pos (by simpa using h1)];exact wpS_pure (let r:=doneR m0 (.inl h1);hQ _ _ (SameSt.refl _) r.1 r.2)
 rw[if_neg (by simpa using h1)]
 by_cases h2:b.size=1
 ·rw[if_pos (by simpa using h2)];exact wpS_pure (let r:=firstR m0 h2;hQ _ _ (SameSt.refl _) r.1 r.2)
 rw[if_neg (by simpa using h2)];refine wpS_bind (wpS_get ?_)
 try dsimp only
 have leq:∀{o:Array Keyed}{n m:Nat},Mi (fun x=> - ρ x) (a.toList++b.toList) o.toList (a.toList.take (n)).reverse (b.toList.take (m)).reverse->0<n->n<=a.size->0<m->m<=b.size->o.size+2<=a.size+b.size:=fun hm h1 h2 h3 h4=>by
  have:=hm.len;rw[Array.length_toList,List.length_reverse,List.length_reverse,List.length_take,List.length_take,List.length_append,Array.length_toList,Array.length_toList]at this
  lia
 refine wpS_bind (wpS_mono (wpS_forRange (I:=fun x c st'=>SameSt st st'/\∃(n m:Nat) (o:Array Keyed) (g:Nat),c=(none,n,m,o,g)/\x+1<=o.size/\0<n/\n<=a.size/\1<m/\m<=b.size/\Mi (fun x=> - ρ x) (a.toList++b.toList) o.toList (a.toList.take (n)).reverse (b.toList.take (m)).reverse)
  (Q:=fun c st'=>SameSt st st'/\∃(r:Array Keyed) (rest:Nat×Nat×Array Keyed×Nat),c=(some r,rest)/\bZ ρ r.toList/\r.toList.Perm (a.toList++b.toList)) ?_ ?_ ⟨SameSt.refl _,_,_,_,_,rfl,Nat.le_refl _,by lia,by lia,by lia,by lia,m0⟩) ?_)
 ·rintro x c st' _ hx ⟨hs,n,m,o,g,rfl,hx1,hna,hnA,hnb1,hnb,hm⟩
  try dsimp only
  have hk':kindOf st'=κ:=hs.1.trans hk;refine wpS_bind (wpS_mono (wpS_forRange (I:=fun y c st''=>st''=st'/\∃(na nb:Nat) (oo:Array Keyed) (ac bc:Nat),c=(none,na,nb,oo,ac,bc)/\o.size+y<=oo.size/\0<na/\na<=a.size/\1<nb/\nb<=b.size/\Mi (fun x=> - ρ x) (a.toList++b.toList) oo.toList (a.toList.take (na)).reverse (b.toList.take (nb)).reverse)
   (Q:=fun c st''=>st''=st'/\((∃(r:Array Keyed) (rest:Nat×Nat×Array Keyed×Nat×Nat),c=(some r,rest)/\bZ ρ r.toList/\r.toList.Perm (a.toList++b.toList))∨∃(na nb:Nat) (oo:Array Keyed) (ac bc:Nat),c=(none,na,nb,oo,ac,bc)/\o.size+1<=oo.size/\0<na/\na<=a.size/\1<nb/\nb<=b.size/\Mi (fun x=> - ρ x) (a.toList++b.toList) oo.toList (a.toList.take (na)).reverse (b.toList.take (nb)).reverse)) ?_ ?_ ⟨rfl,n,m,o,0,0,rfl,Nat.le_refl _,hna,hnA,hnb1,hnb,hm⟩) ?_)
  ·rintro y c _ _ hy ⟨rfl,na,nb,oo,ac,bc,rfl,hy1,hna,hnA,hnb1,hnb,hM⟩
   try dsimp only
   refine wpS_bind (aQ (i:=nb - 1) (by lia) (wpS_bind (aQ (i:=na - 1) (by lia) (wpS_bind (C.lt (dB _ (aO (by lia))) (dA _ (aO (by lia))) hk' ?_)))))
   try dsimp only
   by_cases hc:ρ (b.getD (nb - 1) (.none,.none))<ρ (a.getD (na - 1) (.none,.none))
   ·rw[decide_eq_true hc,if_pos rfl];refine wpS_bind (aQ (i:=na - 1) (by lia) ?_)
    try dsimp only
    have mA:=(show Mi (fun x=> - ρ x) (a.toList++b.toList) oo.toList ([a.getD (na - 1) (.none,.none)]++(a.toList.take (na - 1)).reverse) (b.toList.take (nb)).reverse by rw[cT hna hnA]at hM;exact hM).goA (fun x hx y hy=>by cases List.mem_singleton.mp hx;have:=iA upB (by lia) hnb hy hc;show - _< - _;lia);rw[←Array.toList_push]at mA
    by_cases he:na - 1=0
    ·rw[if_pos (by simpa using he)];exact wpS_pure ⟨rfl,.inl ⟨_,_,rfl,doneR mA (.inl he)⟩⟩
    ·rw[if_neg (by simpa using he)]
     by_cases hg:ac+1≥g
     ·rw[if_pos hg];exact wpS_pure ⟨rfl,.inr ⟨_,_,_,_,_,rfl,by rw[Array.size_push];lia,by lia,by lia,hnb1,hnb,mA⟩⟩
     ·rw[if_neg hg];exact wpS_pure ⟨rfl,_,_,_,_,_,rfl,by rw[Array.size_push];lia,by lia,by lia,hnb1,hnb,mA⟩
   ·rw[decide_eq_false hc,if_neg Bool.false_ne_true];refine wpS_bind (aQ (i:=nb - 1) (by lia) ?_)
    try dsimp only
    have hlt:ρ (a.getD (na - 1) (.none,.none))<ρ (b.getD (nb - 1) (.none,.none)):=by
     have:=ne _ (aO (a:=a) (i:=na - 1) (by lia)) _ (aO (a:=b) (i:=nb - 1) (by lia))
     lia
    have mB:=(show Mi (fun x=> - ρ x) (a.toList++b.toList) oo.toList (a.toList.take (na)).reverse ([b.getD (nb - 1) (.none,.none)]++(b.toList.take (nb - 1)).reverse) by rw[cT (a:=b) (by lia) hnb]at hM;exact hM).goB (fun x hx y hy=>by cases List.mem_singleton.mp hx;have:=iA upA hna hnA hy hlt;show - _< - _;lia);rw[←Array.toList_push]at mB
    by_cases he:nb - 1=1
    ·rw[if_pos (by simpa using he)];exact wpS_pure ⟨rfl,.inl ⟨_,_,rfl,firstR mB he⟩⟩
    ·rw[if_neg (by simpa using he)]
     by_cases hg:bc+1≥g
     ·rw[if_pos hg];exact wpS_pure ⟨rfl,.inr ⟨_,_,_,_,_,rfl,by rw[Array.size_push];lia,hna,hnA,by lia,by lia,mB⟩⟩
     ·rw[if_neg hg];exact wpS_pure ⟨rfl,_,_,_,_,_,rfl,by rw[Array.size_push];lia,hna,hnA,by lia,by lia,mB⟩
  ·rintro c _ ⟨rfl,na,nb,oo,ac,bc,rfl,hy1,hna,hnA,hnb1,hnb,hM⟩;have:=leq hM hna hnA (by lia) hnb
   lia
  ·rintro c _ ⟨rfl,⟨r,rest,rfl,hr⟩|⟨na,nb,oo,ac,bc,rfl,ho,hna,hnA,hnb1,hnb,hM⟩⟩
   ·try dsimp only
    exact wpS_pure ⟨hs,_,_,rfl,hr⟩
   try dsimp only
   refine wpS_bind (wpS_lift (wpAny_rule ⟨rfl,?_⟩));refine wpS_bind (wpS_mono (wpS_forRange (I:=fun y c st''=>SameSt st st''/\∃(na nb:Nat) (oo:Array Keyed) (gg ac bc:Nat),c=(none,na,nb,oo,gg,ac,bc)/\x+2<=oo.size/\y<=oo.size/\0<na/\na<=a.size/\1<nb/\nb<=b.size/\Mi (fun x=> - ρ x) (a.toList++b.toList) oo.toList (a.toList.take (na)).reverse (b.toList.take (nb)).reverse)
    (Q:=fun c st''=>SameSt st st''/\((∃(r:Array Keyed) (rest:Nat×Nat×Array Keyed×Nat×Nat×Nat),c=(some r,rest)/\bZ ρ r.toList/\r.toList.Perm (a.toList++b.toList))∨∃(na nb:Nat) (oo:Array Keyed) (gg ac bc:Nat),c=(none,na,nb,oo,gg,ac,bc)/\x+2<=oo.size/\0<na/\na<=a.size/\1<nb/\nb<=b.size/\Mi (fun x=> - ρ x) (a.toList++b.toList) oo.toList (a.toList.take (na)).reverse (b.toList.take (nb)).reverse)) ?_ ?_ ⟨hs,na,nb,oo,_,_,_,rfl,by lia,by lia,hna,hnA,hnb1,hnb,hM⟩) ?_)
   ·clear hM hna hnA hnb1 hnb ho oo na nb ac bc;rintro y c st'' _ hy ⟨hs1,na,nb,oo,gg,ac,bc,rfl,hx2,hy2,hna,hnA,hnb1,hnb,hM⟩
    try dsimp only
    by_cases hgg:gg>1
    ·rw[if_pos hgg]
     try dsimp only
     refine wpS_bind (wpS_modify ?_);have hs2:SameSt st (bE st'' (gg - 1)):=hs1;refine wpS_bind (aQ (i:=nb - 1) (by lia) ?_);refine wpS_bind (cP (st:=bE st'' (gg - 1)) (base:=0) (n:=na) (hint:=na - 1) C (show kindOf (bE st'' (gg - 1))=κ from hs1.1.trans hk) (dB _ (aO (by lia))) dA (by lia) (by lia) (gH upA (by lia)) fun k1 hk1 r1 r2=> ?_)
     try dsimp only
     have p1:∀x∈(a.extract k1 na).toList.reverse,∀y∈(b.toList.take (nb)).reverse,ρ y<ρ x:=fun x hx y hy=>by
      obtain⟨u,hu,e⟩:=kN (ρ:=ρ) (List.mem_reverse.mp hx);have:=r2 u (by lia) (by lia);rw[Nat.zero_add]at this;refine iA upB (by lia) hnb hy ?_;rw[e];unfold bey at this;rw[if_neg Bool.false_ne_true]at this
      simpa using this
     have p2':∀y∈(a.toList.take (k1)).reverse,ρ y<ρ (b.getD (nb - 1) (.none,.none)):=fun y hy=>by
      obtain⟨u,hu1,hu2,e⟩:=cQ (ρ:=ρ) hy;have:=r1 u hu1;rw[Nat.zero_add]at this;have h1:¬ρ (b.getD (nb - 1) (.none,.none))<rnk ρ a u:=of_decide_eq_false (by unfold bey at this;rw[if_neg Bool.false_ne_true]at this;simpa using this);have h2:=ne _ (aO (a:=a) (i:=u) hu2) _ (aO (a:=b) (i:=nb - 1) (by lia));rw[e];have h2:rnk ρ a u≠ρ (b.getD (nb - 1) (.none,.none)):=h2
      lia
     by_cases hk1':na - k1>0
     ·rw[if_pos hk1'];have mA:Mi (fun x=> - ρ x) (a.toList++b.toList) (oo++(a.extract k1 na).reverse).toList (a.toList.take (k1)).reverse (b.toList.take (nb)).reverse:=by
       rw[Array.toList_append (xs:=oo),Array.toList_reverse];exact(show Mi (fun x=> - ρ x) (a.toList++b.toList) oo.toList ((a.extract k1 na).toList.reverse++(a.toList.take (k1)).reverse) (b.toList.take (nb)).reverse by rw[←kI (by lia) (by lia)];exact hM).goA (fun x hx y hy=>by have:=p1 x hx y hy;show - _< - _;lia)
      by_cases hl:k1=0
      ·rw[if_pos (by simpa using hl)];exact wpS_pure ⟨hs2,.inl ⟨_,_,rfl,doneR mA (.inl hl)⟩⟩
      rw[if_neg (by simpa using hl)];have hM:=mA;have p2:=p2';have hna:0<k1:=by lia
      have hnA:k1<=a.size:=by lia
      refine wpS_bind (aQ (i:=nb - 1) (by lia) ?_)
      try dsimp only
      have mB:=(show Mi (fun x=> - ρ x) (a.toList++b.toList) (oo++(a.extract k1 na).reverse).toList (a.toList.take (k1)).reverse ([b.getD (nb - 1) (.none,.none)]++(b.toList.take (nb - 1)).reverse) by rw[cT (by lia) hnb]at hM;exact hM).goB (fun x hx y hy=>by cases List.mem_singleton.mp hx;have:=p2 y hy;show - _< - _;lia);rw[←Array.toList_push]at mB
      by_cases he:nb - 1=1
      ·rw[if_pos (by simpa using he)];exact wpS_pure ⟨hs2,.inl ⟨_,_,rfl,firstR mB he⟩⟩
      ·rw[if_neg (by simpa using he)];have hnb2:1<nb - 1:=by lia
       refine wpS_bind (aQ (i:=k1 - 1) (by lia) ?_);refine wpS_bind (cP (st:=bE st'' (gg - 1)) (base:=0) (n:=nb - 1) (hint:=nb - 1 - 1) C (show kindOf (bE st'' (gg - 1))=κ from hs1.1.trans hk) (dA _ (aO (by lia))) dB (by lia) (by lia) (gH upB (by lia)) fun k2 hk2 r1 r2=> ?_)
       try dsimp only
       have q1:∀x∈(b.extract k2 (nb - 1)).toList.reverse,∀y∈(a.toList.take (k1)).reverse,ρ y<ρ x:=fun x hx y hy=>by
        obtain⟨u,hu,e⟩:=kN (ρ:=ρ) (List.mem_reverse.mp hx);have:=r2 u (by lia) (by lia);rw[Nat.zero_add]at this;have h1:¬rnk ρ b u<ρ (a.getD (k1 - 1) (.none,.none)):=of_decide_eq_false (by unfold bey at this;rw[if_pos rfl]at this;exact this);have h2:=ne _ (aO (a:=a) (i:=k1 - 1) (by lia)) _ (aO (a:=b) (i:=u) hu.2.2);refine iA upA hna hnA hy ?_;rw[e];have h2:ρ (a.getD (k1 - 1) (.none,.none))≠rnk ρ b u:=h2
        lia
       have q2:∀y∈(b.toList.take (k2)).reverse,ρ y<ρ (a.getD (k1 - 1) (.none,.none)):=fun y hy=>by
        obtain⟨u,hu1,hu2,e⟩:=cQ (ρ:=ρ) hy;have:=r1 u hu1;rw[Nat.zero_add]at this;rw[e];unfold bey at this;rw[if_pos rfl]at this;exact of_decide_eq_true this
       by_cases hk0:nb - 1 - k2>0
       ·rw[if_pos hk0];have mC:Mi (fun x=> - ρ x) (a.toList++b.toList) ((oo++(a.extract k1 na).reverse).push (b.getD (nb - 1) (.none,.none))++(b.extract k2 (nb - 1)).reverse).toList (a.toList.take (k1)).reverse (b.toList.take (k2)).reverse:=by
         rw[Array.toList_append (xs:=(oo++(a.extract k1 na).reverse).push (b.getD (nb - 1) (.none,.none))),Array.toList_reverse];exact(show Mi (fun x=> - ρ x) (a.toList++b.toList) ((oo++(a.extract k1 na).reverse).push (b.getD (nb - 1) (.none,.none))).toList (a.toList.take (k1)).reverse ((b.extract k2 (nb - 1)).toList.reverse++(b.toList.take (k2)).reverse) by rw[←kI (by lia) (by lia)];exact mB).goB (fun x hx y hy=>by have:=q1 x hx y hy;show - _< - _;lia)
        by_cases hz:k2=1
        ·rw[if_pos (by simpa using hz)];exact wpS_pure ⟨hs2,.inl ⟨_,_,rfl,firstR mC hz⟩⟩
        rw[if_neg (by simpa using hz)]
        by_cases hz0:k2=0
        ·rw[if_pos (by simpa using hz0)];exact wpS_pure ⟨hs2,.inl ⟨_,_,rfl,doneR mC (.inr hz0)⟩⟩
        rw[if_neg (by simpa using hz0)];have hn3:1<k2:=by lia
        have hn3':k2<=b.size:=by lia
        refine wpS_bind (aQ (i:=k1 - 1) (by lia) ?_)
        try dsimp only
        have mD:=(show Mi (fun x=> - ρ x) (a.toList++b.toList) (((oo++(a.extract k1 na).reverse).push (b.getD (nb - 1) (.none,.none))++(b.extract k2 (nb - 1)).reverse)).toList ([a.getD (k1 - 1) (.none,.none)]++(a.toList.take (k1 - 1)).reverse) (b.toList.take (k2)).reverse by rw[cT hna hnA]at mC;exact mC).goA (fun x hx y hy=>by cases List.mem_singleton.mp hx;have:=q2 y hy;show - _< - _;lia);rw[←Array.toList_push]at mD
        by_cases hl:k1 - 1=0
        ·rw[if_pos (by simpa using hl)];exact wpS_pure ⟨hs2,.inl ⟨_,_,rfl,doneR mD (.inl hl)⟩⟩
        ·rw[if_neg (by simpa using hl)];have sz:oo.size+1<=((((oo++(a.extract k1 na).reverse).push (b.getD (nb - 1) (.none,.none))++(b.extract k2 (nb - 1)).reverse)).push (a.getD (k1 - 1) (.none,.none))).size:=by simp only[Array.size_push,Array.size_append];lia
         have ip:0<k1 - 1/\k1 - 1<=a.size/\1<k2/\k2<=b.size/\Mi (fun x=> - ρ x) (a.toList++b.toList) ((((oo++(a.extract k1 na).reverse).push (b.getD (nb - 1) (.none,.none))++(b.extract k2 (nb - 1)).reverse)).push (a.getD (k1 - 1) (.none,.none))).toList (a.toList.take (k1 - 1)).reverse (b.toList.take (k2)).reverse:=⟨by lia,by lia,hn3,hn3',mD⟩
         by_cases hg:(decide (na - k1<7)&&decide (nb - 1 - (k2)<7))=true
         ·rw[if_pos hg];exact wpS_pure ⟨hs2,.inr ⟨_,_,_,_,_,_,rfl,by lia,ip⟩⟩
         ·rw[if_neg hg];exact wpS_pure ⟨hs2,_,_,_,_,_,_,rfl,by lia,by lia,ip⟩
       ·rw[if_neg hk0];have hk00:k2=nb - 1:=by lia
        subst hk00;have hn3':nb - 1<=b.size:=by lia
        refine wpS_bind (aQ (i:=k1 - 1) (by lia) ?_)
        try dsimp only
        have mD:=(show Mi (fun x=> - ρ x) (a.toList++b.toList) (((oo++(a.extract k1 na).reverse).push (b.getD (nb - 1) (.none,.none)))).toList ([a.getD (k1 - 1) (.none,.none)]++(a.toList.take (k1 - 1)).reverse) (b.toList.take (nb - 1)).reverse by rw[cT hna hnA]at mB;exact mB).goA (fun x hx y hy=>by cases List.mem_singleton.mp hx;have:=q2 y hy;show - _< - _;lia);rw[←Array.toList_push]at mD
        by_cases hl:k1 - 1=0
        ·rw[if_pos (by simpa using hl)];exact wpS_pure ⟨hs2,.inl ⟨_,_,rfl,doneR mD (.inl hl)⟩⟩
        ·rw[if_neg (by simpa using hl)];have sz:oo.size+1<=((((oo++(a.extract k1 na).reverse).push (b.getD (nb - 1) (.none,.none)))).push (a.getD (k1 - 1) (.none,.none))).size:=by simp only[Array.size_push,Array.size_append];lia
         have ip:0<k1 - 1/\k1 - 1<=a.size/\1<nb - 1/\nb - 1<=b.size/\Mi (fun x=> - ρ x) (a.toList++b.toList) ((((oo++(a.extract k1 na).reverse).push (b.getD (nb - 1) (.none,.none)))).push (a.getD (k1 - 1) (.none,.none))).toList (a.toList.take (k1 - 1)).reverse (b.toList.take (nb - 1)).reverse:=⟨by lia,by lia,hnb2,hn3',mD⟩
         by_cases hg:(decide (na - k1<7)&&decide (nb - 1 - (nb - 1)<7))=true
         ·rw[if_pos hg];exact wpS_pure ⟨hs2,.inr ⟨_,_,_,_,_,_,rfl,by lia,ip⟩⟩
         ·rw[if_neg hg];exact wpS_pure ⟨hs2,_,_,_,_,_,_,rfl,by lia,by lia,ip⟩
     ·rw[if_neg hk1'];have hk10:k1=na:=by lia
      subst hk10;have p2:=p2';refine wpS_bind (aQ (i:=nb - 1) (by lia) ?_)
      try dsimp only
      have mB:=(show Mi (fun x=> - ρ x) (a.toList++b.toList) (oo).toList (a.toList.take (k1)).reverse ([b.getD (nb - 1) (.none,.none)]++(b.toList.take (nb - 1)).reverse) by rw[cT (by lia) hnb]at hM;exact hM).goB (fun x hx y hy=>by cases List.mem_singleton.mp hx;have:=p2 y hy;show - _< - _;lia);rw[←Array.toList_push]at mB
      by_cases he:nb - 1=1
      ·rw[if_pos (by simpa using he)];exact wpS_pure ⟨hs2,.inl ⟨_,_,rfl,firstR mB he⟩⟩
      ·rw[if_neg (by simpa using he)];have hnb2:1<nb - 1:=by lia
       refine wpS_bind (aQ (i:=k1 - 1) (by lia) ?_);refine wpS_bind (cP (st:=bE st'' (gg - 1)) (base:=0) (n:=nb - 1) (hint:=nb - 1 - 1) C (show kindOf (bE st'' (gg - 1))=κ from hs1.1.trans hk) (dA _ (aO (by lia))) dB (by lia) (by lia) (gH upB (by lia)) fun k2 hk2 r1 r2=> ?_)
       try dsimp only
       have q1:∀x∈(b.extract k2 (nb - 1)).toList.reverse,∀y∈(a.toList.take (k1)).reverse,ρ y<ρ x:=fun x hx y hy=>by
        obtain⟨u,hu,e⟩:=kN (ρ:=ρ) (List.mem_reverse.mp hx);have:=r2 u (by lia) (by lia);rw[Nat.zero_add]at this;have h1:¬rnk ρ b u<ρ (a.getD (k1 - 1) (.none,.none)):=of_decide_eq_false (by unfold bey at this;rw[if_pos rfl]at this;exact this);have h2:=ne _ (aO (a:=a) (i:=k1 - 1) (by lia)) _ (aO (a:=b) (i:=u) hu.2.2);refine iA upA hna hnA hy ?_;rw[e];have h2:ρ (a.getD (k1 - 1) (.none,.none))≠rnk ρ b u:=h2
        lia
       have q2:∀y∈(b.toList.take (k2)).reverse,ρ y<ρ (a.getD (k1 - 1) (.none,.none)):=fun y hy=>by
        obtain⟨u,hu1,hu2,e⟩:=cQ (ρ:=ρ) hy;have:=r1 u hu1;rw[Nat.zero_add]at this;rw[e];unfold bey at this;rw[if_pos rfl]at this;exact of_decide_eq_true this
       by_cases hk0:nb - 1 - k2>0
       ·rw[if_pos hk0];have mC:Mi (fun x=> - ρ x) (a.toList++b.toList) ((oo).push (b.getD (nb - 1) (.none,.none))++(b.extract k2 (nb - 1)).reverse).toList (a.toList.take (k1)).reverse (b.toList.take (k2)).reverse:=by
         rw[Array.toList_append (xs:=(oo).push (b.getD (nb - 1) (.none,.none))),Array.toList_reverse];exact(show Mi (fun x=> - ρ x) (a.toList++b.toList) ((oo).push (b.getD (nb - 1) (.none,.none))).toList (a.toList.take (k1)).reverse ((b.extract k2 (nb - 1)).toList.reverse++(b.toList.take (k2)).reverse) by rw[←kI (by lia) (by lia)];exact mB).goB (fun x hx y hy=>by have:=q1 x hx y hy;show - _< - _;lia)
        by_cases hz:k2=1
        ·rw[if_pos (by simpa using hz)];exact wpS_pure ⟨hs2,.inl ⟨_,_,rfl,firstR mC hz⟩⟩
        rw[if_neg (by simpa using hz)]
        by_cases hz0:k2=0
        ·rw[if_pos (by simpa using hz0)];exact wpS_pure ⟨hs2,.inl ⟨_,_,rfl,doneR mC (.inr hz0)⟩⟩
        rw[if_neg (by simpa using hz0)];have hn3:1<k2:=by lia
        have hn3':k2<=b.size:=by lia
        refine wpS_bind (aQ (i:=k1 - 1) (by lia) ?_)
        try dsimp only
        have mD:=(show Mi (fun x=> - ρ x) (a.toList++b.toList) (((oo).push (b.getD (nb - 1) (.none,.none))++(b.extract k2 (nb - 1)).reverse)).toList ([a.getD (k1 - 1) (.none,.none)]++(a.toList.take (k1 - 1)).reverse) (b.toList.take (k2)).reverse by rw[cT hna hnA]at mC;exact mC).goA (fun x hx y hy=>by cases List.mem_singleton.mp hx;have:=q2 y hy;show - _< - _;lia);rw[←Array.toList_push]at mD
        by_cases hl:k1 - 1=0
        ·rw[if_pos (by simpa using hl)];exact wpS_pure ⟨hs2,.inl ⟨_,_,rfl,doneR mD (.inl hl)⟩⟩
        ·rw[if_neg (by simpa using hl)];have sz:oo.size+1<=((((oo).push (b.getD (nb - 1) (.none,.none))++(b.extract k2 (nb - 1)).reverse)).push (a.getD (k1 - 1) (.none,.none))).size:=by simp only[Array.size_push,Array.size_append];lia
         have ip:0<k1 - 1/\k1 - 1<=a.size/\1<k2/\k2<=b.size/\Mi (fun x=> - ρ x) (a.toList++b.toList) ((((oo).push (b.getD (nb - 1) (.none,.none))++(b.extract k2 (nb - 1)).reverse)).push (a.getD (k1 - 1) (.none,.none))).toList (a.toList.take (k1 - 1)).reverse (b.toList.take (k2)).reverse:=⟨by lia,by lia,hn3,hn3',mD⟩
         by_cases hg:(decide (k1 - k1<7)&&decide (nb - 1 - (k2)<7))=true
         ·rw[if_pos hg];exact wpS_pure ⟨hs2,.inr ⟨_,_,_,_,_,_,rfl,by lia,ip⟩⟩
         ·rw[if_neg hg];exact wpS_pure ⟨hs2,_,_,_,_,_,_,rfl,by lia,by lia,ip⟩
       ·rw[if_neg hk0];have hk00:k2=nb - 1:=by lia
        subst hk00;have hn3':nb - 1<=b.size:=by lia
        refine wpS_bind (aQ (i:=k1 - 1) (by lia) ?_)
        try dsimp only
        have mD:=(show Mi (fun x=> - ρ x) (a.toList++b.toList) (((oo).push (b.getD (nb - 1) (.none,.none)))).toList ([a.getD (k1 - 1) (.none,.none)]++(a.toList.take (k1 - 1)).reverse) (b.toList.take (nb - 1)).reverse by rw[cT hna hnA]at mB;exact mB).goA (fun x hx y hy=>by cases List.mem_singleton.mp hx;have:=q2 y hy;show - _< - _;lia);rw[←Array.toList_push]at mD
        by_cases hl:k1 - 1=0
        ·rw[if_pos (by simpa using hl)];exact wpS_pure ⟨hs2,.inl ⟨_,_,rfl,doneR mD (.inl hl)⟩⟩
        ·rw[if_neg (by simpa using hl)];have sz:oo.size+1<=((((oo).push (b.getD (nb - 1) (.none,.none)))).push (a.getD (k1 - 1) (.none,.none))).size:=by simp only[Array.size_push,Array.size_append];lia
         have ip:0<k1 - 1/\k1 - 1<=a.size/\1<nb - 1/\nb - 1<=b.size/\Mi (fun x=> - ρ x) (a.toList++b.toList) ((((oo).push (b.getD (nb - 1) (.none,.none)))).push (a.getD (k1 - 1) (.none,.none))).toList (a.toList.take (k1 - 1)).reverse (b.toList.take (nb - 1)).reverse:=⟨by lia,by lia,hnb2,hn3',mD⟩
         by_cases hg:(decide (k1 - k1<7)&&decide (nb - 1 - (nb - 1)<7))=true
         ·rw[if_pos hg];exact wpS_pure ⟨hs2,.inr ⟨_,_,_,_,_,_,rfl,by lia,ip⟩⟩
         ·rw[if_neg hg];exact wpS_pure ⟨hs2,_,_,_,_,_,_,rfl,by lia,by lia,ip⟩
    ·rw[if_neg hgg]
     try dsimp only
     refine wpS_bind (wpS_modify ?_);have hs2:SameSt st (bE st'' (gg)):=hs1;refine wpS_bind (aQ (i:=nb - 1) (by lia) ?_);refine wpS_bind (cP (st:=bE st'' (gg)) (base:=0) (n:=na) (hint:=na - 1) C (show kindOf (bE st'' (gg))=κ from hs1.1.trans hk) (dB _ (aO (by lia))) dA (by lia) (by lia) (gH upA (by lia)) fun k1 hk1 r1 r2=> ?_)
     try dsimp only
     have p1:∀x∈(a.extract k1 na).toList.reverse,∀y∈(b.toList.take (nb)).reverse,ρ y<ρ x:=fun x hx y hy=>by
      obtain⟨u,hu,e⟩:=kN (ρ:=ρ) (List.mem_reverse.mp hx);have:=r2 u (by lia) (by lia);rw[Nat.zero_add]at this;refine iA upB (by lia) hnb hy ?_;rw[e];unfold bey at this;rw[if_neg Bool.false_ne_true]at this
      simpa using this
     have p2':∀y∈(a.toList.take (k1)).reverse,ρ y<ρ (b.getD (nb - 1) (.none,.none)):=fun y hy=>by
      obtain⟨u,hu1,hu2,e⟩:=cQ (ρ:=ρ) hy;have:=r1 u hu1;rw[Nat.zero_add]at this;have h1:¬ρ (b.getD (nb - 1) (.none,.none))<rnk ρ a u:=of_decide_eq_false (by unfold bey at this;rw[if_neg Bool.false_ne_true]at this;simpa using this);have h2:=ne _ (aO (a:=a) (i:=u) hu2) _ (aO (a:=b) (i:=nb - 1) (by lia));rw[e];have h2:rnk ρ a u≠ρ (b.getD (nb - 1) (.none,.none)):=h2
      lia
     by_cases hk1':na - k1>0
     ·rw[if_pos hk1'];have mA:Mi (fun x=> - ρ x) (a.toList++b.toList) (oo++(a.extract k1 na).reverse).toList (a.toList.take (k1)).reverse (b.toList.take (nb)).reverse:=by
       rw[Array.toList_append (xs:=oo),Array.toList_reverse];exact(show Mi (fun x=> - ρ x) (a.toList++b.toList) oo.toList ((a.extract k1 na).toList.reverse++(a.toList.take (k1)).reverse) (b.toList.take (nb)).reverse by rw[←kI (by lia) (by lia)];exact hM).goA (fun x hx y hy=>by have:=p1 x hx y hy;show - _< - _;lia)
      by_cases hl:k1=0
      ·rw[if_pos (by simpa using hl)];exact wpS_pure ⟨hs2,.inl ⟨_,_,rfl,doneR mA (.inl hl)⟩⟩
      rw[if_neg (by simpa using hl)];have hM:=mA;have p2:=p2';have hna:0<k1:=by lia
      have hnA:k1<=a.size:=by lia
      refine wpS_bind (aQ (i:=nb - 1) (by lia) ?_)
      try dsimp only
      have mB:=(show Mi (fun x=> - ρ x) (a.toList++b.toList) (oo++(a.extract k1 na).reverse).toList (a.toList.take (k1)).reverse ([b.getD (nb - 1) (.none,.none)]++(b.toList.take (nb - 1)).reverse) by rw[cT (by lia) hnb]at hM;exact hM).goB (fun x hx y hy=>by cases List.mem_singleton.mp hx;have:=p2 y hy;show - _< - _;lia);rw[←Array.toList_push]at mB
      by_cases he:nb - 1=1
      ·rw[if_pos (by simpa using he)];exact wpS_pure ⟨hs2,.inl ⟨_,_,rfl,firstR mB he⟩⟩
      ·rw[if_neg (by simpa using he)];have hnb2:1<nb - 1:=by lia
       refine wpS_bind (aQ (i:=k1 - 1) (by lia) ?_);refine wpS_bind (cP (st:=bE st'' (gg)) (base:=0) (n:=nb - 1) (hint:=nb - 1 - 1) C (show kindOf (bE st'' (gg))=κ from hs1.1.trans hk) (dA _ (aO (by lia))) dB (by lia) (by lia) (gH upB (by lia)) fun k2 hk2 r1 r2=> ?_)
       try dsimp only
       have q1:∀x∈(b.extract k2 (nb - 1)).toList.reverse,∀y∈(a.toList.take (k1)).reverse,ρ y<ρ x:=fun x hx y hy=>by
        obtain⟨u,hu,e⟩:=kN (ρ:=ρ) (List.mem_reverse.mp hx);have:=r2 u (by lia) (by lia);rw[Nat.zero_add]at this;have h1:¬rnk ρ b u<ρ (a.getD (k1 - 1) (.none,.none)):=of_decide_eq_false (by unfold bey at this;rw[if_pos rfl]at this;exact this);have h2:=ne _ (aO (a:=a) (i:=k1 - 1) (by lia)) _ (aO (a:=b) (i:=u) hu.2.2);refine iA upA hna hnA hy ?_;rw[e];have h2:ρ (a.getD (k1 - 1) (.none,.none))≠rnk ρ b u:=h2
        lia
       have q2:∀y∈(b.toList.take (k2)).reverse,ρ y<ρ (a.getD (k1 - 1) (.none,.none)):=fun y hy=>by
        obtain⟨u,hu1,hu2,e⟩:=cQ (ρ:=ρ) hy;have:=r1 u hu1;rw[Nat.zero_add]at this;rw[e];unfold bey at this;rw[if_pos rfl]at this;exact of_decide_eq_true this
       by_cases hk0:nb - 1 - k2>0
       ·rw[if_pos hk0];have mC:Mi (fun x=> - ρ x) (a.toList++b.toList) ((oo++(a.extract k1 na).reverse).push (b.getD (nb - 1) (.none,.none))++(b.extract k2 (nb - 1)).reverse).toList (a.toList.take (k1)).reverse (b.toList.take (k2)).reverse:=by
         rw[Array.toList_append (xs:=(oo++(a.extract k1 na).reverse).push (b.getD (nb - 1) (.none,.none))),Array.toList_reverse];exact(show Mi (fun x=> - ρ x) (a.toList++b.toList) ((oo++(a.extract k1 na).reverse).push (b.getD (nb - 1) (.none,.none))).toList (a.toList.take (k1)).reverse ((b.extract k2 (nb - 1)).toList.reverse++(b.toList.take (k2)).reverse) by rw[←kI (by lia) (by lia)];exact mB).goB (fun x hx y hy=>by have:=q1 x hx y hy;show - _< - _;lia)
        by_cases hz:k2=1
        ·rw[if_pos (by simpa using hz)];exact wpS_pure ⟨hs2,.inl ⟨_,_,rfl,firstR mC hz⟩⟩
        rw[if_neg (by simpa using hz)]
        by_cases hz0:k2=0
        ·rw[if_pos (by simpa using hz0)];exact wpS_pure ⟨hs2,.inl ⟨_,_,rfl,doneR mC (.inr hz0)⟩⟩
        rw[if_neg (by simpa using hz0)];have hn3:1<k2:=by lia
        have hn3':k2<=b.size:=by lia
        refine wpS_bind (aQ (i:=k1 - 1) (by lia) ?_)
        try dsimp only
        have mD:=(show Mi (fun x=> - ρ x) (a.toList++b.toList) (((oo++(a.extract k1 na).reverse).push (b.getD (nb - 1) (.none,.none))++(b.extract k2 (nb - 1)).reverse)).toList ([a.getD (k1 - 1) (.none,.none)]++(a.toList.take (k1 - 1)).reverse) (b.toList.take (k2)).reverse by rw[cT hna hnA]at mC;exact mC).goA (fun x hx y hy=>by cases List.mem_singleton.mp hx;have:=q2 y hy;show - _< - _;lia);rw[←Array.toList_push]at mD
        by_cases hl:k1 - 1=0
        ·rw[if_pos (by simpa using hl)];exact wpS_pure ⟨hs2,.inl ⟨_,_,rfl,doneR mD (.inl hl)⟩⟩
        ·rw[if_neg (by simpa using hl)];have sz:oo.size+1<=((((oo++(a.extract k1 na).reverse).push (b.getD (nb - 1) (.none,.none))++(b.extract k2 (nb - 1)).reverse)).push (a.getD (k1 - 1) (.none,.none))).size:=by simp only[Array.size_push,Array.size_append];lia
         have ip:0<k1 - 1/\k1 - 1<=a.size/\1<k2/\k2<=b.size/\Mi (fun x=> - ρ x) (a.toList++b.toList) ((((oo++(a.extract k1 na).reverse).push (b.getD (nb - 1) (.none,.none))++(b.extract k2 (nb - 1)).reverse)).push (a.getD (k1 - 1) (.none,.none))).toList (a.toList.take (k1 - 1)).reverse (b.toList.take (k2)).reverse:=⟨by lia,by lia,hn3,hn3',mD⟩
         by_cases hg:(decide (na - k1<7)&&decide (nb - 1 - (k2)<7))=true
         ·rw[if_pos hg];exact wpS_pure ⟨hs2,.inr ⟨_,_,_,_,_,_,rfl,by lia,ip⟩⟩
         ·rw[if_neg hg];exact wpS_pure ⟨hs2,_,_,_,_,_,_,rfl,by lia,by lia,ip⟩
       ·rw[if_neg hk0];have hk00:k2=nb - 1:=by lia
        subst hk00;have hn3':nb - 1<=b.size:=by lia
        refine wpS_bind (aQ (i:=k1 - 1) (by lia) ?_)
        try dsimp only
        have mD:=(show Mi (fun x=> - ρ x) (a.toList++b.toList) (((oo++(a.extract k1 na).reverse).push (b.getD (nb - 1) (.none,.none)))).toList ([a.getD (k1 - 1) (.none,.none)]++(a.toList.take (k1 - 1)).reverse) (b.toList.take (nb - 1)).reverse by rw[cT hna hnA]at mB;exact mB).goA (fun x hx y hy=>by cases List.mem_singleton.mp hx;have:=q2 y hy;show - _< - _;lia);rw[←Array.toList_push]at mD
        by_cases hl:k1 - 1=0
        ·rw[if_pos (by simpa using hl)];exact wpS_pure ⟨hs2,.inl ⟨_,_,rfl,doneR mD (.inl hl)⟩⟩
        ·rw[if_neg (by simpa using hl)];have sz:oo.size+1<=((((oo++(a.extract k1 na).reverse).push (b.getD (nb - 1) (.none,.none)))).push (a.getD (k1 - 1) (.none,.none))).size:=by simp only[Array.size_push,Array.size_append];lia
         have ip:0<k1 - 1/\k1 - 1<=a.size/\1<nb - 1/\nb - 1<=b.size/\Mi (fun x=> - ρ x) (a.toList++b.toList) ((((oo++(a.extract k1 na).reverse).push (b.getD (nb - 1) (.none,.none)))).push (a.getD (k1 - 1) (.none,.none))).toList (a.toList.take (k1 - 1)).reverse (b.toList.take (nb - 1)).reverse:=⟨by lia,by lia,hnb2,hn3',mD⟩
         by_cases hg:(decide (na - k1<7)&&decide (nb - 1 - (nb - 1)<7))=true
         ·rw[if_pos hg];exact wpS_pure ⟨hs2,.inr ⟨_,_,_,_,_,_,rfl,by lia,ip⟩⟩
         ·rw[if_neg hg];exact wpS_pure ⟨hs2,_,_,_,_,_,_,rfl,by lia,by lia,ip⟩
     ·rw[if_neg hk1'];have hk10:k1=na:=by lia
      subst hk10;have p2:=p2';refine wpS_bind (aQ (i:=nb - 1) (by lia) ?_)
      try dsimp only
      have mB:=(show Mi (fun x=> - ρ x) (a.toList++b.toList) (oo).toList (a.toList.take (k1)).reverse ([b.getD (nb - 1) (.none,.none)]++(b.toList.take (nb - 1)).reverse) by rw[cT (by lia) hnb]at hM;exact hM).goB (fun x hx y hy=>by cases List.mem_singleton.mp hx;have:=p2 y hy;show - _< - _;lia);rw[←Array.toList_push]at mB
      by_cases he:nb - 1=1
      ·rw[if_pos (by simpa using he)];exact wpS_pure ⟨hs2,.inl ⟨_,_,rfl,firstR mB he⟩⟩
      ·rw[if_neg (by simpa using he)];have hnb2:1<nb - 1:=by lia
       refine wpS_bind (aQ (i:=k1 - 1) (by lia) ?_);refine wpS_bind (cP (st:=bE st'' (gg)) (base:=0) (n:=nb - 1) (hint:=nb - 1 - 1) C (show kindOf (bE st'' (gg))=κ from hs1.1.trans hk) (dA _ (aO (by lia))) dB (by lia) (by lia) (gH upB (by lia)) fun k2 hk2 r1 r2=> ?_)
       try dsimp only
       have q1:∀x∈(b.extract k2 (nb - 1)).toList.reverse,∀y∈(a.toList.take (k1)).reverse,ρ y<ρ x:=fun x hx y hy=>by
        obtain⟨u,hu,e⟩:=kN (ρ:=ρ) (List.mem_reverse.mp hx);have:=r2 u (by lia) (by lia);rw[Nat.zero_add]at this;have h1:¬rnk ρ b u<ρ (a.getD (k1 - 1) (.none,.none)):=of_decide_eq_false (by unfold bey at this;rw[if_pos rfl]at this;exact this);have h2:=ne _ (aO (a:=a) (i:=k1 - 1) (by lia)) _ (aO (a:=b) (i:=u) hu.2.2);refine iA upA hna hnA hy ?_;rw[e];have h2:ρ (a.getD (k1 - 1) (.none,.none))≠rnk ρ b u:=h2
        lia
       have q2:∀y∈(b.toList.take (k2)).reverse,ρ y<ρ (a.getD (k1 - 1) (.none,.none)):=fun y hy=>by
        obtain⟨u,hu1,hu2,e⟩:=cQ (ρ:=ρ) hy;have:=r1 u hu1;rw[Nat.zero_add]at this;rw[e];unfold bey at this;rw[if_pos rfl]at this;exact of_decide_eq_true this
       by_cases hk0:nb - 1 - k2>0
       ·rw[if_pos hk0];have mC:Mi (fun x=> - ρ x) (a.toList++b.toList) ((oo).push (b.getD (nb - 1) (.none,.none))++(b.extract k2 (nb - 1)).reverse).toList (a.toList.take (k1)).reverse (b.toList.take (k2)).reverse:=by
         rw[Array.toList_append (xs:=(oo).push (b.getD (nb - 1) (.none,.none))),Array.toList_reverse];exact(show Mi (fun x=> - ρ x) (a.toList++b.toList) ((oo).push (b.getD (nb - 1) (.none,.none))).toList (a.toList.take (k1)).reverse ((b.extract k2 (nb - 1)).toList.reverse++(b.toList.take (k2)).reverse) by rw[←kI (by lia) (by lia)];exact mB).goB (fun x hx y hy=>by have:=q1 x hx y hy;show - _< - _;lia)
        by_cases hz:k2=1
        ·rw[if_pos (by simpa using hz)];exact wpS_pure ⟨hs2,.inl ⟨_,_,rfl,firstR mC hz⟩⟩
        rw[if_neg (by simpa using hz)]
        by_cases hz0:k2=0
        ·rw[if_pos (by simpa using hz0)];exact wpS_pure ⟨hs2,.inl ⟨_,_,rfl,doneR mC (.inr hz0)⟩⟩
        rw[if_neg (by simpa using hz0)];have hn3:1<k2:=by lia
        have hn3':k2<=b.size:=by lia
        refine wpS_bind (aQ (i:=k1 - 1) (by lia) ?_)
        try dsimp only
        have mD:=(show Mi (fun x=> - ρ x) (a.toList++b.toList) (((oo).push (b.getD (nb - 1) (.none,.none))++(b.extract k2 (nb - 1)).reverse)).toList ([a.getD (k1 - 1) (.none,.none)]++(a.toList.take (k1 - 1)).reverse) (b.toList.take (k2)).reverse by rw[cT hna hnA]at mC;exact mC).goA (fun x hx y hy=>by cases List.mem_singleton.mp hx;have:=q2 y hy;show - _< - _;lia);rw[←Array.toList_push]at mD
        by_cases hl:k1 - 1=0
        ·rw[if_pos (by simpa using hl)];exact wpS_pure ⟨hs2,.inl ⟨_,_,rfl,doneR mD (.inl hl)⟩⟩
        ·rw[if_neg (by simpa using hl)];have sz:oo.size+1<=((((oo).push (b.getD (nb - 1) (.none,.none))++(b.extract k2 (nb - 1)).reverse)).push (a.getD (k1 - 1) (.none,.none))).size:=by simp only[Array.size_push,Array.size_append];lia
         have ip:0<k1 - 1/\k1 - 1<=a.size/\1<k2/\k2<=b.size/\Mi (fun x=> - ρ x) (a.toList++b.toList) ((((oo).push (b.getD (nb - 1) (.none,.none))++(b.extract k2 (nb - 1)).reverse)).push (a.getD (k1 - 1) (.none,.none))).toList (a.toList.take (k1 - 1)).reverse (b.toList.take (k2)).reverse:=⟨by lia,by lia,hn3,hn3',mD⟩
         by_cases hg:(decide (k1 - k1<7)&&decide (nb - 1 - (k2)<7))=true
         ·rw[if_pos hg];exact wpS_pure ⟨hs2,.inr ⟨_,_,_,_,_,_,rfl,by lia,ip⟩⟩
         ·rw[if_neg hg];exact wpS_pure ⟨hs2,_,_,_,_,_,_,rfl,by lia,by lia,ip⟩
       ·rw[if_neg hk0];have hk00:k2=nb - 1:=by lia
        subst hk00;have hn3':nb - 1<=b.size:=by lia
        refine wpS_bind (aQ (i:=k1 - 1) (by lia) ?_)
        try dsimp only
        have mD:=(show Mi (fun x=> - ρ x) (a.toList++b.toList) (((oo).push (b.getD (nb - 1) (.none,.none)))).toList ([a.getD (k1 - 1) (.none,.none)]++(a.toList.take (k1 - 1)).reverse) (b.toList.take (nb - 1)).reverse by rw[cT hna hnA]at mB;exact mB).goA (fun x hx y hy=>by cases List.mem_singleton.mp hx;have:=q2 y hy;show - _< - _;lia);rw[←Array.toList_push]at mD
        by_cases hl:k1 - 1=0
        ·rw[if_pos (by simpa using hl)];exact wpS_pure ⟨hs2,.inl ⟨_,_,rfl,doneR mD (.inl hl)⟩⟩
        ·rw[if_neg (by simpa using hl)];have sz:oo.size+1<=((((oo).push (b.getD (nb - 1) (.none,.none)))).push (a.getD (k1 - 1) (.none,.none))).size:=by simp only[Array.size_push,Array.size_append];lia
         have ip:0<k1 - 1/\k1 - 1<=a.size/\1<nb - 1/\nb - 1<=b.size/\Mi (fun x=> - ρ x) (a.toList++b.toList) ((((oo).push (b.getD (nb - 1) (.none,.none)))).push (a.getD (k1 - 1) (.none,.none))).toList (a.toList.take (k1 - 1)).reverse (b.toList.take (nb - 1)).reverse:=⟨by lia,by lia,hnb2,hn3',mD⟩
         by_cases hg:(decide (k1 - k1<7)&&decide (nb - 1 - (nb - 1)<7))=true
         ·rw[if_pos hg];exact wpS_pure ⟨hs2,.inr ⟨_,_,_,_,_,_,rfl,by lia,ip⟩⟩
         ·rw[if_neg hg];exact wpS_pure ⟨hs2,_,_,_,_,_,_,rfl,by lia,by lia,ip⟩
   ·rintro c st'' ⟨hs1,na,nb,oo,gg,ac,bc,rfl,hx2,hy2,hna,hnA,hnb1,hnb,hM⟩;have:=leq hM hna hnA (by lia) hnb
    lia
   ·rintro c st'' ⟨hs1,⟨r,rest,rfl,hr⟩|⟨na,nb,oo,gg,ac,bc,rfl,ho,ip⟩⟩
    ·try dsimp only
     exact wpS_pure ⟨hs1,_,_,rfl,hr⟩
    ·try dsimp only
     refine wpS_bind (wpS_modify (wpS_pure ⟨hs1,_,_,_,_,rfl,ho,ip⟩))
 ·rintro c st' ⟨hs,n,m,o,g,rfl,hx1,hna,hnA,hnb1,hnb,hm⟩;have:=leq hm hna hnA (by lia) hnb
  lia
 ·rintro c st' ⟨hs,r,rest,rfl,hr⟩
  try dsimp only
  exact wpS_pure (hQ _ _ hs hr.1 hr.2)
end
end L2
namespace L2
open PySem PySem.W PyProof.Rows
section
variable {prog:Program}{w:World}{A:Around}{E:Value->Shared->Prop}{s:Shared}{κ:SortKind}{D:Keyed->Prop}{ρ:Keyed->Int}{st:SortSt}
theorem g6 {a:Array Keyed}{X Y Z:List Keyed} (e:a.toList=X++Y++Z) {i:Nat} (hi:i<Y.length):rnk ρ a (X.length+i)=ρ Y[i]:=by
 have hl:X.length+i<a.size:=by rw[←Array.length_toList,e,List.length_append,List.length_append];lia
 unfold rnk;have h1:a.getD (X.length+i) (.none,.none)=a.toList[X.length+i]'(by rw[Array.length_toList];exact hl):=by simp[Array.getD,hl]
 rw[h1]
 congr 1
 simp only[e];rw[List.getElem_append_left (by rw[List.length_append];lia),List.getElem_append_right (by lia)];simp
theorem DT {a:Array Keyed}{X Y Z:List Keyed} (e:a.toList=X++Y++Z) (h:bZ ρ Y):Up ρ a X.length (X.length+Y.length):=fun i j h1 h2 h3=>by
 obtain⟨u,rfl⟩:∃u,i=X.length+u:=⟨i - X.length,by lia⟩
 obtain⟨v,rfl⟩:∃v,j=X.length+v:=⟨j - X.length,by lia⟩
 rw[g6 e (by lia),g6 e (by lia)];exact(List.pairwise_iff_getElem.mp h) u v (by lia) (by lia) (by lia)
theorem MT {a:Array Keyed}(h:bZ ρ a.toList):Up ρ a 0 a.size:=by
 have:=DT (ρ:=ρ) (a:=a) (X:=[]) (Y:=a.toList) (Z:=[]) (by simp) h
 simpa using this
theorem HF {a:Array Keyed}{X Y Z:List Keyed} (e:a.toList=X++Y++Z) {i j:Nat} (hi:i=X.length) (hj:j=X.length+Y.length):(a.extract i j).toList=Y:=by
 subst hi hj;rw[Array.toList_extract,List.extract_eq_drop_take,e,Nat.add_sub_cancel_left,List.append_assoc,List.drop_left,List.take_left]
theorem EU {b0:Nat}:∀(m:List Keyed) (k:Nat) (a:Array Keyed) (X Y Z:List Keyed),a.toList=X++Y++Z->Y.length=m.length->X.length=b0+k->((m.zipIdx k).foldl (fun (a:Array Keyed) x=>match x with|(p,j)=>a.setIfInBounds (b0+j) p) a).toList=X++m++Z
 | [],k,a,X,Y,Z,e,h,_=>by
  have:Y=[]:=List.length_eq_zero_iff.mp h;subst this;exact e
 | p::m,k,a,X,Y,Z,e,h,hx=>by
  cases Y with
  | nil=>cases h
  | cons y Y =>
   have h':Y.length=m.length:=Nat.succ.inj h;rw[List.zipIdx_cons,List.foldl_cons];have:=EU (b0:=b0) m (k+1) (a.setIfInBounds (b0+k) p) (X++[p]) Y Z ?_ h' (by rw[List.length_append];show _+1=_;lia)
   ·rw[List.append_assoc X [p] m]at this;exact this
   ·rw[Array.toList_setIfInBounds,e,←hx,List.append_assoc,List.set_append_right _ _ (Nat.le_refl _),Nat.sub_self];show X++(p::(Y++Z))=_;simp
theorem V9 {x:SortSt}{Q:PUnit->SortSt->Prop} (h:Q ⟨⟩ x):wpS (model prog w) A E s (set x:StateT SortSt Sem PUnit) Q st:=by
 unfold wpS;rw[StateT.run_set];exact wpAny_pure ⟨rfl,h⟩
theorem z6 {a:Array Keyed}{X Y Z:List Keyed} (e:a.toList=X++Y++Z) {i:Nat} (hi:i<Y.length):a.getD (X.length+i) (.none,.none)=Y[i]:=by
 have hl:X.length+i<a.size:=by rw[←Array.length_toList,e,List.length_append,List.length_append];lia
 have h1:a.getD (X.length+i) (.none,.none)=a.toList[X.length+i]'(by rw[Array.length_toList];exact hl):=by simp[Array.getD,hl]
 rw[h1];simp only[e];rw[List.getElem_append_left (by rw[List.length_append];lia),List.getElem_append_right (by lia)];simp
theorem Y1 (C:l8 prog w A E s κ D ρ)(hk:kindOf st=κ){X L R Z:List Keyed}{i pw pw2:Nat}{Q:Bool->SortSt->Prop} (ha:(arrOf st).toList=X++L++R++Z) (hL:L≠[]) (hR:R≠[]) (rL:bZ ρ L) (rR:bZ ρ R) (dis:∀x∈L,∀y∈R,ρ x≠ρ y) (dD:∀x∈(arrOf st).toList,D x)
  (hp1:(pendingOf st)[i]? =some (X.length,L.length,pw))(hp2:(pendingOf st)[i+1]? =some (X.length+L.length,R.length,pw2))(hf:failedOf st=none)
  (h:∀(st':SortSt) (M:List Keyed),kindOf st'=κ->failedOf st'=none->pendingOf st'=((pendingOf st).setIfInBounds i (X.length,L.length+R.length,pw)).eraseIdxIfInBounds (i+1)->(arrOf st').toList=X++M++Z->bZ ρ M->M.Perm (L++R)->Q true st') :
  wpS (model prog w) A E s (mergeAt' i) Q st:=by
 have lL:0<L.length:=List.length_pos_iff.mpr hL;have lR:0<R.length:=List.length_pos_iff.mpr hR;have hsz:(arrOf st).size=X.length+L.length+R.length+Z.length:=by rw[←Array.length_toList,ha];simp only[List.length_append]
 have e1:(arrOf st).toList=X++L++(R++Z):=by rw[ha,List.append_assoc (X++L)]
 have e2:(arrOf st).toList=(X++L)++R++Z:=ha;have upL:=DT e1 rL;have upR:=DT e2 rR;rw[List.length_append]at upR;unfold mergeAt';refine wpS_bind (wpS_get ?_);rw[hp1,hp2]
 try dsimp only
 generalize hst1:setPending st (((pendingOf st).setIfInBounds i (X.length,L.length+R.length,pw)).eraseIdxIfInBounds (i+1))=st1;have k1:kindOf st1=κ:=by rw[←hst1];exact hk
 have a1:arrOf st1=arrOf st:=by rw[←hst1]
 have p1:pendingOf st1=((pendingOf st).setIfInBounds i (X.length,L.length+R.length,pw)).eraseIdxIfInBounds (i+1):=by rw[←hst1]
 have f1:failedOf st1=none:=by rw[←hst1];exact hf
 refine wpS_bind (V9 ?_);show wpS _ _ _ _ _ _ (setPending st (((pendingOf st).setIfInBounds i (X.length,L.length+R.length,pw)).eraseIdxIfInBounds (i+1)));rw[hst1];have gR0:(arrOf st).getD (X.length+L.length) (.none,.none)=R[0]:=by
  have:=z6 e2 (i:=0) lR
  rwa [List.length_append]at this
 refine wpS_bind (aQ (a:=arrOf st) (show _<(arrOf st).size by lia) ?_);refine wpS_bind (cP (st:=st1) (hint:=0) C k1 (dD _ (aO (by lia))) dD (by lia) lL upL fun k hkL r1 r2=> ?_)
 try dsimp only
 rw[gR0]at r1 r2;have le0:∀(u:Nat) (hu:u<k),ρ (L[u]'(by lia))<ρ R[0]:=fun u hu=>by
  have:=r1 u hu;unfold bey at this;rw[if_neg Bool.false_ne_true,g6 e1 (by lia)]at this;have h1:¬ρ R[0]<ρ (L[u]'(by lia)):=of_decide_eq_false (by simpa using this);have h2:=dis _ (List.getElem_mem (show u<L.length by lia)) _ (List.getElem_mem lR)
  lia
 have ge0:∀(u:Nat) (h1:k<=u) (hu:u<L.length),ρ R[0]<ρ L[u]:=fun u h1 hu=>by
  have:=r2 u h1 hu;unfold bey at this;rw[if_neg Bool.false_ne_true,g6 e1 hu]at this
  simpa using this
 have head_le:∀y∈R,ρ R[0]<=ρ y:=fun y hy=>by
  obtain⟨v,hv,rfl⟩:=List.getElem_of_mem hy;rcases Nat.eq_zero_or_pos v with hz|hz
  ·subst hz;exact Int.le_refl _
  ·have:=(List.pairwise_iff_getElem.mp rR) 0 v lR hv hz
   lia
 have rise_LR:(∀x∈L,ρ x<ρ R[0])->bZ ρ (L++R):=fun hx=>List.pairwise_append.mpr ⟨rL,rR,fun x h1 y h2=>by have:=hx x h1;have:=head_le y h2;lia⟩;have same:(∀x∈L,ρ x<ρ R[0])->Q true st1:=fun hx=>h st1 (L++R) k1 f1 p1 (by rw[a1,ha];simp only[List.append_assoc]) (rise_LR hx) (List.Perm.refl _)
 by_cases hna:L.length - k=0
 ·rw[if_pos (by simpa using hna)];refine wpS_pure (same fun x hx=> ?_);obtain⟨u,hu,rfl⟩:=List.getElem_of_mem hx;exact le0 u (by lia)
 rw[if_neg (by simpa using hna)];have ix:X.length+k+(L.length - k) - 1=X.length+(L.length - 1):=by lia
 have gLl:(arrOf st).getD (X.length+k+(L.length - k) - 1) (.none,.none)=L[L.length - 1]'(by lia):=by
  rw[ix];exact z6 e1 (by lia)
 refine wpS_bind (aQ (a:=arrOf st) (show _<(arrOf st).size by lia) ?_);refine wpS_bind (cP (st:=st1) (hint:=R.length - 1) C k1 (dD _ (aO (by lia))) dD (by lia) (by lia) upR fun k2 hkR r3 r4=> ?_)
 try dsimp only
 rw[gLl]at r3 r4;have lt2:∀(u:Nat) (hu:u<k2),ρ (R[u]'(by lia))<ρ (L[L.length - 1]'(by lia)):=fun u hu=>by
  have:=r3 u hu;unfold bey at this;have e:=g6 (ρ:=ρ) e2 (i:=u) (by lia);rw[List.length_append]at e;rw[if_pos rfl,e]at this;exact of_decide_eq_true this
 have ge2:∀(u:Nat) (h1:k2<=u) (hu:u<R.length),ρ (L[L.length - 1]'(by lia))<ρ R[u]:=fun u h1 hu=>by
  have:=r4 u h1 hu;unfold bey at this;have e:=g6 (ρ:=ρ) e2 (i:=u) hu;rw[List.length_append]at e;rw[if_pos rfl,e]at this;have h1:=of_decide_eq_false this;have h2:=dis _ (List.getElem_mem (show L.length - 1<L.length by lia)) _ (List.getElem_mem hu)
  lia
 have last_ge:∀x∈L,ρ x<=ρ (L[L.length - 1]'(by lia)):=fun x hx=>by
  obtain⟨u,hu,rfl⟩:=List.getElem_of_mem hx;rcases Nat.lt_or_ge u (L.length - 1) with hz|hz
  ·have:=(List.pairwise_iff_getElem.mp rL) u (L.length - 1) hu (by lia) hz
   lia
  ·have:u=L.length - 1:=by lia
   subst this;exact Int.le_refl _
 by_cases hnb:k2=0
 ·rw[if_pos (by simpa using hnb)];refine wpS_pure (same fun x hx=> ?_);have h1:=last_ge x hx;have h2:=ge2 0 (by lia) lR
  lia
 rw[if_neg (by simpa using hnb)]
 try dsimp only
 have cL:L=L.take k++L.drop k:=(List.take_append_drop k L).symm;have cR:R=R.take k2++R.drop k2:=(List.take_append_drop k2 R).symm;have ex:((arrOf st).extract (X.length+k) (X.length+L.length)).toList=L.drop k:=by
  refine HF (X:=X++L.take k) (Z:=R++Z) ?_ (by rw[List.length_append,List.length_take];lia) (by rw[List.length_append,List.length_take,List.length_drop];lia);rw[e1]
  conv=>lhs;rw[cL]
  simp only[List.append_assoc]
 have ey:((arrOf st).extract (X.length+L.length) (X.length+L.length+k2)).toList=R.take k2:=by
  refine HF (X:=X++L) (Z:=R.drop k2++Z) ?_ (by rw[List.length_append]) (by rw[List.length_append,List.length_take];lia);rw[e2]
  conv=>lhs;rw[cR]
  simp only[List.append_assoc]
 generalize hx:(arrOf st).extract (X.length+k) (X.length+L.length)=x at ex;generalize hy:(arrOf st).extract (X.length+L.length) (X.length+L.length+k2)=y at ey;have sx:x.size=L.length - k:=by rw[←Array.length_toList,ex,List.length_drop]
 have sy:y.size=k2:=by rw[←Array.length_toList,ey,List.length_take];lia
 have rkx:∀(u:Nat) (hu:u<L.length - k),rnk ρ x u=ρ (L[k+u]'(by lia)):=fun u hu=>by
  have:=g6 (ρ:=ρ) (a:=x) (X:=[]) (Y:=L.drop k) (Z:=[]) (by rw[ex];simp) (i:=u) (by rw[List.length_drop];exact hu);rw[List.length_nil,Nat.zero_add,List.getElem_drop]at this;exact this
 have rky:∀(u:Nat) (hu:u<k2),rnk ρ y u=ρ (R[u]'(by lia)):=fun u hu=>by
  have:=g6 (ρ:=ρ) (a:=y) (X:=[]) (Y:=R.take k2) (Z:=[]) (by rw[ey];simp) (i:=u) (by rw[List.length_take];lia);rw[List.length_nil,Nat.zero_add,List.getElem_take]at this;exact this
 have memL:∀z∈L.drop k,z∈L:=fun z hz=>List.mem_of_mem_drop hz;have memR:∀z∈R.take k2,z∈R:=fun z hz=>List.mem_of_mem_take hz;have inArr:∀z,z∈L∨z∈R->z∈(arrOf st).toList:=fun z hz=>by
  rw[ha];rcases hz with hz|hz<;>simp[hz]
 have dx:∀z∈x.toList,D z:=fun z hz=>dD z (inArr z (.inl (memL z (ex▸hz))));have dy:∀z∈y.toList,D z:=fun z hz=>dD z (inArr z (.inr (memR z (ey▸hz))));have ux:Up ρ x 0 x.size:=MT (by rw[ex];exact List.Pairwise.drop rL);have uy:Up ρ y 0 y.size:=MT (by rw[ey];exact List.Pairwise.take rR);have nexy:∀u∈x.toList,∀v∈y.toList,ρ u≠ρ v:=fun u hu v hv=>dis u (memL u (ex▸hu)) v (memR v (ey▸hv));have fst:rnk ρ y 0<rnk ρ x 0:=by
  rw[rkx 0 (by lia),rky 0 (by lia)];exact ge0 _ (by lia) (by lia)
 have lst:rnk ρ y (y.size - 1)<rnk ρ x (x.size - 1):=by
  rw[rkx (x.size - 1) (by lia),rky (y.size - 1) (by lia)];have:=lt2 (y.size - 1) (by lia);have e:k+(x.size - 1)=L.length - 1:=by lia
  simp only[e];exact this
 have fin:∀(m:Array Keyed) (st2:SortSt),SameSt st1 st2->bZ ρ m.toList->m.toList.Perm (x.toList++y.toList)->Q true (setArr st2 (m.toList.zipIdx.foldl (fun (a:Array Keyed) z=>match z with|(p,j)=>a.setIfInBounds (X.length+k+j) p) (arrOf st2))):=fun m st2 hs rm pm=>by
  have pl:m.toList.length=(L.drop k++R.take k2).length:=by rw[pm.length_eq,ex,ey]
  have earr:(arrOf st2).toList=(X++L.take k)++(L.drop k++R.take k2)++(R.drop k2++Z):=by
   rw[hs.2.1,a1,ha]
   conv=>lhs;rw[cL,cR]
   simp only[List.append_assoc]
  have pb:=EU (b0:=X.length+k) m.toList 0 (arrOf st2) _ _ _ earr pl.symm (by rw[List.length_append,List.length_take];lia);have mm:∀z∈m.toList,z∈L.drop k∨z∈R.take k2:=fun z hz=>by
   have:=pm.mem_iff.mp hz;rw[ex,ey]at this;exact List.mem_append.mp this
  have tL:∀z∈L.take k,ρ z<ρ R[0]:=fun z hz=>by
   obtain⟨u,hu,rfl⟩:=List.getElem_of_mem hz;rw[List.length_take]at hu;rw[List.getElem_take];exact le0 u (by lia)
  have dR:∀z∈R.drop k2,ρ (L[L.length - 1]'(by lia))<ρ z:=fun z hz=>by
   obtain⟨u,hu,rfl⟩:=List.getElem_of_mem hz;rw[List.length_drop]at hu;rw[List.getElem_drop];exact ge2 _ (by lia) (by lia)
  have rL':=List.pairwise_append.mp (cL▸rL);have rR':=List.pairwise_append.mp (cR▸rR);refine h _ (L.take k++m.toList++R.drop k2) (hs.1.trans k1) (hs.2.2.2.trans f1) (hs.2.2.1.trans p1) ?_ ?_ ?_
  ·show (Array.toList _)=_;rw[pb];simp only[List.append_assoc]
  ·refine List.pairwise_append.mpr ⟨List.pairwise_append.mpr ⟨rL'.1,rm,fun u hu v hv=> ?_⟩,rR'.2.1,fun u hu v hv=> ?_⟩
   ·rcases mm v hv with hv|hv
    ·exact rL'.2.2 u hu v hv
    ·have h1:=tL u hu;have h2:=head_le v (memR v hv)
     lia
   ·rcases List.mem_append.mp hu with hu|hu
    ·have h1:=tL u hu;have h2:=head_le v (List.mem_of_mem_drop hv)
     lia
    ·rcases mm u hu with hu|hu
     ·have h1:=last_ge u (memL u hu);have h2:=dR v hv
      lia
     ·exact rR'.2.2 u hu v hv
  ·have p2:(L.take k++m.toList++R.drop k2).Perm (L.take k++(L.drop k++R.take k2)++R.drop k2):=List.Perm.append_right _ (List.Perm.append_left _ (by rw[ex,ey]at pm;exact pm));refine p2.trans ?_
   conv=>rhs;rw[cL,cR]
   simp only[List.append_assoc];exact List.Perm.refl _
 by_cases hc:L.length - k<=k2
 ·rw[if_pos hc];refine wpS_bind (Y6 C k1 dx dy ux uy (by lia) (by lia) nexy fst lst fun m st2 hs rm pm=> ?_);refine wpS_bind (wpS_modify (wpS_bind (wpS_get (wpS_pure ?_))));have:=fin m st2 hs rm pm;have ff:failedOf st2=none:=hs.2.2.2.trans f1;show Q (failedOf st2).isNone _;rw[ff];exact this
 ·rw[if_neg hc];refine wpS_bind (ZJ C k1 dx dy ux uy (by lia) (by lia) nexy fst lst fun m st2 hs rm pm=> ?_);refine wpS_bind (wpS_modify (wpS_bind (wpS_get (wpS_pure ?_))));have:=fin m st2 hs rm pm;have ff:failedOf st2=none:=hs.2.2.2.trans f1;show Q (failedOf st2).isNone _;rw[ff];exact this
end
end L2
namespace L2
open PySem PySem.W PyProof.Rows
section
variable {prog:Program}{w:World}{A:Around}{E:Value->Shared->Prop}{s:Shared}{κ:SortKind}{D:Keyed->Prop}{ρ:Keyed->Int}{st:SortSt}
theorem lW {a b:Array Keyed}{i j:Nat} (h:a[i]? =b[j]?):rnk ρ a i=rnk ρ b j:=by
 have e:∀(a:Array Keyed) (i:Nat),a.getD i (.none,.none)=(a[i]?).getD (.none,.none):=fun a i=>by simp[Array.getD_eq_getD_getElem?]
 unfold rnk;rw[e,e,h]
def Apart (ρ:Keyed->Int)(a:Array Keyed):Prop:=(a.toList.map ρ).Nodup
theorem Apart.perm {a b:Array Keyed}(h:Apart ρ a)(p:b.Perm a):Apart ρ b:=((Array.perm_iff_toList_perm.mp p).map ρ).nodup_iff.mpr h
theorem Apart.ne {a:Array Keyed}(h:Apart ρ a){i j:Nat}(hi:i<a.size)(hj:j<a.size)(hij:i≠j):rnk ρ a i≠rnk ρ a j:=fun e=>by
 have hl:(a.toList.map ρ).length=a.size:=by rw[List.length_map,Array.length_toList]
 have e1:∀(k:Nat) (hk:k<a.size),(a.toList.map ρ)[k]'(by lia)=rnk ρ a k:=fun k hk=>by
  rw[List.getElem_map];unfold rnk;simp[Array.getD,hk]
 exact hij ((List.getElem_inj (h₀:=by lia) (h₁:=by lia) h).mp (by rw[e1 i hi,e1 j hj];exact e))
structure Rn (κ:SortKind)(st st':SortSt)(lo hi:Nat):Prop where
 kd:kindOf st'=κ
 fl:failedOf st'=failedOf st
 pn:pendingOf st'=pendingOf st
 pm:(arrOf st').Perm (arrOf st)
 lw:∀i,i<lo->(arrOf st')[i]? =(arrOf st)[i]?
 up:∀i,hi<=i->(arrOf st')[i]? =(arrOf st)[i]?
theorem Rn.refl {lo hi:Nat}(hk:kindOf st=κ):Rn κ st st lo hi:=⟨hk,rfl,rfl,Array.Perm.refl _,fun _ _=>rfl,fun _ _=>rfl⟩
theorem Rn.size {st':SortSt}{lo hi:Nat} (h:Rn κ st st' lo hi):(arrOf st').size=(arrOf st).size:=h.pm.size_eq
theorem Rn.set {st':SortSt}{lo hi:Nat} (h:Rn κ st st' lo hi) {xs:Array Keyed} (p:xs.Perm (arrOf st')) (h1:∀i,i<lo->xs[i]? =(arrOf st')[i]?) (h2:∀i,hi<=i->xs[i]? =(arrOf st')[i]?):Rn κ st (setArr st' xs) lo hi :=
 ⟨h.kd,h.fl,h.pn,p.trans h.pm,fun i hi=>(h1 i hi).trans (h.lw i hi),fun i hi=>(h2 i hi).trans (h.up i hi)⟩
theorem Rn.trans {st' st'':SortSt}{lo hi:Nat} (h:Rn κ st st' lo hi) (g:Rn κ st' st'' lo hi):Rn κ st st'' lo hi :=
 ⟨g.kd,g.fl.trans h.fl,g.pn.trans h.pn,g.pm.trans h.pm,fun i hi=>(g.lw i hi).trans (h.lw i hi),fun i hi=>(g.up i hi).trans (h.up i hi)⟩
theorem Rn.wide {st':SortSt}{lo hi hi':Nat} (h:Rn κ st st' lo hi) (hh:hi<=hi'):Rn κ st st' lo hi':=⟨h.kd,h.fl,h.pn,h.pm,h.lw,fun i hi=>h.up i (Nat.le_trans hh hi)⟩
theorem nH (C:l8 prog w A E s κ D ρ)(hk:kindOf st=κ)(dD:∀x∈(arrOf st).toList,D x){i j:Nat}(hi:i<(arrOf st).size)(hj:j<(arrOf st).size){Q:Option Bool->SortSt->Prop}(h:Q (some (decide (rnk ρ (arrOf st) i<rnk ρ (arrOf st) j))) st):wpS (model prog w) A E s (ltAt' i j) Q st:=by
 rw[ltAt'_eq];refine wpS_bind (wpS_get ?_);exact wpS_bind (aQ (a:=arrOf st) hi (wpS_bind (aQ (a:=arrOf st) hj (C.lt (dD _ (aO hi)) (dD _ (aO hj)) hk h))))
theorem C6 {a b:Array Keyed}(p:b.Perm a)(dD:∀x∈a.toList,D x):∀x∈b.toList,D x:=fun x hx=>dD x ((Array.perm_iff_toList_perm.mp p).mem_iff.mp hx)
theorem R5 (C:l8 prog w A E s κ D ρ)(hk:kindOf st=κ)(dD:∀x∈(arrOf st).toList,D x)(ap:Apart ρ (arrOf st)){lo n ok:Nat}(hn:lo+n<=(arrOf st).size)(hok:ok<=n)(h1:1<=ok)(up:Up ρ (arrOf st) lo (lo+ok)){Q:Bool->SortSt->Prop}
  (h:∀st':SortSt,Rn κ st st' lo (lo+n)->Up ρ (arrOf st') lo (lo+n)->Q true st'):wpS (model prog w) A E s (binarySort' lo n ok) Q st:=by
 unfold binarySort';refine wpS_bind (wpS_mono (wpS_forRange (I:=fun k c st'=>c=(none,())/\Rn κ st st' lo (lo+n)/\Up ρ (arrOf st') lo (lo+min k n)) (Q:=fun c st'=>c=(none,())/\Rn κ st st' lo (lo+n)/\Up ρ (arrOf st') lo (lo+n)) ?_ ?_ ⟨rfl,Rn.refl hk,by rw[show min (max ok 1) n=ok by lia];exact up⟩) ?_)
 ·rintro k c st' hak hkn ⟨rfl,hr,hu⟩;rw[show min k n=k by lia]at hu;have sz:=hr.size;have dD':=C6 hr.pm dD;have ap':=ap.perm hr.pm;refine wpS_bind (wpS_mono (wpS_forRange (I:=fun x c st''=>st'=st''/\∃l r:Nat,c=(none,l,r)/\l<=r/\r<=k/\r - l<=k - x/\(∀i,i<l->rnk ρ (arrOf st') (lo+i)<rnk ρ (arrOf st') (lo+k))/\(∀i,r<=i->i<k->rnk ρ (arrOf st') (lo+k)<rnk ρ (arrOf st') (lo+i)))
   (Q:=fun c st''=>st'=st''/\∃l r:Nat,c=(none,l,r)/\l<=k/\(∀i,i<l->rnk ρ (arrOf st') (lo+i)<rnk ρ (arrOf st') (lo+k))/\(∀i,l<=i->i<k->rnk ρ (arrOf st') (lo+k)<rnk ρ (arrOf st') (lo+i))) ?_ ?_ ⟨rfl,0,k,rfl,by lia,by lia,by lia,fun i hi=>by lia,fun i h1 h2=>by lia⟩) ?_)
  ·rintro x c _ _ hx ⟨rfl,l,r,rfl,a1,a2,a3,a4,a5⟩
   try dsimp only
   by_cases hge:l≥r
   ·rw[if_pos hge];have:l=r:=by lia
    subst this;exact wpS_pure ⟨rfl,l,l,rfl,a2,a4,a5⟩
   ·rw[if_neg hge];refine wpS_bind (nH C hr.kd dD' (i:=lo+k) (j:=lo+(l+r)/2) (by lia) (by lia) ?_)
    try dsimp only
    by_cases hless:rnk ρ (arrOf st') (lo+k)<rnk ρ (arrOf st') (lo+(l+r)/2)
    ·rw[decide_eq_true hless,if_pos rfl];refine wpS_pure ⟨rfl,l,(l+r)/2,rfl,by lia,by lia,by lia,a4,fun i g1 g2=> ?_⟩;rcases Nat.lt_or_ge ((l+r)/2) i with hz|hz
     ·have:=hu (lo+(l+r)/2) (lo+i) (by lia) (by lia) (by lia)
      lia
     ·have:i=(l+r)/2:=by lia
      rw[this];exact hless
    ·rw[decide_eq_false hless,if_neg Bool.false_ne_true];refine wpS_pure ⟨rfl,(l+r)/2+1,r,rfl,by lia,by lia,by lia,fun i g1=> ?_,a5⟩;have hne:=ap'.ne (i:=lo+k) (j:=lo+(l+r)/2) (by lia) (by lia) (by lia);rcases Nat.lt_or_ge i ((l+r)/2) with hz|hz
     ·have:=hu (lo+i) (lo+(l+r)/2) (by lia) (by lia) (by lia)
      lia
     ·have:i=(l+r)/2:=by lia
      rw[this];lia
  ·rintro c _ ⟨rfl,l,r,rfl,a1,a2,a3,a4,a5⟩;have:l=r:=by lia
   subst this;exact⟨rfl,l,l,rfl,a2,a4,a5⟩
  ·rintro c _ ⟨rfl,l,r,rfl,a2,a4,a5⟩
   try dsimp only
   have hks:lo+k<(arrOf st').size:=by lia
   have bb:∀j,(bubble (arrOf st') (lo+k) (lo+k - (lo+l)))[j]? =if j=lo+l then (arrOf st')[lo+k]? else if lo+l<j/\j<=lo+k then (arrOf st')[j - 1]? else (arrOf st')[j]? :=fun j=>by
    have:=getElem?_bubble hks (lo+k - (lo+l)) (by lia) j;rw[show lo+k - (lo+k - (lo+l))=lo+l by lia]at this;exact this
   refine wpS_bind (show wpS _ _ _ _ (moveDown' (lo+k) (lo+l)) _ _ from ?_);rw[moveDown'_eq];refine wpS_modify (wpS_pure ⟨rfl,hr.set (bubble_perm _ _ _) (fun i hi=> ?_) (fun i hi=> ?_),?_⟩)
   ·rw[bb,if_neg (by lia),if_neg (by lia)]
   ·rw[bb,if_neg (by lia),if_neg (by lia)]
   ·rw[show min (k+1) n=k+1 by lia];intro i j g1 g2 g3;have rb:∀j,rnk ρ (bubble (arrOf st') (lo+k) (lo+k - (lo+l))) j=if j=lo+l then rnk ρ (arrOf st') (lo+k) else if lo+l<j/\j<=lo+k then rnk ρ (arrOf st') (j - 1) else rnk ρ (arrOf st') j:=fun j=>by
     have e:=bb j
     by_cases c1:j=lo+l
     ·rw[if_pos c1]at e ⊢;exact lW e
     ·rw[if_neg c1]at e ⊢
      by_cases c2:lo+l<j/\j<=lo+k
      ·rw[if_pos c2]at e ⊢;exact lW e
      ·rw[if_neg c2]at e ⊢;exact lW e
    have lowR:∀u,lo<=u->u<lo+l->rnk ρ (arrOf st') u<rnk ρ (arrOf st') (lo+k):=fun u u1 u2=>by
     have:=a4 (u - lo) (by lia)
     rwa [show lo+(u - lo)=u by lia]at this
    have highR:∀u,lo+l<=u->u<lo+k->rnk ρ (arrOf st') (lo+k)<rnk ρ (arrOf st') u:=fun u u1 u2=>by
     have:=a5 (u - lo) (by lia) (by lia)
     rwa [show lo+(u - lo)=u by lia]at this
    show rnk ρ (bubble (arrOf st') (lo+k) (lo+k - (lo+l))) i<rnk ρ (bubble (arrOf st') (lo+k) (lo+k - (lo+l))) j;rw[rb,rb]
    repeat' split
    all_goals first
     | (exfalso;lia)
     | exact lowR _ (by lia) (by lia)
     | exact highR _ (by lia) (by lia)
     | exact hu _ _ (by lia) (by lia) (by lia)
     | (have h1:=lowR i (by lia) (by lia);have h2:=highR (j - 1) (by lia) (by lia);lia)
 ·rintro c st' ⟨rfl,hr,hu⟩;refine⟨rfl,hr,?_⟩
  rwa [show min (max (max ok 1) n) n=n by lia]at hu
 ·rintro c st' ⟨rfl,hr,hu⟩
  try dsimp only
  exact wpS_pure (h st' hr hu)
end
end L2
namespace L2
open PySem PySem.W PyProof.Rows
section
variable {prog:Program}{w:World}{A:Around}{E:Value->Shared->Prop}{s:Shared}{κ:SortKind}{D:Keyed->Prop}{ρ:Keyed->Int}{st:SortSt}
theorem V8 {a:Array Keyed}{lo:Nat}:Up ρ a lo (lo+1):=fun i j h1 h2 h3=>by lia
theorem GI {a:Array Keyed}{lo x:Nat} (h1:1<=x) (up:Up ρ a lo (lo+x)) (h:rnk ρ a (lo+x - 1)<rnk ρ a (lo+x)):Up ρ a lo (lo+(x+1)):=fun i j g1 g2 g3=>by
 by_cases hj:j<lo+x
 ·exact up i j g1 g2 hj
 ·have:j=lo+x:=by lia
  subst this;rcases Nat.lt_or_ge i (lo+x - 1) with hz|hz
  ·have:=up i (lo+x - 1) g1 hz (by lia)
   lia
  ·have:i=lo+x - 1:=by lia
   rw[this];exact h
def Dn (ρ:Keyed->Int)(a:Array Keyed)(lo hi:Nat):Prop:=∀i j,lo<=i->i<j->j<hi->rnk ρ a j<rnk ρ a i
theorem GF {a:Array Keyed}{lo x:Nat} (h1:1<=x) (dn:Dn ρ a lo (lo+x)) (h:rnk ρ a (lo+x)<rnk ρ a (lo+x - 1)):Dn ρ a lo (lo+(x+1)):=fun i j g1 g2 g3=>by
 by_cases hj:j<lo+x
 ·exact dn i j g1 g2 hj
 ·have:j=lo+x:=by lia
  subst this;rcases Nat.lt_or_ge i (lo+x - 1) with hz|hz
  ·have:=dn i (lo+x - 1) g1 hz (by lia)
   lia
  ·have:i=lo+x - 1:=by lia
   rw[this];exact h
theorem LS (C:l8 prog w A E s κ D ρ)(hk:kindOf st=κ)(dD:∀x∈(arrOf st).toList,D x)(ap:Apart ρ (arrOf st)){lo n:Nat}(hn:lo+n<=(arrOf st).size)(h1:1<=n){Q:Option Nat->SortSt->Prop}
  (h:∀(m:Nat) (st':SortSt),1<=m->m<=n->Rn κ st st' lo (lo+n)->Up ρ (arrOf st') lo (lo+m)->Q (some m) st'):wpS (model prog w) A E s (countRun' lo n) Q st:=by
 unfold countRun';refine wpS_bind (wpS_mono (wpS_forRange (I:=fun x c st''=>st=st''/\c=(none,x)/\Up ρ (arrOf st) lo (lo+x)) (Q:=fun c st''=>st=st''/\∃m,c=(none,m)/\1<=m/\m<=n/\Up ρ (arrOf st) lo (lo+m)/\(m=n∨rnk ρ (arrOf st) (lo+m)<rnk ρ (arrOf st) (lo+m - 1))) ?_ ?_ ⟨rfl,rfl,V8⟩) ?_)
 ·rintro x c _ hx1 hx ⟨rfl,rfl,hu⟩
  try dsimp only
  refine wpS_bind (nH C hk dD (i:=lo+x) (j:=lo+x - 1) (by lia) (by lia) ?_)
  try dsimp only
  by_cases hless:rnk ρ (arrOf st) (lo+x)<rnk ρ (arrOf st) (lo+x - 1)
  ·rw[decide_eq_true hless,if_pos rfl];exact wpS_pure ⟨rfl,x,rfl,hx1,by lia,hu,.inr hless⟩
  ·rw[decide_eq_false hless,if_neg Bool.false_ne_true];have hne:=ap.ne (i:=lo+x) (j:=lo+x - 1) (by lia) (by lia) (by lia);exact wpS_pure ⟨rfl,rfl,GI hx1 hu (by lia)⟩
 ·rintro c _ ⟨rfl,rfl,hu⟩;rw[show max 1 n=n by lia]at hu ⊢;exact⟨rfl,n,rfl,h1,Nat.le_refl _,hu,.inl rfl⟩
 rintro c _ ⟨rfl,m,rfl,hm1,hmn,hu,hor⟩
 try dsimp only
 by_cases he:m=n
 ·rw[if_pos (by simpa using he)];exact wpS_pure (h m st hm1 hmn (Rn.refl hk) hu)
 rw[if_neg (by simpa using he)];have hless:=hor.resolve_left he
 by_cases hg:m>1
 ·rw[if_pos hg];refine wpS_bind (nH C hk dD (i:=lo) (j:=lo+m - 1) (by lia) (by lia) ?_)
  try dsimp only
  rw[decide_eq_true (hu lo (lo+m - 1) (by lia) (by lia) (by lia)),if_pos rfl];exact wpS_pure (h m st hm1 hmn (Rn.refl hk) hu)
 rw[if_neg hg];have hm:m=1:=by lia
 subst hm;refine wpS_bind (wpS_lift (wpAny_rule ⟨rfl,?_⟩));have d2:Dn ρ (arrOf st) lo (lo+(1+1)):=GF (Nat.le_refl _) (fun i j g1 g2 g3=>by lia) hless;refine wpS_bind (wpS_mono (wpS_forRange (I:=fun x c st''=>st=st''/\c=(none,x,0)/\Dn ρ (arrOf st) lo (lo+x)) (Q:=fun c st''=>st=st''/\∃m,c=(none,m,0)/\2<=m/\m<=n/\Dn ρ (arrOf st) lo (lo+m)) ?_ ?_ ⟨rfl,rfl,d2⟩) ?_)
 ·rintro x c _ hx1 hx ⟨rfl,rfl,hd⟩
  try dsimp only
  refine wpS_bind (nH C hk dD (i:=lo+x) (j:=lo+x - 1) (by lia) (by lia) ?_)
  try dsimp only
  by_cases hl2:rnk ρ (arrOf st) (lo+x)<rnk ρ (arrOf st) (lo+x - 1)
  ·rw[decide_eq_true hl2,if_pos rfl,if_neg (by lia)];exact wpS_pure ⟨rfl,rfl,GF (by lia) hd hl2⟩
  ·rw[decide_eq_false hl2,if_neg Bool.false_ne_true];have hne:=ap.ne (i:=lo+x) (j:=lo+x - 1) (by lia) (by lia) (by lia);refine wpS_bind (nH C hk dD (i:=lo+x - 1) (j:=lo+x) (by lia) (by lia) ?_)
   try dsimp only
   rw[decide_eq_true (show rnk ρ (arrOf st) (lo+x - 1)<rnk ρ (arrOf st) (lo+x) by lia),if_pos rfl];exact wpS_pure ⟨rfl,x,rfl,by lia,by lia,hd⟩
 ·rintro c _ ⟨rfl,rfl,hd⟩;rw[show max (1+1) n=n by lia]at hd ⊢;exact⟨rfl,n,rfl,by lia,Nat.le_refl _,hd⟩
 rintro c _ ⟨rfl,m,rfl,hm2,hmn2,hd⟩
 try dsimp only
 rw[if_neg (by lia)];refine wpS_bind (wpS_reverse ?_);have mg:∀k,(mirror (arrOf st) lo (lo+m) ((lo+m - lo)/2))[k]? =if lo<=k/\k<lo+m then (arrOf st)[lo+(lo+m) - 1 - k]? else (arrOf st)[k]? :=fun k=>getElem?_mirror_all (by lia) k;have hr:Rn κ st (setArr st (mirror (arrOf st) lo (lo+m) ((lo+m - lo)/2))) lo (lo+n):=(Rn.refl hk).set (mirror_perm _ _ _ _) (fun i hi=>by rw[mg,if_neg (by lia)]) (fun i hi=>by rw[mg,if_neg (by lia)]);have rm:∀k,rnk ρ (mirror (arrOf st) lo (lo+m) ((lo+m - lo)/2)) k=if lo<=k/\k<lo+m then rnk ρ (arrOf st) (lo+(lo+m) - 1 - k) else rnk ρ (arrOf st) k:=fun k=>by
  have e:=mg k
  by_cases c1:lo<=k/\k<lo+m
  ·rw[if_pos c1]at e ⊢;exact lW e
  ·rw[if_neg c1]at e ⊢;exact lW e
 have u1:Up ρ (mirror (arrOf st) lo (lo+m) ((lo+m - lo)/2)) lo (lo+m):=fun i j g1 g2 g3=>by
  rw[rm,rm,if_pos (by lia),if_pos (by lia)];exact hd _ _ (by lia) (by lia) (by lia)
 generalize hst1:setArr st (mirror (arrOf st) lo (lo+m) ((lo+m - lo)/2))=st1 at hr;have ea:arrOf st1=mirror (arrOf st) lo (lo+m) ((lo+m - lo)/2):=by rw[←hst1]
 rw[←ea]at u1;have sz:=hr.size;have dD1:=C6 hr.pm dD;have ap1:=ap.perm hr.pm;refine wpS_bind (wpS_mono (wpS_forRange (I:=fun x c st''=>st1=st''/\c=(none,x)/\Up ρ (arrOf st1) lo (lo+x)) (Q:=fun c st''=>st1=st''/\∃m,c=(none,m)/\1<=m/\m<=n/\Up ρ (arrOf st1) lo (lo+m)) ?_ ?_ ⟨rfl,rfl,u1⟩) ?_)
 ·rintro x c _ hx1 hx ⟨rfl,rfl,hu⟩
  try dsimp only
  refine wpS_bind (nH C hr.kd dD1 (i:=lo+x) (j:=lo+x - 1) (by lia) (by lia) ?_)
  try dsimp only
  by_cases hless:rnk ρ (arrOf st1) (lo+x)<rnk ρ (arrOf st1) (lo+x - 1)
  ·rw[decide_eq_true hless,if_pos rfl];exact wpS_pure ⟨rfl,x,rfl,by lia,by lia,hu⟩
  ·rw[decide_eq_false hless,if_neg Bool.false_ne_true];have hne:=ap1.ne (i:=lo+x) (j:=lo+x - 1) (by lia) (by lia) (by lia);exact wpS_pure ⟨rfl,rfl,GI (by lia) hu (by lia)⟩
 ·rintro c _ ⟨rfl,rfl,hu⟩;rw[show max m n=n by lia]at hu ⊢;exact⟨rfl,n,rfl,h1,Nat.le_refl _,hu⟩
 rintro c _ ⟨rfl,m2,rfl,g1,g2,hu2⟩
 try dsimp only
 exact wpS_pure (h m2 st1 g1 g2 hr hu2)
end
end L2
namespace L2
open PySem PySem.W PyProof.Rows
def pos:Nat->List (List Keyed)->List (Nat×Nat)
 | _,[]=>[]
 | k,r::rs=>(k,r.length)::pos (k+r.length) rs
theorem u6:∀(k:Nat) (rs1 rs2:List (List Keyed)),pos k (rs1++rs2)=pos k rs1++pos (k+rs1.flatten.length) rs2
 | k,[],rs2=>by simp[pos]
 | k,r::rs1,rs2=>by
  show (k,r.length)::pos (k+r.length) (rs1++rs2)=(k,r.length)::(pos (k+r.length) rs1++_);rw[u6,List.flatten_cons,List.length_append,Nat.add_assoc]
theorem yO:∀(k:Nat) (rs:List (List Keyed)),(pos k rs).length=rs.length
 | _,[]=>rfl
 | k,r::rs=>by show (pos _ rs).length+1=_;rw[yO,List.length_cons]
abbrev se (e:Nat×Nat×Nat):Nat×Nat:=(e.1,e.2.1)
section
variable {prog:Program}{w:World}{A:Around}{E:Value->Shared->Prop}{s:Shared}{κ:SortKind}{D:Keyed->Prop}{ρ:Keyed->Int}{st:SortSt}{a₀:Array Keyed}
structure Gs (ρ:Keyed->Int)(κ:SortKind)(a₀:Array Keyed)(st:SortSt)(rs:List (List Keyed))(rest:List Keyed):Prop where
 ar:(arrOf st).toList=rs.flatten++rest
 rn:∀r∈rs,r≠[]/\bZ ρ r
 pn:(pendingOf st).toList.map se=pos 0 rs
 kd:kindOf st=κ
 fl:failedOf st=none
 pm:(arrOf st).Perm a₀
theorem Gs.len {rs:List (List Keyed)}{rest:List Keyed} (g:Gs ρ κ a₀ st rs rest):(pendingOf st).size=rs.length:=by
 have:=congrArg List.length g.pn;rw[List.length_map,Array.length_toList,yO]at this;exact this
theorem FJ {l1 l2:List Keyed}{a:Array Keyed} (ap:Apart ρ a) {P Q:List Keyed} (e:a.toList=P++l1++l2++Q):∀x∈l1,∀y∈l2,ρ x≠ρ y:=fun x hx y hy h=>by
 unfold Apart at ap;rw[e,List.map_append,List.map_append,List.map_append]at ap;have h1:=(List.nodup_append.mp (List.nodup_append.mp ap).1).2.2;exact h1 (ρ x) (List.mem_append_right _ (List.mem_map.mpr ⟨x,hx,rfl⟩)) (ρ y) (List.mem_map.mpr ⟨y,hy,rfl⟩) h
theorem PH (C:l8 prog w A E s κ D ρ)(dD:∀x∈a₀.toList,D x)(ap:Apart ρ a₀){rs1 rs2:List (List Keyed)}{L R rest:List Keyed}{i:Nat} (hi:i=rs1.length) (g:Gs ρ κ a₀ st (rs1++L::R::rs2) rest) {Q:Bool->SortSt->Prop}
  (h:∀(st':SortSt) (M:List Keyed),Gs ρ κ a₀ st' (rs1++M::rs2) rest->Q true st'):wpS (model prog w) A E s (mergeAt' i) Q st:=by
 subst hi;obtain⟨nL,rL⟩:=g.rn L (List.mem_append_right _ (.head _));obtain⟨nR,rR⟩:=g.rn R (List.mem_append_right _ (.tail _ (.head _)));have ha:(arrOf st).toList=rs1.flatten++L++R++(rs2.flatten++rest):=by
  rw[g.ar,List.flatten_append,List.flatten_cons,List.flatten_cons];simp only[List.append_assoc]
 have hpos:pos 0 (rs1++L::R::rs2)=pos 0 rs1++(rs1.flatten.length,L.length)::(rs1.flatten.length+L.length,R.length)::pos (rs1.flatten.length+L.length+R.length) rs2:=by
  rw[u6,Nat.zero_add];rfl
 have hsz:(pendingOf st).toList.length=rs1.length+(rs2.length+2):=by
  rw[Array.length_toList,g.len,List.length_append,List.length_cons,List.length_cons]
 obtain⟨ps1,e1,e2,ps2,hps,hl1⟩:∃ps1 e1 e2 ps2,(pendingOf st).toList=ps1++e1::e2::ps2/\ps1.length=rs1.length:=by
  refine⟨(pendingOf st).toList.take rs1.length,(pendingOf st).toList[rs1.length]'(by lia),(pendingOf st).toList[rs1.length+1]'(by lia),(pendingOf st).toList.drop (rs1.length+1+1),?_,by rw[List.length_take];lia⟩;rw[←List.drop_eq_getElem_cons (show rs1.length+1<(pendingOf st).toList.length by lia),←List.drop_eq_getElem_cons (show rs1.length<(pendingOf st).toList.length by lia),List.take_append_drop]
 have hmap:=g.pn;rw[hps,hpos,List.map_append,List.map_cons,List.map_cons]at hmap;have hl1':(ps1.map se).length=(pos 0 rs1).length:=by rw[List.length_map,yO,hl1]
 obtain⟨m1,m2⟩:=List.append_inj hmap hl1';obtain⟨m2a,m2b⟩:=List.cons.inj m2;obtain⟨m2b,m2c⟩:=List.cons.inj m2b;obtain⟨x1,y1,pw1⟩:=e1;obtain⟨x2,y2,pw2⟩:=e2;obtain⟨rfl,rfl⟩:=Prod.mk.inj m2a;obtain⟨rfl,rfl⟩:=Prod.mk.inj m2b;have hp1:(pendingOf st)[rs1.length]? =some (rs1.flatten.length,L.length,pw1):=by
  rw[←Array.getElem?_toList,hps,←hl1,List.getElem?_append_right (Nat.le_refl _),Nat.sub_self];rfl
 have hp2:(pendingOf st)[rs1.length+1]? =some (rs1.flatten.length+L.length,R.length,pw2):=by
  rw[←Array.getElem?_toList,hps,←hl1,List.getElem?_append_right (by lia),Nat.add_sub_cancel_left];rfl
 refine Y1 C g.kd ha nL nR rL rR (FJ (ap.perm g.pm) ha) (C6 g.pm dD) hp1 hp2 g.fl fun st' M kd fl pn ar rM pM=> ?_;have lM:M.length=L.length+R.length:=by rw[pM.length_eq,List.length_append]
 refine h st' M ⟨?_,fun r hr=> ?_,?_,kd,fl,?_⟩
 ·rw[ar,List.flatten_append,List.flatten_cons];simp only[List.append_assoc]
 ·rcases List.mem_append.mp hr with hr|hr
  ·exact g.rn r (List.mem_append_left _ hr)
  ·rcases List.mem_cons.mp hr with rfl|hr
   ·refine⟨fun z=> ?_,rM⟩;rw[z,List.length_nil]at lM;exact nL (List.length_eq_zero_iff.mp (by lia))
   ·exact g.rn r (List.mem_append_right _ (.tail _ (.tail _ hr)))
 ·have e:(pendingOf st').toList=ps1++(rs1.flatten.length,L.length+R.length,pw1)::ps2:=by
   rw[pn];have hlt:rs1.length+1<((pendingOf st).setIfInBounds rs1.length (rs1.flatten.length,L.length+R.length,pw1)).size:=by rw[Array.size_setIfInBounds,←Array.length_toList];lia
   rw[Array.eraseIdxIfInBounds,dif_pos hlt,Array.toList_eraseIdx,Array.toList_setIfInBounds,hps,←hl1,List.set_append_right _ _ (Nat.le_refl _),Nat.sub_self,List.eraseIdx_append_of_length_le (by lia),Nat.add_sub_cancel_left];rfl
  rw[e,List.map_append,List.map_cons,m1,m2c,u6,Nat.zero_add];show _++(rs1.flatten.length,L.length+R.length)::_=_++(rs1.flatten.length,M.length)::pos (rs1.flatten.length+M.length) rs2;rw[lM,Nat.add_assoc]
 ·refine Array.Perm.trans ?_ g.pm;rw[Array.perm_iff_toList_perm,ar,ha,List.append_assoc rs1.flatten L R];exact List.Perm.append_right _ (List.Perm.append_left _ pM)
end
end L2
namespace L2
open PySem PySem.W PyProof.Rows
section
variable {prog:Program}{w:World}{A:Around}{E:Value->Shared->Prop}{s:Shared}{κ:SortKind}{D:Keyed->Prop}{ρ:Keyed->Int}{st:SortSt}{a₀:Array Keyed}
theorem O9 {a:Array Keyed}{lo n:Nat} (h:Up ρ a lo (lo+n)) (hn:lo+n<=a.size):bZ ρ ((a.toList.drop lo).take n):=by
 have hl:((a.toList.drop lo).take n).length=n:=by rw[List.length_take,List.length_drop,Array.length_toList];lia
 have e:∀(k:Nat) (hk:k<((a.toList.drop lo).take n).length),ρ (((a.toList.drop lo).take n)[k])=rnk ρ a (lo+k):=fun k hk=>by
  rw[List.getElem_take,List.getElem_drop];unfold rnk;have:lo+k<a.size:=by lia
  simp[Array.getD,this]
 rw[bZ,List.pairwise_iff_getElem];intro i j hi hj hij;rw[e i hi,e j hj];exact h _ _ (by lia) (by lia) (by lia)
theorem G8:∀{rs:List (List Keyed)},(∀r∈rs,r≠[])->rs.length<=rs.flatten.length
 | [],_=>Nat.le_refl _
 | r::rs,h=>by
  have h1:=G8 (rs:=rs) fun x hx=>h x (.tail _ hx);have h2:0<r.length:=List.length_pos_iff.mpr (h r (.head _));rw[List.flatten_cons,List.length_append,List.length_cons]
  lia
theorem Gs.rn_run {rs:List (List Keyed)}{rest:List Keyed}{lo hi:Nat}{st':SortSt} (g:Gs ρ κ a₀ st rs rest) (h:Rn κ st st' lo hi) (hlo:lo=rs.flatten.length):Gs ρ κ a₀ st' rs ((arrOf st').toList.drop lo):=by
 refine⟨?_,g.rn,by rw[h.pn];exact g.pn,h.kd,h.fl.trans g.fl,h.pm.trans g.pm⟩;have e:(arrOf st').toList.take lo=rs.flatten:=by
  have e2:(arrOf st).toList.take lo=rs.flatten:=by rw[g.ar,hlo,List.take_append_of_le_length (Nat.le_refl _),List.take_length]
  rw[←e2];refine List.ext_getElem? fun i=> ?_;rw[List.getElem?_take,List.getElem?_take]
  by_cases hi:i<lo
  ·rw[if_pos hi,if_pos hi,Array.getElem?_toList,Array.getElem?_toList,h.lw i hi]
  ·rw[if_neg hi,if_neg hi]
 rw[←e,List.take_append_drop]
theorem Gs.push {rs:List (List Keyed)}{rest run rest':List Keyed} (g:Gs ρ κ a₀ st rs rest) (he:rest=run++rest') (hn:run≠[]) (hr:bZ ρ run) {lo n:Nat} (hlo:lo=rs.flatten.length) (hl:n=run.length):Gs ρ κ a₀ (setPending st ((pendingOf st).push (lo,n,0))) (rs++[run]) rest':=by
 refine⟨?_,fun r h=> ?_,?_,g.kd,g.fl,g.pm⟩
 ·show (arrOf st).toList=_;rw[g.ar,he,List.flatten_append,List.flatten_cons,List.flatten_nil,List.append_nil,List.append_assoc]
 ·rcases List.mem_append.mp h with h|h
  ·exact g.rn r h
  ·rw[List.mem_singleton.mp h];exact⟨hn,hr⟩
 ·show ((pendingOf st).push (lo,n,0)).toList.map se=_;rw[Array.toList_push,List.map_append,g.pn,u6,Nat.zero_add,hlo,hl];rfl
theorem L8 {p:Array (Nat×Nat×Nat)}{i:Nat} (f:Nat×Nat×Nat->Nat×Nat×Nat) (hf:∀x,se (f x)=se x):(p.modify i f).toList.map se=p.toList.map se:=by
 refine List.ext_getElem? fun j=> ?_;rw[List.getElem?_map,List.getElem?_map,Array.getElem?_toList,Array.getElem?_toList,Array.getElem?_modify]
 by_cases h:i=j
 ·rw[if_pos h];cases p[j]? with
  | none=>rfl
  | some x=>show some (se (f x))=some (se x);rw[hf]
 ·rw[if_neg h]
theorem Gs.pow {rs:List (List Keyed)}{rest:List Keyed} (g:Gs ρ κ a₀ st rs rest) {i:Nat} (f:Nat×Nat×Nat->Nat×Nat×Nat) (hf:∀x,se (f x)=se x):Gs ρ κ a₀ (setPending st ((pendingOf st).modify i f)) rs rest :=
 ⟨g.ar,g.rn,(L8 f hf).trans g.pn,g.kd,g.fl,g.pm⟩
theorem NE {α:Type}{l:List α}{i:Nat} (h:i+1<l.length):∃a x y b,l=a++x::y::b/\i=a.length:=by
 refine⟨l.take i,l[i]'(by lia),l[i+1]'(by lia),l.drop (i+1+1),?_,by rw[List.length_take];lia⟩;rw[←List.drop_eq_getElem_cons (show i+1<l.length by lia),←List.drop_eq_getElem_cons (show i<l.length by lia),List.take_append_drop]
theorem wN (C:l8 prog w A E s κ D ρ)(dD:∀x∈a₀.toList,D x)(ap:Apart ρ a₀){rs:List (List Keyed)}{rest:List Keyed}{i:Nat} (hi:i+1<(pendingOf st).size) (g:Gs ρ κ a₀ st rs rest) {Q:Bool->SortSt->Prop}
  (h:∀(st':SortSt) (rs':List (List Keyed)),Gs ρ κ a₀ st' rs' rest->rs'.length+1=rs.length->Q true st'):wpS (model prog w) A E s (mergeAt' i) Q st:=by
 rw[g.len]at hi;obtain⟨a,x,y,b,rfl,hia⟩:=NE hi;refine PH C dD ap hia g fun st' M g'=>h st' _ g' ?_;simp only[List.length_append,List.length_cons]
 lia
theorem Gs.lenf {rs rs':List (List Keyed)}{rest:List Keyed}{st':SortSt} (g:Gs ρ κ a₀ st rs rest) (g':Gs ρ κ a₀ st' rs' rest):rs'.flatten.length=rs.flatten.length:=by
 have h1:=congrArg List.length g.ar;have h2:=congrArg List.length g'.ar;rw[List.length_append,Array.length_toList]at h1 h2;have:=g.pm.size_eq;have:=g'.pm.size_eq
 lia
theorem Gs.tot {rs:List (List Keyed)}{rest:List Keyed} (g:Gs ρ κ a₀ st rs rest):rs.flatten.length+rest.length=a₀.size:=by
 have h1:=congrArg List.length g.ar;rw[List.length_append,Array.length_toList]at h1;have:=g.pm.size_eq
 lia
theorem R4 (C:l8 prog w A E s κ D ρ)(dD:∀x∈(arrOf st).toList,D x)(ap:Apart ρ (arrOf st))(hk:kindOf st=κ)(hp:pendingOf st= #[])(hf:failedOf st=none){Q:Unit->SortSt->Prop}
  (h:∀st',(arrOf st').toList.Perm (arrOf st).toList->failedOf st'=none->bZ ρ (arrOf st').toList->Q () st'):wpS (model prog w) A E s sortRuns' Q st:=by
 generalize ha:arrOf st=a₀ at *;have g0:Gs ρ κ a₀ st [] a₀.toList:=⟨by rw[ha];rfl,fun r hr=>(List.not_mem_nil hr).elim,by rw[hp];rfl,hk,hf,by rw[ha]⟩
 rw[sortRuns'_eq];refine wpS_bind (wpS_get ?_)
 dsimp only
 rw[ha];generalize hmr:minRun' a₀.size a₀.size 0=mr;refine wpS_bind (wpS_mono (wpS_forRange
  (I:=fun x c st'=>∃(lo:Nat) (rs:List (List Keyed)) (rest:List Keyed),c=(none,lo)/\x<=lo/\lo=rs.flatten.length/\Gs ρ κ a₀ st' rs rest)
  (Q:=fun c st'=>∃(lo:Nat) (rs:List (List Keyed)),c=(none,lo)/\Gs ρ κ a₀ st' rs []) ?step ?fin ⟨0,[],a₀.toList,rfl,Nat.le_refl _,rfl,g0⟩) ?post)
 case fin =>
  rintro c st' ⟨lo,rs,rest,rfl,hx,hlo,g⟩;have:=g.tot;have:rest=[]:=List.length_eq_zero_iff.mp (by lia);subst this;exact⟨lo,rs,rfl,g⟩
 case step =>
  rintro x c st1 _ hx ⟨lo,rs,rest,rfl,hxl,hlo,g⟩;have ht:=g.tot
  dsimp only
  by_cases hge:lo≥a₀.size
  ·rw[if_pos hge];have:rest=[]:=List.length_eq_zero_iff.mp (by lia);subst this;exact wpS_pure ⟨lo,rs,rfl,g⟩
  ·rw[if_neg hge];have sz1:=g.pm.size_eq;have key:∀(n:Nat) (st3:SortSt),1<=n->lo+n<=a₀.size->Rn κ st1 st3 lo a₀.size->Up ρ (arrOf st3) lo (lo+n)->∃run rest',Gs ρ κ a₀ st3 rs (run++rest')/\run≠[]/\bZ ρ run/\n=run.length:=fun n st3 h1 h2 hr hu=>by
    have g3:=g.rn_run hr hlo;have sz3:=g3.pm.size_eq;have hl:(((arrOf st3).toList.drop lo).take n).length=n:=by rw[List.length_take,List.length_drop,Array.length_toList];lia
    refine⟨((arrOf st3).toList.drop lo).take n,((arrOf st3).toList.drop lo).drop n,?_,fun z=> ?_,O9 hu (by lia),hl.symm⟩
    ·rw[List.take_append_drop];exact g3
    ·rw[z,List.length_nil]at hl;lia
   have tail:∀(n:Nat) (st3:SortSt) (run rest':List Keyed),Gs ρ κ a₀ st3 rs (run++rest')->run≠[]->bZ ρ run->n=run.length->∀(st4:SortSt) (rs4:List (List Keyed)),Gs ρ κ a₀ st4 rs4 (run++rest')->∃(lo':Nat) (rs':List (List Keyed)) (rest'':List Keyed),((none,lo+n):Option Unit×Nat)=(none,lo')/\x+1<=lo'/\lo'=rs'.flatten.length/\Gs ρ κ a₀ (setPending st4 ((pendingOf st4).push (lo,n,0))) rs' rest'':=fun n st3 run rest' g3 hn hr hl st4 rs4 g4=>by
    have e4:=g3.lenf g4;have hpos:0<run.length:=List.length_pos_iff.mpr hn;refine⟨lo+n,rs4++[run],rest',rfl,by lia,?_,g4.push rfl hn hr (by lia) hl⟩;rw[List.flatten_append,List.flatten_cons,List.flatten_nil,List.append_nil,List.length_append]
    lia
   refine wpS_bind (LS C g.kd (C6 g.pm dD) (ap.perm g.pm) (lo:=lo) (n:=a₀.size - lo) (by lia) (by lia) fun m st2 hm1 hm2 hr2 hu2=> ?_);rw[show lo+(a₀.size - lo)=a₀.size by lia]at hr2
   dsimp only
   by_cases hlt:m<mr
   ·rw[if_pos hlt];refine wpS_bind (wpS_lift (wpAny_rule ⟨rfl,?_⟩));have sz2:=hr2.size;refine wpS_bind (R5 C hr2.kd (C6 (hr2.pm.trans g.pm) dD) (ap.perm (hr2.pm.trans g.pm)) (lo:=lo) (n:=min (a₀.size - lo) mr) (ok:=m) (by lia) (by lia) hm1 hu2 fun st3 hr3 hu3=> ?_);simp only[Bool.not_true,Bool.false_eq_true,if_false];generalize hfo:min (a₀.size - lo) mr=n at *;obtain⟨run,rest',g3,hne,hri,hln⟩:=key n st3 (by lia) (by lia) (hr2.trans (hr3.wide (by lia))) hu3;refine wpS_bind (wpS_get ?_)
    try dsimp only
    cases hb:(pendingOf st3).back? with
    | none =>
     try dsimp only
     refine wpS_bind (wpS_modify (wpS_pure ?_));exact tail n st3 run rest' g3 hne hri hln st3 rs g3
    | some e =>
     obtain⟨s1,n1,pw1⟩:=e
     try dsimp only
     generalize power' a₀.size (2 * s1+n1) (2 * s1+n1+n1+n) a₀.size=pw;refine wpS_bind (wpS_mono (wpS_forRange (I:=fun _ c st'=>c=(none,())/\∃rs',Gs ρ κ a₀ st' rs' (run++rest')) (Q:=fun c st'=>c=(none,())/\∃rs',Gs ρ κ a₀ st' rs' (run++rest')) ?_ (fun _ _ h=>h) ⟨rfl,rs,g3⟩) ?_)
     ·rintro x c st4 _ _ ⟨rfl,rs4,g4⟩;refine wpS_bind (wpS_get ?_)
      try dsimp only
      by_cases h1:(pendingOf st4).size>1
      ·rw[if_pos h1];cases hq:(pendingOf st4)[(pendingOf st4).size - 2]? with
       | none=>exact wpS_pure ⟨rfl,rs4,g4⟩
       | some e =>
        obtain⟨e1,e2,older⟩:=e
        try dsimp only
        by_cases ho:older<=pw
        ·rw[if_pos ho];exact wpS_pure ⟨rfl,rs4,g4⟩
        ·rw[if_neg ho];refine wpS_bind (wN C dD ap (by lia) g4 fun st5 rs5 g5 _=> ?_);exact wpS_pure ⟨rfl,rs5,g5⟩
      ·rw[if_neg h1];exact wpS_pure ⟨rfl,rs4,g4⟩
     ·rintro c st4 ⟨rfl,rs4,g4⟩
      try dsimp only
      refine wpS_bind (wpS_modify (wpS_bind (wpS_modify (wpS_pure ?_))));exact tail n st3 run rest' g3 hne hri hln _ rs4 (g4.pow (fun x=>(x.1,x.2.1,pw)) fun x=>rfl)
   ·rw[if_neg hlt];obtain⟨run,rest',g3,hne,hri,hln⟩:=key m st2 hm1 (by lia) hr2 hu2;refine wpS_bind (wpS_get ?_)
    try dsimp only
    cases hb:(pendingOf st2).back? with
    | none =>
     try dsimp only
     refine wpS_bind (wpS_modify (wpS_pure ?_));exact tail m st2 run rest' g3 hne hri hln st2 rs g3
    | some e =>
     obtain⟨s1,n1,pw1⟩:=e
     try dsimp only
     generalize power' a₀.size (2 * s1+n1) (2 * s1+n1+n1+m) a₀.size=pw;refine wpS_bind (wpS_mono (wpS_forRange (I:=fun _ c st'=>c=(none,())/\∃rs',Gs ρ κ a₀ st' rs' (run++rest')) (Q:=fun c st'=>c=(none,())/\∃rs',Gs ρ κ a₀ st' rs' (run++rest')) ?_ (fun _ _ h=>h) ⟨rfl,rs,g3⟩) ?_)
     ·rintro x c st4 _ _ ⟨rfl,rs4,g4⟩;refine wpS_bind (wpS_get ?_)
      try dsimp only
      by_cases h1:(pendingOf st4).size>1
      ·rw[if_pos h1];cases hq:(pendingOf st4)[(pendingOf st4).size - 2]? with
       | none=>exact wpS_pure ⟨rfl,rs4,g4⟩
       | some e =>
        obtain⟨e1,e2,older⟩:=e
        try dsimp only
        by_cases ho:older<=pw
        ·rw[if_pos ho];exact wpS_pure ⟨rfl,rs4,g4⟩
        ·rw[if_neg ho];refine wpS_bind (wN C dD ap (by lia) g4 fun st5 rs5 g5 _=> ?_);exact wpS_pure ⟨rfl,rs5,g5⟩
      ·rw[if_neg h1];exact wpS_pure ⟨rfl,rs4,g4⟩
     ·rintro c st4 ⟨rfl,rs4,g4⟩
      try dsimp only
      refine wpS_bind (wpS_modify (wpS_bind (wpS_modify (wpS_pure ?_))));exact tail m st2 run rest' g3 hne hri hln _ rs4 (g4.pow (fun x=>(x.1,x.2.1,pw)) fun x=>rfl)
 case post =>
  rintro c st' ⟨lo,rs,rfl,g⟩
  dsimp only
  refine wpS_bind (wpS_mono (wpS_forRange (I:=fun x c st''=>∃rs:List (List Keyed),c=(none,())/\Gs ρ κ a₀ st'' rs []/\rs.length<=max 1 (a₀.size - x)) (Q:=fun c st''=>∃rs:List (List Keyed),c=(none,())/\Gs ρ κ a₀ st'' rs []/\rs.length<=1) ?_ ?_ ⟨rs,rfl,g,?_⟩) ?_)
  ·rintro x c st'' _ hx ⟨rs,rfl,g,hl⟩;refine wpS_bind (wpS_get ?_)
   try dsimp only
   by_cases h1:(pendingOf st'').size<=1
   ·rw[if_pos h1];exact wpS_pure ⟨rs,rfl,g,by rw[←g.len];exact h1⟩
   ·rw[if_neg h1];have gl:=g.len;have any:∀b:Prop,[Decidable b]->(if b then (pendingOf st'').size - 2 - 1 else (pendingOf st'').size - 2)+1<(pendingOf st'').size:=fun b _=>by
     split<;>lia
    refine wpS_bind (wN C dD ap (any _) g fun st5 rs5 g5 h5=> ?_);exact wpS_pure ⟨rs5,rfl,g5,by lia⟩
  ·rintro c st'' ⟨rs,rfl,g,hl⟩;exact⟨rs,rfl,g,by lia⟩
  ·have:=G8 fun r hr=>(g.rn r hr).1;have:=g.tot;simp only[List.length_nil]at this
   lia
  ·rintro c st'' ⟨rs,rfl,g,hl⟩;refine wpS_pure (h st'' (Array.perm_iff_toList_perm.mp g.pm) g.fl ?_);rw[g.ar,List.append_nil]
   match rs,hl,g.rn with
   | [],_,_=>exact List.Pairwise.nil
   | [r],_,hr=>rw[List.flatten_cons,List.flatten_nil,List.append_nil];exact(hr r (.head _)).2
   | _::_::_,hl,_=>simp only[List.length_cons]at hl;lia
end
end L2
namespace L2
open PySem PySem.W PyProof.Rows PySem.Calls
section
variable {prog:Program}{w:World}{A:Around}{E:Value->Shared->Prop}{s:Shared}{α:Type}{f:Value->α}{lt:α->α->Bool}{d:α}{l:List α}
def jP (f:Value->α)(lt:α->α->Bool)(l:List α)(v:Value):Int:=((l.countP fun y=>lt y (f v):Nat):Int)
theorem CH (o:Ord lt l){x y:Value}(hx:f x∈l)(hy:f y∈l)(h:lt (f x) (f y)=true):jP f lt l x<jP f lt l y :=
 Int.ofNat_lt.mpr (tG (l:=l) (p:=fun z=>lt z (f x)) (q:=fun z=>lt z (f y)) (fun z hz h'=>o.tr z hz _ hx _ hy h' h) ⟨f x,hx,h,o.irr _ hx⟩)
theorem QT (o:Ord lt l){x y:Value}(hx:f x∈l)(hy:f y∈l):decide (jP f lt l x<jP f lt l y)=lt (f x) (f y):=by
 cases h:lt (f x) (f y) with
 | true=>exact decide_eq_true (CH o hx hy h)
 | false =>
  refine decide_eq_false fun h1=> ?_
  by_cases e:f x=f y
  ·unfold jP at h1;rw[e]at h1;exact Int.lt_irrefl _ h1
  ·rcases o.tot _ hx _ hy e with h2|h2
   ·rw[h]at h2;cases h2
   ·have:=CH (f:=f) o hy hx h2
    lia
theorem tI {vs:List Value}{x:Keyed} (h:x∈(vs.toArray.zip vs.toArray).toList):x.1∈vs/\x.2=x.1:=by
 rw[Array.toList_zip]at h;rw[List.zip_eq_zipWith]at h;have:∀l:List Value,x∈List.zipWith Prod.mk l l->x.1∈l/\x.2=x.1:=by
  intro l
  induction l with
  | nil=>intro h;cases h
  | cons a l ih =>
   intro h;rw[List.zipWith_cons_cons]at h;rcases List.mem_cons.mp h with rfl|h
   ·exact⟨.head _,rfl⟩
   ·exact⟨.tail _ (ih h).1,(ih h).2⟩
 exact this _ h
theorem KO {vs:List Value}{b:Array Keyed} (p:b.toList.Perm (vs.toArray.zip vs.toArray).toList):(b.map (·.2)).toList.Perm vs:=by
 rw[Array.toList_map];refine(p.map _).trans ?_;rw[Array.toList_zip,List.map_snd_zip];exact Nat.le_refl _
theorem YD (o:Ord lt l)(nd:l.Nodup){vs:List Value}(hf:vs.map f=l){out:List Value}(p:out.Perm vs)(up:out.Pairwise fun x y=>jP f lt l x<jP f lt l y):out=bP Value.none (fun i j=>lt (l.getD i d) (l.getD j d)) vs:=by
 have hm:∀{x:Value},x∈vs->f x∈l:=fun h=>hf▸List.mem_map.mpr ⟨_,h,rfl⟩;have p2:=nQ (d:=Value.none) (l:=vs) (fun i j=>lt (l.getD i d) (l.getD j d));have pw:=xW (d:=d) o nd;rw[←hf,FN f Value.none d,List.pairwise_map,hf]at pw;refine yL (lt:=fun x y=>lt (f x) (f y)) (fun x hx=>o.irr _ (hm (p.mem_iff.mp hx))) (fun x hx y hy z hz h1 h2=>o.tr _ (hm (p.mem_iff.mp hx)) _ (hm (p.mem_iff.mp hy)) _ (hm (p.mem_iff.mp hz)) h1 h2) (p.trans p2.symm) ?_ pw;refine up.imp_of_mem fun {x y} hx hy h=> ?_;rw[←QT (f:=f) o (hm (p.mem_iff.mp hx)) (hm (p.mem_iff.mp hy))];exact decide_eq_true h
theorem WA {vs:List Value}{κ:SortKind} (hf:vs.map f=l) (o:Ord lt l) (nd:l.Nodup)
  (hc:∀i j,i<vs.length->j<vs.length->∀C,C (lt (l.getD i d) (l.getD j d)) s->kas_ask prog w A κ vs i j C s){Q:SortSt->Shared->Prop}
  (h:∀st',(arrOf st').map (·.2)=(bP Value.none (fun i j=>lt (l.getD i d) (l.getD j d)) vs).toArray->failedOf st'=none->Q st' s) :
  wpAny (model prog w) A ((sortRuns').run (SortSt.mk' κ (vs.toArray.zip vs.toArray) #[] 7 none)) (fun r s'=>Q r.2 s') E s:=by
 have hm:∀{x:Value},x∈vs->f x∈l:=fun h=>hf▸List.mem_map.mpr ⟨_,h,rfl⟩;have C:l8 prog w A E s κ (fun x=>x.1∈vs/\x.2=x.1) (fun x=>jP f lt l x.1):=by
  refine⟨fun {x y st Q} hx hy hk hQ=> ?_⟩;rw[lt'_eq];refine wpS_bind (wpS_get ?_);rw[hk];obtain⟨i,hi,ei⟩:=List.getElem_of_mem hx.1;obtain⟨j,hj,ej⟩:=List.getElem_of_mem hy.1;have e:∀(k:Nat) (hk:k<vs.length),l.getD k d=f vs[k]:=fun k hk=>by
   rw[←hf,List.getD_eq_getElem?_getD,List.getElem?_map,List.getElem?_eq_getElem hk];rfl
  have hcc:=hc i j hi hj (fun b s'=>s'=s/\b=decide (jP f lt l x.1<jP f lt l y.1)) ⟨rfl,by rw[QT o (hm hx.1) (hm hy.1),e i hi,e j hj,ei,ej]⟩;unfold kas_ask at hcc;have g:∀(k:Nat) (hk:k<vs.length),vs.getD k Value.none=vs[k]:=fun k hk=>by rw[List.getD_eq_getElem?_getD,List.getElem?_eq_getElem hk];rfl
  rw[g i hi,g j hj,ei,ej]at hcc;refine wpS_bind (wpS_lift (wpAny_attempt (wpAny_mono hcc (fun b s' hb=>⟨hb.1,?_⟩) fun _ _ z=>z.elim)));rw[hb.2];exact wpS_pure hQ
 have ap:Apart (fun x:Keyed=>jP f lt l x.1) (vs.toArray.zip vs.toArray):=by
  unfold Apart;have e:(vs.toArray.zip vs.toArray).toList.map (fun x:Keyed=>jP f lt l x.1)=vs.map (jP f lt l):=by
   show (vs.toArray.zip vs.toArray).toList.map (jP f lt l∘Prod.fst)=_;rw[←List.map_map,Array.toList_zip,List.map_fst_zip];exact Nat.le_refl _
  rw[e,List.nodup_iff_pairwise_ne,List.pairwise_map];have nd':vs.Pairwise fun x y=>f x≠f y:=by rw[←hf]at nd;exact List.pairwise_map.mp nd
  refine nd'.imp_of_mem fun {x y} hx hy hne h=> ?_;rcases o.tot _ (hm hx) _ (hm hy) hne with h2|h2
  ·have:=CH (f:=f) o (hm hx) (hm hy) h2;lia
  ·have:=CH (f:=f) o (hm hy) (hm hx) h2;lia
 have:=R4 (st:=SortSt.mk' κ (vs.toArray.zip vs.toArray) #[] 7 none) (Q:=fun _ st'=>Q st' s) C (fun x hx=>tI hx) ap rfl rfl rfl fun st' p hfl hr=>by
  refine h st' ?_ hfl
  apply Array.toList_inj.mp
  show _=bP Value.none (fun i j=>lt (l.getD i d) (l.getD j d)) vs;refine YD o nd hf (KO p) ?_;rw[Array.toList_map,List.pairwise_map];refine List.Pairwise.imp_of_mem (fun {x y} hx hy h=> ?_) hr;rw[(tI (p.mem_iff.mp hx)).2,(tI (p.mem_iff.mp hy)).2];exact h
 unfold wpS at this;refine wpAny_mono this (fun r s' hr=> ?_) fun _ _ e=>e;rw[hr.1];exact hr.2
theorem DQ {a:Addr}{vs:List Value}{n:Nat}{P:PySem.Fin->Shared->Prop} (f:Value->α) (lt:α->α->Bool) (d:α) {l:List α} (κ:SortKind) (hf:vs.map f=l) (o:Ord lt l) (nd:l.Nodup) (ho:s.heap.get? a=some (seqObj "list" vs.toArray n)) (hz:vs.length<=sizeLine)
  (hk:2<=vs.length->∀h',nF a s.heap h'->∀R:SortKind->Shared->Prop,R κ { s with heap:=h' }->wpAny (model prog w) A (keyKind' vs.toArray) R (fun _ _=>False) { s with heap:=h' })
  (hc:2<=vs.length->∀h',nF a s.heap h'->∀i j,i<vs.length->j<vs.length->∀C,C (lt (l.getD i d) (l.getD j d)) { s with heap:=h' }->kas_ask prog w A κ vs i j C { s with heap:=h' })
  (h:∀h' e,nF a s.heap h'->h'.get? a=some (seqObj "list" (bP Value.none (fun i j=>lt (l.getD i d) (l.getD j d)) vs).toArray e)->P (.done (.ret .none)) { s with heap:=h' }) :
  wpAny (model prog w) A (Builtin.«list.sort» ⟨[.ref a],[]⟩) P E s:=by
 generalize hg1:s.heap.update a (Obj.mapSeq fun _=>(#[]:Array Value))=g1;have sb1:Heap.SameBut a s.heap g1:=hg1▸Heap.SameBut.update s.heap a (Obj.mapSeq fun _=>(#[]:Array Value));obtain⟨e1,o1⟩:∃e1,g1.get? a=some (seqObj "list" #[] e1):=hg1▸⟨_,get?_update_seq ho fun _=> #[]⟩;have lt1:a<g1.objs.size:=Heap.lt_size o1;have kp:nF a s.heap ((g1.push (seqObj "tuple" vs.toArray 0)).push (seqObj "list" #[] 0)):=fun b o hb q =>
  Heap.get?_push_of_some _ (Heap.get?_push_of_some _ ((sb1.2 b hb).trans q))
 have o3:((g1.push (seqObj "tuple" vs.toArray 0)).push (seqObj "list" #[] 0)).get? a=some (seqObj "list" #[] e1):=Heap.get?_push_of_some _ (Heap.get?_push_of_some _ o1);generalize hg3:(g1.push (seqObj "tuple" vs.toArray 0)).push (seqObj "list" #[] 0)=g3 at kp o3;have fin:∀out:List Value,out.length=vs.length->out=bP Value.none (fun i j=>lt (l.getD i d) (l.getD j d)) vs->wpAny (model prog w) A (do
   let touched:=(←seqEpoch a) !=e1
   Builtin.List.listUpdate (.ref a) fun _=>out.toArray
   if let some e:=(none:Option Value) then rule "list.sort.comparison-raised";throw e
   if touched then rule "list.sort.modified";raiseError "ValueError" "list modified during sort"
   ret .none) P E { s with heap:=g3 }:=by
  intro out hl ho';obtain⟨e2,o4⟩:∃e2,(g3.update a (Obj.mapSeq fun _=>out.toArray)).get? a=some (seqObj "list" out.toArray e2):=⟨_,get?_update_seq o3 fun _=>out.toArray⟩
  refine wpAny_bind (seqEpoch_at (s:={ s with heap:=g3 }) o3 rfl ?_);refine wpAny_bind (listUpdate_at (s:={ s with heap:=g3 }) o3 rfl ?_ (Nat.zero_le _) (by rw[List.size_toArray];lia));simp only[bne_self_eq_false,Bool.false_eq_true,if_false];refine wpAny_pure (h _ e2 (fun b o hb q=> ?_) (ho'▸o4));exact((Heap.SameBut.update g3 a (Obj.mapSeq fun _=>out.toArray)).2 b hb).trans (kp b o hb q)
 rw[list_sort_plain];refine wpAny_bind (listItems_at ho rfl (wpAny_bind (listUpdate_at ho rfl ?_ (by rw[List.size_toArray];lia) (Nat.zero_le _))));rw[hg1];refine wpAny_bind (seqEpoch_at (s:={ s with heap:=g1 }) o1 rfl ?_);refine wpAny_bind (wpAny_newTuple ?_ (by exact hz));refine wpAny_bind (wpAny_newList ?_ (Nat.zero_le _));refine wpAny_holding ?_;show wpAny (model prog w) A _ P E { s with heap:=(g1.push (seqObj "tuple" vs.toArray 0)).push (seqObj "list" #[] 0) };rw[hg3]
 dsimp only
 by_cases h2:vs.toArray.size<2
 ·rw[if_pos h2,if_pos h2];have h2':vs.length<2:=by rwa [List.size_toArray]at h2
  refine wpAny_bind (wpAny_pure ?_);rw[StateT.run_pure];refine wpAny_bind (wpAny_pure ?_)
  dsimp only
  have ez:(arrOf (SortSt.mk' general' (vs.toArray.zip vs.toArray) #[] 7 none)).map (·.2)=vs.toArray:=by
   show (vs.toArray.zip vs.toArray).map (·.2)=_
   apply Array.toList_inj.mp
   rw[Array.toList_map,Array.toList_zip,List.map_snd_zip];exact Nat.le_refl _
  rw[ez];exact fin vs rfl (by unfold bP;rw[if_pos h2'])
 ·rw[if_neg h2,if_neg h2];have h2':2<=vs.length:=by rw[List.size_toArray]at h2;lia
  refine wpAny_bind (wpAny_mono (hk h2' _ kp (fun κ' s'=>κ'=κ/\s'={ s with heap:=g3 }) ⟨rfl,rfl⟩) ?_ fun _ _ x=>x.elim);rintro _ _ ⟨rfl,rfl⟩;refine wpAny_bind (wpAny_mono (WA (d:=d) (Q:=fun st' s'=>(arrOf st').map (·.2)=(bP Value.none (fun i j=>lt (l.getD i d) (l.getD j d)) vs).toArray/\failedOf st'=none/\s'={ s with heap:=g3 }) hf o nd (hc h2' _ kp) fun st' a1 a2=>⟨a1,a2,rfl⟩) ?_ fun _ _ e=>e);rintro ⟨⟨⟩,st'⟩ _ ⟨har,hfl,rfl⟩
  dsimp only
  rw[har,hfl];exact fin _ (nQ _).length_eq rfl
theorem HM {p:Addr}{vs:List Value}{Q:Value->Shared->Prop} (f:Value->α) (lt:α->α->Bool) (d:α) {l:List α} (κ:SortKind) (hf:vs.map f=l) (o:Ord lt l) (nd:l.Nodup) (hl:s.heap.IsList p vs.toArray) (hz64:vs.length<=sizeLine)
  (hk:2<=vs.length->∀h',(∀b o,s.heap.get? b=some o->h'.get? b=some o)->∀R:SortKind->Shared->Prop,R κ { s with heap:=h' }->wpAny (model prog w) A.in1.in1 (keyKind' vs.toArray) R (fun _ _=>False) { s with heap:=h' })
  (hc:2<=vs.length->∀h',(∀b o,s.heap.get? b=some o->h'.get? b=some o)->∀i j,i<vs.length->j<vs.length->∀C,C (lt (l.getD i d) (l.getD j d)) { s with heap:=h' }->kas_ask prog w A.in1.in1 κ vs i j C { s with heap:=h' })
  (h:∀D h' e,s.heap.objs.size<=D->(∀b o,s.heap.get? b=some o->h'.get? b=some o)->h'.get? D=some (seqObj "list" (bP Value.none (fun i j=>lt (l.getD i d) (l.getD j d)) vs).toArray e)->Q (.ref D) { s with heap:=h' }) :
  wpAny (model prog w) A (call (.builtin "sorted") [.ref p]) Q E s:=by
 refine Calls.call_function_entry kind_sorted plain_sorted entry_sorted (args_sorted1 _) ?_;unfold Builtin.«sorted»;refine wpAny_bind (m:=checkCount "sorted" 1 1 _) (wpAny_pure (wpAny_bind (collect_list hl ?_ hz64)));refine wpAny_bind (wpAny_newList ?_ hz64);generalize hq:(s.heap.push (seqObj "list" #[] 0)).update s.heap.objs.size (Obj.mapSeq (·++vs.toArray))=q;have qs:q.objs.size=s.heap.objs.size+1:=by rw[←hq,Heap.size_update,size_push']
 have qk:∀b o,s.heap.get? b=some o->q.get? b=some o:=fun b o e=>by
  have bl:b<s.heap.objs.size:=Heap.lt_size e;rw[←hq,Heap.get?_update_ne _ _ _ _ (Nat.ne_of_lt bl),Heap.get?_push_ne _ _ _ (Nat.ne_of_lt bl)];exact e
 have oD:(q.push (seqObj "list" vs.toArray 0)).get? q.objs.size=some (seqObj "list" vs.toArray 0):=Heap.get?_push_size _ rfl;have kD:∀h',nF q.objs.size (q.push (seqObj "list" vs.toArray 0)) h'->∀b o,s.heap.get? b=some o->h'.get? b=some o:=fun h' k b o e =>
  k b o (Nat.ne_of_lt (by rw[qs];exact Nat.lt_succ_of_lt (Heap.lt_size e))) (Heap.get?_push_of_some _ (qk b o e))
 refine wpAny_bind (wpAny_holding (wpAny_call_entry slot_list_sort ⟨_,oD,rfl⟩ entry_list_sort ?body (args_list_sort _)))
 case body =>
  refine DQ (s:={ s with heap:=q.push (seqObj "list" vs.toArray 0) }) f lt d κ hf o nd oD hz64 (fun h2 h' k=>hk h2 h' (kD h' k)) (fun h2 h' k=>hc h2 h' (kD h' k)) fun h' e k o'=> ?_;exact⟨_,rfl,wpAny_pure ⟨_,rfl,h _ h' e (by show s.heap.objs.size<=q.objs.size;rw[qs];exact Nat.le_succ _) (kD h' k) o'⟩⟩
end
end L2
namespace L2
open PySem PySem.W PyProof.Rows PySem.Calls
section
variable {X:Cx}{H:Hp}
def vK:V->Key
 | .int i=> .inl i
 | .str x=> .inr x
 | _=> .inl 0
theorem Y7:∀k:Key,vK (kV k)=k
 | .inl _=>rfl
 | .inr _=>rfl
def CD (H:Hp):Value->List Key
 | .ref p=>match H p with|some (.tup xs)=>xs.map vK|_=>[]
 | _=>[]
theorem PQ {p:Addr}{r:List Key} (e:H p=some (.tup (r.map kV))):CD H (.ref p)=r:=by
 show (match H p with|some (.tup xs)=>xs.map vK|_=>[])=r;rw[e];show (r.map kV).map vK=r;rw[List.map_map];exact(List.map_congr_left fun k _=>Y7 k).trans (List.map_id _)
theorem vU:∀{vs:List V}{rs:List (List Key)}{us:List Value},KRows H vs rs->Vals vs us->us.map (CD H)=rs
 | _,_,_,.nil,.nil=>rfl
 | _::_,r::_,_::_,.cons ⟨p,hv,e⟩ q,.cons rv rt=>by
  subst hv;cases rv;rw[List.map_cons,PQ e,vU q rt]
def CL (K:PySem.W.Frag):List V->Hp->VK->Prop:=fun xs H Q=>∃p vs rs sh,xs=[.ref p]/\SqL K H p vs/\KRows H vs rs/\rs.Nodup/\(∀r∈rs,r.map cO=sh)/\sh≠[]/\∀l,H l=none->Q (.ref l) (upd H l (.lst (CF rs vs)))
theorem A7:dO X (.builtin "sorted") (CL X.K):=by
 intro pins s σ H xs us Q I r h;obtain⟨p,vs,rs,sh,rfl,hq,kr,nd,hs,hn,q⟩:=h;obtain⟨u,rfl,rx⟩:=jZ r;cases rx;obtain⟨its,rv,pl,hz⟩:=I.list hq;have hl:=rv.length;have hT:∃T:Value,(T==T)=true/\(T !=Value.type "tuple")=true/\∀(h':Heap) (k:Key) (u:Value),sh.head? =some (cO k)->RelV (kV k) u->Looks (model X.prog X.w) h' (typeOf u) T:=by
  cases sh with
  | nil=>exact absurd rfl hn
  | cons b sh =>
   cases b with
   | true =>
    refine⟨.type "int",rfl,by decide,fun h' k u hk ru=> ?_⟩;cases k with
    | inl i=>obtain⟨t,rfl⟩:=ru;exact Looks.of_pure rfl
    | inr x=>cases hk
   | false =>
    refine⟨.type "str",rfl,by decide,fun h' k u hk ru=> ?_⟩;cases k with
    | inl i=>cases hk
    | inr x=>obtain⟨t,rfl⟩:=ru;exact Looks.of_pure rfl
 obtain⟨T,t1,t2,t3⟩:=hT;refine HM (CD H) c9 [] (tuples' true) (vU kr rv) (wC ⟨sh,hs⟩) nd pl.isList (by lia) (fun h2 h' kp R hR=> ?_) (fun h2 h' kp i j hi hj C hC=> ?_) fun D h' e hD kp o'=> ?_
 ·obtain⟨fs,f1,f2,f3⟩:=tU I kp (fun k u=>t3 h' k u) kr rv hs hn;refine kat_kind (s:={ s with heap:=h' }) f1 (by lia) f3 t1 ?_;rw[t2];exact hR
 ·obtain⟨p1,r1,x1,y1,z1⟩:=kr.get (i:=i) (List.getElem?_eq_getElem (by lia));obtain⟨p2,r2,x2,y2,z2⟩:=kr.get (i:=j) (List.getElem?_eq_getElem (by lia));obtain⟨u1,v1,w1⟩:=rv.get (List.getElem?_eq_getElem (show i<vs.length by lia));obtain⟨u2,v2,w2⟩:=rv.get (List.getElem?_eq_getElem (show j<vs.length by lia));rw[x1]at w1;rw[x2]at w2;cases w1;cases w2;obtain⟨o1,us1,n1,g1,c1,d1,l1⟩:=kO I z1;obtain⟨o2,us2,n2,g2,c2,d2,l2⟩:=kO I z2;have s1:=hs r1 (List.mem_of_getElem? y1);have s2:=hs r2 (List.mem_of_getElem? y2);have e1:=l1.length;have e2:=l2.length;rw[List.length_map]at e1 e2;have e3:r1.length=r2.length:=by rw[←List.length_map (f:=cO),s1,←s2,List.length_map]
  unfold kas_ask;rw[List.getD_eq_getElem?_getD,List.getD_eq_getElem?_getD,v1,v2];refine kat_lt (s:={ s with heap:=h' }) (kp _ _ g1) d1 (kp _ _ g2) d2 ?_;rw[show decide (us1.toArray.size<us2.toArray.size)=false from decide_eq_false (by rw[List.size_toArray,List.size_toArray];lia)];refine EA 0 (s1.trans s2.symm) l1 l2 ?_;have ec:nB rs i j=c9 r1 r2:=by
   unfold nB;rw[List.getD_eq_getElem?_getD,List.getD_eq_getElem?_getD,y1,y2];rfl
  rw[show c9 (rs.getD i []) (rs.getD j [])=c9 r1 r2 from ec]at hC;exact hC
 ·exact⟨.ref D,_,I.laid (t':=s.toks) kp hD (show ObjOk X.prog X.w _ h' _ (.lst _) from⟨by show (bP _ _ _).length<=_;rw[qO];exact hz,_,e,t7 _ rv,o'⟩),rfl,q _ (I.hok.fresh hD)⟩
end
end L2
namespace L2
open PySem PySem.W PyProof.Rows
section
variable {prog:Program}{w:World}{A:Around}{E:Value->Shared->Prop}{s:Shared}
end
open Sem (wp) in
open AutoSeq1 (wpAny_loadPart') in
section
variable {prog:Program}{w:World}{A:Around}{E:Value->Shared->Prop}{s:Shared}
end
end L2
namespace L2
open PySem PySem.W PyProof.Rows
section
variable {prog:Program}{w:World}{A:Around}{E:Value->Shared->Prop}{s:Shared}
end
section
variable {X:Cx}
end
end L2
namespace L2
open PySem PySem.W PyProof.Rows
section
variable {K:PySem.W.Frag}{H:Hp}{σ:St}{Q:VK}{R:It->Hp->Prop}{nx bk ct:St->Hp->Prop}{rt:VK}
theorem K5 {p:Addr}{vs:List V}{rs:List (List Key)}{sh:List Bool} (e:SqL K H p vs) (kr:KRows H vs rs) (nd:rs.Nodup) (hs:∀r∈rs,r.map cO=sh) (hn:sh≠[]) (h:∀l ws H',H l=none->Same H H'->H' l=some (.lst ws)->KRows H' ws (gT rs)->Q (.ref l) H'):CL K [.ref p] H Q :=
 ⟨p,vs,rs,sh,rfl,e,kr,nd,hs,hn,fT fun l H' n S e=>h l _ H' n S e ((w9 kr).same S)⟩
end
end L2
namespace L2
open PySem PySem.W PyProof.Rows PySem.Calls
section
variable {prog:Program}{w:World}{A:Around}{E:Value->Shared->Prop}{s:Shared}{d:Addr}{α:Type}
theorem FR {T:String}{r:Addr}{n:Nat}{P:Nat->Value->Prop}{OK:Heap->Prop}{Q:Value->Shared->Prop} (S:KdlSrc prog w T r d n P OK) (hh:A.handled=none) (hok:OK s.heap) (hz:n<=sizeLine) (f:Value->α) (lt:α->α->Bool) (d0:α) {l:List α} (κ:SortKind) (o:Ord lt l) (nd:l.Nodup)
  (hf:∀vs:List Value,vs.length=n->(∀j v,vs[j]? =some v->P j v)->vs.map f=l)
  (hk:∀vs:List Value,vs.length=n->(∀j v,vs[j]? =some v->P j v)->2<=vs.length->∀h' tk,(∀b o,s.heap.get? b=some o->h'.get? b=some o)->∀R:SortKind->Shared->Prop,R κ { s with heap:=h',toks:=tk }->wpAny (model prog w) A.in1.in1 (keyKind' vs.toArray) R (fun _ _=>False) { s with heap:=h',toks:=tk })
  (hc:∀vs:List Value,vs.length=n->(∀j v,vs[j]? =some v->P j v)->2<=vs.length->∀h' tk,(∀b o,s.heap.get? b=some o->h'.get? b=some o)->∀i j,i<vs.length->j<vs.length->∀C,C (lt (l.getD i d0) (l.getD j d0)) { s with heap:=h',toks:=tk }->kas_ask prog w A.in1.in1 κ vs i j C { s with heap:=h',toks:=tk })
  (h:∀(vs:List Value) D h' tk e,vs.length=n->(∀j v,vs[j]? =some v->P j v)->s.heap.objs.size<=D->(∀b o,s.heap.get? b=some o->h'.get? b=some o)->h'.get? D=some (seqObj "list" (bP Value.none (fun i j=>lt (l.getD i d0) (l.getD j d0)) vs).toArray e)->Q (.ref D) { s with heap:=h',toks:=tk }) :
  wpAny (model prog w) A (call (.builtin "sorted") [.ref r]) Q E s:=by
 refine Calls.call_function_entry kind_sorted plain_sorted entry_sorted (args_sorted1 _) ?_;unfold Builtin.«sorted»;refine wpAny_bind (m:=checkCount "sorted" 1 1 _) (wpAny_pure (wpAny_bind (FK S hh hok hz fun q tk acc qk qz hacc=> ?_)));have hl:acc.toList.length=n:=by rw[Array.length_toList];exact hacc.1
 have hP:∀j v,acc.toList[j]? =some v->P j v:=fun j v e=>hacc.2 j v (by rw[←Array.getElem?_toList];exact e);generalize acc.toList=vs at hl hP;have hz':vs.length<=sizeLine:=by lia
 refine wpAny_bind (wpAny_newList ?_ hz');have oD:(q.push (seqObj "list" vs.toArray 0)).get? q.objs.size=some (seqObj "list" vs.toArray 0):=Heap.get?_push_size _ rfl;have kD:∀h',nF q.objs.size (q.push (seqObj "list" vs.toArray 0)) h'->∀b o,s.heap.get? b=some o->h'.get? b=some o:=fun h' k b o e =>
  k b o (Nat.ne_of_lt (Heap.lt_size (qk b o e))) (Heap.get?_push_of_some _ (qk b o e))
 refine wpAny_bind (wpAny_holding (wpAny_call_entry slot_list_sort ⟨_,oD,rfl⟩ entry_list_sort ?body (args_list_sort _)))
 case body =>
  refine DQ (s:={ s with heap:=q.push (seqObj "list" vs.toArray 0),toks:=tk }) f lt d0 κ (hf vs hl hP) o nd oD hz' (fun h2 h' k=>hk vs hl hP h2 h' tk (kD h' k)) (fun h2 h' k=>hc vs hl hP h2 h' tk (kD h' k)) fun h' e k o'=> ?_;exact⟨_,rfl,wpAny_pure ⟨_,rfl,h vs _ h' tk e hl hP (Nat.le_of_lt qz) (kD h' k) o'⟩⟩
end
section
variable {X:Cx}
def AD:List V->Hp->VK->Prop:=fun xs H Q=>∃v d kvs sh,xs=[.ref v]/\H v=some (zC v d)/\H d=some (.dT kvs)/\(kvs.map (·.1)).Nodup/\(∀e∈kvs,e.1.map cO=sh)/\sh≠[]/\∀ys,KRows H ys (kvs.map (·.1))->∀l,H l=none->Q (.ref l) (upd H l (.lst (CF (kvs.map (·.1)) ys)))
theorem BB (hc:X.calm=true):dO X (.builtin "sorted") AD:=by
 intro pins s σ H xs us Q I r h;obtain⟨v,d,kvs,sh,rfl,hv,hd,nd,hs,hn,q⟩:=h;obtain⟨u,rfl,rx⟩:=jZ r;cases rx;obtain⟨hview,_,_⟩:=(show ObjOk X.prog X.w H s.heap v (zC v d) from I.hok v _ hv)
 have hview:KdlKeysView s.heap v d:=hview;obtain⟨z,y,ks,kt,o,es,ep,h1,h2,h3,h4,h5⟩:=(show ObjOk X.prog X.w H s.heap d (.dT kvs) from I.hok d _ hd)
 have hz:es.size=kvs.length:=by rw[size_of_entries h4,KT.len kt]
 have kr:=GR kt;have hkl:ks.length=kvs.length:=(KT.len kt).symm;have hs':∀r∈kvs.map (·.1),r.map cO=sh:=fun r hr=>by obtain⟨e,he,rfl⟩:=List.mem_map.mp hr;exact hs e he
 have hT:∃T:Value,(T==T)=true/\(T !=Value.type "tuple")=true/\∀(h':Heap) (k:Key) (u:Value),sh.head? =some (cO k)->RelV (kV k) u->Looks (model X.prog X.w) h' (typeOf u) T:=by
  cases sh with
  | nil=>exact absurd rfl hn
  | cons b sh =>
   cases b with
   | true =>
    refine⟨.type "int",rfl,by decide,fun h' k u hk ru=> ?_⟩;cases k with
    | inl i=>obtain⟨t,rfl⟩:=ru;exact Looks.of_pure rfl
    | inr x=>cases hk
   | false =>
    refine⟨.type "str",rfl,by decide,fun h' k u hk ru=> ?_⟩;cases k with
    | inl i=>cases hk
    | inr x=>obtain⟨t,rfl⟩:=ru;exact Looks.of_pure rfl
 obtain⟨T,t1,t2,t3⟩:=hT;have rvs:∀vs:List Value,vs.length=es.size->(∀j x,vs[j]? =some x->∃e:DictEntry,es[j]? =some e/\x=e.key)->Vals (ks.map fun x=>V.ref x.2.1) vs:=fun vs hl hP=>by
  refine vV (by rw[List.length_map];lia) fun i x u g1 g2=> ?_;obtain⟨e,he,rfl⟩:=hP i u g2;rw[List.getElem?_map]at g1;obtain⟨k,hk,rfl⟩:=Option.map_eq_some_iff.mp g1;have e4:=entry_at h4 i;rw[hk,he]at e4;cases e4;rfl
 refine FR (ND (v:=v) h3) (I.ok.hd hc) ⟨hview,h1⟩ (by lia) (CD H) c9 [] (tuples' true) (wC ⟨sh,hs'⟩) nd (fun vs hl hP=>vU kr (rvs vs hl hP)) (fun vs hl hP h2 h' tk kp R hR=> ?_) (fun vs hl hP h2 h' tk kp i j hi hj C hC=> ?_) fun vs D h' tk e hl hP hD kp o'=> ?_
 ·obtain⟨fs,f1,f2,f3⟩:=tU I kp (fun k u=>t3 h' k u) kr (rvs vs hl hP) hs' hn;refine kat_kind (s:={ s with heap:=h',toks:=tk }) f1 (by lia) f3 t1 ?_;rw[t2];exact hR
 ·have rv:=rvs vs hl hP;have hkr:(ks.map fun x=>V.ref x.2.1).length=vs.length:=rv.length;obtain⟨p1,r1,x1,y1,z1⟩:=kr.get (i:=i) (List.getElem?_eq_getElem (by lia));obtain⟨p2,r2,x2,y2,z2⟩:=kr.get (i:=j) (List.getElem?_eq_getElem (by lia));obtain⟨u1,v1,w1⟩:=rv.get (List.getElem?_eq_getElem (show i<(ks.map fun x=>V.ref x.2.1).length by lia));obtain⟨u2,v2,w2⟩:=rv.get (List.getElem?_eq_getElem (show j<(ks.map fun x=>V.ref x.2.1).length by lia));rw[x1]at w1;rw[x2]at w2;cases w1;cases w2;obtain⟨o1,us1,n1,g1,c1,d1,l1⟩:=kO I z1;obtain⟨o2,us2,n2,g2,c2,d2,l2⟩:=kO I z2;have s1:=hs' r1 (List.mem_of_getElem? y1);have s2:=hs' r2 (List.mem_of_getElem? y2);have e1:=l1.length;have e2:=l2.length;rw[List.length_map]at e1 e2;have e3:r1.length=r2.length:=by rw[←List.length_map (f:=cO),s1,←s2,List.length_map]
  unfold kas_ask;rw[List.getD_eq_getElem?_getD,List.getD_eq_getElem?_getD,v1,v2];refine kat_lt (s:={ s with heap:=h',toks:=tk }) (kp _ _ g1) d1 (kp _ _ g2) d2 ?_;rw[show decide (us1.toArray.size<us2.toArray.size)=false from decide_eq_false (by rw[List.size_toArray,List.size_toArray];lia)];refine EA 0 (s1.trans s2.symm) l1 l2 ?_;have ec:nB (kvs.map (·.1)) i j=c9 r1 r2:=by
   unfold nB;rw[List.getD_eq_getElem?_getD,List.getD_eq_getElem?_getD,y1,y2];rfl
  rw[show c9 ((kvs.map (·.1)).getD i []) ((kvs.map (·.1)).getD j [])=c9 r1 r2 from ec]at hC;exact hC
 ·have hlm:(ks.map fun x=>V.ref x.2.1).length<=sizeLine:=by rw[List.length_map];lia
  exact⟨.ref D,_,I.laid (t':=tk) kp hD (show ObjOk X.prog X.w _ h' _ (.lst _) from⟨by show (bP _ _ _).length<=_;rw[qO];exact hlm,_,e,t7 _ (rvs vs hl hP),o'⟩),rfl,q _ kr _ (I.hok.fresh hD)⟩
end
theorem LZ {v d:Addr}{H:Hp}{Q:VK}{kvs:List (List Key×V)} (sh:List Bool) (e:H v=some (zC v d)) (ed:H d=some (.dT kvs)) (nd:(kvs.map (·.1)).Nodup) (hs:∀e∈kvs,e.1.map cO=sh) (hn:sh≠[])
  (h:∀l ws H',H l=none->Same H H'->H' l=some (.lst ws)->KRows H' ws (gT (kvs.map (·.1)))->Q (.ref l) H'):AD [.ref v] H Q :=
 ⟨v,d,kvs,sh,rfl,e,ed,nd,hs,hn,fun ys kr l hl=>h l _ _ hl (rS hl) bK ((w9 kr).same (rS hl))⟩
end L2
namespace L2
def WG {α:Type}:Nat->(List α->Prop)->Prop
 | 0,p=>p []
 | n+1,p=>∀a,WG n (fun l=>p (a::l))
theorem aK {α:Type}:∀(n:Nat) (p:List α->Prop),WG n p->∀us:List α,us.length=n->p us
 | 0,_,h,[],_=>h
 | n+1,_,h,a::us,e=>aK n _ (h a) us (by simpa using e)
 | 0,_,_,_::_,e=>by simp at e
 | _+1,_,_,[],e=>by simp at e
end L2
namespace Prf
open PySem L2
set_option hygiene false
local macro_rules| `(tactic| walk_at"fs")=> `(tactic| exact⟨rfl,rfl,rfl,by decide +kernel,rfl,by decide +kernel,by decide +kernel⟩)
set_option hygiene true
def top (i:Nat):Stmt:=PySem.Challenge.pw_firstout_k22_all_that_is_wrong.main.body.getD i (.Pass ⟨0,0,0,0⟩)
abbrev nG:Stmt:=top 0
abbrev gD:Stmt:=top 10
theorem sc_added_up:aU ["plan","going","turn","name","number"] ["plan"] (aB gD):=by walk_at"fs"
abbrev cN:Stmt:=top 11
theorem sc_rows_that_count:aU ["house","plan","doors"] ["house","plan"] (aB cN):=by walk_at"fs"
abbrev hG:Stmt:=top 12
theorem sc_leaving:aU ["house","plan","numbers","turn","name","number","pair"] ["house","plan"] (aB hG):=by walk_at"fs"
abbrev i9:Stmt:=top 13
theorem sc_coming:aU ["house","plan","numbers","turn","name","number","door","pair"] ["house","plan"] (aB i9):=by walk_at"fs"
abbrev kY:Stmt:=top 14
theorem sc_there:aU ["house","plan","leave","come","inside","room","turn","before"] ["house","plan"] (aB kY):=by walk_at"fs"
abbrev c8:Stmt:=top 15
theorem sc_most_through:aU ["house","turn","name"] ["house","turn","name"] (aB c8):=by walk_at"fs"
abbrev d3:Stmt:=top 16
theorem sc_door_faults:aU ["house","plan","going"] ["house","plan"] (aB d3):=by walk_at"fs"
abbrev dH:Stmt:=top 17
theorem sc_leave_faults:aU ["house","plan","inside","leave","below_last"] ["house","plan","inside"] (aB dH):=by walk_at"fs"
abbrev dY:Stmt:=top 18
theorem sc_full_faults:aU ["house","inside"] ["house","inside"] (aB dY):=by walk_at"fs"
abbrev i8:Stmt:=top 19
theorem sc_faults:aU ["house","plan","inside"] ["house","plan"] (aB i8):=by walk_at"fs"
abbrev gB:Stmt:=top 21
theorem sc_is_whole:aU ["thing"] ["thing"] (aB gB):=by walk_at"fs"
abbrev gZ:Stmt:=top 24
theorem sc_is_name:aU ["thing"] ["thing"] (aB gZ):=by walk_at"fs"
abbrev fG:Stmt:=top 25
theorem sc_need_name:aU ["part","thing"] ["part","thing"] (aB fG):=by walk_at"fs"
abbrev eQ:Stmt:=top 26
theorem sc_need_whole:aU ["part","thing","least"] ["part","thing","least"] (aB eQ):=by walk_at"fs"
abbrev cC:Stmt:=bW (top 27) 0
theorem sc_Door___init__:aU ["self","name","start","end","wide"] ["self","name","start","end","wide"] (aB cC):=by walk_at"fs"
abbrev fI:Stmt:=bW (top 27) 1
theorem sc_Door_lets:aU ["self","turn"] ["self","turn"] (aB fI):=by walk_at"fs"
abbrev dF:Stmt:=bW (top 27) 2
theorem sc_Door_is_exit:aU ["self"] ["self"] (aB dF):=by walk_at"fs"
abbrev fR:Stmt:=bW (top 27) 3
abbrev cV:Stmt:=bW (top 28) 0
theorem sc_Until___init__:aU ["self","name","start","end","wide","until"] ["self","name","start","end","wide","until"] (aB cV):=by walk_at"fs"
abbrev eJ:Stmt:=bW (top 28) 1
theorem sc_Until_lets:aU ["self","turn"] ["self","turn"] (aB eJ):=by walk_at"fs"
abbrev fA:Stmt:=bW (top 28) 2
abbrev cM:Stmt:=bW (top 29) 0
theorem sc_Marked___init__:aU ["self","name","start","end","wide","bits"] ["self","name","start","end","wide","bits"] (aB cM):=by walk_at"fs"
abbrev dQ:Stmt:=bW (top 29) 1
theorem sc_Marked_lets:aU ["self","turn"] ["self","turn"] (aB dQ):=by walk_at"fs"
abbrev d7:Stmt:=bW (top 29) 2
abbrev eS:Stmt:=top 31
theorem sc_need_turns:aU ["first","last"] ["first","last"] (aB eS):=by walk_at"fs"
abbrev cW:Stmt:=top 32
theorem sc_need_each_once:aU ["names","seen","name"] ["names"] (aB cW):=by walk_at"fs"
abbrev cK:Stmt:=top 33
theorem sc_rooms_spoken_of:aU ["doors","people","names","door"] ["doors","people"] (aB cK):=by walk_at"fs"
abbrev eU:Stmt:=top 34
theorem sc_need_rooms:aU ["names","sizes","name"] ["names","sizes"] (aB eU):=by walk_at"fs"
abbrev dE:Stmt:=top 35
theorem sc_added_people:aU ["sizes","people","inside","room","number"] ["sizes","people"] (aB dE):=by walk_at"fs"
abbrev eR:Stmt:=top 36
theorem sc_need_space:aU ["sizes","people","inside"] ["sizes","people"] (aB eR):=by walk_at"fs"
abbrev cE:Stmt:=bW (top 37) 0
theorem sc_House___init__:aU ["self","rooms","doors","people","last","first","sizes","door"] ["self","rooms","doors","people","last","first"] (aB cE):=by walk_at"fs"
abbrev dU:Stmt:=bW (top 37) 1
theorem sc_House_rooms:aU ["self"] ["self"] (aB dU):=by walk_at"fs"
abbrev dW:Stmt:=bW (top 37) 2
theorem sc_House_doors:aU ["self"] ["self"] (aB dW):=by walk_at"fs"
abbrev cJ:Stmt:=bW (top 37) 3
theorem sc_House_need_room:aU ["self","room"] ["self","room"] (aB cJ):=by walk_at"fs"
abbrev dP:Stmt:=bW (top 37) 4
theorem sc_House_holds:aU ["self","room"] ["self","room"] (aB dP):=by walk_at"fs"
abbrev dZ:Stmt:=bW (top 37) 5
theorem sc_House_found:aU ["self","room"] ["self","room"] (aB dZ):=by walk_at"fs"
abbrev fU:Stmt:=bW (top 37) 6
abbrev c5:Stmt:=bW (top 37) 7
abbrev eN:Stmt:=bW (top 37) 8
theorem sc_House_door:aU ["self","name"] ["self","name"] (aB eN):=by walk_at"fs"
abbrev eM:Stmt:=bW (top 37) 9
theorem sc_House_lets:aU ["self","name","turn","door"] ["self","name","turn"] (aB eM):=by walk_at"fs"
abbrev eZ:Stmt:=bW (top 37) 10
abbrev dX:Stmt:=bW (top 37) 11
theorem sc_House_pairs:aU ["self","pairs","turn"] ["self"] (aB dX):=by walk_at"fs"
abbrev dG:Stmt:=top 39
theorem sc__law_cell_at:aU ["_law_script","_law_k"] ["_law_script","_law_k"] (aB dG):=by walk_at"fs"
abbrev eK:Stmt:=top 40
theorem sc__law_drawn:aU ["_law_cell","_law_k","_law_number"] ["_law_cell","_law_k"] (aB eK):=by walk_at"fs"
abbrev fH:Stmt:=top 41
theorem sc__law_door:aU ["_law_name","_law_rooms","_law_draw","_law_first","_law_start","_law_end","_law_wide"] ["_law_name","_law_rooms","_law_draw","_law_first"] (aB fH):=by walk_at"fs"
abbrev eT:Stmt:=top 42
theorem sc__law_house:aU ["_law_script","_law_cell","_law_rooms","_law_first","_law_doors","_law_k","_law_people"] ["_law_script"] (aB eT):=by walk_at"fs"
abbrev fJ:Stmt:=top 43
theorem sc__law_plan:aU ["_law_house_here","_law_script","_law_names","_law_rows","_law_k","_law_cell","_law_draw","_law_turn","_law_name"] ["_law_house_here","_law_script"] (aB fJ):=by walk_at"fs"
abbrev fE:Stmt:=top 44
theorem sc__law_gone:aU ["_law_house_here","_law_plan_here","_law_turn","_law_names"] ["_law_house_here","_law_plan_here","_law_turn","_law_names"] (aB fE):=by walk_at"fs"
abbrev f9:Stmt:=top 45
theorem sc__law_due:aU ["_law_house_here","_law_plan_here","_law_found","_law_turn","_law_name","_law_number","_law_let","_law_room","_law_inside","_law_out","_law_come","_law_left"] ["_law_house_here","_law_plan_here"] (aB f9):=by walk_at"fs"
abbrev lN:Stmt:=top 46
theorem sc_law:aU ["_law_script","_law_house_here","_law_plan_here","_law_handed","_law_due_here","_law_found"] ["_law_script"] (aB lN):=by walk_at"fs"
theorem OT:("zz" :Str).length=2:=by rw[bS];rfl
theorem NB:("door" :Str).length=4:=by rw[bS];rfl
theorem OV:("leave" :Str).length=5:=by rw[bS];rfl
theorem PZ:("full" :Str).length=4:=by rw[bS];rfl
theorem NO:("name" :Str).length=4:=by rw[bS];rfl
theorem PU:("start" :Str).length=5:=by rw[bS];rfl
theorem OC:("wide" :Str).length=4:=by rw[bS];rfl
theorem PX:("until" :Str).length=5:=by rw[bS];rfl
theorem NS:("bits" :Str).length=4:=by rw[bS];rfl
theorem O6:("the first turn is below 0" :Str).length=25:=by rw[bS];rfl
theorem HV:("the last turn is below the first one" :Str).length=36:=by rw[bS];rfl
theorem II:("a row of people is below 0" :Str).length=26:=by rw[bS];rfl
theorem JE:("more are in a room than it holds" :Str).length=32:=by rw[bS];rfl
theorem JG:("m" :Str).length=1:=by rw[bS];rfl
theorem HJ:(" is no name" :Str).length=11:=by rw[bS];rfl
theorem JA:(" is no whole number from " :Str).length=25:=by rw[bS];rfl
theorem IK:(" on" :Str).length=3:=by rw[bS];rfl
theorem IO:("end" :Str).length=3:=by rw[bS];rfl
theorem I0:("mnabc" :Str).length=5:=by rw[bS];rfl
theorem IL:("a" :Str).length=1:=by rw[bS];rfl
theorem IG:("z" :Str).length=1:=by rw[bS];rfl
theorem HZ:("stqrnxu" :Str).length=7:=by rw[bS];rfl
structure DCls (K:W.Frag)(C:Addr):Prop where
 ic:ICls K C
 n_name:NoAttr K C "name"
 n_start:NoAttr K C "start"
 n_end:NoAttr K C "end"
 n_wide:NoAttr K C "wide"
 n_until:NoAttr K C "until"
 n_bits:NoAttr K C "bits"
 n_first:NoAttr K C "first"
 n_last:NoAttr K C "last"
 n_sizes:NoAttr K C "sizes"
 n_people:NoAttr K C "people"
 n_named_doors:NoAttr K C "named_doors"
set_option genInjectivity false in
set_option genSizeOfSpec false in
structure M (K:W.Frag)(mg:Str->Option Value) where
 HH:Addr
 HG:FuncData
 aAq:FunV K "_wall" "_wall" nG HH HG
 aAt:Binds K HG ["k"] []
 sO:Addr
 sN:FuncData
 nE:FunV K "added_up" "added_up" gD sO sN
 JP:Binds K sN ["plan"] []
 iQ:Addr
 iL:FuncData
 c6:FunV K "rows_that_count" "rows_that_count" cN iQ iL
 vG:Binds K iL ["house","plan"] []
 uE:Addr
 uA:FuncData
 jN:FunV K "leaving" "leaving" hG uE uA
 MX:Binds K uA ["house","plan"] []
 wZ:Addr
 wY:FuncData
 sR:FunV K "coming" "coming" i9 wZ wY
 P8:Binds K wY ["house","plan"] []
 zT:Addr
 zL:FuncData
 u8:FunV K "there" "there" kY zT zL
 UP:Binds K zL ["house","plan"] []
 lA:Addr
 lG:FuncData
 iG:FunV K "most_through" "most_through" c8 lA lG
 zY:Binds K lG ["house","turn","name"] []
 mG:Addr
 mJ:FuncData
 iZ:FunV K "door_faults" "door_faults" d3 mG mJ
 BO:Binds K mJ ["house","plan"] []
 lD:Addr
 lB:FuncData
 iH:FunV K "leave_faults" "leave_faults" dH lD lB
 zV:Binds K lB ["house","plan","inside"] []
 mN:Addr
 mQ:FuncData
 i3:FunV K "full_faults" "full_faults" dY mN mQ
 BN:Binds K mQ ["house","inside"] []
 w5:Addr
 wR:FuncData
 k8:FunV K "faults" "faults" i8 w5 wR
 QD:Binds K wR ["house","plan"] []
 sP:Addr
 sK:FuncData
 nC:FunV K "is_whole" "is_whole" gB sP sK
 JL:Binds K sK ["thing"] []
 uF:Addr
 uC:FuncData
 pA:FunV K "is_name" "is_name" gZ uF uC
 M7:Binds K uC ["thing"] []
 pY:Addr
 p0:FuncData
 gN:FunV K "need_name" "need_name" fG pY p0
 F8:Binds K p0 ["part","thing"] []
 oO:Addr
 oA:FuncData
 dM:FunV K "need_whole" "need_whole" eQ oO oA
 FB:Binds K oA ["part","thing","least"] []
 oP:Addr
 oI:FuncData
 j9:FunV K "need_turns" "need_turns" eS oP oI
 FC:Binds K oI ["first","last"] []
 jE:Addr
 jD:FuncData
 eX:FunV K "need_each_once" "need_each_once" cW jE jD
 wS:Binds K jD ["names"] []
 iJ:Addr
 iN:FuncData
 fL:FunV K "rooms_spoken_of" "rooms_spoken_of" cK iJ iN
 vM:Binds K iN ["doors","people"] []
 oB:Addr
 oK:FuncData
 fV:FunV K "need_rooms" "need_rooms" eU oB oK
 E1:Binds K oK ["names","sizes"] []
 k7:Addr
 lI:FuncData
 eA:FunV K "added_people" "added_people" dE k7 lI
 zR:Binds K lI ["sizes","people"] []
 oF:Addr
 nW:FuncData
 j8:FunV K "need_space" "need_space" eR oF nW
 E8:Binds K nW ["sizes","people"] []
 lJ:Addr
 lH:FuncData
 eB:FunV K "_law_cell_at" "_law_cell_at" dG lJ lH
 zS:Binds K lH ["_law_script","_law_k"] []
 oQ:Addr
 nY:FuncData
 fY:FunV K "_law_drawn" "_law_drawn" eK oQ nY
 E3:Binds K nY ["_law_cell","_law_k"] []
 pV:Addr
 pS:FuncData
 lU:FunV K "_law_door" "_law_door" fH pV pS
 F5:Binds K pS ["_law_name","_law_rooms","_law_draw","_law_first"] []
 oM:Addr
 nX:FuncData
 kA:FunV K "_law_house" "_law_house" eT oM nX
 EX:Binds K nX ["_law_script"] []
 pQ:Addr
 pR:FuncData
 lT:FunV K "_law_plan" "_law_plan" fJ pQ pR
 F4:Binds K pR ["_law_house_here","_law_script"] []
 pX:Addr
 pZ:FuncData
 gO:FunV K "_law_gone" "_law_gone" fE pX pZ
 F6:Binds K pZ ["_law_house_here","_law_plan_here","_law_turn","_law_names"] []
 sL:Addr
 sM:FuncData
 nD:FunV K "_law_due" "_law_due" f9 sL sM
 JQ:Binds K sM ["_law_house_here","_law_plan_here"] []
 JM:Addr
 JK:FuncData
 Z4:FunV K "law" "law" lN JM JK
 aAu:Binds K JK ["_law_script"] []
 gU:Addr
 fD:FuncData
 pB:FunV K "__init__" "Door.__init__" cC gU fD
 o9:Binds K fD ["self","name","start","end","wide"] []
 pT:Addr
 pU:FuncData
 GD:FunV K "lets" "Door.lets" fI pT pU
 GC:Binds K pU ["self","turn"] []
 fW:Addr
 lK:FuncData
 zP:FunV K "is_exit" "Door.is_exit" dF fW lK
 lE:Binds K lK ["self"] []
 uI:Addr
 uD:FuncData
 YH:FunV K "words" "Door.words" fR uI uD
 YJ:Binds K uD ["self"] []
 jG:Addr
 jB:FuncData
 wV:FunV K "__init__" "Until.__init__" cV jG jB
 wU:Binds K jB ["self","name","start","end","wide","until"] []
 nZ:Addr
 oG:FuncData
 FA:FunV K "lets" "Until.lets" eJ nZ oG
 FH:Binds K oG ["self","turn"] []
 tE:Addr
 sZ:FuncData
 UV:FunV K "words" "Until.words" fA tE sZ
 UX:Binds K sZ ["self"] []
 iK:Addr
 iO:FuncData
 vN:FunV K "__init__" "Marked.__init__" cM iK iO
 vF:Binds K iO ["self","name","start","end","wide","bits"] []
 mM:Addr
 mH:FuncData
 CA:FunV K "lets" "Marked.lets" dQ mM mH
 BL:Binds K mH ["self","turn"] []
 qU:Addr
 qS:FuncData
 UQ:FunV K "words" "Marked.words" d7 qU qS
 UR:Binds K qS ["self"] []
 jF:Addr
 gF:FuncData
 wX:FunV K "__init__" "House.__init__" cE jF gF
 wT:Binds K gF ["self","rooms","doors","people","last","first"] []
 mI:Addr
 mU:FuncData
 B0:FunV K "rooms" "House.rooms" dU mI mU
 BS:Binds K mU ["self"] []
 mF:Addr
 mR:FuncData
 BT:FunV K "doors" "House.doors" dW mF mR
 BZ:Binds K mR ["self"] []
 iP:Addr
 iM:FuncData
 vJ:FunV K "need_room" "House.need_room" cJ iP iM
 vI:Binds K iM ["self","room"] []
 mO:Addr
 mP:FuncData
 BW:FunV K "holds" "House.holds" dP mO mP
 BV:Binds K mP ["self","room"] []
 mT:Addr
 mL:FuncData
 BP:FunV K "found" "House.found" dZ mT mL
 BM:Binds K mL ["self","room"] []
 uG:Addr
 uB:FuncData
 YM:FunV K "into" "House.into" fU uG uB
 YL:Binds K uB ["self","room"] []
 mV:Addr
 mW:FuncData
 M9:FunV K "from_room" "House.from_room" c5 mV mW
 M8:Binds K mW ["self","room"] []
 oE:Addr
 oH:FuncData
 E6:FunV K "door" "House.door" eN oE oH
 E5:Binds K oH ["self","name"] []
 oN:Addr
 nV:FuncData
 E7:FunV K "lets" "House.lets" eM oN nV
 FG:Binds K nV ["self","name","turn"] []
 sY:Addr
 tD:FuncData
 UY:FunV K "total" "House.total" eZ sY tD
 UT:Binds K tD ["self"] []
 mS:Addr
 mK:FuncData
 B1:FunV K "pairs" "House.pairs" dX mS mK
 BK:Binds K mK ["self"] []
 aAs:mg "_wall" =some (.ref HH)
 JR:mg "added_up" =some (.ref sO)
 vH:mg "rows_that_count" =some (.ref iQ)
 MY:mg "leaving" =some (.ref uE)
 QE:mg "coming" =some (.ref wZ)
 UN:mg "there" =some (.ref zT)
 z5:mg "most_through" =some (.ref lA)
 BX:mg "door_faults" =some (.ref mG)
 zN:mg "leave_faults" =some (.ref lD)
 BU:mg "full_faults" =some (.ref mN)
 P9:mg "faults" =some (.ref w5)
 JO:mg "is_whole" =some (.ref sP)
 MZ:mg "is_name" =some (.ref uF)
 F7:mg "need_name" =some (.ref pY)
 E9:mg "need_whole" =some (.ref oO)
 E2:mg "need_turns" =some (.ref oP)
 wW:mg "need_each_once" =some (.ref jE)
 vL:mg "rooms_spoken_of" =some (.ref iJ)
 EZ:mg "need_rooms" =some (.ref oB)
 zQ:mg "added_people" =some (.ref k7)
 FD:mg "need_space" =some (.ref oF)
 zX:mg "_law_cell_at" =some (.ref lJ)
 FE:mg "_law_drawn" =some (.ref oQ)
 GB:mg "_law_door" =some (.ref pV)
 E4:mg "_law_house" =some (.ref oM)
 F3:mg "_law_plan" =some (.ref pQ)
 GA:mg "_law_gone" =some (.ref pX)
 JJ:mg "_law_due" =some (.ref sL)
 aAv:mg "law" =some (.ref JM)
 M6:∃ds,Vals [.int 1] ds/\Binds K fD ["self","name","start","end","wide"] ds
 M3:∃ds,Vals [.non,.int 1] ds/\Binds K fD ["self","name","start","end","wide"] ds
 JS:∃ds,Vals [.int 0] ds/\Binds K gF ["self","rooms","doors","people","last","first"] ds
 fX:Addr
 M4:mg "Door" =some (.ref fX)
 gM:Addr
 UK:mg "Until" =some (.ref gM)
 fK:Addr
 QC:mg "Marked" =some (.ref fK)
 aH:Addr
 UO:mg "House" =some (.ref aH)
 JN:Addr
 Z5:mg "OutError" =some (.ref JN)
 QA:Addr
 aAo:mg "NoDoor" =some (.ref QA)
 M0:Addr
 aAa:mg "NoHouse" =some (.ref M0)
 QB:Addr
 aAn:mg "NoTurn" =some (.ref QB)
 UL:Addr
 aAr:mg "Twice" =some (.ref UL)
 P6:Addr
 aAp:mg "NoRoom" =some (.ref P6)
 M5:Addr
 aAb:mg "Unknown" =some (.ref M5)
 qR:DCls K fX
 UJ:Mk K fX gU
 FF:eY K fX "lets" pT
 yE:eY K fX "is_exit" fW
 UW:eY K fX "words" uI
 oJ:DCls K gM
 P7:Mk K gM jG
 BQ:eY K gM "lets" nZ
 UM:eY K gM "words" tE
 w4:eY K gM "is_exit" fW
 l7:DCls K fK
 MW:Mk K fK iK
 z4:eY K fK "lets" mM
 Q9:eY K fK "words" qU
 vE:eY K fK "is_exit" fW
 bG:DCls K aH
 QF:Mk K aH jF
 zW:eY K aH "rooms" mI
 zO:eY K aH "doors" mF
 uH:eY K aH "need_room" iP
 zZ:eY K aH "holds" mO
 zM:eY K aH "found" mT
 UU:eY K aH "into" uG
 M1:eY K aH "from_room" mV
 BY:eY K aH "door" oE
 BR:eY K aH "lets" oN
 US:eY K aH "total" sY
 zU:eY K aH "pairs" mS
 jC:W.specialIn K (.ref fX) "__getattribute__" =some (some (.builtin "type.__getattribute__"))/\W.readsIn K fX (.type "type")=true/\W.findCls K (.ref fX) (.type "type") "__init__" =some (.val (.ref gU))
 YN:mg "ValueError" =none
 EY:mg "sorted" =none
 Q8:mg "any" =none
 qT:mg "range" =none
 F9:mg "enumerate" =none
 Z7:mg "sum" =none
 yD:mg "list" =none
 j7:mg "isinstance" =none
 Z8:mg "int" =none
 Z3:mg "str" =none
 Z6:mg "all" =none
 YK:mg "dict" =none
 sQ:mg "len" =none
 YI:mg "bool" =none
 Z9:mg "max" =none
 lC:∃t:Tok,mg "LONGEST_NAME" =some (.int 8 t)
theorem gl_ {G:Prop}(h:∀G':Prop,G'=G->G'):G:=h G rfl
set_option hygiene false
local macro_rules| `(tactic| walk_at"g1")=> `(tactic| (refine gl_ ?_;intro G_ hG_))
local macro_rules| `(tactic| walk_at"g2")=> `(tactic| subst hG_)
local macro_rules| `(tactic| walk_at"cx")=> `(tactic| try dsimp only[cxK,cxP,cxW,cxM,cxB])
set_option hygiene true
local macro_rules| `(tactic| walk_at"hp")=> `(tactic| first|assumption|(refine' Same.at ?s ?h;(case s=>assumption);(case h=>walk_at"hp"))|(refine' SqL.of ?h;(case h=>walk_at"hp"))|(refine' SqT.of ?h;(case h=>walk_at"hp"))|(refine' Same.seq ?s ?h;(case s=>assumption);(case h=>walk_at"hp"))|(refine' Same.sqT ?s ?h;(case s=>assumption);(case h=>walk_at"hp")))
local macro_rules| `(tactic| walk_at"sm")=> `(tactic| first|assumption|exact Same.refl _|(refine' Same.snoc ?s ?h;(case s=>assumption);(case h=>walk_at"sm")))
local macro_rules| `(tactic| walk_at"sb")=> `(tactic| first|assumption|exact SameBut.refl|(refine' SameBut.snoc ?s ?h;(case s=>assumption);(case h=>walk_at"sb"))|(refine' SameBut.snocS ?s ?h;(case s=>assumption);(case h=>walk_at"sb")))
local macro_rules| `(tactic| walk_at"lk")=> `(tactic| first|assumption|exact V7|(with_reducible exact RW)|(refine' ZH ?d ?h;(case d=>decide +kernel);(case h=>walk_at"lk")))
local macro_rules| `(tactic| walk_at"sz")=> `(tactic| first|with_reducible assumption|lia|omega|(simp only[pN,yG,OT,NB,OV,PZ,NO,PU,OC,PX,NS,O6,HV,II,JE,JG,HJ,JA,IK,IO,I0,IL,IG,HZ,sizeLine_eq,List.length_cons,List.length_nil,List.length_append,List.length_map];done)|(simp only[pN,yG,OT,NB,OV,PZ,NO,PU,OC,PX,NS,O6,HV,II,JE,JG,HJ,JA,IK,IO,I0,IL,IG,HZ,sizeLine_eq,List.length_cons,List.length_nil,List.length_append,List.length_map];omega)|(simp only[pN,yG,OT,NB,OV,PZ,NO,PU,OC,PX,NS,O6,HV,II,JE,JG,HJ,JA,IK,IO,I0,IL,IG,HZ,sizeLine_eq,List.length_cons,List.length_nil,List.length_append,List.length_map]at *;omega))
local macro_rules| `(tactic| walk_at"sd")=> `(tactic| first|with_reducible assumption|lia|omega|decide)
local macro_rules| `(tactic| walk_at"dc")=> `(tactic| first|((with_reducible refine ICls.cl (DCls.ic ?_));assumption)|((with_reducible refine DCls.ic ?_);assumption)|((with_reducible refine DCls.n_name ?_);assumption)|((with_reducible refine DCls.n_start ?_);assumption)|((with_reducible refine DCls.n_end ?_);assumption)|((with_reducible refine DCls.n_wide ?_);assumption)|((with_reducible refine DCls.n_until ?_);assumption)|((with_reducible refine DCls.n_bits ?_);assumption)|((with_reducible refine DCls.n_first ?_);assumption)|((with_reducible refine DCls.n_last ?_);assumption)|((with_reducible refine DCls.n_sizes ?_);assumption)|((with_reducible refine DCls.n_people ?_);assumption)|((with_reducible refine DCls.n_named_doors ?_);assumption))
local macro_rules| `(tactic| walk_at"rd1")=> `(tactic| first|(with_reducible first|refine VM ?_|refine W4 ?_|refine aAh ?_|refine Y3 ?_|refine ZZ ?_|refine ZQ ?_|refine ZN ?_|refine ZK ?_|refine Y4 ?_|refine ZR ?_|refine ZA ?_|refine Z0 ?_|refine Z1 ?_|refine Y8 ?_|refine YC ?_|refine WX ?_|refine rd_v12 ?_|refine TK ?_|refine U8 ?_|refine ZG ?_|refine ZS ?_|refine UG ?_|refine ZV ?_|refine VB ?_|refine SI ?_|refine Y0 ?_|refine WY ?_|refine YV ?_|refine LB ?_|refine J5 ?_|refine R6 ?_|refine SY ?_|refine rd_s0 ?_|refine YT ?_|refine Y9 ?_|refine YZ ?_|refine YW ?_|refine YX ?_|refine ZM ?_|refine Y5 ?_|refine ZI ?_|refine YS ?_|refine XQ ?_|refine WH ?_|refine rd_s12 ?_|refine YF ?_|refine TV ?_|refine RI ?_|refine rd_retN ?_|refine VL ?_|refine VC ?_|refine ZL ?_|refine RB ?_|refine rd_orV ?_|refine rd_notV ?_|refine X3 ?_|refine O2 ?_|refine rd_un ?_|refine rd_U ?_|refine VD ?_|refine rd_eqB ?_|refine W1 ?_|refine rd_eqSN ?_|refine RN ?_|refine rd_eqNN ?_|refine rd_neI ?_|refine rd_neB ?_|refine rd_neS ?_|refine rd_neNN ?_|refine rd_isNN ?_|refine rd_isNS ?_|refine rd_isNI ?_|refine rd_isNR ?_|refine RT ?_|refine RU ?_|refine rd_ntNI ?_|refine rd_ntNR ?_|refine SN ?_|refine rd_ntNV ?_|refine WI ?_|refine VY ?_|refine UH ?_|refine TR ?_|refine TB ?_|refine YU ?_|refine YY ?_|refine WK ?_|refine rd_bmS ?_|refine UI ?_|refine rd_isiII ?_|refine rd_isiIB ?_|refine rd_isiBB ?_|refine rd_isiBI ?_|refine rd_isiSS ?_|refine rd_isiNS ?_|refine RS ?_|refine rd_min2 ?_|refine rd_intB ?_|refine rd_intI ?_|refine rd_noPart ?_|refine RA ?_|refine XC ?_|refine rd_gsub ?_|refine R9 ?_|refine P5 ?_|refine WV ?_|refine NJ ?_|refine rd_iTup ?_|refine NP ?_|refine NR ?_|refine rd_iStr ?_|refine rd_iStrV ?_|refine rd_break ?_|refine rd_cont ?_|refine rd_aug ?_)|((with_reducible refine' W0 ?s ?_);(case s=>decide))|((with_reducible refine' SL ?s ?_);(case s=>walk_at"sd");intro h0' h1')|((with_reducible refine' rd_repL ?e ?a ?b ?s ?_);(case e=>walk_at"hp");(case a=>decide);(case b=>decide);(case s=>first|(simp;done)|(simp[sizeLine_eq];done)|walk_at"sz");intro p' H' n' S' e')|((with_reducible refine' VJ ?s ?r ?_);(case s=>walk_at"sd");(case r=>walk_at"sd"))|((with_reducible refine' RL ?s ?r ?_);(case s=>walk_at"sd");(case r=>walk_at"sd"))|((with_reducible refine' TU ?s ?r ?_);(case s=>walk_at"sd");(case r=>walk_at"sd"))|((with_reducible refine' TL ?s ?_);(case s=>walk_at"sz");intro p' H' n' S' e')|((with_reducible refine' TZ ?s ?_);(case s=>walk_at"sz");intro p' H' n' S' e')|((with_reducible refine SM ?_);intro p' H' n' S' e')|((with_reducible refine' RC ?e ?c ?n ?l ?_);(case e=>walk_at"hp");(case c=>walk_at"dc");(case n=>walk_at"dc");(case l=>walk_at"lk"))|((with_reducible refine' NG ?e ?c ?n ?l ?_);(case e=>walk_at"hp");(case c=>walk_at"dc");(case n=>walk_at"dc");(case l=>kernel_rfl);intro H' B' e')|((with_reducible refine' WF ?e ?l ?F ?_);(case e=>walk_at"hp");(case l=>walk_at"lk");(case F=>assumption))|((with_reducible refine' rd_isiC ?e ?i ?k ?_);(case e=>walk_at"hp");(case i=>walk_at"dc");(case k=>assumption))|((with_reducible refine' rd_ixL ?e ?l ?_);(case e=>walk_at"hp");(case l=>rfl))|((with_reducible refine' UF ?e ?s ?r ?_);(case e=>walk_at"hp");(case s=>walk_at"sd");(case r=>walk_at"sd");intro v' hv')|((with_reducible refine' rd_ix3i ?e ?s ?r ?_);(case e=>walk_at"hp");(case s=>walk_at"sd");(case r=>walk_at"sd");intro v' hv')|((with_reducible refine' rd_setLm ?e ?l ?_);(case e=>walk_at"hp");(case l=>rfl);intro H' B' e')|((with_reducible refine' RP ?e ?_);(case e=>walk_at"hp"))|((with_reducible refine' rd_lenS ?e ?_);(case e=>walk_at"sz"))|((with_reducible refine' rd_addS ?e ?_);(case e=>walk_at"sz"))|((with_reducible refine' rd_slS ?e ?_);(case e=>walk_at"sz");intro hl')|((with_reducible refine' XA ?e ?_);(case e=>walk_at"hp");intro p' H' n' S' e')|((with_reducible refine' LH ?e ?_);(case e=>walk_at"hp");intro p' H' n' S' e')|((with_reducible refine' GM ?e ?f ?s ?_);(case e=>walk_at"hp");(case f=>walk_at"hp");(case s=>walk_at"sz");intro p' H' n' S' e')|((with_reducible refine' LW ?e ?_);(case e=>walk_at"hp");intro p' H' n' S' e')|((with_reducible refine' VH ?e ?_);(case e=>walk_at"hp"))|((with_reducible refine' AG ?e ?_);(case e=>walk_at"hp"))|((with_reducible refine' LU ?s ?r ?_);(case s=>walk_at"sd");(case r=>walk_at"sd"))|((with_reducible refine' LQ ?s ?r ?t ?u ?_);(case s=>walk_at"sd");(case r=>walk_at"sd");(case t=>walk_at"sd");(case u=>walk_at"sd"))|((with_reducible refine' rd_str ?s ?r ?_);(case s=>walk_at"sd");(case r=>walk_at"sd");intro hl')|((with_reducible refine' rd_gtupL ?e ?l ?_);(case e=>walk_at"hp");(case l=>rfl))|((with_reducible refine' SJ ?e ?l ?_);(case e=>walk_at"hp");(case l=>rfl))|((with_reducible refine' rd_ifP ?s ?_);(case s=>walk_at"sd"))|((with_reducible refine' VZ ?s ?_);(case s=>walk_at"sd"))|((with_reducible refine' rd_ifnP ?s ?_);(case s=>walk_at"sd"))|((with_reducible refine' rd_ifnN ?s ?_);(case s=>walk_at"sd")))
local macro_rules| `(tactic| walk_at"go")=> `(tactic| repeat walk_at"rd1")
local macro_rules| `(tactic| walk_at"gs")=> `(tactic| repeat ((fail_if_success (with_reducible refine PM ?_));walk_at"rd1"))
local macro_rules| `(tactic| walk_at"nn")=> `(tactic| repeat first|exact nn_nil|refine nn_app ?_ ?_|refine nn_cons (by omega) ?_|exact nn_map (fun n=>by omega))
section
variable {P:Program}{w:World}{K:W.Frag}{mg:Str->Option Value}{base:Heap}
def VN:V->Bool
 | .int _=>true
 | _=>false
def v4 (K:W.Frag):Sp:=fun vs H Q _=>∃x n,vs=[x]/\BTy K H x n/\Q (.bl (VN x)) H
theorem P4 {H:Hp}{Q:VK}{E:XK}{i:Int} (h:Q (.bl true) H):v4 K [.int i] H Q E:=⟨_,_,rfl,.int i,h⟩
theorem FU (m:M K mg):bI P w K mg base CX0 1 m.sP m.sK ["thing"] (v4 K):=by
 refine m.nC.ok sc_is_whole (fun vs H Q E h=> ?_) (fun cdv A outer s H vs Q E hr h=> ?_)
 ·walk_at"g1";obtain⟨x,n,rfl,b,k⟩:=h;walk_at"g2";rfl
 ·walk_at"g1";obtain⟨x,n,rfl,b,k⟩:=h;walk_at"g2";have nd:=sc_is_whole.nd;have hu0:=Room.units0 hr;have hu1:=Room.units1 hr;refine⟨_,(aE (bF (EG (cB rJ rfl m.j7 iW (aA (pv 0) (aA (CK rfl m.Z8 X9) aD))) (CO (UZ (cB rJ rfl m.j7 iW (aA (pv 0) (aA (CK rfl m.YI UB) aD)))))))),?_⟩;refine aR (σ:=[some (x)]) rfl ?_;walk_at"cx";refine⟨_,rfl,_,_,_,_,_,rfl,b.ty,rfl,IS b "int" (.inl rfl),_,rfl,?_⟩;refine yH (fun h1=>⟨_,rfl,_,_,_,_,_,rfl,b.ty,rfl,IS b "bool" (.inr (.inl rfl)),_,rfl,?_⟩) (fun h1=> ?_)
  ·cases b<;>first|exact k|exact absurd h1 (by decide)
  ·cases b<;>first|exact k|exact absurd (by decide) h1
theorem F0 (m:M K mg):Fc P w K mg base "is_whole" 1 ["thing"] (v4 K):=⟨_,_,m.JO,m.nC.kp,m.JL,FU m⟩
def nmB:V->Bool
 | .str z=>bN z
 | _=>false
def zG (K:W.Frag):Sp:=fun vs H Q _=>∃x n,vs=[x]/\BTy K H x n/\(∀z,x= .str z->z.length<=1000)/\∀H',Same H H'->Q (.bl (nmB x)) H'
theorem TX {H:Hp}{Q:VK}{E:XK}{z:Str} (hz:bN z=true) (h:∀H',Same H H'->Q (.bl true) H'):zG K [.str z] H Q E :=
 ⟨_,_,rfl,.str z,fun y e=>by cases e;exact Nat.le_trans (MA hz) (by decide),fun H' s=>by rw[show nmB (.str z)=true from hz];exact h H' s⟩
theorem le1 (a c:Nat):(!decide ([c]<[a]))=decide (a<=c):=by
 have:([c]<[a])↔c<a:=by
  constructor
  ·intro h;cases h with
   | rel h=>exact h
   | cons h=>cases h
  ·exact fun h=> .rel h
 by_cases h:c<a
 ·rw[decide_eq_true (this.mpr h),decide_eq_false (by lia)];rfl
 ·rw[decide_eq_false (fun z=>h (this.mp z)),decide_eq_true (by lia)];rfl
theorem ZB:("a" :Str).cps.toList=[97]:=by decide +kernel
theorem ZU:("z" :Str).cps.toList=[122]:=by decide +kernel
theorem AO {α:Type}(p:α->Bool)(d:α):∀l:List α,((List.range l.length).map fun i=>p (l.getD i d)).all id=l.all p
 | []=>rfl
 | a::l=>by
  rw[List.length_cons,List.range_succ_eq_map,List.map_cons,List.all_cons,List.map_map,List.all_cons,←AO p d l];rfl
theorem OU {H:Hp}{p:Addr}{o:HO} (h:H p=none):Same H (upd H p o):=fun b u e=>by rw[aT (bL e h)];exact e
theorem HQ (m:M K mg):bI P w K mg base CX0 1 m.uF m.uC ["thing"] (zG K):=by
 refine m.pA.ok sc_is_name (fun vs H Q E h=> ?_) (fun cdv A outer s H vs Q E hr h=> ?_)
 ·walk_at"g1";obtain⟨x,n,rfl,b,hz,k⟩:=h;walk_at"g2";rfl
 ·walk_at"g1";obtain⟨x,n,rfl,b,hz,k⟩:=h;walk_at"g2";have nd:=sc_is_name.nd;have hu0:=Room.units0 hr;have hu1:=Room.units1 hr;obtain⟨tok_LONGEST_NAME,lC⟩:=m.lC;refine⟨_,(aC (cG (qD (lY (cB rJ rfl m.j7 iW (aA (pv 0) (aA (CK rfl m.Z3 V3) aD))))) (aE (bF uS)) bQ)
   (aE (bF (EG (DS CG CG aF (cB MK rfl m.sQ nT (aA (pv 0) aD)) (SU rfl lC)) (CO (cB (OO rfl) rfl m.Z6 X2 (aA (d9 (N:=["sign"]) (nl:=1) (ci:=[]) rfl (blk (s.heap.objs.size+1) rfl rfl rfl (by kernel_rfl)) (WO (pv 0)) (fun _ _ _ _=>(aM (i:=0) (show (["sign"]:List Str).Nodup by decide +kernel) rfl (by walk_at"oi"))) (fun _ _ _ _=>jW) (fun _ _ _ _=>(DS ME ME c3 (pv 0) c3))) aD))))))),?_⟩
  refine aR (σ:=[some (x)]) rfl ?_;walk_at"cx";refine⟨_,rfl,_,_,_,_,_,rfl,b.ty,rfl,IS b "str" (.inr (.inr rfl)),_,rfl,?_⟩;refine yH (fun h1=> ?_) (fun h1=> ?_)
  ·show Q (.bl false) H;cases b<;>first|exact k H (Same.refl H)|exact absurd h1 (by decide)
  ·have hs:∃z,x= .str z:=by
    cases b<;>first|exact⟨_,rfl⟩|exact absurd (by decide) h1
   obtain⟨z,rfl⟩:=hs;have hl:=hz z rfl;have hl':z.length<=sizeLine:=Nat.le_of_lt (K0 hl);refine⟨_,rfl,z,rfl,hl',_,_,rfl,rfl,_,rfl,?_⟩;refine yH (fun h2=>⟨_,_,rfl,rfl,_,rfl,?_⟩) (fun h2=>⟨_,rfl,?_⟩)
   ·refine yH (fun h3=> ?_) (fun h3=> ?_)
    ·refine⟨_,rfl,z,rfl,?_⟩;refine R1 z.cps.size (fun i=> .bl (sgB (z.cps.toList.getD i 0))) hl' (fun H'=>H'=H) rfl (fun _ _=>rfl) (fun i _ hi _=>hi) ?_ ?_ ?_ ?_ ?_
     ·rintro i _ x H' hi rfl hq_;walk_at"g1";obtain⟨rfl,c,hc,rfl⟩:=hq_;walk_at"g2";refine⟨⟨rfl,fun j v hv=> ?_⟩,rfl,?_⟩
      ·match j,hv with
       | 0,hv=>cases hv
       | j+1,hv=>cases hv
      ·have hc':z.cps.toList.getD i 0=c:=by
        rw[List.getD_eq_getElem?_getD,Array.getElem?_toList,hc];rfl
       refine⟨_,rfl,_,_,rfl,rfl,_,rfl,?_⟩;rw[ZB,hc'];refine yH (fun h4=>⟨_,_,rfl,rfl,?_,rfl⟩) (fun h4=>⟨?_,rfl⟩)
       ·have h4':97<=c:=by rw[show (⟨#[c]⟩:Str).cps.toList=[c] from rfl,le1]at h4;exact of_decide_eq_true h4
        rw[ZU,show (⟨#[c]⟩:Str).cps.toList=[c] from rfl,le1];unfold sgB;rw[decide_eq_true h4',Bool.true_and]
       ·have h4':¬97<=c:=by rw[show (⟨#[c]⟩:Str).cps.toList=[c] from rfl,le1]at h4;exact fun z=>h4 (decide_eq_true z)
        unfold sgB;rw[decide_eq_false h4',Bool.false_and]
     ·exact fun _ _ _ _ f q=>f _ _ q
     ·rintro σ H Q Q' f hq_;walk_at"g1";obtain⟨v,e,i,j,e1,e2,k,e3,q⟩:=hq_;walk_at"g2";refine⟨v,e,i,j,e1,e2,k,e3,?_⟩;revert q
      split
      ·rintro hq_;walk_at"g1";obtain⟨i,j,e1,e2,q⟩:=hq_;walk_at"g2";exact⟨i,j,e1,e2,f _ _ q⟩
      ·exact fun q=>f _ _ q
     ·exact fun _ _ _ _ _ f q=>f _ _ q
     ·rintro _ rfl p hp;refine⟨p,(List.range z.cps.size).map (fun i=>sgB (z.cps.toList.getD i 0)),rfl,SqL.of ?_,?_⟩
      ·rw[bK,List.map_map];rfl
      ·have e:=AO sgB 0 z.cps.toList;rw[Array.length_toList]at e;rw[e];have e2:nmB (.str z)=z.cps.toList.all sgB:=by
        show bN z=_;unfold bN;rw[show decide (1<=(z.length:Int))=true from h2,show decide ((z.length:Int)<=8)=true from h3];rfl
       rw[←e2];exact k _ (OU hp)
    ·have e2:nmB (.str z)=false:=by
      show bN z=_;unfold bN;rw[show decide ((z.length:Int)<=8)=false from by simpa using h3];simp
     have:=k H (Same.refl H);rw[e2]at this;exact this
   ·have e2:nmB (.str z)=false:=by
     show bN z=_;unfold bN;rw[show decide (1<=(z.length:Int))=false from by simpa using h2];simp
    have:=k H (Same.refl H);rw[e2]at this;exact this
theorem HX (m:M K mg):Fc P w K mg base "is_name" 1 ["thing"] (zG K):=⟨_,_,m.MZ,m.pA.kp,m.M7,HQ m⟩
local macro_rules| `(tactic| walk_at"rd1")=> `(tactic| first|(with_reducible refine P4 ?_)|((with_reducible refine' TX ?s ?_);(case s=>assumption);intro H' S'))
inductive jY (K:W.Frag)(vs:List V)(H:Hp)(Q:VK)(E:XK):Prop
 | mk (part z:Str) (_:vs=[.str part,.str z]) (_:bN z=true) (_:∀H',Same H H'->Q .non H'):jY K vs H Q E
theorem FP {H:Hp}{Q:VK}{E:XK}{part z:Str} (hz:bN z=true) (h:∀H',Same H H'->Q .non H'):jY K [.str part,.str z] H Q E:=⟨_,_,rfl,hz,h⟩
theorem DW (m:M K mg):bI P w K mg base CX0 2 m.pY m.p0 ["part","thing"] (jY K):=by
 refine m.gN.ok sc_need_name (fun vs H Q E h=> ?_) (fun cdv A outer s H vs Q E hr h=> ?_)
 ·walk_at"g1";obtain⟨part,z,rfl,hz,k⟩:=h;walk_at"g2";rfl
 ·walk_at"g1";obtain⟨part,z,rfl,hz,k⟩:=h;walk_at"g2";have nd:=sc_need_name.nd;have hu0:=Room.units0 hr;have hu1:=Room.units1 hr;have pA:= @HX P w K mg base m;refine⟨_,(aE (cG (qD (lY (bR pA hr (aA (pv 1) aD)))) (aE gE) bQ)),?_⟩;refine aR (σ:=[some (.str part),some (.str z)]) rfl ?_;walk_at"cx";walk_at"go";exact k _ (by walk_at"sm")
theorem DO (m:M K mg):Fc P w K mg base "need_name" 2 ["part","thing"] (jY K):=⟨_,_,m.F7,m.gN.kp,m.F8,DW m⟩
inductive iY (K:W.Frag)(vs:List V)(H:Hp)(Q:VK)(E:XK):Prop
 | mk (part:Str) (i l:Int) (_:vs=[.str part,.int i,.int l]) (_:l<=i) (_:Q .non H):iY K vs H Q E
theorem EQ {H:Hp}{Q:VK}{E:XK}{part:Str}{i l:Int} (hz:l<=i) (h:Q .non H):iY K [.str part,.int i,.int l] H Q E:=⟨_,_,_,rfl,hz,h⟩
theorem BI (m:M K mg):bI P w K mg base CX0 2 m.oO m.oA ["part","thing","least"] (iY K):=by
 refine m.dM.ok sc_need_whole (fun vs H Q E h=> ?_) (fun cdv A outer s H vs Q E hr h=> ?_)
 ·walk_at"g1";obtain⟨part,i,l,rfl,hz,k⟩:=h;walk_at"g2";rfl
 ·walk_at"g1";obtain⟨part,i,l,rfl,hz,k⟩:=h;walk_at"g2";have nd:=sc_need_whole.nd;have hu0:=Room.units0 hr;have hu1:=Room.units1 hr;have nC:= @F0 P w K mg base m;refine⟨_,(aE (cG (PW.pt (CJ (qD (lY (bR nC hr (aA (pv 1) aD)))) (DA (bH jT (pv 1) (pv 2) (bM _))))) (aE gE) bQ)),?_⟩;refine aR (σ:=[some (.str part),some (.int i),some (.int l)]) rfl ?_;walk_at"cx";walk_at"go";exact k
theorem l9 (m:M K mg):Fc P w K mg base "need_whole" 2 ["part","thing","least"] (iY K):=⟨_,_,m.E9,m.dM.kp,m.FB,BI m⟩
local macro_rules| `(tactic| walk_at"rd1")=> `(tactic| first|((with_reducible refine' FP ?s ?_);(case s=>assumption);intro H' S')|((with_reducible refine' EQ ?s ?_);(case s=>walk_at"sd")))
abbrev qL (n s e w:V):List (Str×V):=cU "wide" w (cU "end" e (cU "start" s (cU "name" n [])))
def lO (e:V):Prop:=e= .non∨∃z,e= .str z/\bN z=true
inductive fP (K:W.Frag)(vs:List V)(H:Hp)(Q:VK)(E:XK):Prop
 | mk (p C dx:Addr) (n s:Str) (e:V) (wd:Int) (_:vs=[.ref p,.str n,.str s,e,.int wd]) (_:DCls K C) (_:H p=some (.ins C dx [])) (_:bN n=true) (_:bN s=true) (_:lO e) (_:0<=wd) (_:∀H',SameBut p H H'->H' p=some (.ins C dx (qL (.str n) (.str s) e (.int wd)))->Q .non H'):fP K vs H Q E
theorem vS {H:Hp}{Q:VK}{E:XK}{p C dx:Addr}{n s:Str}{e:V}{wd:Int} (dc:DCls K C) (hp:H p=some (.ins C dx [])) (hn:bN n=true) (hs:bN s=true) (he:lO e) (hw:0<=wd)
  (k:∀H',SameBut p H H'->H' p=some (.ins C dx (qL (.str n) (.str s) e (.int wd)))->Q .non H'):fP K [.ref p,.str n,.str s,e,.int wd] H Q E:=⟨_,_,_,_,_,_,_,rfl,dc,hp,hn,hs,he,hw,k⟩
theorem nS (m:M K mg):bI P w K mg base CX0 3 m.gU m.fD ["self","name","start","end","wide"] (fP K):=by
 refine m.pB.ok sc_Door___init__ (fun vs H Q E h=> ?_) (fun cdv A outer s H vs Q E hr h=> ?_)
 ·walk_at"g1";obtain⟨p,C,dx,n,st,e,wd,rfl,dc,hp,hn,hs,he,hw,k⟩:=h;walk_at"g2";rfl
 ·walk_at"g1";obtain⟨p,C,dx,n,st,e,wd,rfl,dc,hp,hn,hs,he,hw,k⟩:=h;walk_at"g2";have nd:=sc_Door___init__.nd;have hu0:=Room.units0 hr;have hu1:=Room.units1 hr;have gN:= @DO P w K mg base m;have dM:= @l9 P w K mg base m;refine⟨_,(aC (bX (bR gN hr (aA c3 (aA (pv 1) aD))))
   (aC (bX (bR gN hr (aA c3 (aA (pv 2) aD))))
   (aC (cG (bH SF (pv 3) DE (bM _)) (aE (bX (bR gN hr (aA c3 (aA (pv 3) aD))))) bQ)
   (aC (bX (bR dM hr (aA c3 (aA (pv 4) (aA aF aD)))))
   (aC (gY (pv 0) (pv 1) rfl)
   (aC (gY (pv 0) (pv 2) rfl)
   (aC (gY (pv 0) (pv 3) rfl)
   (aE (gY (pv 0) (pv 4) rfl))))))))),?_⟩
  refine aR (σ:=[some (.ref p),some (.str n),some (.str st),some (e),some (.int wd)]) rfl ?_;walk_at"cx";rcases he with rfl|⟨z,rfl,hz⟩
  ·walk_at"go";exact k _ (by walk_at"sb") (by assumption)
  ·walk_at"go";exact k _ (by walk_at"sb") (by assumption)
theorem JT (m:M K mg):Kc P w K mg base "Door" m.fX 3 [] (fP K):=⟨_,_,_,_,m.M4,m.UJ,.nil,m.o9,nS m⟩
theorem kC (m:M K mg):Dc P w K mg base "Door" "__init__" 3 (fP K):=⟨_,_,_,_,m.M4,m.jC.1,m.jC.2.1,m.jC.2.2,m.pB.kp,m.o9,nS m⟩
theorem N6 {H:Hp}{Q:VK}{E:XK}{C:Addr}{vs dvs:List V}{n s:Str}{e:V}{wd:Int} (ev:vs++dvs=[.str n,.str s,e,.int wd]) (dc:DCls K C) (hn:bN n=true) (hs:bN s=true) (he:lO e) (hw:0<=wd)
  (k:∀p dx H',H p=none->Same H H'->H' p=some (.ins C dx (qL (.str n) (.str s) e (.int wd)))->Q (.ref p) H'):uQ C (fP K) dvs E Q vs H :=
 wM (fun p dx H0 Q' h k' s0=>by rw[ev];exact vS dc h hn hs he hw k') k
local macro_rules| `(tactic| walk_at"rd1")=> `(tactic| ((with_reducible refine' N6 ?v ?d ?hn ?hs ?he ?hw ?_);(case v=>rfl);(case d=>assumption);(case hn=>assumption);(case hs=>assumption);(case he=>first|assumption|exact .inl rfl|exact .inr ⟨_,rfl,by assumption⟩);(case hw=>walk_at"sd");intro p' dx' H' n' S' e'))
inductive iB (K:W.Frag)(vs:List V)(H:Hp)(Q:VK)(E:XK):Prop
 | mk (p C dx:Addr) (fs:List (Str×V)) (e:V) (_:vs=[.ref p]) (_:DCls K C) (_:H p=some (.ins C dx fs)) (_:fs.lookup ("end" :Str)=some e) (_:Q (.bl (decide (e= .non))) H):iB K vs H Q E
theorem TW {H:Hp}{Q:VK}{E:XK}{p C dx:Addr}{fs:List (Str×V)} (hp:H p=some (.ins C dx fs)) (dc:DCls K C) (l:fs.lookup ("end" :Str)=some .non) (k:Q (.bl true) H):iB K [.ref p] H Q E:=⟨_,_,_,_,_,rfl,dc,hp,l,k⟩
theorem R8 {H:Hp}{Q:VK}{E:XK}{p C dx:Addr}{fs:List (Str×V)}{z:Str} (hp:H p=some (.ins C dx fs)) (dc:DCls K C) (l:fs.lookup ("end" :Str)=some (.str z)) (k:Q (.bl false) H):iB K [.ref p] H Q E :=
 ⟨_,_,_,_,_,rfl,dc,hp,l,by rw[decide_eq_false (fun z=>by cases z)];exact k⟩
theorem j5 (m:M K mg):bI P w K mg base CX0 1 m.fW m.lK ["self"] (iB K):=by
 refine m.zP.ok sc_Door_is_exit (fun vs H Q E h=> ?_) (fun cdv A outer s H vs Q E hr h=> ?_)
 ·walk_at"g1";obtain⟨p,C,dx,fs,e,rfl,dc,hp,l,k⟩:=h;walk_at"g2";rfl
 ·walk_at"g1";obtain⟨p,C,dx,fs,e,rfl,dc,hp,l,k⟩:=h;walk_at"g2";have nd:=sc_Door_is_exit.nd;have hu0:=Room.units0 hr;have hu1:=Room.units1 hr;refine⟨_,(aE (bF (qM U5 (bJ (pv 0) rfl) DE (bM _)))),?_⟩;refine aR (σ:=[some (.ref p)]) rfl ?_;walk_at"cx";walk_at"go";exact k
theorem yB (m:M K mg):Mc P w K mg base m.fX "is_exit" 1 (iB K):=⟨_,_,_,m.qR.ic.cl,m.yE,m.lE,j5 m⟩
theorem wA (m:M K mg):Mc P w K mg base m.gM "is_exit" 1 (iB K):=⟨_,_,_,m.oJ.ic.cl,m.w4,m.lE,j5 m⟩
theorem vA (m:M K mg):Mc P w K mg base m.fK "is_exit" 1 (iB K):=⟨_,_,_,m.l7.ic.cl,m.vE,m.lE,j5 m⟩
local macro_rules| `(tactic| walk_at"rd1")=> `(tactic| first|((with_reducible refine' TW ?e ?d ?l ?_);(case e=>walk_at"hp");(case d=>assumption);(case l=>walk_at"lk"))|((with_reducible refine' R8 ?e ?d ?l ?_);(case e=>walk_at"hp");(case d=>assumption);(case l=>walk_at"lk")))
inductive jS (K:W.Frag)(vs:List V)(H:Hp)(Q:VK)(E:XK):Prop
 | mk (p C dx:Addr) (fs:List (Str×V)) (t wd:Int) (_:vs=[.ref p,.int t]) (_:DCls K C) (_:H p=some (.ins C dx fs)) (_:fs.lookup ("wide" :Str)=some (.int wd)) (_:Q (.int wd) H):jS K vs H Q E
theorem FQ {H:Hp}{Q:VK}{E:XK}{p C dx:Addr}{fs:List (Str×V)}{t wd:Int} (hp:H p=some (.ins C dx fs)) (dc:DCls K C) (l:fs.lookup ("wide" :Str)=some (.int wd)) (k:Q (.int wd) H):jS K [.ref p,.int t] H Q E:=⟨_,_,_,_,_,_,rfl,dc,hp,l,k⟩
theorem EN (m:M K mg):bI P w K mg base CX0 1 m.pT m.pU ["self","turn"] (jS K):=by
 refine m.GD.ok sc_Door_lets (fun vs H Q E h=> ?_) (fun cdv A outer s H vs Q E hr h=> ?_)
 ·walk_at"g1";obtain⟨p,C,dx,fs,t,wd,rfl,dc,hp,l,k⟩:=h;walk_at"g2";rfl
 ·walk_at"g1";obtain⟨p,C,dx,fs,t,wd,rfl,dc,hp,l,k⟩:=h;walk_at"g2";have nd:=sc_Door_lets.nd;have hu0:=Room.units0 hr;have hu1:=Room.units1 hr;refine⟨_,(aE (bF (bJ (pv 0) rfl))),?_⟩;refine aR (σ:=[some (.ref p),some (.int t)]) rfl ?_;walk_at"cx";walk_at"go";exact k
theorem EF (m:M K mg):Mc P w K mg base m.fX "lets" 1 (jS K):=⟨_,_,_,m.qR.ic.cl,m.FF,m.GC,EN m⟩
local macro_rules| `(tactic| walk_at"rd1")=> `(tactic| ((with_reducible refine' vS ?d ?e ?hn ?hs ?he ?hw ?_);(case d=>assumption);(case e=>walk_at"hp");(case hn=>assumption);(case hs=>assumption);(case he=>assumption);(case hw=>walk_at"sd");intro H' B' e'))
abbrev uL (n s e w i0:V):List (Str×V):=cU "until" i0 (qL n s e w)
inductive gG (K:W.Frag)(vs:List V)(H:Hp)(Q:VK)(E:XK):Prop
 | mk (p C dx:Addr) (n s:Str) (e:V) (wd i0:Int) (_:vs=[.ref p,.str n,.str s,e,.int wd,.int i0]) (_:DCls K C) (_:H p=some (.ins C dx [])) (_:bN n=true) (_:bN s=true) (_:lO e) (_:0<=wd) (_:0<=i0) (_:∀H',SameBut p H H'->H' p=some (.ins C dx (uL (.str n) (.str s) e (.int wd) (.int i0)))->Q .non H'):gG K vs H Q E
theorem EO {H:Hp}{Q:VK}{E:XK}{p C dx:Addr}{n s:Str}{e:V}{wd i0:Int} (dc:DCls K C) (hp:H p=some (.ins C dx [])) (hn:bN n=true) (hs:bN s=true) (he:lO e) (hw:0<=wd) (b0:0<=i0)
  (k:∀H',SameBut p H H'->H' p=some (.ins C dx (uL (.str n) (.str s) e (.int wd) (.int i0)))->Q .non H'):gG K [.ref p,.str n,.str s,e,.int wd,.int i0] H Q E:=⟨_,_,_,_,_,_,_,_,rfl,dc,hp,hn,hs,he,hw,b0,k⟩
theorem vC (m:M K mg):bI P w K mg base CX0 4 m.jG m.jB ["self","name","start","end","wide","until"] (gG K):=by
 refine m.wV.ok sc_Until___init__ (fun vs H Q E h=> ?_) (fun cdv A outer s H vs Q E hr h=> ?_)
 ·walk_at"g1";obtain⟨p,C,dx,n,st,e,wd,i0,rfl,dc,hp,hn,hs,he,hw,b0,k⟩:=h;walk_at"g2";rfl
 ·walk_at"g1";obtain⟨p,C,dx,n,st,e,wd,i0,rfl,dc,hp,hn,hs,he,hw,b0,k⟩:=h;walk_at"g2";have nd:=sc_Until___init__.nd;have hu0:=Room.units0 hr;have hu1:=Room.units1 hr;have D_Door___init__:= @kC P w K mg base m;have dM:= @l9 P w K mg base m;refine⟨_,(aC (bX (QH D_Door___init__ hr (aA (pv 0) (aA (pv 1) (aA (pv 2) (aA (pv 3) (aA (pv 4) aD)))))))
   (aC (bX (bR dM hr (aA c3 (aA (pv 5) (aA aF aD)))))
   (aE (gY (pv 0) (pv 5) rfl)))),?_⟩
  refine aR (σ:=[some (.ref p),some (.str n),some (.str st),some (e),some (.int wd),some (.int i0)]) rfl ?_;walk_at"cx";walk_at"go";exact k _ (by walk_at"sb") (by assumption)
theorem IR (m:M K mg):Kc P w K mg base "Until" m.gM 4 [] (gG K):=⟨_,_,_,_,m.UK,m.P7,.nil,m.wU,vC m⟩
theorem K8 {H:Hp}{Q:VK}{E:XK}{C:Addr}{vs dvs:List V}{n s:Str}{e:V}{wd i0:Int} (ev:vs++dvs=[.str n,.str s,e,.int wd,.int i0]) (dc:DCls K C) (hn:bN n=true) (hs:bN s=true) (he:lO e) (hw:0<=wd) (b0:0<=i0)
  (k:∀p dx H',H p=none->Same H H'->H' p=some (.ins C dx (uL (.str n) (.str s) e (.int wd) (.int i0)))->Q (.ref p) H'):uQ C (gG K) dvs E Q vs H :=
 wM (fun p dx H0 Q' h k' s0=>by rw[ev];exact EO dc h hn hs he hw b0 k') k
local macro_rules| `(tactic| walk_at"rd1")=> `(tactic| ((with_reducible refine' K8 ?v ?d ?hn ?hs ?he ?hw ?b0 ?_);(case v=>rfl);(case d=>assumption);(case hn=>assumption);(case hs=>assumption);(case he=>first|assumption|exact .inl rfl|exact .inr ⟨_,rfl,by assumption⟩);(case hw=>walk_at"sd");(case b0=>walk_at"sd");intro p' dx' H' n' S' e'))
def xX (wd i0 t:Int):Int:=if t<i0 then wd else 0
inductive iX (K:W.Frag)(vs:List V)(H:Hp)(Q:VK)(E:XK):Prop
 | mk (p C dx:Addr) (fs:List (Str×V)) (t wd i0:Int) (_:vs=[.ref p,.int t]) (_:DCls K C) (_:H p=some (.ins C dx fs)) (_:fs.lookup ("wide" :Str)=some (.int wd)) (_:fs.lookup ("until" :Str)=some (.int i0)) (_:0<=t) (_:0<=i0) (_:Q (.int (xX wd i0 t)) H):iX K vs H Q E
theorem t9 {H:Hp}{Q:VK}{E:XK}{p C dx:Addr}{fs:List (Str×V)}{t wd i0:Int} (hp:H p=some (.ins C dx fs)) (dc:DCls K C) (l:fs.lookup ("wide" :Str)=some (.int wd)) (m0:fs.lookup ("until" :Str)=some (.int i0)) (ht:0<=t) (b0:0<=i0) (k:Q (.int (xX wd i0 t)) H):iX K [.ref p,.int t] H Q E:=⟨_,_,_,_,_,_,_,rfl,dc,hp,l,m0,ht,b0,k⟩
theorem A6 (m:M K mg):bI P w K mg base CX0 1 m.nZ m.oG ["self","turn"] (iX K):=by
 refine m.FA.ok sc_Until_lets (fun vs H Q E h=> ?_) (fun cdv A outer s H vs Q E hr h=> ?_)
 ·walk_at"g1";obtain⟨p,C,dx,fs,t,wd,i0,rfl,dc,hp,l,m0,ht,b0,k⟩:=h;walk_at"g2";rfl
 ·walk_at"g1";obtain⟨p,C,dx,fs,t,wd,i0,rfl,dc,hp,l,m0,ht,b0,k⟩:=h;walk_at"g2";have nd:=sc_Until_lets.nd;have hu0:=Room.units0 hr;have hu1:=Room.units1 hr;refine⟨_,(aE (bF (DD (bH jT (pv 1) (bJ (pv 0) rfl) (bM _)) (bJ (pv 0) rfl) aF))),?_⟩;refine aR (σ:=[some (.ref p),some (.int t)]) rfl ?_;walk_at"cx";unfold xX at k;walk_at"go";refine cS (fun hw=> ?_) (fun hw=> ?_)
  ·walk_at"go";rw[if_pos hw]at k;exact k
  ·walk_at"go";rw[if_neg hw]at k;exact k
theorem BA (m:M K mg):Mc P w K mg base m.gM "lets" 1 (iX K):=⟨_,_,_,m.oJ.ic.cl,m.BQ,m.FH,A6 m⟩
local macro_rules| `(tactic| walk_at"rd1")=> `(tactic| ((with_reducible refine' t9 ?e ?d ?l ?m0 ?ht ?b0 ?_);(case e=>walk_at"hp");(case d=>assumption);(case l=>walk_at"lk");(case m0=>walk_at"lk");(case ht=>walk_at"sd");(case b0=>walk_at"sd")))
local macro_rules| `(tactic| walk_at"rd1")=> `(tactic| first|(with_reducible refine LP ?_)|((with_reducible refine' KQ ?s ?_);(case s=>walk_at"sd"))|((with_reducible refine' rd_pow ?s ?r ?u ?_);(case s=>walk_at"sd");(case r=>walk_at"sd");(case u=>decide)))
abbrev rN (n s e w i0:V):List (Str×V):=cU "bits" i0 (qL n s e w)
inductive fO (K:W.Frag)(vs:List V)(H:Hp)(Q:VK)(E:XK):Prop
 | mk (p C dx:Addr) (n s:Str) (e:V) (wd i0:Int) (_:vs=[.ref p,.str n,.str s,e,.int wd,.int i0]) (_:DCls K C) (_:H p=some (.ins C dx [])) (_:bN n=true) (_:bN s=true) (_:lO e) (_:0<=wd) (_:0<=i0) (_:∀H',SameBut p H H'->H' p=some (.ins C dx (rN (.str n) (.str s) e (.int wd) (.int i0)))->Q .non H'):fO K vs H Q E
theorem A8 {H:Hp}{Q:VK}{E:XK}{p C dx:Addr}{n s:Str}{e:V}{wd i0:Int} (dc:DCls K C) (hp:H p=some (.ins C dx [])) (hn:bN n=true) (hs:bN s=true) (he:lO e) (hw:0<=wd) (b0:0<=i0)
  (k:∀H',SameBut p H H'->H' p=some (.ins C dx (rN (.str n) (.str s) e (.int wd) (.int i0)))->Q .non H'):fO K [.ref p,.str n,.str s,e,.int wd,.int i0] H Q E:=⟨_,_,_,_,_,_,_,_,rfl,dc,hp,hn,hs,he,hw,b0,k⟩
theorem tV (m:M K mg):bI P w K mg base CX0 4 m.iK m.iO ["self","name","start","end","wide","bits"] (fO K):=by
 refine m.vN.ok sc_Marked___init__ (fun vs H Q E h=> ?_) (fun cdv A outer s H vs Q E hr h=> ?_)
 ·walk_at"g1";obtain⟨p,C,dx,n,st,e,wd,i0,rfl,dc,hp,hn,hs,he,hw,b0,k⟩:=h;walk_at"g2";rfl
 ·walk_at"g1";obtain⟨p,C,dx,n,st,e,wd,i0,rfl,dc,hp,hn,hs,he,hw,b0,k⟩:=h;walk_at"g2";have nd:=sc_Marked___init__.nd;have hu0:=Room.units0 hr;have hu1:=Room.units1 hr;have D_Door___init__:= @kC P w K mg base m;have dM:= @l9 P w K mg base m;refine⟨_,(aC (bX (QH D_Door___init__ hr (aA (pv 0) (aA (pv 1) (aA (pv 2) (aA (pv 3) (aA (pv 4) aD)))))))
   (aC (bX (bR dM hr (aA c3 (aA (pv 5) (aA aF aD)))))
   (aE (gY (pv 0) (pv 5) rfl)))),?_⟩
  refine aR (σ:=[some (.ref p),some (.str n),some (.str st),some (e),some (.int wd),some (.int i0)]) rfl ?_;walk_at"cx";walk_at"go";exact k _ (by walk_at"sb") (by assumption)
theorem FI (m:M K mg):Kc P w K mg base "Marked" m.fK 4 [] (fO K):=⟨_,_,_,_,m.QC,m.MW,.nil,m.vF,tV m⟩
theorem IX {H:Hp}{Q:VK}{E:XK}{C:Addr}{vs dvs:List V}{n s:Str}{e:V}{wd i0:Int} (ev:vs++dvs=[.str n,.str s,e,.int wd,.int i0]) (dc:DCls K C) (hn:bN n=true) (hs:bN s=true) (he:lO e) (hw:0<=wd) (b0:0<=i0)
  (k:∀p dx H',H p=none->Same H H'->H' p=some (.ins C dx (rN (.str n) (.str s) e (.int wd) (.int i0)))->Q (.ref p) H'):uQ C (fO K) dvs E Q vs H :=
 wM (fun p dx H0 Q' h k' s0=>by rw[ev];exact A8 dc h hn hs he hw b0 k') k
local macro_rules| `(tactic| walk_at"rd1")=> `(tactic| ((with_reducible refine' IX ?v ?d ?hn ?hs ?he ?hw ?b0 ?_);(case v=>rfl);(case d=>assumption);(case hn=>assumption);(case hs=>assumption);(case he=>first|assumption|exact .inl rfl|exact .inr ⟨_,rfl,by assumption⟩);(case hw=>walk_at"sd");(case b0=>walk_at"sd");intro p' dx' H' n' S' e'))
def u0 (wd i0 t:Int):Int:=if i0/2^t.toNat%2=1 then wd else 0
inductive hV (K:W.Frag)(vs:List V)(H:Hp)(Q:VK)(E:XK):Prop
 | mk (p C dx:Addr) (fs:List (Str×V)) (t wd i0:Int) (_:vs=[.ref p,.int t]) (_:DCls K C) (_:H p=some (.ins C dx fs)) (_:fs.lookup ("wide" :Str)=some (.int wd)) (_:fs.lookup ("bits" :Str)=some (.int i0)) (_:0<=t) (_:0<=i0) (_:Q (.int (u0 wd i0 t)) H):hV K vs H Q E
theorem sU {H:Hp}{Q:VK}{E:XK}{p C dx:Addr}{fs:List (Str×V)}{t wd i0:Int} (hp:H p=some (.ins C dx fs)) (dc:DCls K C) (l:fs.lookup ("wide" :Str)=some (.int wd)) (m0:fs.lookup ("bits" :Str)=some (.int i0)) (ht:0<=t) (b0:0<=i0) (k:Q (.int (u0 wd i0 t)) H):hV K [.ref p,.int t] H Q E:=⟨_,_,_,_,_,_,_,rfl,dc,hp,l,m0,ht,b0,k⟩
theorem yV (m:M K mg):bI P w K mg base CX0 1 m.mM m.mH ["self","turn"] (hV K):=by
 refine m.CA.ok sc_Marked_lets (fun vs H Q E h=> ?_) (fun cdv A outer s H vs Q E hr h=> ?_)
 ·walk_at"g1";obtain⟨p,C,dx,fs,t,wd,i0,rfl,dc,hp,l,m0,ht,b0,k⟩:=h;walk_at"g2";rfl
 ·walk_at"g1";obtain⟨p,C,dx,fs,t,wd,i0,rfl,dc,hp,l,m0,ht,b0,k⟩:=h;walk_at"g2";have nd:=sc_Marked_lets.nd;have hu0:=Room.units0 hr;have hu1:=Room.units1 hr;refine⟨_,(aC (cG (bH Q7 (pv 1) (WL PySem.F.plainAttrs_int PySem.F.slot_int_bit_length PySem.F.type_int_bit_length LV (bJ (pv 0) rfl)) (bM _)) (aE (bF aF)) bQ)
   (aE (bF (DD (bH o8 (aL b9 (aL XX (bJ (pv 0) rfl) (pv 1)) aF) aF (bM _)) (bJ (pv 0) rfl) aF)))),?_⟩
  refine aR (σ:=[some (.ref p),some (.int t)]) rfl ?_;walk_at"cx";unfold u0 at k;walk_at"go";refine cS (fun hw=> ?_) (fun hw=> ?_)
  ·walk_at"go";rw[if_neg (by rw[LI b0 hw];decide)]at k;exact k
  ·walk_at"go";refine cS (fun hv=> ?_) (fun hv=> ?_)
   ·walk_at"go";rw[if_pos hv]at k;exact k
   ·walk_at"go";rw[if_neg hv]at k;exact k
theorem zB (m:M K mg):Mc P w K mg base m.fK "lets" 1 (hV K):=⟨_,_,_,m.l7.ic.cl,m.z4,m.BL,yV m⟩
local macro_rules| `(tactic| walk_at"rd1")=> `(tactic| ((with_reducible refine' sU ?e ?d ?l ?m0 ?ht ?b0 ?_);(case e=>walk_at"hp");(case d=>assumption);(case l=>walk_at"lk");(case m0=>walk_at"lk");(case ht=>walk_at"sd");(case b0=>walk_at"sd")))
abbrev aG:=Str×Str×V×(Int->Int)
def NC:HO->Prop
 | .lst _=>True
 | .dK _=>True
 | .dT _=>True
 | .tbl _=>True
 | .ins _ _ fs=>fs=[]
 | _=>False
structure bA where
 at':Hp->V->aG->Prop
 same:∀{H H' v d},at' H v d->Same H H'->at' H' v d
 but:∀{H H' v d p o},at' H v d->H p=some o->NC o->SameBut p H H'->at' H' v d
def Q6 (P:Program)(w:World)(K:W.Frag)(mg:Str->Option Value)(base:Heap)(kL:Option Nat)(p C dx:Addr)(fs:List (Str×V))(fp:List (Addr×HO))(lt:Int->Int):Prop:=∀kl,kL=some kl →
 ∃sp,Mc P w K mg base C "lets" kl sp/\∀(H':Hp) (t:Int) (Q:VK),H' p=some (.ins C dx fs)->(∀x∈fp,H' x.1=some x.2)->0<=t->(∀H'',Same H' H''->Q (.int (lt t)) H'')->sp [.ref p,.int t] H' Q E0
inductive DoorAt (P:Program)(w:World)(K:W.Frag)(mg:Str->Option Value)(base:Heap)(kL:Option Nat)(H:Hp)(v:V)(d:aG):Prop
 | mk (p C dx:Addr) (fs:List (Str×V)) (fp:List (Addr×HO)) (_:v= .ref p) (_:H p=some (.ins C dx fs)) (_:DCls K C) (_:fs.lookup ("name" :Str)=some (.str d.1)) (_:fs.lookup ("start" :Str)=some (.str d.2.1)) (_:fs.lookup ("end" :Str)=some d.2.2.1) (_:fs.lookup ("is_exit" :Str)=none) (_:fs.lookup ("lets" :Str)=none) (_:Mc P w K mg base C "is_exit" 1 (iB K)) (_:∀x∈fp,H x.1=some x.2/\¬NC x.2) (_:Q6 P w K mg base kL p C dx fs fp d.2.2.2):DoorAt P w K mg base kL H v d
inductive QN (P:Program)(w:World)(K:W.Frag)(mg:Str->Option Value)(base:Heap)(kL:Option Nat)(H:Hp)(v:V)(n st:Str)(e:V)(lt:Int->Int):Prop
 | mk (p C dx:Addr) (fs:List (Str×V)) (fp:List (Addr×HO)) (_:v= .ref p) (_:H p=some (.ins C dx fs)) (_:DCls K C) (_:fs.lookup ("name" :Str)=some (.str n)) (_:fs.lookup ("start" :Str)=some (.str st)) (_:fs.lookup ("end" :Str)=some e) (_:fs.lookup ("is_exit" :Str)=none) (_:fs.lookup ("lets" :Str)=none) (_:Mc P w K mg base C "is_exit" 1 (iB K)) (_:∀x∈fp,H x.1=some x.2/\¬NC x.2) (_:Q6 P w K mg base kL p C dx fs fp lt):QN P w K mg base kL H v n st e lt
theorem DoorAt.ex {kL:Option Nat}{H:Hp}{v:V}{n st:Str}{e:V}{lt:Int->Int} (h:DoorAt P w K mg base kL H v (n,st,e,lt)):QN P w K mg base kL H v n st e lt:=by
 walk_at"g1";obtain⟨p,C,dx,fs,fp,h1,h2,h3,h4,h5,h6,h7,h8,h9,h10,h11⟩:=h;walk_at"g2";exact⟨p,C,dx,fs,fp,h1,h2,h3,h4,h5,h6,h7,h8,h9,h10,h11⟩
def aW (P:Program)(w:World)(K:W.Frag)(mg:Str->Option Value)(base:Heap)(kL:Option Nat):bA where
 at':=DoorAt P w K mg base kL
 same:=fun⟨p,C,dx,fs,fp,e,hp,dc,l1,l2,l3,l4,l5,mc,hf,lt⟩ s=>⟨p,C,dx,fs,fp,e,s _ _ hp,dc,l1,l2,l3,l4,l5,mc,fun x hx=>⟨s _ _ (hf x hx).1,(hf x hx).2⟩,lt⟩
 but:=fun {H H' v d q o} ⟨p,C,dx,fs,fp,e,hp,dc,l1,l2,l3,l4,l5,mc,hf,lt⟩ ho so sb=>⟨p,C,dx,fs,fp,e,sb _ _ hp (fun z=>by
   rw[z,ho]at hp;cases hp;have h:fs=[]:=so;rw[h]at l1;cases l1),dc,l1,l2,l3,l4,l5,mc,fun x hx=>⟨sb _ _ (hf x hx).1 (fun z=>by
   have h:=(hf x hx).1;rw[z,ho]at h;cases h;exact(hf x hx).2 so),(hf x hx).2⟩,lt⟩
local macro_rules| `(tactic| walk_at"rd1")=> `(tactic| first|(with_reducible refine TY ?_)|(with_reducible refine RF ?_)|(with_reducible refine XS ?_)|(with_reducible refine LR ?_)|(with_reducible refine L6 ?_)|(with_reducible refine rd_iItemsK ?_)|(with_reducible refine rd_iItemsT ?_)|(with_reducible refine PJ ?_)|((with_reducible refine N4 ?_);intro p' H' n' S' e')|((with_reducible refine OL ?_);intro p' H' n' S' e'))
theorem jK {H:Hp}{Q:VK}{l:Addr}{xs:List V}{y:V} (e:H l=some (.lst xs)) (hz:xs.length<sizeLine) (h:∀H',SameBut l H H'->H' l=some (.lst (xs++[y]))->Q .non H'):HA (.ref l) [y] H Q :=
 ⟨l,xs,y,rfl,rfl,e,hz,h _ SameBut.upd bK⟩
inductive rP (vs:List V)(H:Hp)(Q:VK)(E:XK):Prop
 | mk (f l:Int) (_:vs=[.int f,.int l]) (_:0<=f) (_:f<=l) (_:Q .non H):rP vs H Q E
theorem ST {H:Hp}{Q:VK}{E:XK}{f l:Int} (h0:0<=f) (h1:f<=l) (h:Q .non H):rP [.int f,.int l] H Q E:=⟨_,_,rfl,h0,h1,h⟩
theorem A1 (m:M K mg):bI P w K mg base CX0 1 m.oP m.oI ["first","last"] (rP):=by
 refine m.j9.ok sc_need_turns (fun vs H Q E h=> ?_) (fun cdv A outer s H vs Q E hr h=> ?_)
 ·walk_at"g1";obtain⟨f,l,rfl,h0,h1,k⟩:=h;walk_at"g2";rfl
 ·walk_at"g1";obtain⟨f,l,rfl,h0,h1,k⟩:=h;walk_at"g2";have nd:=sc_need_turns.nd;have hu0:=Room.units0 hr;have hu1:=Room.units1 hr;refine⟨_,(aC (cG (bH jT (pv 0) aF (bM _)) (aE gE) bQ)
   (aE (cG (bH jT (pv 1) (pv 0) (bM _)) (aE gE) bQ))),?_⟩
  refine aR (σ:=[some (.int f),some (.int l)]) rfl ?_;walk_at"cx";walk_at"go";exact k
theorem A5 (m:M K mg):Fc P w K mg base "need_turns" 1 ["first","last"] (rP):=⟨_,_,m.E2,m.j9.kp,m.FC,A1 m⟩
inductive uO (K:W.Frag)(vs:List V)(H:Hp)(Q:VK)(E:XK):Prop
 | mk (a:Addr) (ss:List Str) (_:vs=[.ref a]) (_:SqL K H a (ss.map V.str)) (_:ss.Nodup) (_:ss.length<=100) (_:∀H',Same H H'->Q .non H'):uO K vs H Q E
theorem KI {H:Hp}{Q:VK}{E:XK}{a:Addr}{ss:List Str} (hS:SqL K H a (ss.map V.str)) (nd:ss.Nodup) (hl:ss.length<=100) (h:∀H',Same H H'->Q .non H'):uO K [.ref a] H Q E:=⟨_,_,rfl,hS,nd,hl,h⟩
theorem rF {α:Type}{ss:List α} (nd:ss.Nodup) {i:Nat}{z:α} (hz:ss[i]? =some z):z∉ss.take i:=fun h=>by
 obtain⟨hi,e⟩:=List.getElem?_eq_some_iff.mp hz;obtain⟨j,hj,ej⟩:=List.getElem_of_mem h;rw[List.length_take]at hj;rw[List.getElem_take]at ej;exact(List.pairwise_iff_getElem.mp nd) j i (by lia) hi (by lia) (ej.trans e.symm)
theorem cH {α:Type}{ss:List α}{i:Nat}{z:α} (hz:ss[i]? =some z):ss.take (i+1)=ss.take i++[z]:=by rw[List.take_succ,hz];rfl
theorem vD (m:M K mg):bI P w K mg base CX0 1 m.jE m.jD ["names"] (uO K):=by
 refine m.eX.ok sc_need_each_once (fun vs H Q E h=> ?_) (fun cdv A outer s H vs Q E hr h=> ?_)
 ·walk_at"g1";obtain⟨a,ss,rfl,hS,hnd,hlen,k⟩:=h;walk_at"g2";rfl
 ·walk_at"g1";obtain⟨a,ss,rfl,hS,hnd,hlen,k⟩:=h;walk_at"g2";have nd:=sc_need_each_once.nd;have hu0:=Room.units0 hr;have hu1:=Room.units1 hr;refine⟨_,(aC (aX (i:=1) nd rfl (by walk_at"oi") vW)
   (aE (d4 PassesOwn.never rfl (bV (pv 0)) (aM (i:=2) nd rfl (by walk_at"oi")) (aC (cG (DN (VQ hu1 (pv 2) (pv 1)) (by with_unfolding_all rfl)) (aE gE) bQ)
   (aE (fM hu1 (pv 1) (pv 2) uS rfl)))))),?_⟩
  refine aR (σ:=[some (.ref a),none,none]) rfl ?_;walk_at"cx";walk_at"go";rename_i p H1 n1 S1 e1;let Pv1:Nat->St->Hp->Prop:=fun i σ' H'=>SameBut p H1 H'/\∃kvs,H' p=some (.dK kvs)/\kvs.length<=i/\(∀z,(bD kvs (.inr z)).isSome=true->z∈ss.take i)/\∃x,σ'=[some (.ref a),some (.ref p),x];refine fS (ss.map V.str) Pv1 ⟨SameBut.refl,[],e1,Nat.le_refl _,(fun z h=>by cases h),_,rfl⟩ (fun i σ' H' _ q=>(SameBut.same n1 S1 q.1).seq hS) ?_ ?_
  ·rintro i x _ H' hx hq_;walk_at"g1";obtain⟨sb,kvs,ek,hk,hin,y,rfl⟩:=hq_;walk_at"g2";rw[List.getElem?_map]at hx;obtain⟨z,hz,rfl⟩:=Option.map_eq_some_iff.mp hx;have hi:i<ss.length:=(List.getElem?_eq_some_iff.mp hz).1;have hno:(bD kvs (.inr z)).isSome=false:=by
    cases e:(bD kvs (.inr z)).isSome with
    | false=>rfl
    | true=>exact absurd (hin z e) (rF hnd hz)
   walk_at"go";refine T6 (.inl ek) ?_;rw[hno];walk_at"go";refine v9 ek (by rw[sizeLine_eq];lia) fun H9 B9 e9=> ?_;refine⟨by walk_at"sb",_,e9,Nat.le_trans (dI _ _ _) (by lia),fun y hy=> ?_,_,rfl⟩;rw[i6]at hy;rw[cH hz]
   by_cases e:(Sum.inr y:Key)= .inr z
   ·cases e;exact List.mem_append_right _ (.head _)
   ·rw[if_neg e]at hy;exact List.mem_append_left _ (hin y hy)
  ·rintro _ H' hq_;walk_at"g1";obtain⟨sb,kvs,ek,hk,hin,y,rfl⟩:=hq_;walk_at"g2";exact k _ (SameBut.same n1 S1 sb)
theorem vB (m:M K mg):Fc P w K mg base "need_each_once" 1 ["names"] (uO K):=⟨_,_,m.wW,m.eX.kp,m.wS,vD m⟩
def d5 (rs:List Str)(d:aG):Prop:=d.2.1∈rs/\(d.2.2.1= .non∨∃z,d.2.2.1= .str z/\z∈rs)
def bY (H:Hp)(v:V)(p:Str×Int):Prop:=∃q,v= .ref q/\H q=some (.tup [.str p.1,.int p.2])
theorem jO {H H':Hp}{vs:List V}{ps:List (Str×Int)} (h:Paired (bY H) vs ps) (s:Same H H'):Paired (bY H') vs ps:=Paired.imp' (fun v z ⟨q,e,h⟩=>⟨q,e,s _ _ h⟩) h
inductive oR (K:W.Frag)(D:bA)(vs:List V)(H:Hp)(Q:VK)(E:XK):Prop
 | mk (a b:Addr) (us:List V) (ds:List aG) (rs:List Str) (ws:List V) (ps:List (Str×Int)) (_:vs=[.ref a,.ref b]) (_:SqL K H a us) (_:Paired (D.at' H) us ds) (_:(∀d∈ds,d5 rs d)) (_:ds.length<=20) (_:SqL K H b ws) (_:Paired (bY H) ws ps) (_:(∀p∈ps,p.1∈rs)) (_:ps.length<=40) (_:∀p (ss:List Str) H',Same H H'->H' p=some (.lst (ss.map V.str))->(∀z∈ss,z∈rs)->ss.length<=80->Q (.ref p) H'):oR K D vs H Q E
theorem O0 {D:bA}{H:Hp}{Q:VK}{E:XK}{a b:Addr}{us:List V}{ds:List aG}{rs:List Str}{ws:List V}{ps:List (Str×Int)} (hS:SqL K H a us) (hd:Paired (D.at' H) us ds) (hr:∀d∈ds,d5 rs d) (hl:ds.length<=20) (hb:SqL K H b ws) (hw:Paired (bY H) ws ps) (hwr:∀p∈ps,p.1∈rs) (hwl:ps.length<=40) (h:∀p (ss:List Str) H',Same H H'->H' p=some (.lst (ss.map V.str))->(∀z∈ss,z∈rs)->ss.length<=80->Q (.ref p) H'):oR K D [.ref a,.ref b] H Q E:=⟨_,_,_,_,_,_,_,rfl,hS,hd,hr,hl,hb,hw,hwr,hwl,h⟩
theorem tS (m:M K mg):bI P w K mg base CX0 2 m.iJ m.iN ["doors","people"] (oR K (aW P w K mg base (some 1))):=by
 refine m.fL.ok sc_rooms_spoken_of (fun vs H Q E h=> ?_) (fun cdv A outer s H vs Q E hr h=> ?_)
 ·walk_at"g1";obtain⟨a,b,us,ds,rs,ws,ps,rfl,hS,hd,hr',hlen,hb,hw,hwr,hwl,k⟩:=h;walk_at"g2";rfl
 ·walk_at"g1";obtain⟨a,b,us,ds,rs,ws,ps,rfl,hS,hd,hr',hlen,hb,hw,hwr,hwl,k⟩:=h;walk_at"g2";have nd:=sc_rooms_spoken_of.nd;have hu0:=Room.units0 hr;have hu1:=Room.units1 hr;refine⟨_,(aC (aX (i:=2) nd rfl (by walk_at"oi") (fQ aD))
   (aC (d4 PassesOwn.never rfl (bV (pv 0)) (aM (i:=3) nd rfl (by walk_at"oi")) (aC (bX (uN PySem.F.plainAttrs_list PySem.F.slot_list_append PySem.F.type_list_append jI (pv 2) (aA (bJ (pv 3) rfl) aD)))
   (aE (cG (qD (lY (gJ 1 hr (pv 3)))) (aE (bX (uN PySem.F.plainAttrs_list PySem.F.slot_list_append PySem.F.type_list_append jI (pv 2) (aA (bJ (pv 3) rfl) aD)))) bQ))))
   (aE (bF (aL DY (pv 2) (d9 (N:=["room","number"]) (nl:=2) (ci:=[]) rfl (blk (s.heap.objs.size+1) rfl rfl rfl (by kernel_rfl)) (bV (pv 1)) (fun _ _ _ _=>(k4 (K:=K) (n:=2) rfl (bB (aM (i:=0) (show (["room","number"]:List Str).Nodup by decide +kernel) rfl (by walk_at"oi")) (bB (aM (i:=1) (show (["room","number"]:List Str).Nodup by decide +kernel) rfl (by walk_at"oi")) dN)))) (fun _ _ _ _=>jW) (fun _ _ _ _=>(pv 0)))))))),?_⟩
  refine aR (σ:=[some (.ref a),some (.ref b),none,none]) rfl ?_;walk_at"cx";have hul:us.length=ds.length:=Paired.length hd;walk_at"go";rename_i p H1 n1 S1 e1;let Pv2:Nat->St->Hp->Prop:=fun i σ' H'=>SameBut p H1 H'/\(∃ss:List Str,H' p=some (.lst (ss.map V.str))/\(∀z∈ss,z∈rs)/\ss.length<=2 * i)/\∃x,σ'=[some (.ref a),some (.ref b),some (.ref p),x];refine fS us Pv2 ⟨SameBut.refl,⟨[],e1,(fun _ z=>nomatch z),Nat.le_refl _⟩,_,rfl⟩ (fun i σ' H' _ q=>(SameBut.same n1 S1 q.1).seq hS) ?_ ?_
  ·rintro i x _ H' hx hq_;walk_at"g1";obtain⟨sb,⟨ss,es,hin,hsl⟩,y,rfl⟩:=hq_;walk_at"g2";have hi:i<us.length:=(List.getElem?_eq_some_iff.mp hx).1;obtain⟨d,hdx⟩:∃d,ds[i]? =some d:=⟨_,List.getElem?_eq_getElem (by lia)⟩
   walk_at"g1";obtain⟨n,st,e,lt⟩:=d;walk_at"g2";walk_at"g1";obtain⟨q,C9,dx,fs,fp,rfl,hq,dcC,l1,l2,l3,l4,l5,mcE,hfp,hlt⟩:=DoorAt.ex (Paired.at2 hd hx hdx);walk_at"g2";obtain⟨r1,r2⟩:=hr' _ (List.mem_of_getElem? hdx);have hqp:q≠p:=fun z=>by rw[z,n1]at hq;cases hq
   have hq':H' q=some (.ins C9 dx fs):=sb _ _ (S1 _ _ hq) hqp;rcases r2 with r2|⟨z,r2,r3⟩
   ·have r2:e= .non:=r2;subst r2;walk_at"go";refine jK es (by rw[sizeLine_eq,List.length_map];lia) fun H8 B8 e8=> ?_;have hq8:=B8 _ _ hq' hqp;walk_at"go";exact⟨by walk_at"sb",⟨ss++[st],by rw[e8,List.map_append];rfl,fun z hz=>(List.mem_append.mp hz).elim (hin z) (fun w=>by cases List.mem_singleton.mp w;exact r1),by rw[List.length_append];show ss.length+1<=_;lia⟩,_,rfl⟩
   ·have r2:e= .str z:=r2;subst r2;walk_at"go";refine jK es (by rw[sizeLine_eq,List.length_map];lia) fun H8 B8 e8=> ?_;have hq8:=B8 _ _ hq' hqp;walk_at"go";refine jK e8 (by rw[sizeLine_eq,List.length_append,List.length_map];show ss.length+1<_;lia) fun H9 B9 e9=> ?_;walk_at"go";refine⟨by walk_at"sb",⟨ss++[st]++[z],by rw[e9,List.map_append,List.map_append];rfl,fun z hz=> ?_,by rw[List.length_append,List.length_append];show ss.length+1+1<=_;lia⟩,_,rfl⟩;rcases List.mem_append.mp hz with hz|hz
    ·exact(List.mem_append.mp hz).elim (hin z) (fun w=>by cases List.mem_singleton.mp w;exact r1)
    ·cases List.mem_singleton.mp hz;exact r3
  ·rintro _ H' hq_;walk_at"g1";obtain⟨sb,⟨ss,es,hin,hsl⟩,y,rfl⟩:=hq_;walk_at"g2";have sH:Same H H':=SameBut.same n1 S1 sb;have hb':=sH.seq hb;walk_at"go";refine qH (α:=Str×Int) (xs:=ps) (vs:=ws) (fun p=> .str p.1) (fun p=> .int p.2) (fun _=>true) (fun p y _=>y= .str p.1) (fun _ _ _ _ h _=>h) (by rw[sizeLine_eq];lia) (rest:=[]) (by rfl) hb' (jO hw sH) (fun x H1 hx s1 R hR=>hR _ (Same.refl _)) (fun x H1 hx _ s1 R hR=> ?_) ?_
   ·walk_at"go";exact hR _ _ rfl (Same.refl _)
   intro ys H2 s2 hys;rw[i7]at hys;obtain rfl:=gW hys;walk_at"go";rename_i q3 H3 n3 S3 e3 q4 H4 n4 S4 e4;refine k _ (ss++ps.map (·.1)) _ (by walk_at"sm") (by rw[e4,List.map_append,List.map_map];rfl) (fun z hz=> ?_) (by rw[List.length_append,List.length_map];lia);rcases List.mem_append.mp hz with hz|hz
   ·exact hin z hz
   ·obtain⟨p,hp,rfl⟩:=List.mem_map.mp hz;exact hwr p hp
theorem tO (m:M K mg):Fc P w K mg base "rooms_spoken_of" 2 ["doors","people"] (oR K (aW P w K mg base (some 1))):=⟨_,_,m.vL,m.fL.kp,m.vM,tS m⟩
inductive rT (K:W.Frag)(vs:List V)(H:Hp)(Q:VK)(E:XK):Prop
 | mk (a b:Addr) (ss:List Str) (kvs:List (Key×V)) (_:vs=[.ref a,.ref b]) (_:SqL K H a (ss.map V.str)) (_:Rd H b (.dK kvs)) (_:(∀z∈ss,(bD kvs (.inr z)).isSome=true)) (_:∀H',Same H H'->Q .non H'):rT K vs H Q E
theorem GP {H:Hp}{Q:VK}{E:XK}{a b:Addr}{ss:List Str}{kvs:List (Key×V)} (hS:SqL K H a (ss.map V.str)) (hb:Rd H b (.dK kvs)) (hk:∀z∈ss,(bD kvs (.inr z)).isSome=true) (h:∀H',Same H H'->Q .non H'):rT K [.ref a,.ref b] H Q E:=⟨_,_,_,_,rfl,hS,hb,hk,h⟩
theorem SC {H H':Hp}{a:Addr}{u:HO} (s:Same H H') (r:Rd H a u):Rd H' a u:=r.elim (fun e=> .inl (s _ _ e)) fun⟨o,e⟩=> .inr ⟨o,s _ _ e⟩
theorem BH (m:M K mg):bI P w K mg base CX0 1 m.oB m.oK ["names","sizes"] (rT K):=by
 refine m.fV.ok sc_need_rooms (fun vs H Q E h=> ?_) (fun cdv A outer s H vs Q E hr h=> ?_)
 ·walk_at"g1";obtain⟨a,b,ss,kvs,rfl,hS,hb,hk,k⟩:=h;walk_at"g2";rfl
 ·walk_at"g1";obtain⟨a,b,ss,kvs,rfl,hS,hb,hk,k⟩:=h;walk_at"g2";have nd:=sc_need_rooms.nd;have hu0:=Room.units0 hr;have hu1:=Room.units1 hr;refine⟨_,(aE (d4 PassesOwn.never rfl (bV (pv 0)) (aM (i:=2) nd rfl (by walk_at"oi")) (aE (cG (DN (AF hu1 (pv 2) (pv 1)) (by with_unfolding_all rfl)) (aE gE) bQ)))),?_⟩;refine aR (σ:=[some (.ref a),some (.ref b),none]) rfl ?_;walk_at"cx";walk_at"go";let Pv3:Nat->St->Hp->Prop:=fun i σ' H'=>Same H H'/\∃x,σ'=[some (.ref a),some (.ref b),x];refine fS (ss.map V.str) Pv3 ⟨Same.refl _,_,rfl⟩ (fun i σ' H' _ q=>q.1.seq hS) ?_ ?_
  ·rintro i x _ H' hx ⟨s1,y,rfl⟩;rw[List.getElem?_map]at hx;obtain⟨z,hz,rfl⟩:=Option.map_eq_some_iff.mp hx;have hz':=hk z (List.mem_of_getElem? hz);walk_at"go";refine xY (SC s1 hb) ?_;rw[hz'];walk_at"go";exact⟨s1,_,rfl⟩
  ·rintro _ H' ⟨s1,y,rfl⟩;exact k _ s1
theorem sW (m:M K mg):Fc P w K mg base "need_rooms" 1 ["names","sizes"] (rT K):=⟨_,_,m.EZ,m.fV.kp,m.E1,BH m⟩
theorem NU {H:Hp}{Q:VK}{i j:Int} (h:Q (.int (i+j)) H):WT (.int i) (.int j) H Q:=by
 first|exact h|exact⟨_,_,rfl,rfl,h⟩|exact .inl ⟨_,_,rfl,rfl,h⟩
theorem DU {H H':Hp}{p c:Addr}{kvs:List (Key×V)}{xs:List V} (h:SqL K H c xs) (hp:H p=some (.dK kvs)) (sb:SameBut p H H'):SqL K H' c xs:=by
 rcases h with (h|⟨o,h⟩)|h
 ·exact .inl (.inl (sb _ _ h fun z=>by rw[z,hp]at h;cases h))
 ·exact .inl (.inr ⟨o,sb _ _ h fun z=>by rw[z,hp]at h;cases h⟩)
 ·exact .inr h
def szK (rz:List (Str×Int)):List (Key×V):=rz.map fun e=>((.inr e.1:Key),V.int e.2)
theorem SW (rz:List (Str×Int)):(szK rz).map (·.1)=(rz.map (·.1)).map (Sum.inr:Str->Key):=by unfold szK;rw[List.map_map,List.map_map];rfl
theorem AK {rs:List Str}(nd:rs.Nodup):(rs.map (Sum.inr:Str->Key)).Nodup:=by
 rw[List.Nodup,List.pairwise_map];exact List.Pairwise.imp (fun h z=>h (Sum.inr.inj z)) nd
theorem wO {rz:List (Str×Int)}(nd:(rz.map (·.1)).Nodup):((szK rz).map (·.1)).Nodup:=by rw[SW];exact AK nd
theorem yZ {rz:List (Str×Int)}(nd:(rz.map (·.1)).Nodup){e:Str×Int}(h:e∈rz):bD (szK rz) (.inr e.1)=some (.int e.2) :=
 kU (e:=((.inr e.1:Key),V.int e.2)) (wO nd) (List.mem_map.mpr ⟨e,h,rfl⟩)
theorem CQ {rz:List (Str×Int)}(nd:(rz.map (·.1)).Nodup){z:Str}(h:z∈rz.map (·.1)):∃i,(z,i)∈rz/\bD (szK rz) (.inr z)=some (.int i):=by
 obtain⟨e,he,rfl⟩:=List.mem_map.mp h;exact⟨e.2,he,yZ nd he⟩
theorem tT {kvs:List (Key×V)}{k:Key} (h:∀e∈kvs,e.1≠k):bD kvs k=none:=by
 induction kvs with
 | nil=>rfl
 | cons a l ih =>
  rw[cZ (h a (.head _))];exact ih fun e he=>h e (List.mem_cons_of_mem _ he)
theorem AI:∀(ps kvs:List (Key×V)),(ps.map (·.1)).Nodup->(∀e∈kvs,∀q∈ps,e.1≠q.1)->jV kvs ps=kvs++ps
 | [],kvs,_,_=>(List.append_nil _).symm
 | (k,v)::ps,kvs,nd,h=>by
  have nd':=List.pairwise_cons.mp nd;show jV (bU kvs k v) ps=_;rw[nO v (tT fun e he=>h e he _ (.head _)),AI ps _ nd'.2,List.append_assoc]
  ·rfl
  ·intro e he q hq;rcases List.mem_append.mp he with he|he
   ·exact h e he q (List.mem_cons_of_mem _ hq)
   ·cases List.mem_singleton.mp he;exact nd'.1 q.1 (List.mem_map.mpr ⟨q,hq,rfl⟩)
theorem ON {rz:List (Str×Int)}(nd:(rz.map (·.1)).Nodup):jV [] (szK rz)=szK rz:=by
 rw[AI _ _ (wO nd) (fun e he=>absurd he (List.not_mem_nil))];rfl
theorem ID {kvs:List (Key×V)}:∀(o:Obj) (x:HO),HO.dK kvs≠ .frz o x:=fun _ _ z=>by cases z
def xN (rz:List (Str×Int))(ps:List (Str×Int))(kvs:List (Key×V)):Prop:=∀z∈rz.map (·.1),bD kvs (.inr z)=some (.int (gR ps z))
inductive sI (K:W.Frag)(vs:List V)(H:Hp)(Q:VK)(E:XK):Prop
 | mk (a b:Addr) (rz:List (Str×Int)) (ws:List V) (ps:List (Str×Int)) (_:vs=[.ref a,.ref b]) (_:H a=some (.dK (szK rz))) (_:SqL K H b ws) (_:Paired (bY H) ws ps) (_:(∀p∈ps,p.1∈rz.map (·.1))) (_:(rz.map (·.1)).Nodup) (_:rz.length<=100) (_:∀p H' kvs,H p=none->Same H H'->H' p=some (.dK kvs)->kvs.map (·.1)=(szK rz).map (·.1)->xN rz ps kvs->Q (.ref p) H'):sI K vs H Q E
theorem GZ {H:Hp}{Q:VK}{E:XK}{a b:Addr}{rz:List (Str×Int)}{ws:List V}{ps:List (Str×Int)} (ha:H a=some (.dK (szK rz))) (hb:SqL K H b ws) (hw:Paired (bY H) ws ps) (hwr:∀p∈ps,p.1∈rz.map (·.1)) (nd:(rz.map (·.1)).Nodup) (hl:rz.length<=100) (h:∀p H' kvs,H p=none->Same H H'->H' p=some (.dK kvs)->kvs.map (·.1)=(szK rz).map (·.1)->xN rz ps kvs->Q (.ref p) H'):sI K [.ref a,.ref b] H Q E:=⟨_,_,_,_,_,rfl,ha,hb,hw,hwr,nd,hl,h⟩
theorem NK {kvs:List (Key×V)}{k:Key}{v:V} (h:(bD kvs k).isSome=true):(bU kvs k v).map (·.1)=kvs.map (·.1):=by
 unfold bU;rw[kE,if_pos h,List.map_map]
 apply List.map_congr_left
 intro x _;show (if x.1=k then (x.1,v) else x).1=x.1
 split<;>rfl
theorem x8 (m:M K mg):bI P w K mg base CX0 1 m.k7 m.lI ["sizes","people"] (sI K):=by
 refine m.eA.ok sc_added_people (fun vs H Q E h=> ?_) (fun cdv A outer s H vs Q E hr h=> ?_)
 ·walk_at"g1";obtain⟨a,b,rz,ws,ps,rfl,ha,hb,hw,hwr,ndz,hlen,k⟩:=h;walk_at"g2";rfl
 ·walk_at"g1";obtain⟨a,b,rz,ws,ps,rfl,ha,hb,hw,hwr,ndz,hlen,k⟩:=h;walk_at"g2";have nd:=sc_added_people.nd;have hu0:=Room.units0 hr;have hu1:=Room.units1 hr;refine⟨_,(aC (aX (i:=2) nd rfl (by walk_at"oi") vW)
   (aC (SO (d4 PassesOwn.never rfl (v8 (pv 0)) (aM (i:=3) nd rfl (by walk_at"oi")) (aE (fM hu1 (pv 2) (pv 3) aF rfl))))
   (aC (d4 PassesOwn.never rfl (bV (pv 1)) (l0 (n:=2) rfl (bB (aM (i:=3) nd rfl (by walk_at"oi")) (bB (aM (i:=4) nd rfl (by walk_at"oi")) dN))) (aE (UD hu1 (pv 2) (pv 3) (pv 4) WN (fun _ _ _=>rfl))))
   (aE (bF (pv 2)))))),?_⟩
  refine aR (σ:=[some (.ref a),some (.ref b),none,none,none]) rfl ?_;walk_at"cx";walk_at"go";rename_i p H1 n1 S1 e1;have hap:a≠p:=fun z=>by rw[z,n1]at ha;cases ha
  have ha1:=S1 _ _ ha;have hl2:(szK rz).length=rz.length:=by unfold szK;rw[List.length_map]
  refine N8 ha1 ID ?_;walk_at"go";refine wL ha1 fun o H2 B2 e2=> ?_;have ep2:H2 p=some (.dK []):=B2 _ _ e1 (Ne.symm hap);have hwl:ws.length=ps.length:=Paired.length hw;let Pv1:Nat->St->Hp->Prop:=fun i σ' H'=>SameBut p H2 H'/\H' p=some (.dK ((rz.take i).map fun e=>((.inr e.1:Key),V.int 0)))/\∃x,σ'=[some (.ref a),some (.ref b),some (.ref p),x,none];refine OX (szK rz) Pv1 ⟨SameBut.refl,ep2,_,rfl⟩ (fun i σ' H' q=>q.1 _ _ e2 hap) ?_ ?_
  ·rintro i kk v _ H' hx hq_;walk_at"g1";obtain⟨sb,ek,y,rfl⟩:=hq_;walk_at"g2";unfold szK at hx;rw[List.getElem?_map]at hx;walk_at"g1";obtain⟨⟨z,sz⟩,hz,ez⟩:=Option.map_eq_some_iff.mp hx;walk_at"g2";cases ez;have hi:i<rz.length:=(List.getElem?_eq_some_iff.mp hz).1;have hnone:bD ((rz.take i).map fun e=>((.inr e.1:Key),V.int 0)) (.inr z)=none:=tT fun e he=>by
    obtain⟨d,hd,rfl⟩:=List.mem_map.mp he;intro zz;have hn:z∉(rz.map (·.1)).take i:=rF ndz (by rw[List.getElem?_map,hz];rfl)
    apply hn
    rw[←List.map_take];exact List.mem_map.mpr ⟨d,hd,Sum.inr.inj zz⟩
   show (_:TG) (.str z) _ _ _;walk_at"go";refine v9 ek (by rw[sizeLine_eq,List.length_map,List.length_take];lia) fun H9 B9 e9=> ?_;refine⟨by walk_at"sb",?_,_,rfl⟩;rw[e9,nO _ hnone,cH hz,List.map_append];rfl
  ·rintro _ H' hq_;walk_at"g1";obtain⟨sb,ek,y,rfl⟩:=hq_;walk_at"g2";rw[hl2,List.take_length]at ek;refine o0 (sb _ _ e2 hap) fun H3 B3 e3=> ?_;have ep3:=B3 _ _ ek (Ne.symm hap);have sH:Same H H3:=fun x u hx=>by
    by_cases ex:x=a
    ·subst ex;rw[ha]at hx;cases hx;exact e3
    ·have hxp:x≠p:=fun z=>by rw[z,n1]at hx;cases hx
     exact B3 _ _ (sb _ _ (B2 _ _ (S1 _ _ hx) ex) hxp) ex
   have hb3:=sH.seq hb;have hw3:=jO hw sH;have hnb:∀{H':Hp}{v:V}{r:Str×Int},SameBut p H3 H'->bY H3 v r->bY H' v r:=fun sb ⟨q,e,hq⟩=>⟨q,e,sb _ _ hq fun z=>by rw[z,ep3]at hq;cases hq⟩
   walk_at"go";let Pv2:Nat->St->Hp->Prop:=fun i σ' H'=>SameBut p H3 H'/\(∃kvs,H' p=some (.dK kvs)/\kvs.map (·.1)=(szK rz).map (·.1)/\xN rz (ps.take i) kvs)/\∃x y,σ'=[some (.ref a),some (.ref b),some (.ref p),x,y];refine fS ws Pv2 ⟨SameBut.refl,⟨_,ep3,?_,?_⟩,_,_,rfl⟩ (fun i σ' H' _ q=>DU hb3 ep3 q.1) ?_ ?_
   ·unfold szK;rw[List.map_map,List.map_map];rfl
   ·intro z hz;obtain⟨e,he,rfl⟩:=List.mem_map.mp hz;exact kU (e:=((.inr e.1:Key),V.int 0)) (by rw[show (rz.map fun e=>((.inr e.1:Key),V.int 0)).map (·.1)=(szK rz).map (·.1) from by unfold szK;rw[List.map_map,List.map_map];rfl];exact wO ndz) (List.mem_map.mpr ⟨e,he,rfl⟩)
   ·rintro i x _ H' hx hq_;walk_at"g1";obtain⟨sb',⟨kvs,ek',hkk,hin⟩,x1,x2,rfl⟩:=hq_;walk_at"g2";have hi:i<ws.length:=(List.getElem?_eq_some_iff.mp hx).1;obtain⟨⟨z,nn⟩,hpx⟩:∃d,ps[i]? =some d:=⟨_,List.getElem?_eq_getElem (by lia)⟩
    obtain⟨q,rfl,hq⟩:=Paired.at2 hw3 hx hpx;have hq':H' q=some (.tup [.str z,.int nn]):=sb' _ _ hq fun zz=>by rw[zz,ep3]at hq;cases hq
    have hzr:z∈rz.map (·.1):=hwr _ (List.mem_of_getElem? hpx);have hkl:kvs.length=rz.length:=by rw[←List.length_map (f:=fun e:Key×V=>e.1),hkk,List.length_map,hl2]
    walk_at"go";refine TF ?_;walk_at"go";refine PD (.inl ek') (hin z hzr) ?_;walk_at"go";refine NU ?_;refine SZ ek' (by rw[sizeLine_eq];lia) fun H9 B9 e9=> ?_;refine⟨by walk_at"sb",⟨_,e9,?_,fun y hy=> ?_⟩,_,_,rfl⟩
    ·rw[NK (by rw[hin z hzr];rfl)];exact hkk
    ·rw[i6,cH hpx,MJ]
     by_cases e:(Sum.inr y:Key)= .inr z
     ·cases e;rw[if_pos rfl,if_pos rfl]
     ·rw[if_neg e,if_neg (fun zz=>e (by rw[show z=y from zz])),Int.add_zero];exact hin y hy
   ·rintro _ H' hq_;walk_at"g1";obtain⟨sb',⟨kvs,ek',hkk,hin⟩,x1,x2,rfl⟩:=hq_;walk_at"g2";rw[hwl,List.take_length]at hin;walk_at"go";exact k _ _ _ n1 (SameBut.same n1 (fun x u hx=>sH x u hx) sb') ek' hkk hin
theorem oX (m:M K mg):Fc P w K mg base "added_people" 1 ["sizes","people"] (sI K):=⟨_,_,m.zQ,m.eA.kp,m.zR,x8 m⟩
def rO (rz ps:List (Str×Int)):Prop:=(∀p∈ps,0<=p.2)/\∀e∈rz,gR ps e.1<=e.2
inductive qY (K:W.Frag)(vs:List V)(H:Hp)(Q:VK)(E:XK):Prop
 | mk (a b:Addr) (rz:List (Str×Int)) (ws:List V) (ps:List (Str×Int)) (_:vs=[.ref a,.ref b]) (_:H a=some (.dK (szK rz))) (_:SqL K H b ws) (_:Paired (bY H) ws ps) (_:(∀p∈ps,p.1∈rz.map (·.1))) (_:(rz.map (·.1)).Nodup) (_:rz.length<=100) (_:ps.length<=100) (_:rO rz ps) (_:∀H',Same H H'->Q .non H'):qY K vs H Q E
theorem RO {H:Hp}{Q:VK}{E:XK}{a b:Addr}{rz:List (Str×Int)}{ws:List V}{ps:List (Str×Int)} (ha:H a=some (.dK (szK rz))) (hb:SqL K H b ws) (hw:Paired (bY H) ws ps) (hwr:∀p∈ps,p.1∈rz.map (·.1)) (nd:(rz.map (·.1)).Nodup) (hl:rz.length<=100) (hpl:ps.length<=100) (hf:rO rz ps) (h:∀H',Same H H'->Q .non H'):qY K [.ref a,.ref b] H Q E:=⟨_,_,_,_,_,rfl,ha,hb,hw,hwr,nd,hl,hpl,hf,h⟩
theorem tF {α:Type}:∀{l:List α}{ys:List V},Paired (fun _ y=>y=V.bl false) l ys->ys=(l.map fun _=>false).map V.bl
 | _,_,.nil=>rfl
 | _,_,.cons h t=>by rw[h,tF t];rfl
theorem AL {α:Type}(l:List α):(l.map fun _=>false).any id=false:=by simp
theorem BC (m:M K mg):bI P w K mg base CX0 2 m.oF m.nW ["sizes","people"] (qY K):=by
 refine m.j8.ok sc_need_space (fun vs H Q E h=> ?_) (fun cdv A outer s H vs Q E hr h=> ?_)
 ·walk_at"g1";obtain⟨a,b,rz,ws,ps,rfl,ha,hb,hw,hwr,ndz,hlen,hpl,hf,k⟩:=h;walk_at"g2";rfl
 ·walk_at"g1";obtain⟨a,b,rz,ws,ps,rfl,ha,hb,hw,hwr,ndz,hlen,hpl,hf,k⟩:=h;walk_at"g2";have nd:=sc_need_space.nd;have hu0:=Room.units0 hr;have hu1:=Room.units1 hr;have eA:= @oX P w K mg base m;refine⟨_,(aC (cG (lY (cB (z7 rfl) rfl m.Q8 MO (aA (d9 (N:=["room","number"]) (nl:=2) (ci:=[]) rfl (blk (s.heap.objs.size+1) rfl rfl rfl (by kernel_rfl)) (bV (pv 1)) (fun _ _ _ _=>(k4 (K:=K) (n:=2) rfl (bB (aM (i:=0) (show (["room","number"]:List Str).Nodup by decide +kernel) rfl (by walk_at"oi")) (bB (aM (i:=1) (show (["room","number"]:List Str).Nodup by decide +kernel) rfl (by walk_at"oi")) dN)))) (fun _ _ _ _=>jW) (fun _ _ _ _=>(qM jT (pv 1) aF (bM _)))) aD))) (aE gE) bQ)
   (aC (aX (i:=2) nd rfl (by walk_at"oi") (bR eA hr (aA (pv 0) (aA (pv 1) aD))))
   (aE (cG (lY (cB (z7 rfl) rfl m.Q8 MO (aA (yM (d9 (N:=["room","inside","sizes"]) (nl:=1) (ci:=[2,0]) rfl (blk (s.heap.objs.size+1) rfl rfl rfl (by kernel_rfl)) (v8 (pv 0)) (fun _ _ _ _=>(aM (i:=0) (show (["room","inside","sizes"]:List Str).Nodup by decide +kernel) rfl (by walk_at"oi"))) (fun _ _ _ _=>jW) (fun _ _ _ _=>(qM o7 (iE hu1 (pv 1) (pv 0) (fun _ _=>rfl)) (iE hu1 (pv 2) (pv 0) (fun _ _=>rfl)) (bM _))))) aD))) (aE gE) bQ)))),?_⟩
  refine aR (σ:=[some (.ref a),some (.ref b),none]) rfl ?_;walk_at"cx";walk_at"go";refine qH (α:=Str×Int) (xs:=ps) (vs:=ws) (fun p=> .str p.1) (fun p=> .int p.2) (fun _=>true) (fun p y _=>y= .bl false) (fun _ _ _ _ h _=>h) (by rw[sizeLine_eq];lia) (rest:=[]) (by rfl) hb hw (fun x H1 hx s1 R hR=>hR _ (Same.refl _)) (fun x H1 hx _ s1 R hR=> ?_) ?_
  ·have h0:=hf.1 x hx;walk_at"go";exact hR _ _ (by rw[decide_eq_false (by lia)]) (Same.refl _)
  intro ys H2 s2 hys;rw[i7]at hys;obtain rfl:=tF hys;walk_at"go";rename_i q H3 n3 S3 e3;refine LK (SqL.of e3) ?_;rw[AL];walk_at"go";have sA:Same H H3:=s2.trans S3;refine GZ (sA _ _ ha) (sA.seq hb) (jO hw sA) hwr ndz hlen fun p H4 kvs n4 S4 e4 hkk hv=> ?_;have ha4:=S4 _ _ (sA _ _ ha);walk_at"go";refine wP ha4 ID ?_;walk_at"go";refine wL ha4 fun o H5 B5 e5=> ?_;have hpa:p≠a:=fun z=>by rw[z,sA _ _ ha]at n4;cases n4
  have ep5:=B5 _ _ e4 hpa;refine KF (fun _=>true) (fun _ y _=>y= .bl false) (fun _ _ _ _ h _=>h) (by rw[sizeLine_eq];unfold szK;rw[List.length_map];lia) (rest:=[some (.ref p),some (.ref a)]) (by rfl) e5 (fun x H6 hx s6 R hR=>hR _ (Same.refl _)) ?_ ?_
  ·rintro x H6 hx - s6 R hR;obtain⟨e,he,rfl⟩:=List.mem_map.mp hx;have hfe:=hf.2 e he;show (_:TE) (some (V.str e.1)::[some (.ref p),some (.ref a)]) H6 R;walk_at"go";refine nJ (.inl (s6 _ _ ep5)) (hv e.1 (List.mem_map.mpr ⟨e,he,rfl⟩)) ?_;walk_at"go";refine nJ (.inr ⟨o,s6 _ _ e5⟩) (yZ ndz he) ?_;walk_at"go";exact hR _ _ (by rw[decide_eq_false (by lia)]) (Same.refl _)
  intro ys H6 s6 hys;rw[i7]at hys;obtain rfl:=tF hys;walk_at"go";rename_i q7 H7 n7 S7 e7;refine o0 (S7 _ _ (s6 _ _ e5)) fun H8 B8 e8=> ?_;have hq7:q7≠a:=fun z=>by rw[z,s6 _ _ e5]at n7;cases n7
  have e78:=B8 _ _ e7 hq7;walk_at"go";refine LK (SqL.of e78) ?_;rw[AL];walk_at"go";exact k _ (AS (ha) (fun x u hx hxa=>B5 _ _ (S4 _ _ (sA _ _ hx)) hxa) (Same.but (s6.trans S7)) B8 e8)
theorem A2 (m:M K mg):Fc P w K mg base "need_space" 2 ["sizes","people"] (qY K):=⟨_,_,m.FD,m.j8.kp,m.E8,BC m⟩
def RoomsAt (H:Hp)(vs:List V)(rz:List (Str×Int)):Prop:=Paired (bY H) vs rz
theorem RoomsAt.sm {H H':Hp}{vs:List V}{rs:List (Str×Int)} (h:RoomsAt H vs rs) (s:Same H H'):RoomsAt H' vs rs:=Paired.imp' (fun v z ⟨q,e,h⟩=>⟨q,e,s _ _ h⟩) h
theorem vO {H:Hp}:∀{vs:List V}{rs:List (Str×Int)},RoomsAt H vs rs->CI H vs (szK rs)
 | _,_,.nil=> .nil
 | _,_,.cons h t=> .cons h (vO t)
theorem rA {D:bA}{H H':Hp}{us:List V}{ds:List aG} (h:Paired (D.at' H) us ds) (s:Same H H'):Paired (D.at' H') us ds:=Paired.imp' (fun v d h=>D.same h s) h
abbrev HB (f l:Int)(qs qp qd:Addr):List (Str×V):=cU "named_doors" (.ref qd) (cU "people" (.ref qp) (cU "sizes" (.ref qs) (cU "last" (.int l) (cU "first" (.int f) []))))
def qW (D:bA)(H:Hp)(nk:List (Key×V))(ds:List aG):Prop:=Paired (fun e d=>e.1= .inr d.1/\D.at' H e.2 d) nk ds
theorem N9 {D:bA}{H H':Hp}{nk:List (Key×V)}{ds:List aG} (h:qW D H nk ds) (s:Same H H'):qW D H' nk ds:=Paired.imp' (fun e d h=>⟨h.1,D.same h.2 s⟩) h
structure aV (C:Addr)(D:bA)(H:Hp)(h:Addr)(f l:Int)(rz ps:List (Str×Int))(ds:List aG):Prop where
 ex:∃dx qs qp qd nk kvs,H h=some (.ins C dx (HB f l qs qp qd))/\H qs=some (.dK (szK rz))/\H qp=some (.dK kvs)/\kvs.map (·.1)=(szK rz).map (·.1)/\xN rz ps kvs/\H qd=some (.dK nk)/\qW D H nk ds
theorem aY {C:Addr}{D:bA}{H H':Hp}{h:Addr}{f l:Int}{rz ps:List (Str×Int)}{ds:List aG} (x:aV C D H h f l rz ps ds) (s:Same H H'):aV C D H' h f l rz ps ds:=by
 walk_at"g1";obtain⟨dx,qs,qp,qd,nk,kvs,e1,e2,e3,e4,e5,e6,e7⟩:=x.ex;walk_at"g2";exact⟨dx,qs,qp,qd,nk,kvs,s _ _ e1,s _ _ e2,s _ _ e3,e4,e5,s _ _ e6,N9 e7 s⟩
theorem GG {H H':Hp}{p c C dx:Addr}{fs:List (Str×V)}{xs:List V} (h:SqL K H c xs) (hp:H p=some (.ins C dx fs)) (sb:SameBut p H H'):SqL K H' c xs:=by
 rcases h with (h|⟨o,h⟩)|h
 ·exact .inl (.inl (sb _ _ h fun z=>by rw[z,hp]at h;cases h))
 ·exact .inl (.inr ⟨o,sb _ _ h fun z=>by rw[z,hp]at h;cases h⟩)
 ·exact .inr h
theorem mZ {α β:Type}{F:α->β->Prop}:∀{l:List α}{m:List β}{x:α},Paired F l m->x∈l->∃y∈m,F x y
 | _,_,_,.cons r t,h=>by
  rcases List.mem_cons.mp h with rfl|h
  ·exact⟨_,.head _,r⟩
  ·obtain⟨y,hy,f⟩:=mZ t h;exact⟨y,List.mem_cons_of_mem _ hy,f⟩
 | _,_,_,.nil,h=>nomatch h
inductive gI (K:W.Frag)(D:bA)(vs:List V)(H:Hp)(Q:VK)(E:XK):Prop
 | mk (p C dx a b c:Addr) (ws us cs:List V) (rz ps:List (Str×Int)) (ds:List aG) (f l:Int) (_:vs=[.ref p,.ref a,.ref b,.ref c,.int l,.int f]) (_:DCls K C) (_:H p=some (.ins C dx [])) (_:H a=some (.lst ws)) (_:RoomsAt H ws rz) (_:SqL K H b us) (_:Paired (D.at' H) us ds) (_:SqL K H c cs) (_:Paired (bY H) cs ps) (_:(rz.map (·.1)).Nodup) (_:(ds.map (·.1)).Nodup) (_:(∀d∈ds,d5 (rz.map (·.1)) d)) (_:(∀p∈ps,p.1∈rz.map (·.1))) (_:rO rz ps) (_:rz.length<=20) (_:ds.length<=20) (_:ps.length<=40) (_:0<=f) (_:f<=l) (_:∀H',SameBut p H H'->aV C D H' p f l rz ps ds->Q .non H'):gI K D vs H Q E
theorem D5 {D:bA}{H:Hp}{Q:VK}{E:XK}{p C dx a b c:Addr}{ws us cs:List V}{rz ps:List (Str×Int)}{ds:List aG}{f l:Int} (dc:DCls K C) (hp:H p=some (.ins C dx [])) (ha:H a=some (.lst ws)) (hr:RoomsAt H ws rz) (hb:SqL K H b us) (hd:Paired (D.at' H) us ds) (hc:SqL K H c cs) (hcp:Paired (bY H) cs ps) (nr:(rz.map (·.1)).Nodup) (nd:(ds.map (·.1)).Nodup) (hin:∀d∈ds,d5 (rz.map (·.1)) d) (hpr:∀p∈ps,p.1∈rz.map (·.1)) (hf:rO rz ps) (lr:rz.length<=20) (ld:ds.length<=20) (lp:ps.length<=40) (h0:0<=f) (h1:f<=l)
  (k:∀H',SameBut p H H'->aV C D H' p f l rz ps ds->Q .non H'):gI K D [.ref p,.ref a,.ref b,.ref c,.int l,.int f] H Q E:=⟨_,_,_,_,_,_,_,_,_,_,_,_,_,_,rfl,dc,hp,ha,hr,hb,hd,hc,hcp,nr,nd,hin,hpr,hf,lr,ld,lp,h0,h1,k⟩
theorem u9 (m:M K mg):bI P w K mg base CX0 4 m.jF m.gF ["self","rooms","doors","people","last","first"] (gI K (aW P w K mg base (some 1))):=by
 refine m.wX.ok sc_House___init__ (fun vs H Q E h=> ?_) (fun cdv A outer s H vs Q E hr h=> ?_)
 ·walk_at"g1";obtain⟨p,C,dx,a,b,c,ws,us,cs,rz,ps,ds,f,l,rfl,dc,hp,ha,hra,hb,hd,hc,hcp,nr,nd',hin,hpr,hf,lr,ld,lp,h0,h1,k⟩:=h;walk_at"g2";rfl
 ·walk_at"g1";obtain⟨p,C,dx,a,b,c,ws,us,cs,rz,ps,ds,f,l,rfl,dc,hp,ha,hra,hb,hd,hc,hcp,nr,nd',hin,hpr,hf,lr,ld,lp,h0,h1,k⟩:=h;walk_at"g2";have nd:=sc_House___init__.nd;have hu0:=Room.units0 hr;have hu1:=Room.units1 hr;have eA:= @oX P w K mg base m;have eX:= @vB P w K mg base m;have fV:= @sW P w K mg base m;have j8:= @A2 P w K mg base m;have j9:= @A5 P w K mg base m;have fL:= @tO P w K mg base m;refine⟨_,(aC (bX (bR j9 hr (aA (pv 5) (aA (pv 4) aD))))
   (aC (bX (bR eX hr (aA (d9 (N:=["name","size"]) (nl:=2) (ci:=[]) rfl (blk (s.heap.objs.size+1) rfl rfl rfl (by kernel_rfl)) (bV (pv 1)) (fun _ _ _ _=>(k4 (K:=K) (n:=2) rfl (bB (aM (i:=0) (show (["name","size"]:List Str).Nodup by decide +kernel) rfl (by walk_at"oi")) (bB (aM (i:=1) (show (["name","size"]:List Str).Nodup by decide +kernel) rfl (by walk_at"oi")) dN)))) (fun _ _ _ _=>jW) (fun _ _ _ _=>(pv 0))) aD)))
   (aC (bX (bR eX hr (aA (d9 (N:=["door"]) (nl:=1) (ci:=[]) rfl (blk (s.heap.objs.size+1) rfl rfl rfl (by kernel_rfl)) (bV (pv 2)) (fun _ _ _ _=>(aM (i:=0) (show (["door"]:List Str).Nodup by decide +kernel) rfl (by walk_at"oi"))) (fun _ _ _ _=>jW) (fun _ _ _ _=>(nI (K:=K) (pv 0) rfl))) aD)))
   (aC (aX (i:=6) nd rfl (by walk_at"oi") (oU (JB rfl) rfl m.YK UC (aA (pv 1) aD)))
   (aC (bX (bR fV hr (aA (bR fL hr (aA (pv 2) (aA (pv 3) aD))) (aA (pv 6) aD))))
   (aC (bX (bR j8 hr (aA (pv 6) (aA (pv 3) aD))))
   (aC (gY (pv 0) (pv 5) rfl)
   (aC (gY (pv 0) (pv 4) rfl)
   (aC (gY (pv 0) (pv 6) rfl)
   (aC (gY (pv 0) (bR eA hr (aA (pv 6) (aA (pv 3) aD))) rfl)
   (aC (gY (pv 0) vW rfl)
   (aE (d4 PassesOwn.never rfl (bV (pv 2)) (aM (i:=7) nd rfl (by walk_at"oi")) (aE (fM hu1 (bJ (pv 0) rfl) (bJ (pv 7) rfl) (pv 7) rfl))))))))))))))),?_⟩
  refine aR (σ:=[some (.ref p),some (.ref a),some (.ref b),some (.ref c),some (.int l),some (.int f),none,none]) rfl ?_;walk_at"cx";have hul:us.length=ds.length:=Paired.length hd;have hwl:ws.length=rz.length:=Paired.length hra;walk_at"go";refine ST h0 h1 ?_;walk_at"go";refine qH (α:=Str×Int) (xs:=rz) (vs:=ws) (fun e=> .str e.1) (fun e=> .int e.2) (fun _=>true) (fun z y _=>y= .str z.1) (fun _ _ _ _ h _=>h) (by rw[sizeLine_eq];lia) (rest:=[]) (by rfl) (SqL.of ha) hra (fun x H1 hx s1 R hR=>hR _ (Same.refl _)) (fun x H1 hx _ s1 R hR=> ?_) ?_
  ·walk_at"go";exact hR _ _ rfl (Same.refl _)
  intro ys H1 s1 hys;rw[i7]at hys;obtain rfl:=gW hys;walk_at"go";rename_i q1 H2 n2 S2 e2;refine KI (ss:=rz.map (·.1)) (SqL.of (by rw[e2,List.map_map];rfl)) nr (by rw[List.length_map];lia) fun H3 S3=> ?_;have sA:Same H H3:=(s1.trans S2).trans S3;walk_at"go";refine qE (α:=aG) (xs:=ds) (vs:=us) ((aW P w K mg base (some 1)).at' H3) (fun _=>true) (fun d y _=>y= .str d.1) (fun _ _ _ _ h _=>h) (by rw[sizeLine_eq];lia) (rest:=[]) (by rfl) (sA.seq hb) (rA hd sA) (fun v x H1 _ hx s1 R hR=>hR _ (Same.refl _)) ?_ ?_
  ·rintro v ⟨n,st,e,lt⟩ H4 hv hm - s4 R hR;walk_at"g1";obtain⟨q,C9,dx',fs,fp,rfl,hq,dcC,l1,l2,l3,l4,l5,mcE,hfp,hlt⟩:=DoorAt.ex hv;walk_at"g2";have hq':=s4 _ _ hq;walk_at"go";exact hR _ _ rfl (Same.refl _)
  intro ys H4 s4 hys;rw[i7]at hys;obtain rfl:=gW hys;walk_at"go";rename_i q5 H5 n5 S5 e5;refine KI (ss:=ds.map (·.1)) (SqL.of (by rw[e5,List.map_map];rfl)) nd' (by rw[List.length_map];lia) fun H6 S6=> ?_;have sB:Same H H6:=((sA.trans s4).trans S5).trans S6;walk_at"go";refine N2 (sB _ _ ha) (vO (hra.sm sB)) fun qs H7 n7 S7 e7=> ?_;rw[ON nr]at e7;have sC:Same H H7:=sB.trans S7;walk_at"go";refine O0 (sC.seq hb) (rA hd sC) hin ld (sC.seq hc) (jO hcp sC) hpr lp fun q8 ss H8 S8 e8 hss lss=> ?_;walk_at"go";refine GP (SqL.of e8) (.inl (S8 _ _ e7)) (fun z hz=>by obtain⟨i,_,e⟩:=CQ nr (hss z hz);rw[e];rfl) fun H9 S9=> ?_;have sD:Same H7 H9:=S8.trans S9;walk_at"go";refine RO (sD _ _ e7) ((sC.trans sD).seq hc) (jO hcp (sC.trans sD)) hpr nr (by lia) (by lia) hf fun H10 S10=> ?_;have sE:Same H H10:=(sC.trans sD).trans S10;have es:H10 qs=some (.dK (szK rz)):=S10 _ _ (sD _ _ e7);have hp10:=sE _ _ hp;have hqp:qs≠p:=fun z=>by rw[z,hp10]at es;cases es
  walk_at"go";rename_i H11 B11 e11 H12 B12 e12 H13 B13 e13;have sb13:SameBut p H10 H13:=by walk_at"sb"
  have es13:=sb13 _ _ es hqp;have hc13:SqL K H13 c cs:=GG (sE.seq hc) hp10 sb13;have hcp13:Paired (bY H13) cs ps:=Paired.imp' (fun v r ⟨q,e,hq⟩=>⟨q,e,sb13 _ _ (sE _ _ hq) fun z=>by rw[z,hp]at hq;cases hq⟩) hcp;refine GZ es13 hc13 hcp13 hpr nr (by lia) fun qp H14 kvs n14 S14 e14 hkk hv14=> ?_;have hp14:=S14 _ _ e13;walk_at"go";rename_i H15 B15 e15 qd H16 n16 S16 e16 H17 B17 e17;have hqd:qd≠p:=fun z=>by rw[z,e15]at n16;cases n16
  have sb17:SameBut p H10 H17:=((((sb13.trans S14.but).trans B15).trans S16.but).trans B17)
  have es17:=sb17 _ _ es hqp;have ed17:=B17 _ _ e16 hqd;have hqpp:qp≠p:=fun z=>by rw[z,e13]at n14;cases n14
  have eq17:H17 qp=some (.dK kvs):=B17 _ _ (S16 _ _ (B15 _ _ e14 hqpp)) hqpp;have hqpd:qp≠qd:=fun z=>by rw[←z,B15 _ _ e14 hqpp]at n16;cases n16
  have fresh:∀x u,H10 x=some u->x≠p->x≠qd:=fun x u hx hxp z=>by
   have h15:H15 x=some u:=B15 _ _ (S14 _ _ (sb13 _ _ hx hxp)) hxp;rw[z,n16]at h15;cases h15
  have hb17:SqL K H17 b us:=GG (sE.seq hb) hp10 sb17;have hd17:Paired ((aW P w K mg base (some 1)).at' H17) us ds:=Paired.imp' (fun v d h=>(aW P w K mg base (some 1)).but ((aW P w K mg base (some 1)).same h sE) hp10 rfl sb17) hd;have ddq:∀{H':Hp}{v:V}{d:aG},SameBut qd H17 H'->(aW P w K mg base (some 1)).at' H17 v d->(aW P w K mg base (some 1)).at' H' v d:=fun sb h=>(aW P w K mg base (some 1)).but h ed17 trivial sb;refine AG hb17 ?_;let Pv1:Nat->St->Hp->Prop:=fun i σ' H'=>SameBut qd H17 H'/\(∃nk,H' qd=some (.dK nk)/\nk.length<=i/\Paired (fun e d=>e.1= .inr d.1/\(aW P w K mg base (some 1)).at' H17 e.2 d) nk (ds.take i))/\∃x,σ'=[some (.ref p),some (.ref a),some (.ref b),some (.ref c),some (.int l),some (.int f),some (.ref qs),x];refine fS us Pv1 ⟨SameBut.refl,⟨[],ed17,Nat.le_refl _,.nil⟩,_,rfl⟩ (fun i σ' H' _ q=>DU hb17 ed17 q.1) ?_ ?_
  ·rintro i x _ H' hx hq_;walk_at"g1";obtain⟨sb,⟨nk,ek,hk,pr⟩,y,rfl⟩:=hq_;walk_at"g2";have hi:i<us.length:=(List.getElem?_eq_some_iff.mp hx).1;obtain⟨d,hdx⟩:∃d,ds[i]? =some d:=⟨_,List.getElem?_eq_getElem (by lia)⟩
   have hD:=Paired.at2 hd17 hx hdx;walk_at"g1";obtain⟨n,st,e,lt⟩:=d;walk_at"g2";have hD':=ddq sb hD;walk_at"g1";obtain⟨q,C9,dx',fs,fp,rfl,hq',dcC,l1,l2,l3,l4,l5,mcE,hfp,hlt⟩:=DoorAt.ex hD';walk_at"g2";have hpp:H' p=some (.ins C dx (HB f l qs qp qd)):=sb _ _ e17 (Ne.symm hqd);have hnone:bD nk (.inr n)=none:=tT fun e he=>by
    walk_at"g1";obtain⟨d',hd',h1,_⟩:=mZ pr he;walk_at"g2";rw[h1];intro z;have hn:n∉(ds.map (·.1)).take i:=rF nd' (by rw[List.getElem?_map,hdx];rfl)
    apply hn
    rw[←List.map_take];exact List.mem_map.mpr ⟨d',hd',Sum.inr.inj z⟩
   walk_at"go";refine v9 ek (by rw[sizeLine_eq];lia) fun H9' B9' e9'=> ?_;rw[nO _ hnone]at e9';refine⟨by walk_at"sb",⟨_,e9',by rw[List.length_append];show nk.length+1<=_;lia,?_⟩,_,rfl⟩;rw[cH hdx];exact L2.Paired.snoc pr ⟨rfl,hD⟩
  ·rintro _ H' hq_;walk_at"g1";obtain⟨sb,⟨nk,ek,hk,pr⟩,y,rfl⟩:=hq_;walk_at"g2";rw[hul,List.take_length]at pr;refine k _ (fun x u hx hxp=>sb _ _ (sb17 _ _ (sE _ _ hx) hxp) (fresh x u (sE _ _ hx) hxp)) ⟨dx,qs,qp,qd,nk,kvs,sb _ _ e17 (Ne.symm hqd),sb _ _ es17 (fresh _ _ es hqp),sb _ _ eq17 hqpd,hkk,hv14,ek,?_⟩;exact Paired.imp' (fun e d h=>⟨h.1,ddq sb h.2⟩) pr
theorem HL (m:M K mg):Kc P w K mg base "House" m.aH 4 [] (gI K (aW P w K mg base (some 1))):=⟨_,_,_,_,m.UO,m.QF,.nil,m.wT,u9 m⟩
theorem MH {C:Addr}{D:bA}{H:Hp}{Q:VK}{E:XK}{dvs vs:List V}{a b c:Addr}{ws us cs:List V}{rz ps:List (Str×Int)}{ds:List aG}{f l:Int} (ev:vs++dvs=[.ref a,.ref b,.ref c,.int l,.int f]) (dc:DCls K C) (ha:H a=some (.lst ws)) (hr:RoomsAt H ws rz) (hb:SqL K H b us) (hd:Paired (D.at' H) us ds) (hc:SqL K H c cs) (hcp:Paired (bY H) cs ps) (nr:(rz.map (·.1)).Nodup) (nd:(ds.map (·.1)).Nodup) (hin:∀d∈ds,d5 (rz.map (·.1)) d) (hpr:∀p∈ps,p.1∈rz.map (·.1)) (hf:rO rz ps) (lr:rz.length<=20) (ld:ds.length<=20) (lp:ps.length<=40) (h0:0<=f) (h1:f<=l)
  (k:∀p H',H p=none->Same H H'->aV C D H' p f l rz ps ds->Q (.ref p) H'):uQ C (gI K D) dvs E Q vs H:=by
 intro x dx nx nd0 ne;have s0:Same H (upd (upd H dx (.own x)) x (.ins C dx [])):=fun b o e=>by
  rw[aT (bL e nx),aT (bL e nd0)];exact e
 rw[ev];exact D5 dc bK (s0 _ _ ha) (hr.sm s0) (s0.seq hb) (rA hd s0) (s0.seq hc) (jO hcp s0) nr nd hin hpr hf lr ld lp h0 h1 fun H' sb hh=>⟨rfl,k x H' nx (fun b o q=>sb b o (s0 b o q) (bL q nx)) hh⟩
theorem T8 (rz:List (Str×Int)):((szK rz).map fun e=>kV e.1)=(rz.map (·.1)).map V.str:=by unfold szK;rw[List.map_map,List.map_map];rfl
theorem yA {D:bA}{H:Hp}:∀{nk:List (Key×V)}{ds:List aG},qW D H nk ds->(nk.map fun e=>kV e.1)=(ds.map (·.1)).map V.str
 | _,_,.nil=>rfl
 | (k,v)::_,_,.cons h t=>by
  rw[List.map_cons,yA t,List.map_cons,List.map_cons];have:k= .inr _:=h.1;rw[this];rfl
theorem xA {D:bA}{H:Hp}:∀{nk:List (Key×V)}{ds:List aG},qW D H nk ds->nk.map (·.1)=(ds.map (·.1)).map (Sum.inr:Str->Key)
 | _,_,.nil=>rfl
 | (k,v)::_,_,.cons h t=>by
  rw[List.map_cons,xA t,List.map_cons,List.map_cons];have:k= .inr _:=h.1;rw[this]
theorem L9 {D:bA}{H:Hp}{nk:List (Key×V)}{ds:List aG} (h:qW D H nk ds):nk.length=ds.length:=Paired.length h
theorem OF {D:bA}{H:Hp}{nk:List (Key×V)}{ds:List aG} (h:qW D H nk ds) (nd:(ds.map (·.1)).Nodup) {d:aG} (hd:d∈ds):∃v,bD nk (.inr d.1)=some v/\D.at' H v d:=by
 obtain⟨i,hi,e⟩:=List.getElem_of_mem hd;have hl:=L9 h;have hx:nk[i]? =some nk[i]:=List.getElem?_eq_getElem (by lia);obtain⟨h1,h2⟩:=Paired.at2 h hx (show ds[i]? =some d by rw[List.getElem?_eq_getElem hi,e]);refine⟨_,?_,h2⟩;rw[←h1];exact kU (by rw[xA h];exact AK nd) (List.mem_of_getElem? hx)
inductive kJ (C:Addr)(D:bA)(g:List (Str×Int)->List aG->List Str)(vs:List V)(H:Hp)(Q:VK)(E:XK):Prop
 | mk (h:Addr) (f l:Int) (rz ps:List (Str×Int)) (ds:List aG) (_:vs=[.ref h]) (_:aV C D H h f l rz ps ds) (_:∀p H',H p=none->Same H H'->H' p=some (.lst ((g rz ds).map V.str))->Q (.ref p) H'):kJ C D g vs H Q E
theorem kP {C:Addr}{D:bA}{g:List (Str×Int)->List aG->List Str}{H:Hp}{Q:VK}{E:XK}{h:Addr}{f l:Int}{rz ps:List (Str×Int)}{ds:List aG} (hh:aV C D H h f l rz ps ds) (k:∀p H',H p=none->Same H H'->H' p=some (.lst ((g rz ds).map V.str))->Q (.ref p) H'):kJ C D g [.ref h] H Q E:=⟨_,_,_,_,_,_,rfl,hh,k⟩
theorem yQ (m:M K mg):bI P w K mg base CX0 1 m.mI m.mU ["self"] (kJ m.aH (aW P w K mg base (some 1)) fun rz _=>rz.map (·.1)):=by
 refine m.B0.ok sc_House_rooms (fun vs H Q E h=> ?_) (fun cdv A outer s H vs Q E hr h=> ?_)
 ·walk_at"g1";obtain⟨h,f,l,rz,ps,ds,rfl,hh,k⟩:=h;walk_at"g2";rfl
 ·walk_at"g1";obtain⟨h,f,l,rz,ps,ds,rfl,hh,k⟩:=h;walk_at"g2";have nd:=sc_House_rooms.nd;have hu0:=Room.units0 hr;have hu1:=Room.units1 hr;have w_dc_House:=m.bG;refine⟨_,(aE (bF (oU (x6 rfl) rfl m.yD u3 (aA (bJ (pv 0) rfl) aD)))),?_⟩;refine aR (σ:=[some (.ref h)]) rfl ?_;walk_at"cx";walk_at"g1";obtain⟨dx,qs,qp,qd,nk,kvs,e1,e2,e3,e4,e5,e6,e7⟩:=hh.ex;walk_at"g2";walk_at"go";refine D4 (.inl e2) fun p H1 n1 S1 e8=> ?_;rw[T8]at e8;walk_at"go";exact k _ _ n1 S1 e8
theorem zE (m:M K mg):Mc P w K mg base m.aH "rooms" 1 (kJ m.aH (aW P w K mg base (some 1)) fun rz _=>rz.map (·.1)):=⟨_,_,_,m.bG.ic.cl,m.zW,m.BS,yQ m⟩
theorem yY (m:M K mg):bI P w K mg base CX0 1 m.mF m.mR ["self"] (kJ m.aH (aW P w K mg base (some 1)) fun _ ds=>ds.map (·.1)):=by
 refine m.BT.ok sc_House_doors (fun vs H Q E h=> ?_) (fun cdv A outer s H vs Q E hr h=> ?_)
 ·walk_at"g1";obtain⟨h,f,l,rz,ps,ds,rfl,hh,k⟩:=h;walk_at"g2";rfl
 ·walk_at"g1";obtain⟨h,f,l,rz,ps,ds,rfl,hh,k⟩:=h;walk_at"g2";have nd:=sc_House_doors.nd;have hu0:=Room.units0 hr;have hu1:=Room.units1 hr;have w_dc_House:=m.bG;refine⟨_,(aE (bF (oU (x6 rfl) rfl m.yD u3 (aA (bJ (pv 0) rfl) aD)))),?_⟩;refine aR (σ:=[some (.ref h)]) rfl ?_;walk_at"cx";walk_at"g1";obtain⟨dx,qs,qp,qd,nk,kvs,e1,e2,e3,e4,e5,e6,e7⟩:=hh.ex;walk_at"g2";walk_at"go";refine D4 (.inl e6) fun p H1 n1 S1 e8=> ?_;rw[yA e7]at e8;walk_at"go";exact k _ _ n1 S1 e8
theorem iF (m:M K mg):Mc P w K mg base m.aH "doors" 1 (kJ m.aH (aW P w K mg base (some 1)) fun _ ds=>ds.map (·.1)):=⟨_,_,_,m.bG.ic.cl,m.zO,m.BZ,yY m⟩
inductive j6 (C:Addr)(D:bA)(vs:List V)(H:Hp)(Q:VK)(E:XK):Prop
 | mk (h:Addr) (z:Str) (f l:Int) (rz ps:List (Str×Int)) (ds:List aG) (_:vs=[.ref h,.str z]) (_:aV C D H h f l rz ps ds) (_:(rz.map (·.1)).Nodup) (_:z∈rz.map (·.1)) (_:∀H',Same H H'->Q .non H'):j6 C D vs H Q E
theorem vR {C:Addr}{D:bA}{H:Hp}{Q:VK}{E:XK}{h:Addr}{z:Str}{f l:Int}{rz ps:List (Str×Int)}{ds:List aG} (hh:aV C D H h f l rz ps ds) (nr:(rz.map (·.1)).Nodup) (hz:z∈rz.map (·.1)) (k:∀H',Same H H'->Q .non H'):j6 C D [.ref h,.str z] H Q E:=⟨_,_,_,_,_,_,_,rfl,hh,nr,hz,k⟩
theorem tM (m:M K mg):bI P w K mg base CX0 2 m.iP m.iM ["self","room"] (j6 m.aH (aW P w K mg base (some 1))):=by
 refine m.vJ.ok sc_House_need_room (fun vs H Q E h=> ?_) (fun cdv A outer s H vs Q E hr h=> ?_)
 ·walk_at"g1";obtain⟨h,z,f,l,rz,ps,ds,rfl,hh,nr,hz,k⟩:=h;walk_at"g2";rfl
 ·walk_at"g1";obtain⟨h,z,f,l,rz,ps,ds,rfl,hh,nr,hz,k⟩:=h;walk_at"g2";have nd:=sc_House_need_room.nd;have hu0:=Room.units0 hr;have hu1:=Room.units1 hr;have fV:= @sW P w K mg base m;have w_dc_House:=m.bG;refine⟨_,(aE (bX (bR fV hr (aA (fQ (aA (pv 1) aD)) (aA (bJ (pv 0) rfl) aD))))),?_⟩;refine aR (σ:=[some (.ref h),some (.str z)]) rfl ?_;walk_at"cx";walk_at"g1";obtain⟨dx,qs,qp,qd,nk,kvs,e1,e2,e3,e4,e5,e6,e7⟩:=hh.ex;walk_at"g2";obtain⟨i,hi,ev⟩:=CQ nr hz;walk_at"go";rename_i p H1 n1 S1 e8;refine GP (ss:=[z]) (SqL.of e8) (.inl (S1 _ _ e2)) (fun y hy=>by cases List.mem_singleton.mp hy;rw[ev];rfl) fun H2 S2=> ?_;walk_at"go";exact k _ (S1.trans S2)
theorem l6 (m:M K mg):Mc P w K mg base m.aH "need_room" 2 (j6 m.aH (aW P w K mg base (some 1))):=⟨_,_,_,m.bG.ic.cl,m.uH,m.vI,tM m⟩
inductive rW (C:Addr)(D:bA)(vs:List V)(H:Hp)(Q:VK)(E:XK):Prop
 | mk (h:Addr) (z:Str) (i f l:Int) (rz ps:List (Str×Int)) (ds:List aG) (_:vs=[.ref h,.str z]) (_:aV C D H h f l rz ps ds) (_:(rz.map (·.1)).Nodup) (_:(z,i)∈rz) (_:∀H',Same H H'->Q (.int i) H'):rW C D vs H Q E
theorem G9 {C:Addr}{D:bA}{H:Hp}{Q:VK}{E:XK}{h:Addr}{z:Str}{i f l:Int}{rz ps:List (Str×Int)}{ds:List aG} (hh:aV C D H h f l rz ps ds) (nr:(rz.map (·.1)).Nodup) (hz:(z,i)∈rz) (k:∀H',Same H H'->Q (.int i) H'):rW C D [.ref h,.str z] H Q E:=⟨_,_,_,_,_,_,_,_,rfl,hh,nr,hz,k⟩
theorem yX (m:M K mg):bI P w K mg base CX0 3 m.mO m.mP ["self","room"] (rW m.aH (aW P w K mg base (some 1))):=by
 refine m.BW.ok sc_House_holds (fun vs H Q E h=> ?_) (fun cdv A outer s H vs Q E hr h=> ?_)
 ·walk_at"g1";obtain⟨h,z,i,f,l,rz,ps,ds,rfl,hh,nr,hz,k⟩:=h;walk_at"g2";rfl
 ·walk_at"g1";obtain⟨h,z,i,f,l,rz,ps,ds,rfl,hh,nr,hz,k⟩:=h;walk_at"g2";have nd:=sc_House_holds.nd;have hu0:=Room.units0 hr;have hu1:=Room.units1 hr;have w_dc_House:=m.bG;have w_mc_House_need_room:= @l6 P w K mg base m;refine⟨_,(aC (bX (hU 2 hr (pv 0) (aA (pv 1) aD)))
   (aE (bF (iE hu1 (bJ (pv 0) rfl) (pv 1) (fun _ _=>rfl))))),?_⟩
  refine aR (σ:=[some (.ref h),some (.str z)]) rfl ?_;walk_at"cx";walk_at"g1";obtain⟨dx,qs,qp,qd,nk,kvs,e1,e2,e3,e4,e5,e6,e7⟩:=hh.ex;walk_at"g2";walk_at"go";refine vR hh nr (List.mem_map.mpr ⟨_,hz,rfl⟩) fun H1 S1=> ?_;have e11:=S1 _ _ e1;walk_at"go";refine nJ (.inl (S1 _ _ e2)) (yZ nr hz) ?_;walk_at"go";exact k _ S1
theorem qF (m:M K mg):Mc P w K mg base m.aH "holds" 3 (rW m.aH (aW P w K mg base (some 1))):=⟨_,_,_,m.bG.ic.cl,m.zZ,m.BV,yX m⟩
inductive rG (C:Addr)(D:bA)(vs:List V)(H:Hp)(Q:VK)(E:XK):Prop
 | mk (h:Addr) (z:Str) (f l:Int) (rz ps:List (Str×Int)) (ds:List aG) (_:vs=[.ref h,.str z]) (_:aV C D H h f l rz ps ds) (_:(rz.map (·.1)).Nodup) (_:z∈rz.map (·.1)) (_:∀H',Same H H'->Q (.int (gR ps z)) H'):rG C D vs H Q E
theorem GE {C:Addr}{D:bA}{H:Hp}{Q:VK}{E:XK}{h:Addr}{z:Str}{f l:Int}{rz ps:List (Str×Int)}{ds:List aG} (hh:aV C D H h f l rz ps ds) (nr:(rz.map (·.1)).Nodup) (hz:z∈rz.map (·.1)) (k:∀H',Same H H'->Q (.int (gR ps z)) H'):rG C D [.ref h,.str z] H Q E:=⟨_,_,_,_,_,_,_,rfl,hh,nr,hz,k⟩
theorem yK (m:M K mg):bI P w K mg base CX0 3 m.mT m.mL ["self","room"] (rG m.aH (aW P w K mg base (some 1))):=by
 refine m.BP.ok sc_House_found (fun vs H Q E h=> ?_) (fun cdv A outer s H vs Q E hr h=> ?_)
 ·walk_at"g1";obtain⟨h,z,f,l,rz,ps,ds,rfl,hh,nr,hz,k⟩:=h;walk_at"g2";rfl
 ·walk_at"g1";obtain⟨h,z,f,l,rz,ps,ds,rfl,hh,nr,hz,k⟩:=h;walk_at"g2";have nd:=sc_House_found.nd;have hu0:=Room.units0 hr;have hu1:=Room.units1 hr;have w_dc_House:=m.bG;have w_mc_House_need_room:= @l6 P w K mg base m;refine⟨_,(aC (bX (hU 2 hr (pv 0) (aA (pv 1) aD)))
   (aE (bF (iE hu1 (bJ (pv 0) rfl) (pv 1) (fun _ _=>rfl))))),?_⟩
  refine aR (σ:=[some (.ref h),some (.str z)]) rfl ?_;walk_at"cx";walk_at"g1";obtain⟨dx,qs,qp,qd,nk,kvs,e1,e2,e3,e4,e5,e6,e7⟩:=hh.ex;walk_at"g2";walk_at"go";refine vR hh nr hz fun H1 S1=> ?_;have e11:=S1 _ _ e1;walk_at"go";refine nJ (.inl (S1 _ _ e3)) (e5 z hz) ?_;walk_at"go";exact k _ S1
theorem qQ (m:M K mg):Mc P w K mg base m.aH "found" 3 (rG m.aH (aW P w K mg base (some 1))):=⟨_,_,_,m.bG.ic.cl,m.zM,m.BM,yK m⟩
inductive u7 (C:Addr)(D:bA)(vs:List V)(H:Hp)(Q:VK)(E:XK):Prop
 | mk (h:Addr) (d:aG) (f l:Int) (rz ps:List (Str×Int)) (ds:List aG) (_:vs=[.ref h,.str d.1]) (_:aV C D H h f l rz ps ds) (_:(ds.map (·.1)).Nodup) (_:d∈ds) (_:∀v,D.at' H v d->Q v H):u7 C D vs H Q E
theorem p8 {C:Addr}{D:bA}{H:Hp}{Q:VK}{E:XK}{h:Addr}{d:aG}{f l:Int}{rz ps:List (Str×Int)}{ds:List aG} (hh:aV C D H h f l rz ps ds) (nd:(ds.map (·.1)).Nodup) (hd:d∈ds) (k:∀v,D.at' H v d->Q v H):u7 C D [.ref h,.str d.1] H Q E:=⟨_,_,_,_,_,_,_,rfl,hh,nd,hd,k⟩
theorem A9 (m:M K mg):bI P w K mg base CX0 1 m.oE m.oH ["self","name"] (u7 m.aH (aW P w K mg base (some 1))):=by
 refine m.E6.ok sc_House_door (fun vs H Q E h=> ?_) (fun cdv A outer s H vs Q E hr h=> ?_)
 ·walk_at"g1";obtain⟨h,d,f,l,rz,ps,ds,rfl,hh,ndd,hd,k⟩:=h;walk_at"g2";rfl
 ·walk_at"g1";obtain⟨h,d,f,l,rz,ps,ds,rfl,hh,ndd,hd,k⟩:=h;walk_at"g2";have nd:=sc_House_door.nd;have hu0:=Room.units0 hr;have hu1:=Room.units1 hr;have w_dc_House:=m.bG;refine⟨_,(aC (cG (DN (AF hu1 (pv 1) (bJ (pv 0) rfl)) (by with_unfolding_all rfl)) (aE gE) bQ)
   (aE (bF (iE hu1 (bJ (pv 0) rfl) (pv 1) (fun _ _=>rfl))))),?_⟩
  refine aR (σ:=[some (.ref h),some (.str d.1)]) rfl ?_;walk_at"cx";walk_at"g1";obtain⟨dx,qs,qp,qd,nk,kvs,e1,e2,e3,e4,e5,e6,e7⟩:=hh.ex;walk_at"g2";obtain⟨v,ev,hv⟩:=OF e7 ndd hd;walk_at"go";refine xY (.inl e6) ?_;rw[show (bD nk (.inr d.1)).isSome=true by rw[ev];rfl];walk_at"go";refine nJ (.inl e6) ev ?_;walk_at"go";exact k _ hv
theorem iT (m:M K mg):Mc P w K mg base m.aH "door" 1 (u7 m.aH (aW P w K mg base (some 1))):=⟨_,_,_,m.bG.ic.cl,m.BY,m.E5,A9 m⟩
def bC (rz:List (Str×Int))(f:Int)(n:Nat):List (Str×Int):=((List.range n).map fun (i:Nat)=>rz.map fun e=>(e.1,f+(i:Int))).flatten
theorem iS (rz:List (Str×Int))(f:Int)(n:Nat):bC rz f (n+1)=bC rz f n++rz.map fun e=>(e.1,f+(n:Int)):=by
 unfold bC;rw[List.range_succ,List.map_append,List.flatten_append];simp
theorem m8 (rz:List (Str×Int))(f:Int):∀n,(bC rz f n).length=n * rz.length
 | 0=>by simp[bC]
 | n+1=>by rw[iS,List.length_append,m8 rz f n,List.length_map,Nat.succ_mul]
theorem D2 {H:Hp}{t:Int}:∀{rz:List (Str×Int)}{ys:List V},Paired (fun (e:Key×V) y=>∀z,e.1= .inr z->bY H y (z,t)) (szK rz) ys->Paired (bY H) ys (rz.map fun e=>(e.1,t))
 | [],_,.nil=> .nil
 | _::_,_,.cons h t=> .cons (h _ rfl) (D2 t)
theorem GY {H H':Hp}{p:Addr}{xs ws:List V}{ps:List (Str×Int)} (h:Paired (bY H) ws ps) (e:H p=some (.lst xs)) (sb:SameBut p H H'):Paired (bY H') ws ps:=Paired.imp' (fun v r ⟨q,e1,h⟩=>⟨q,e1,sb _ _ h fun z=>by rw[z,e]at h;cases h⟩) h
theorem mX {α β:Type}{F:α->β->Prop}:∀{l l2:List α}{m m2:List β},Paired F l m->Paired F l2 m2->Paired F (l++l2) (m++m2)
 | _,_,_,_,.nil,h=>h
 | _,_,_,_,.cons r t,h=> .cons r (mX t h)
inductive rZ (C:Addr)(D:bA)(vs:List V)(H:Hp)(Q:VK)(E:XK):Prop
 | mk (h:Addr) (f l:Int) (rz ps:List (Str×Int)) (ds:List aG) (_:vs=[.ref h]) (_:aV C D H h f l rz ps ds) (_:0<=f) (_:f<=l) (_:l<1000000000000) (_:l - f<=1000) (_:rz.length<=20) (_:∀p ys H',H p=none->Same H H'->H' p=some (.lst ys)->Paired (bY H') ys (bC rz f (l+1 - f).toNat)->Q (.ref p) H'):rZ C D vs H Q E
theorem yR {C:Addr}{D:bA}{H:Hp}{Q:VK}{E:XK}{h:Addr}{f l:Int}{rz ps:List (Str×Int)}{ds:List aG} (hh:aV C D H h f l rz ps ds) (h0:0<=f) (h1:f<=l) (h2:l<1000000000000) (h3:l - f<=1000) (lr:rz.length<=20) (k:∀p ys H',H p=none->Same H H'->H' p=some (.lst ys)->Paired (bY H') ys (bC rz f (l+1 - f).toNat)->Q (.ref p) H'):rZ C D [.ref h] H Q E:=⟨_,_,_,_,_,_,rfl,hh,h0,h1,h2,h3,lr,k⟩
theorem zK (m:M K mg):bI P w K mg base CX0 1 m.mS m.mK ["self"] (rZ m.aH (aW P w K mg base (some 1))):=by
 refine m.B1.ok sc_House_pairs (fun vs H Q E h=> ?_) (fun cdv A outer s H vs Q E hr h=> ?_)
 ·walk_at"g1";obtain⟨h,f,l,rz,ps,ds,rfl,hh,h0,h1,h2,h3,lr,k⟩:=h;walk_at"g2";rfl
 ·walk_at"g1";obtain⟨h,f,l,rz,ps,ds,rfl,hh,h0,h1,h2,h3,lr,k⟩:=h;walk_at"g2";have nd:=sc_House_pairs.nd;have hu0:=Room.units0 hr;have hu1:=Room.units1 hr;have w_dc_House:=m.bG;refine⟨_,(aC (aX (i:=1) nd rfl (by walk_at"oi") (fQ aD))
   (aC (d4 PassesOwn.never rfl (z8 rfl m.qT (aA (bJ (pv 0) rfl) (aA (aL c7 (bJ (pv 0) rfl) aF) aD))) (aM (i:=2) nd rfl (by walk_at"oi")) (aE (bX (uN PySem.F.plainAttrs_list PySem.F.slot_list_extend PySem.F.type_list_extend L7 (pv 1) (aA (yM (d9 (N:=["room","turn"]) (nl:=1) (ci:=[2]) rfl (blk (s.heap.objs.size+1) rfl rfl rfl (by kernel_rfl)) (v8 (bJ (pv 0) rfl)) (fun _ _ _ _=>(aM (i:=0) (show (["room","turn"]:List Str).Nodup by decide +kernel) rfl (by walk_at"oi"))) (fun _ _ _ _=>jW) (fun _ _ _ _=>(cI (aA (pv 0) (aA (pv 1) aD)))))) aD)))))
   (aE (bF (pv 1))))),?_⟩
  refine aR (σ:=[some (.ref h),none,none]) rfl ?_;walk_at"cx";walk_at"g1";obtain⟨dx,qs,qp,qd,nk,kvs,e1,e2,e3,e4,e5,e6,e7⟩:=hh.ex;walk_at"g2";have hl2:(szK rz).length=rz.length:=by unfold szK;rw[List.length_map]
  walk_at"go";rename_i p H1 n1 S1 ep;have e21:=S1 _ _ e2;have e11:=S1 _ _ e1;have hqsp:qs≠p:=fun z=>by rw[z,n1]at e2;cases e2
  have hhp:h≠p:=fun z=>by rw[z,n1]at e1;cases e1
  let Pv1:Nat->St->Hp->Prop:=fun i σ' H'=>SameBut p H1 H'/\(∃ys,H' p=some (.lst ys)/\Paired (bY H') ys (bC rz f i))/\∃x,σ'=[some (.ref h),some (.ref p),x];refine yN Pv1 ⟨SameBut.refl,⟨[],ep,.nil⟩,_,rfl⟩ ?_ ?_
  ·rintro i _ H' hi hq_;walk_at"g1";obtain⟨sb,⟨ys,ey,hys⟩,x,rfl⟩:=hq_;walk_at"g2";have e2':=sb _ _ e21 hqsp;have e1':=sb _ _ e11 hhp;have hyl:ys.length=i * rz.length:=by rw[Paired.length hys,m8]
   have hyb:ys.length<=1001 * 20:=by
    rw[hyl];exact Nat.mul_le_mul (by lia) lr
   walk_at"go";refine wP e2' ID ?_;walk_at"go";refine wL e2' fun o H2 B2 e22=> ?_;have hpq:p≠qs:=Ne.symm hqsp;refine KF (fun _=>true) (fun e y H=>∀z,e.1= .inr z->bY H y (z,f+(i:Int))) (fun _ _ _ _ hh s z hz=>let ⟨q,a1,a2⟩:=hh z hz;⟨q,a1,s _ _ a2⟩) (by rw[sizeLine_eq];lia) (rest:=[some (.int (f+(i:Int)))]) (by rfl) e22 (fun x H6 hx s6 R hR=>hR _ (Same.refl _)) ?_ ?_
   ·rintro x H6 hx - s6 R hR;obtain⟨e,he,rfl⟩:=List.mem_map.mp hx;show (_:TE) (some (V.str e.1)::[some (.int (f+(i:Int)))]) H6 R;walk_at"go";rename_i q7 H7 n7 S7 e77;exact hR _ _ (fun z hz=>by cases hz;exact⟨q7,rfl,e77⟩) S7
   intro zs H3 s3 hzs;rw[i7]at hzs;have hzp:=D2 hzs;walk_at"go";rename_i q4 H4 n4 S4 e44;refine o0 (S4 _ _ (s3 _ _ e22)) fun H5 B5 e55=> ?_;have hq4:q4≠qs:=fun z=>by rw[z,s3 _ _ e22]at n4;cases n4
   have ey2:=B2 _ _ ey hpq;have ey5:H5 p=some (.lst ys):=B5 _ _ (S4 _ _ (s3 _ _ ey2)) hpq;have sX:Same H' H5:=AS e2' B2 (Same.but (s3.trans S4)) B5 e55;have hz5:Paired (bY H5) zs (rz.map fun e=>(e.1,f+(i:Int))):=Paired.imp' (fun v r ⟨q,a1,a2⟩=>⟨q,a1,B5 _ _ (S4 _ _ a2) fun z=>by rw[z,s3 _ _ e22]at a2;cases a2⟩) hzp;have hzl:zs.length=rz.length:=by rw[Paired.length hz5,List.length_map]
   walk_at"go";refine K9 ey5 (B5 _ _ e44 hq4) (by rw[sizeLine_eq];lia) fun H6 B6 e66=> ?_;walk_at"go";refine⟨(sb.trans sX.but).trans B6,⟨_,e66,?_⟩,_,rfl⟩;rw[iS];exact mX (GY (jO hys sX) ey5 B6) (GY hz5 ey5 B6)
  ·rintro _ H' hq_;walk_at"g1";obtain⟨sb,⟨ys,ey,hys⟩,x,rfl⟩:=hq_;walk_at"g2";walk_at"go";exact k _ _ _ n1 (SameBut.same n1 S1 sb) ey hys
theorem kF (m:M K mg):Mc P w K mg base m.aH "pairs" 1 (rZ m.aH (aW P w K mg base (some 1))):=⟨_,_,_,m.bG.ic.cl,m.zU,m.BK,zK m⟩
def jQ (f l:Int)(d:aG)(t:Int):Int:=if f<=t/\t<l then d.2.2.2 t else 0
inductive qZ (C:Addr)(D:bA)(vs:List V)(H:Hp)(Q:VK)(E:XK):Prop
 | mk (h:Addr) (d:aG) (t f l:Int) (rz ps:List (Str×Int)) (ds:List aG) (_:vs=[.ref h,.str d.1,.int t]) (_:aV C D H h f l rz ps ds) (_:(ds.map (·.1)).Nodup) (_:d∈ds) (_:0<=f) (_:∀H',Same H H'->Q (.int (jQ f l d t)) H'):qZ C D vs H Q E
theorem RK {C:Addr}{D:bA}{H:Hp}{Q:VK}{E:XK}{h:Addr}{d:aG}{t f l:Int}{rz ps:List (Str×Int)}{ds:List aG} (hh:aV C D H h f l rz ps ds) (nd:(ds.map (·.1)).Nodup) (hd:d∈ds) (hf:0<=f) (k:∀H',Same H H'->Q (.int (jQ f l d t)) H'):qZ C D [.ref h,.str d.1,.int t] H Q E:=⟨_,_,_,_,_,_,_,_,rfl,hh,nd,hd,hf,k⟩
theorem BG (m:M K mg):bI P w K mg base CX0 3 m.oN m.nV ["self","name","turn"] (qZ m.aH (aW P w K mg base (some 1))):=by
 refine m.E7.ok sc_House_lets (fun vs H Q E h=> ?_) (fun cdv A outer s H vs Q E hr h=> ?_)
 ·walk_at"g1";obtain⟨h,d,t,f,l,rz,ps,ds,rfl,hh,ndd,hd,hf,k⟩:=h;walk_at"g2";rfl
 ·walk_at"g1";obtain⟨h,d,t,f,l,rz,ps,ds,rfl,hh,ndd,hd,hf,k⟩:=h;walk_at"g2";have nd:=sc_House_lets.nd;have hu0:=Room.units0 hr;have hu1:=Room.units1 hr;have w_dc_House:=m.bG;have w_mc_House_door:= @iT P w K mg base m;refine⟨_,(aC (aX (i:=3) nd rfl (by walk_at"oi") (hU 1 hr (pv 0) (aA (pv 1) aD)))
   (aC (cG (PW.pt (CJ (bH jT (pv 2) (bJ (pv 0) rfl) (bM _)) (DA (bH Q7 (pv 2) (bJ (pv 0) rfl) (bM _))))) (aE (bF aF)) bQ)
   (aE (bF (hU 1 hr (pv 3) (aA (pv 2) aD)))))),?_⟩
  refine aR (σ:=[some (.ref h),some (.str d.1),some (.int t),none]) rfl ?_;walk_at"cx";walk_at"g1";obtain⟨dx,qs,qp,qd,nk,kvs,e1,_⟩:=hh.ex;walk_at"g2";walk_at"g1";obtain⟨n,st,e,lt⟩:=d;walk_at"g2";walk_at"go";refine p8 (d:=(n,st,e,lt)) hh ndd hd fun v hv=> ?_;walk_at"g1";obtain⟨q2,C2,dx2,fs2,fp2,rfl,hq2,dcC,l1,l2,l3,l4,l5,mcE,hfp,hlt⟩:=DoorAt.ex hv;walk_at"g2";obtain⟨sp,mcL,hsp⟩:=hlt _ rfl;walk_at"go";refine cS (fun hc=> ?_) (fun hc=> ?_)
  ·have hk:jQ f l (n,st,e,lt) t=0:=by unfold jQ;rw[if_neg (by lia)]
   rw[hk]at k;walk_at"go";exact k _ (Same.refl _)
  ·walk_at"go";refine cS (fun hc2=> ?_) (fun hc2=> ?_)
   ·have hk:jQ f l (n,st,e,lt) t=0:=by unfold jQ;rw[if_neg (by lia)]
    rw[hk]at k;walk_at"go";exact k _ (Same.refl _)
   ·have hk:jQ f l (n,st,e,lt) t=lt t:=by unfold jQ;rw[if_pos (by lia)]
    rw[hk]at k;walk_at"go";exact hsp _ _ _ hq2 (fun x hx=>(hfp x hx).1) (by lia) k
theorem BE (m:M K mg):Mc P w K mg base m.aH "lets" 3 (qZ m.aH (aW P w K mg base (some 1))):=⟨_,_,_,m.bG.ic.cl,m.BR,m.FG,BG m⟩
def C4 (H:Hp)(v:V)(r:aN):Prop:=∃q,v= .ref q/\H q=some (.tup [.int r.1,.str r.2.1,.int r.2.2])
abbrev b5 (H:Hp)(vs:List V)(rows:List aN):Prop:=Paired (C4 H) vs rows
theorem d8 {H H':Hp}{vs:List V}{rows:List aN} (h:b5 H vs rows) (s:Same H H'):b5 H' vs rows:=Paired.imp' (fun v r ⟨q,e,h⟩=>⟨q,e,s _ _ h⟩) h
theorem pJ {α β:Type}{F:α->β->Prop}:∀{l:List α}{m:List β},Paired F l m->Paired (fun b a=>F a b) m l
 | _,_,.nil=> .nil
 | _,_,.cons h t=> .cons h (pJ t)
def cnt (ns:List Str)(f l:Int)(r:aN):Bool:=decide (r.2.1∈ns)&&(decide (f<=r.1)&&decide (r.1<l))
inductive r6 (K:W.Frag)(C:Addr)(D:bA)(vs:List V)(H:Hp)(Q:VK)(E:XK):Prop
 | mk (h a:Addr) (f l:Int) (rz ps:List (Str×Int)) (ds:List aG) (us:List V) (rows:List aN) (_:vs=[.ref h,.ref a]) (_:aV C D H h f l rz ps ds) (_:SqL K H a us) (_:b5 H us rows) (_:rows.length<=200) (_:∀p ys H',H p=none->Same H H'->H' p=some (.lst ys)->b5 H' ys (rows.filter (cnt (ds.map (·.1)) f l))->Q (.ref p) H'):r6 K C D vs H Q E
theorem GH {C:Addr}{D:bA}{H:Hp}{Q:VK}{E:XK}{h a:Addr}{f l:Int}{rz ps:List (Str×Int)}{ds:List aG}{us:List V}{rows:List aN} (hh:aV C D H h f l rz ps ds) (hS:SqL K H a us) (hp:b5 H us rows) (hl:rows.length<=200) (k:∀p ys H',H p=none->Same H H'->H' p=some (.lst ys)->b5 H' ys (rows.filter (cnt (ds.map (·.1)) f l))->Q (.ref p) H'):r6 K C D [.ref h,.ref a] H Q E:=⟨_,_,_,_,_,_,_,_,_,rfl,hh,hS,hp,hl,k⟩
theorem tN (m:M K mg):bI P w K mg base CX0 2 m.iQ m.iL ["house","plan"] (r6 K m.aH (aW P w K mg base (some 1))):=by
 refine m.c6.ok sc_rows_that_count (fun vs H Q E h=> ?_) (fun cdv A outer s H vs Q E hr h=> ?_)
 ·walk_at"g1";obtain⟨h,a,f,l,rz,ps,ds,us,rows,rfl,hh,hS,hpl,hlen,k⟩:=h;walk_at"g2";rfl
 ·walk_at"g1";obtain⟨h,a,f,l,rz,ps,ds,us,rows,rfl,hh,hS,hpl,hlen,k⟩:=h;walk_at"g2";have nd:=sc_rows_that_count.nd;have hu0:=Room.units0 hr;have hu1:=Room.units1 hr;have w_dc_House:=m.bG;have w_mc_House_doors:= @iF P w K mg base m;refine⟨_,(aC (aX (i:=2) nd rfl (by walk_at"oi") (gJ 1 hr (pv 0)))
   (aE (bF (d9 (N:=["row","doors","house"]) (nl:=1) (ci:=[2,0]) rfl (blk (s.heap.objs.size+1) rfl rfl rfl (by kernel_rfl)) (bV (pv 1)) (fun _ _ _ _=>(aM (i:=0) (show (["row","doors","house"]:List Str).Nodup by decide +kernel) rfl (by walk_at"oi"))) (fun _ _ _ _=>(lX (PW.pt (tY (bH (xP (K:=K)) (dJ (qN (K:=K)) (pv 0) aF (fun _ _=>rfl)) (pv 1) (by with_unfolding_all rfl)) (qK (EE CG jT (nI (K:=K) (pv 2) rfl) (dJ (qN (K:=K)) (pv 0) aF (fun _ _=>rfl)) (nI (K:=K) (pv 2) rfl))))))) (fun _ _ _ _=>(pv 0)))))),?_⟩
  refine aR (σ:=[some (.ref h),some (.ref a),none]) rfl ?_;walk_at"cx";walk_at"g1";obtain⟨dx,qs,qp,qd,nk,kvs,e1,e2,e3,e4,e5,e6,e7⟩:=hh.ex;walk_at"g2";walk_at"go";refine kP hh fun p1 H1 n1 S1 e8=> ?_;have e11:=S1 _ _ e1;walk_at"go";refine qE (α:=aN) (xs:=rows) (vs:=us) (C4 H1) (cnt (ds.map (·.1)) f l) (fun r y H=>C4 H y r) (fun _ _ _ _ ⟨q,h1,h2⟩ s=>⟨q,h1,s _ _ h2⟩) (by rw[sizeLine_eq];lia) (rest:=[some (.ref p1),some (.ref h)]) (by rfl) (S1.seq hS) (d8 hpl S1) ?_ ?_ ?_
  ·rintro v ⟨t0,n0,j0⟩ H2 ⟨q,rfl,hq⟩ hm s2 R hR;have hq':H2 q=some (.tup [.int t0,.str n0,.int j0]):=s2 _ _ hq;have ep:=s2 _ _ e8;have eh:=s2 _ _ e11;walk_at"go";refine⟨q,_,1,_,rfl,rfl,SqT.of hq',rfl,?_⟩;walk_at"go";refine xH (SqL.of ep) ?_;have hR':=hR _ (Same.refl _);unfold cnt at hR';walk_at"go";refine cS (fun hc=> ?_) (fun hc=> ?_)
   ·rw[decide_eq_true hc,Bool.true_and]at hR';walk_at"go";refine⟨q,_,0,_,rfl,rfl,SqT.of hq',rfl,?_⟩;walk_at"go";refine cS (fun hc2=> ?_) (fun hc2=> ?_)
    ·rw[decide_eq_true hc2,Bool.true_and]at hR';walk_at"go";exact hR'
    ·rw[decide_eq_false hc2,Bool.false_and]at hR';exact⟨false,rfl,hR'⟩
   ·rw[decide_eq_false hc,Bool.false_and]at hR';exact hR'
  ·rintro v ⟨t0,n0,j0⟩ H2 ⟨q,rfl,hq⟩ hm - s2 R hR;walk_at"go";exact hR _ _ ⟨q,rfl,s2 _ _ hq⟩ (Same.refl _)
  intro ys H2 s2 hys;have hpl2:=pJ hys;walk_at"go";rename_i p3 H3 n3 S3 e33;refine k _ _ _ ?_ ((S1.trans s2).trans S3) e33 (d8 hpl2 S3);cases hq:H p3 with
  | none=>rfl
  | some u=>rw[s2 _ _ (S1 _ _ hq)]at n3;cases n3
theorem lV (m:M K mg):Fc P w K mg base "rows_that_count" 2 ["house","plan"] (r6 K m.aH (aW P w K mg base (some 1))):=⟨_,_,m.vH,m.c6.kp,m.vG,tN m⟩
def tP (key:aN->Option (List Key))(kvs:List (List Key×V))(r:aN):List (List Key×V):=match key r with
 | some k=>bU kvs k (.int (oV ((bD kvs k).getD (.int 0))+r.2.2))
 | none=>kvs
def iI (key:aN->Option (List Key))(rows:List aN):List (List Key×V):=rows.foldl (tP key) []
theorem jL (key:aN->Option (List Key))(rows:List aN)(r:aN):iI key (rows++[r])=tP key (iI key rows) r:=by unfold iI;rw[List.foldl_append];rfl
def kZ (key:aN->Option (List Key))(rows:List aN)(k:List Key):Int:=((rows.filter fun r=>decide (key r=some k)).map (·.2.2)).sum
theorem MC (key:aN->Option (List Key))(rows:List aN)(r:aN)(k:List Key):kZ key (rows++[r]) k=kZ key rows k+if key r=some k then r.2.2 else 0:=by
 unfold kZ;rw[List.filter_append,List.map_append,List.sum_append]
 congr 1
 by_cases h:key r=some k
 ·rw[if_pos h];simp[h]
 ·rw[if_neg h];simp[h]
theorem OS (key:aN->Option (List Key))(k:List Key)(rows:List aN):oV ((bD (iI key rows) k).getD (.int 0))=kZ key rows k:=by
 induction rows using jM with
 | h0=>rfl
 | hs l r ih =>
  rw[jL,MC];unfold tP;cases hk:key r with
  | none =>
   rw[if_neg (by intro z;cases z),Int.add_zero];exact ih
  | some k2 =>
   show oV ((bD (bU (iI key l) k2 _) k).getD (.int 0))=_;rw[i6]
   by_cases e:k=k2
   ·subst e;rw[if_pos rfl,if_pos rfl,←ih];rfl
   ·rw[if_neg e,if_neg (fun z=>e (Option.some.inj z).symm),Int.add_zero];exact ih
theorem KR (key:aN->Option (List Key))(rows:List aN):∀e∈iI key rows,∃i,e.2= .int i:=by
 induction rows using jM with
 | h0=>intro e h;nomatch h
 | hs l r ih =>
  rw[jL];unfold tP;cases hk:key r with
  | none=>exact ih
  | some k2 =>
   intro e he;rcases q0 he with h|⟨h1,h2⟩
   ·exact ih e h
   ·exact⟨_,h2⟩
theorem wK (key:aN->Option (List Key))(rows:List aN)(k:List Key):∃i,(bD (iI key rows) k).getD (.int 0)= .int i:=by
 cases h:bD (iI key rows) k with
 | none=>exact⟨0,rfl⟩
 | some v =>
  obtain⟨i,e⟩:=KR key rows _ (oY h);exact⟨i,e⟩
theorem EW (key:aN->Option (List Key))(rows:List aN):(iI key rows).length<=rows.length:=by
 induction rows using jM with
 | h0=>exact Nat.le_refl _
 | hs l r ih =>
  rw[jL,List.length_append];unfold tP;cases hk:key r with
  | none=>exact Nat.le_trans ih (Nat.le_add_right _ _)
  | some k2=>exact Nat.le_trans (dI _ _ _) (by simp;lia)
def fC (ds:List aG)(n:Str):Option aG:=ds.find? fun d=>decide (d.1=n)
theorem m6 {ds:List aG}{n:Str} (h:n∈ds.map (·.1)):∃d∈ds,d.1=n/\fC ds n=some d:=by
 obtain⟨d,hd,e⟩:=List.mem_map.mp h;cases hf:fC ds n with
 | none =>
  have:=List.find?_eq_none.mp hf d hd;exact absurd (decide_eq_true e) this
 | some d2 =>
  have h1:decide (d2.1=n)=true:=List.find?_some (p:=fun d:aG=>decide (d.1=n)) hf;exact⟨d2,List.mem_of_find?_eq_some hf,of_decide_eq_true h1,rfl⟩
def mE (ds:List aG)(r:aN):Option (List Key):=(fC ds r.2.1).map fun d=>[.inr d.2.1,.inl r.1]
def i4 (ds:List aG)(r:aN):Option (List Key):=(fC ds r.2.1).bind fun d=>match d.2.2.1 with
 | .str z=>some [.inr z,.inl r.1]
 | _=>none
inductive kW (K:W.Frag)(C:Addr)(D:bA)(key:List aG->aN->Option (List Key))(vs:List V)(H:Hp)(Q:VK)(E:XK):Prop
 | mk (h a:Addr) (f l:Int) (rz ps:List (Str×Int)) (ds:List aG) (us:List V) (rows:List aN) (_:vs=[.ref h,.ref a]) (_:aV C D H h f l rz ps ds) (_:(ds.map (·.1)).Nodup) (_:(∀d∈ds,d5 (rz.map (·.1)) d)) (_:SqL K H a us) (_:b5 H us rows) (_:rows.length<=200) (_:∀p H',H p=none->Same H H'->H' p=some (.dT (iI (key ds) (rows.filter (cnt (ds.map (·.1)) f l))))->Q (.ref p) H'):kW K C D key vs H Q E
theorem zF {C:Addr}{D:bA}{key:List aG->aN->Option (List Key)}{H:Hp}{Q:VK}{E:XK}{h a:Addr}{f l:Int}{rz ps:List (Str×Int)}{ds:List aG}{us:List V}{rows:List aN} (hh:aV C D H h f l rz ps ds) (nd:(ds.map (·.1)).Nodup) (hin:∀d∈ds,d5 (rz.map (·.1)) d) (hS:SqL K H a us) (hp:b5 H us rows) (hl:rows.length<=200) (k:∀p H',H p=none->Same H H'->H' p=some (.dT (iI (key ds) (rows.filter (cnt (ds.map (·.1)) f l))))->Q (.ref p) H'):kW K C D key [.ref h,.ref a] H Q E:=⟨_,_,_,_,_,_,_,_,_,rfl,hh,nd,hin,hS,hp,hl,k⟩
theorem JD (m:M K mg):bI P w K mg base CX0 3 m.uE m.uA ["house","plan"] (kW K m.aH (aW P w K mg base (some 1)) mE):=by
 refine m.jN.ok sc_leaving (fun vs H Q E h=> ?_) (fun cdv A outer s H vs Q E hr h=> ?_)
 ·walk_at"g1";obtain⟨h,a,f,l,rz,ps,ds,us,rows,rfl,hh,ndd,hin,hS,hpl,hlen,k⟩:=h;walk_at"g2";rfl
 ·walk_at"g1";obtain⟨h,a,f,l,rz,ps,ds,us,rows,rfl,hh,ndd,hin,hS,hpl,hlen,k⟩:=h;walk_at"g2";have nd:=sc_leaving.nd;have hu0:=Room.units0 hr;have hu1:=Room.units1 hr;have c6:= @lV P w K mg base m;have w_dc_House:=m.bG;have w_mc_House_door:= @iT P w K mg base m;refine⟨_,(aC (aX (i:=2) nd rfl (by walk_at"oi") nM)
   (aC (d4 PassesOwn.never rfl (bV (bR c6 hr (aA (pv 0) (aA (pv 1) aD)))) (l0 (n:=3) rfl (bB (aM (i:=3) nd rfl (by walk_at"oi")) (bB (aM (i:=4) nd rfl (by walk_at"oi")) (bB (aM (i:=5) nd rfl (by walk_at"oi")) dN)))) (aC (aX (i:=6) nd rfl (by walk_at"oi") (cI (aA (bJ (hU 1 hr (pv 0) (aA (pv 4) aD)) rfl) (aA (pv 3) aD))))
   (aE (fM hu1 (pv 2) (pv 6) (aL c7 (kX hu1 (pv 2) (pv 6) aF ⟨rfl,rfl,rfl,rfl⟩) (pv 5)) rfl))))
   (aE (bF (pv 2))))),?_⟩
  refine aR (σ:=[some (.ref h),some (.ref a),none,none,none,none,none]) rfl ?_;walk_at"cx";walk_at"go";rename_i p H1 n1 S1 ep;refine GH (aY hh S1) (S1.seq hS) (d8 hpl S1) hlen fun q ys H2 n2 S2 eq hcr=> ?_;generalize hce:rows.filter (cnt (ds.map (·.1)) f l)=cr at hcr k;have hcn:∀r∈cr,r.2.1∈ds.map (·.1):=fun r hr=>by
   rw[←hce]at hr;have:=(List.mem_filter.mp hr).2;unfold cnt at this;rw[Bool.and_eq_true]at this;exact of_decide_eq_true this.1
  have hcl:cr.length<=200:=by rw[←hce];exact Nat.le_trans (List.length_filter_le _ _) hlen
  have hyl:ys.length=cr.length:=Paired.length hcr;have ep2:=S2 _ _ ep;have hqp:q≠p:=fun z=>by rw[z,ep]at n2;cases n2
  have hh2:=aY hh (S1.trans S2);have npd:∀x u,H x=some u->x≠p:=fun x u hx z=>by rw[z,n1]at hx;cases hx
  walk_at"go";let Pv1:Nat->St->Hp->Prop:=fun i σ' H'=>SameBut p H2 H'/\H' p=some (.dT (iI (mE ds) (cr.take i)))/\∃x y z u,σ'=[some (.ref h),some (.ref a),some (.ref p),x,y,z,u];refine fS ys Pv1 ⟨SameBut.refl,ep2,_,_,_,_,rfl⟩ (fun i σ' H' _ g=>SqL.of (g.1 _ _ eq hqp)) ?_ ?_
  ·rintro i x _ H' hx hq_;walk_at"g1";obtain⟨sb,ek,x1,x2,x3,x4,rfl⟩:=hq_;walk_at"g2";have hi:i<ys.length:=(List.getElem?_eq_some_iff.mp hx).1;obtain⟨⟨t,n,j⟩,hrx⟩:∃r,cr[i]? =some r:=⟨_,List.getElem?_eq_getElem (by lia)⟩
   obtain⟨q1,rfl,hq1⟩:=Paired.at2 hcr hx hrx;have hq1':H' q1=some (.tup [.int t,.str n,.int j]):=sb _ _ hq1 fun z=>by rw[z,ep2]at hq1;cases hq1
   have sH:Same H H':=fun x u hx=>sb _ _ (S2 _ _ (S1 _ _ hx)) (npd x u hx);have hh':=aY hh sH;walk_at"g1";obtain⟨dx,qs,qp,qd,nk,kvs,e1,_⟩:=hh'.ex;walk_at"g2";walk_at"g1";obtain⟨⟨dn,dst,de,dw⟩,hd,rfl,hdo⟩:=m6 (hcn _ (List.mem_of_getElem? hrx));walk_at"g2";have hkey:mE ds (t,dn,j)=some [.inr dst,.inl t]:=by
    unfold mE;rw[show fC ds ((t,dn,j):aN).2.1=some (dn,dst,de,dw) from hdo];rfl
   obtain⟨i0,ei⟩:=wK (mE ds) (cr.take i) [.inr dst,.inl t];have hkl:=EW (mE ds) (cr.take i);rw[List.length_take]at hkl;walk_at"go";refine p8 (d:=(dn,dst,de,dw)) hh' ndd hd fun v hv=> ?_;walk_at"g1";obtain⟨q2,C2,dx2,fs2,fp2,rfl,hq2,dcC,l1,l2,l3,l4,l5,mcE,hfp,hlt⟩:=DoorAt.ex hv;walk_at"g2";walk_at"go";rename_i b3 H3 n3 S3 e3;refine jJ (S3 _ _ ek) ?_;walk_at"go";refine kK [.inr dst,.inl t] (S3 _ _ ek) e3 ?_;rw[ei];walk_at"go";refine gX [.inr dst,.inl t] (S3 _ _ ek) e3 (by rw[sizeLine_eq];lia) fun H4 B4 e4=> ?_;refine⟨(sb.trans S3.but).trans B4,?_,_,_,_,_,rfl⟩;rw[e4,cH hrx,jL];unfold tP;rw[hkey];show _=some (HO.dT (bU _ _ (.int (oV ((bD _ _).getD (.int 0))+j))));rw[ei];rfl
  ·rintro _ H' hq_;walk_at"g1";obtain⟨sb,ek,x1,x2,x3,x4,rfl⟩:=hq_;walk_at"g2";rw[hyl,List.take_length]at ek;walk_at"go";exact k _ _ n1 (fun x u hx=>sb _ _ (S2 _ _ (S1 _ _ hx)) (npd x u hx)) ek
theorem xU (m:M K mg):Fc P w K mg base "leaving" 3 ["house","plan"] (kW K m.aH (aW P w K mg base (some 1)) mE):=⟨_,_,m.MY,m.jN.kp,m.MX,JD m⟩
theorem MP (m:M K mg):bI P w K mg base CX0 3 m.wZ m.wY ["house","plan"] (kW K m.aH (aW P w K mg base (some 1)) i4):=by
 refine m.sR.ok sc_coming (fun vs H Q E h=> ?_) (fun cdv A outer s H vs Q E hr h=> ?_)
 ·walk_at"g1";obtain⟨h,a,f,l,rz,ps,ds,us,rows,rfl,hh,ndd,hin,hS,hpl,hlen,k⟩:=h;walk_at"g2";rfl
 ·walk_at"g1";obtain⟨h,a,f,l,rz,ps,ds,us,rows,rfl,hh,ndd,hin,hS,hpl,hlen,k⟩:=h;walk_at"g2";have nd:=sc_coming.nd;have hu0:=Room.units0 hr;have hu1:=Room.units1 hr;have c6:= @lV P w K mg base m;have w_dc_House:=m.bG;have w_mc_House_door:= @iT P w K mg base m;refine⟨_,(aC (aX (i:=2) nd rfl (by walk_at"oi") nM)
   (aC (d4 PassesOwn.never rfl (bV (bR c6 hr (aA (pv 0) (aA (pv 1) aD)))) (l0 (n:=3) rfl (bB (aM (i:=3) nd rfl (by walk_at"oi")) (bB (aM (i:=4) nd rfl (by walk_at"oi")) (bB (aM (i:=5) nd rfl (by walk_at"oi")) dN)))) (aC (aX (i:=6) nd rfl (by walk_at"oi") (hU 1 hr (pv 0) (aA (pv 4) aD)))
   (aE (cG (qD (lY (gJ 1 hr (pv 6)))) (aC (aX (i:=7) nd rfl (by walk_at"oi") (cI (aA (bJ (pv 6) rfl) (aA (pv 3) aD))))
   (aE (fM hu1 (pv 2) (pv 7) (aL c7 (kX hu1 (pv 2) (pv 7) aF ⟨rfl,rfl,rfl,rfl⟩) (pv 5)) rfl))) bQ))))
   (aE (bF (pv 2))))),?_⟩
  refine aR (σ:=[some (.ref h),some (.ref a),none,none,none,none,none,none]) rfl ?_;walk_at"cx";walk_at"go";rename_i p H1 n1 S1 ep;refine GH (aY hh S1) (S1.seq hS) (d8 hpl S1) hlen fun q ys H2 n2 S2 eq hcr=> ?_;generalize hce:rows.filter (cnt (ds.map (·.1)) f l)=cr at hcr k;have hcn:∀r∈cr,r.2.1∈ds.map (·.1):=fun r hr=>by
   rw[←hce]at hr;have:=(List.mem_filter.mp hr).2;unfold cnt at this;rw[Bool.and_eq_true]at this;exact of_decide_eq_true this.1
  have hcl:cr.length<=200:=by rw[←hce];exact Nat.le_trans (List.length_filter_le _ _) hlen
  have hyl:ys.length=cr.length:=Paired.length hcr;have ep2:=S2 _ _ ep;have hqp:q≠p:=fun z=>by rw[z,ep]at n2;cases n2
  have hh2:=aY hh (S1.trans S2);have npd:∀x u,H x=some u->x≠p:=fun x u hx z=>by rw[z,n1]at hx;cases hx
  walk_at"go";let Pv2:Nat->St->Hp->Prop:=fun i σ' H'=>SameBut p H2 H'/\H' p=some (.dT (iI (i4 ds) (cr.take i)))/\∃x y z u w,σ'=[some (.ref h),some (.ref a),some (.ref p),x,y,z,u,w];refine fS ys Pv2 ⟨SameBut.refl,ep2,_,_,_,_,_,rfl⟩ (fun i σ' H' _ g=>SqL.of (g.1 _ _ eq hqp)) ?_ ?_
  ·rintro i x _ H' hx hq_;walk_at"g1";obtain⟨sb,ek,x1,x2,x3,x4,x5,rfl⟩:=hq_;walk_at"g2";have hi:i<ys.length:=(List.getElem?_eq_some_iff.mp hx).1;obtain⟨⟨t,n,j⟩,hrx⟩:∃r,cr[i]? =some r:=⟨_,List.getElem?_eq_getElem (by lia)⟩
   obtain⟨q1,rfl,hq1⟩:=Paired.at2 hcr hx hrx;have hq1':H' q1=some (.tup [.int t,.str n,.int j]):=sb _ _ hq1 fun z=>by rw[z,ep2]at hq1;cases hq1
   have sH:Same H H':=fun x u hx=>sb _ _ (S2 _ _ (S1 _ _ hx)) (npd x u hx);have hh':=aY hh sH;walk_at"g1";obtain⟨dx,qs,qp,qd,nk,kvs,e1,_⟩:=hh'.ex;walk_at"g2";walk_at"g1";obtain⟨⟨dn,dst,de,dw⟩,hd,rfl,hdo⟩:=m6 (hcn _ (List.mem_of_getElem? hrx));walk_at"g2";have hkl:=EW (i4 ds) (cr.take i);rw[List.length_take]at hkl;have hend:=(hin _ hd).2;walk_at"go";refine p8 (d:=(dn,dst,de,dw)) hh' ndd hd fun v hv=> ?_;walk_at"g1";obtain⟨q2,C2,dx2,fs2,fp2,rfl,hq2,dcC,l1,l2,l3,l4,l5,mcE,hfp,hlt⟩:=DoorAt.ex hv;walk_at"g2";rcases hend with hend|⟨z,hend,hz⟩
   ·have hde:de= .non:=hend;subst hde;have hkey:i4 ds (t,dn,j)=none:=by
     unfold i4;rw[show fC ds ((t,dn,j):aN).2.1=some (dn,dst,.non,dw) from hdo];rfl
    walk_at"go";refine⟨sb,?_,_,_,_,_,_,rfl⟩;rw[ek,cH hrx,jL];unfold tP;rw[hkey]
   ·have hde:de= .str z:=hend;subst hde;have hkey:i4 ds (t,dn,j)=some [.inr z,.inl t]:=by
     unfold i4;rw[show fC ds ((t,dn,j):aN).2.1=some (dn,dst,.str z,dw) from hdo];rfl
    obtain⟨i0,ei⟩:=wK (i4 ds) (cr.take i) [.inr z,.inl t];walk_at"go";rename_i b3 H3 n3 S3 e3;refine jJ (S3 _ _ ek) ?_;walk_at"go";refine kK [.inr z,.inl t] (S3 _ _ ek) e3 ?_;rw[ei];walk_at"go";refine gX [.inr z,.inl t] (S3 _ _ ek) e3 (by rw[sizeLine_eq];lia) fun H4 B4 e4=> ?_;refine⟨(sb.trans S3.but).trans B4,?_,_,_,_,_,_,rfl⟩;rw[e4,cH hrx,jL];unfold tP;rw[hkey];show _=some (HO.dT (bU _ _ (.int (oV ((bD _ _).getD (.int 0))+j))));rw[ei];rfl
  ·rintro _ H' hq_;walk_at"g1";obtain⟨sb,ek,x1,x2,x3,x4,x5,rfl⟩:=hq_;walk_at"g2";rw[hyl,List.take_length]at ek;walk_at"go";exact k _ _ n1 (fun x u hx=>sb _ _ (S2 _ _ (S1 _ _ hx)) (npd x u hx)) ek
theorem KS (m:M K mg):Fc P w K mg base "coming" 3 ["house","plan"] (kW K m.aH (aW P w K mg base (some 1)) i4):=⟨_,_,m.QE,m.sR.kp,m.P8,MP m⟩
theorem wJ (key:aN->Option (List Key))(rows:List aN)(k:List Key):(bD (iI key rows) k).getD (.int 0)= .int (kZ key rows k):=by
 obtain⟨i,e⟩:=wK key rows k;have h:=OS key k rows;rw[e]at h ⊢;rw[←h];rfl
theorem pairsN_mem {rz:List (Str×Int)}{f:Int}{z:Str}{t:Int}:∀{n:Nat},(z,t)∈bC rz f n↔z∈rz.map (·.1)/\∃i:Nat,i<n/\t=f+i
 | 0=>⟨(fun h=>by cases h),(fun⟨_,i,h,_⟩=>absurd h (Nat.not_lt_zero _))⟩
 | n+1=>by
  rw[iS,List.mem_append,pairsN_mem (n:=n)]
  constructor
  ·rintro (⟨h1,i,h2,h3⟩|h)
   ·exact⟨h1,i,by lia,h3⟩
   ·obtain⟨e,he,ee⟩:=List.mem_map.mp h;cases ee;exact⟨List.mem_map.mpr ⟨e,he,rfl⟩,n,by lia,rfl⟩
  ·rintro hq_;walk_at"g1";obtain⟨h1,i,h2,h3⟩:=hq_;walk_at"g2"
   by_cases hi:i=n
   ·subst hi;obtain⟨e,he,rfl⟩:=List.mem_map.mp h1;exact .inr (List.mem_map.mpr ⟨e,he,by rw[h3]⟩)
   ·exact .inl ⟨h1,i,by lia,h3⟩
theorem hJ {rz:List (Str×Int)}(nd:(rz.map (·.1)).Nodup)(f:Int):∀n,(bC rz f n).Nodup
 | 0=>by simp[bC]
 | n+1=>by
  rw[iS,List.nodup_append];refine⟨hJ nd f n,?_,?_⟩
  ·rw[List.Nodup,List.pairwise_map]at nd ⊢;exact nd.imp fun h z=>h (Prod.mk.inj z).1
  ·intro a ha b hb e;subst e;obtain⟨z,t⟩:=a;walk_at"g1";obtain⟨_,i,hi,ht⟩:=pairsN_mem.mp ha;walk_at"g2";obtain⟨e,_,ee⟩:=List.mem_map.mp hb;cases ee
   lia
theorem xQ (rz:List (Str×Int))(f:Int)(m:Nat):∀k,∃l,bC rz f (m+k)=bC rz f m++l
 | 0=>⟨[],by rw[Nat.add_zero,List.append_nil]⟩
 | k+1=>by
  obtain⟨l,e⟩:=xQ rz f m k;exact⟨l++_,by rw[←Nat.add_assoc,iS,e,List.append_assoc]⟩
theorem EM {rz:List (Str×Int)}{f:Int}{n i:Nat}{z:Str}{t:Int} (h:(bC rz f n)[i]? =some (z,t)) (ht:t≠f):(z,t - 1)∈(bC rz f n).take i/\f<t:=by
 have hi:=(List.getElem?_eq_some_iff.mp h).1;walk_at"g1";obtain⟨hz,m,hm,rfl⟩:=pairsN_mem.mp (List.mem_of_getElem? h);walk_at"g2";have hm0:0<m:=by
  cases m with
  | zero=>exact absurd (by simp) ht
  | succ m=>exact Nat.succ_pos _
 obtain⟨l,el⟩:=xQ rz f m (n - m);rw[show m+(n - m)=n by lia]at el;have hge:(bC rz f m).length<=i:=by
  rcases Nat.lt_or_ge i (bC rz f m).length with hlt|hge
  ·rw[el,List.getElem?_append_left hlt]at h;walk_at"g1";obtain⟨_,j,hj,ej⟩:=pairsN_mem.mp (List.mem_of_getElem? h);walk_at"g2"
   lia
  ·exact hge
 refine⟨?_,by lia⟩;have h1:(z,f+(m:Int) - 1)∈bC rz f m:=pairsN_mem.mpr ⟨hz,m - 1,by lia,by lia⟩;rw[el,List.take_append,List.take_of_length_le hge];exact List.mem_append_left _ h1
def bT (p:Str×Int):List Key:=[.inr p.1,.inl p.2]
theorem r9 {a b:Str×Int}(h:bT a=bT b):a=b:=by
 unfold bT at h;injection h with h1 h2;injection h2 with h2;exact Prod.ext (Sum.inr.inj h1) (Sum.inl.inj h2)
def gS (ps:List (Str×Int))(L C:List Key->Int)(z:Str)(f:Int):Nat->Int
 | 0=>gR ps z
 | n+1=>gS ps L C z f n - L (bT (z,f+(n:Int)))+C (bT (z,f+(n:Int)))
def jA (ps:List (Str×Int))(L C:List Key->Int)(f:Int)(pp:List (Str×Int)):List (List Key×V):=pp.map fun p=>(bT p,V.int (gS ps L C p.1 f (p.2 - f).toNat))
theorem v6 {ps:List (Str×Int)}{L C:List Key->Int}{f:Int}{pp:List (Str×Int)} (nd:pp.Nodup) {p:Str×Int} (h:p∈pp):bD (jA ps L C f pp) (bT p)=some (.int (gS ps L C p.1 f (p.2 - f).toNat)):=by
 refine kU (e:=(bT p,V.int (gS ps L C p.1 f (p.2 - f).toNat))) ?_ (List.mem_map.mpr ⟨p,h,rfl⟩);unfold jA;rw[List.map_map,List.Nodup,List.pairwise_map];exact nd.imp fun hne z=>hne (r9 z)
theorem CP {ps:List (Str×Int)}{L C:List Key->Int}{f:Int}{pp:List (Str×Int)}{p:Str×Int} (h:p∉pp):bD (jA ps L C f pp) (bT p)=none:=by
 have:∀e∈jA ps L C f pp,e.1≠bT p:=fun e he z=>by
  obtain⟨q,hq,rfl⟩:=List.mem_map.mp he;exact h (r9 z▸hq)
 revert this;generalize jA ps L C f pp=kvs;intro this
 induction kvs with
 | nil=>rfl
 | cons a l ih =>
  rw[cZ (this a (.head _))];exact ih fun e he=>this e (List.mem_cons_of_mem _ he)
inductive vX (K:W.Frag)(C:Addr)(D:bA)(vs:List V)(H:Hp)(Q:VK)(E:XK):Prop
 | mk (h a:Addr) (f l:Int) (rz ps:List (Str×Int)) (ds:List aG) (us:List V) (rows:List aN) (_:vs=[.ref h,.ref a]) (_:aV C D H h f l rz ps ds) (_:(rz.map (·.1)).Nodup) (_:(ds.map (·.1)).Nodup) (_:(∀d∈ds,d5 (rz.map (·.1)) d)) (_:0<=f) (_:f<=l) (_:l<1000000000000) (_:l - f<=1000) (_:rz.length<=20) (_:SqL K H a us) (_:b5 H us rows) (_:rows.length<=200) (_:∀p H',H p=none->Same H H'->H' p=some (.dT (jA ps (kZ (mE ds) (rows.filter (cnt (ds.map (·.1)) f l))) (kZ (i4 ds) (rows.filter (cnt (ds.map (·.1)) f l))) f (bC rz f (l+1 - f).toNat)))->Q (.ref p) H'):vX K C D vs H Q E
theorem N7 (m:M K mg):bI P w K mg base CX0 4 m.zT m.zL ["house","plan"] (vX K m.aH (aW P w K mg base (some 1))):=by
 refine m.u8.ok sc_there (fun vs H Q E h=> ?_) (fun cdv A outer s H vs Q E hr h=> ?_)
 ·walk_at"g1";obtain⟨h,a,f,l,rz,ps,ds,us,rows,rfl,hh,nr,ndd,hin,h0,h1,h2,h3,lr,hS,hpl,hlen,k⟩:=h;walk_at"g2";rfl
 ·walk_at"g1";obtain⟨h,a,f,l,rz,ps,ds,us,rows,rfl,hh,nr,ndd,hin,h0,h1,h2,h3,lr,hS,hpl,hlen,k⟩:=h;walk_at"g2";have nd:=sc_there.nd;have hu0:=Room.units0 hr;have hu1:=Room.units1 hr;have sR:= @KS P w K mg base m;have jN:= @xU P w K mg base m;have w_dc_House:=m.bG;have w_mc_House_pairs:= @kF P w K mg base m;have w_mc_House_found:= @qQ P w K mg base m;refine⟨_,(aC (aX (i:=2) nd rfl (by walk_at"oi") (bR jN hr (aA (pv 0) (aA (pv 1) aD))))
   (aC (aX (i:=3) nd rfl (by walk_at"oi") (bR sR hr (aA (pv 0) (aA (pv 1) aD))))
   (aC (aX (i:=4) nd rfl (by walk_at"oi") nM)
   (aC (d4 PassesOwn.never rfl (bV (gJ 1 hr (pv 0))) (l0 (n:=2) rfl (bB (aM (i:=5) nd rfl (by walk_at"oi")) (bB (aM (i:=6) nd rfl (by walk_at"oi")) dN))) (aE (cG (bH o8 (pv 6) (bJ (pv 0) rfl) (bM _)) (aE (fM hu1 (pv 4) (cI (aA (pv 5) (aA (pv 6) aD))) (hU 3 hr (pv 0) (aA (pv 5) aD)) rfl)) (aC (aX (i:=7) nd rfl (by walk_at"oi") (cI (aA (pv 5) (aA (aL t5 (pv 6) aF) aD))))
   (aE (fM hu1 (pv 4) (cI (aA (pv 5) (aA (pv 6) aD))) (aL c7 (aL t5 (iE hu1 (pv 4) (pv 7) (fun _ _=>rfl)) (kX hu1 (pv 2) (pv 7) aF ⟨rfl,rfl,rfl,rfl⟩)) (kX hu1 (pv 3) (pv 7) aF ⟨rfl,rfl,rfl,rfl⟩)) rfl))))))
   (aE (bF (pv 4))))))),?_⟩
  refine aR (σ:=[some (.ref h),some (.ref a),none,none,none,none,none,none]) rfl ?_;walk_at"cx";walk_at"g1";obtain⟨dx,qs,qp,qd,nk,kvs,e1,_⟩:=hh.ex;walk_at"g2";walk_at"go";refine zF hh ndd hin hS hpl hlen fun pL H1 n1 S1 eL=> ?_;walk_at"go";refine zF (aY hh S1) ndd hin (S1.seq hS) (d8 hpl S1) hlen fun pC H2 n2 S2 eC=> ?_;have e12:=S2 _ _ (S1 _ _ e1);walk_at"go";rename_i p H3 n3 S3 ep;have e13:=S3 _ _ e12;walk_at"go";have sA:Same H H3:=(S1.trans S2).trans S3;refine yR (aY hh sA) h0 h1 h2 h3 lr fun q ys H4 n4 S4 eq hpp=> ?_;have ep4:=S4 _ _ ep;have hqp:q≠p:=fun z=>by rw[z,ep]at n4;cases n4
  have npd:∀x u,H2 x=some u->x≠p:=fun x u hx z=>by rw[z,n3]at hx;cases hx
  have pnd:=hJ nr f (l+1 - f).toNat;have pll:=m8 rz f (l+1 - f).toNat;have plb:(l+1 - f).toNat * rz.length<=1001 * 20:=Nat.mul_le_mul (by lia) lr;have hyl:ys.length=(bC rz f (l+1 - f).toNat).length:=Paired.length hpp;generalize hLe:kZ (mE ds) (rows.filter (cnt (ds.map (·.1)) f l))=LL at k;generalize hCe:kZ (i4 ds) (rows.filter (cnt (ds.map (·.1)) f l))=CC at k;walk_at"go";let Pv1:Nat->St->Hp->Prop:=fun i σ' H'=>SameBut p H4 H'/\H' p=some (.dT (jA ps LL CC f ((bC rz f (l+1 - f).toNat).take i)))/\∃x y z,σ'=[some (.ref h),some (.ref a),some (.ref pL),some (.ref pC),some (.ref p),x,y,z];refine fS ys Pv1 ⟨SameBut.refl,ep4,_,_,_,rfl⟩ (fun i σ' H' _ g=>SqL.of (g.1 _ _ eq hqp)) ?_ ?_
  ·rintro i x _ H' hx hq_;walk_at"g1";obtain⟨sb,ek,x1,x2,x3,rfl⟩:=hq_;walk_at"g2";have hi:i<ys.length:=(List.getElem?_eq_some_iff.mp hx).1;obtain⟨⟨z,t⟩,hrx⟩:∃r,(bC rz f (l+1 - f).toNat)[i]? =some r:=⟨_,List.getElem?_eq_getElem (by lia)⟩
   obtain⟨q1,rfl,hq1⟩:=Paired.at2 hpp hx hrx;have hq1':H' q1=some (.tup [.str z,.int t]):=sb _ _ hq1 fun zz=>by rw[zz,ep4]at hq1;cases hq1
   have sH2:Same H2 H':=fun x u hx=>sb _ _ (S4 _ _ (S3 _ _ hx)) (npd x u hx);have hh':=aY hh ((S1.trans S2).trans sH2);have e1':=sH2 _ _ e12;have eL':=sH2 _ _ (S2 _ _ eL);have eC':=sH2 _ _ eC;have hz:z∈rz.map (·.1):=(pairsN_mem.mp (List.mem_of_getElem? hrx)).1;have hnew:(z,t)∉(bC rz f (l+1 - f).toNat).take i:=rF pnd hrx;have hkl:(jA ps LL CC f ((bC rz f (l+1 - f).toNat).take i)).length<=20020:=by unfold jA;rw[List.length_map,List.length_take];lia
   have nd':((bC rz f (l+1 - f).toNat).take i).Nodup:=pnd.sublist (List.take_sublist _ _);walk_at"go";refine cS (fun hc=> ?_) (fun hc=> ?_)
   ·subst hc;walk_at"go";refine GE hh' nr hz fun H5 S5=> ?_;walk_at"go";rename_i b6 H6 n6 S6 e6;have ek6:=S6 _ _ (S5 _ _ ek);refine gX (bT (z,t)) ek6 e6 (by rw[sizeLine_eq];lia) fun H7 B7 e7=> ?_;refine⟨(sb.trans (S5.trans S6).but).trans B7,?_,_,_,_,rfl⟩;rw[e7,nO _ (CP hnew),cH hrx];unfold jA;rw[List.map_append]
    congr 3
    show [(bT (z,t),V.int (gR ps z))]=[(bT (z,t),V.int (gS ps LL CC z t (t - t).toNat))];rw[show (t - t).toNat=0 by lia];rfl
   ·obtain⟨hah,hft⟩:=EM hrx hc;have gL:(bD (iI (mE ds) (rows.filter (cnt (ds.map (·.1)) f l))) (bT (z,t - 1))).getD (.int 0)= .int (LL (bT (z,t - 1))):=by rw[←hLe];exact wJ _ _ _
    have gC:(bD (iI (i4 ds) (rows.filter (cnt (ds.map (·.1)) f l))) (bT (z,t - 1))).getD (.int 0)= .int (CC (bT (z,t - 1))):=by rw[←hCe];exact wJ _ _ _
    walk_at"go";rename_i b6 H6 n6 S6 e6;refine rB (bT (z,t - 1)) (.inl (S6 _ _ ek)) e6 (v6 nd' hah) ?_;walk_at"go";refine jJ (S6 _ _ eL') ?_;walk_at"go";refine kK (bT (z,t - 1)) (S6 _ _ eL') e6 ?_;rw[gL];walk_at"go";refine jJ (S6 _ _ eC') ?_;walk_at"go";refine kK (bT (z,t - 1)) (S6 _ _ eC') e6 ?_;rw[gC];walk_at"go";rename_i b8 H8 n8 S8 e8;have ek8:=S8 _ _ (S6 _ _ ek);refine gX (bT (z,t)) ek8 e8 (by rw[sizeLine_eq];lia) fun H9 B9 e9=> ?_;refine⟨(sb.trans (S6.trans S8).but).trans B9,?_,_,_,_,rfl⟩;rw[e9,nO _ (CP hnew),cH hrx];unfold jA;rw[List.map_append]
    congr 3
    show [(bT (z,t),V.int (gS ps LL CC z f (t - 1 - f).toNat - LL (bT (z,t - 1))+CC (bT (z,t - 1))))]=[(bT (z,t),V.int (gS ps LL CC z f (t - f).toNat))];rw[show (t - f).toNat=(t - 1 - f).toNat+1 by lia];show _=[(bT (z,t),V.int (gS ps LL CC z f (t - 1 - f).toNat - LL (bT (z,f+((t - 1 - f).toNat:Int)))+CC (bT (z,f+((t - 1 - f).toNat:Int)))))];rw[show f+((t - 1 - f).toNat:Int)=t - 1 by lia]
  ·rintro _ H' hq_;walk_at"g1";obtain⟨sb,ek,x1,x2,x3,rfl⟩:=hq_;walk_at"g2";rw[hyl,List.take_length]at ek;walk_at"go";refine k _ _ ?_ (fun x u hx=>sb _ _ (S4 _ _ (S3 _ _ (S2 _ _ (S1 _ _ hx)))) (npd x u (S2 _ _ (S1 _ _ hx)))) ek;cases hq:H p with
   | none=>rfl
   | some u=>rw[S2 _ _ (S1 _ _ hq)]at n3;cases n3
theorem PV (m:M K mg):Fc P w K mg base "there" 4 ["house","plan"] (vX K m.aH (aW P w K mg base (some 1))):=⟨_,_,m.UN,m.u8.kp,m.UP,N7 m⟩
inductive xR (K:W.Frag)(vs:List V)(H:Hp)(Q:VK)(E:XK):Prop
 | mk (a:Addr) (us:List V) (rows:List aN) (_:vs=[.ref a]) (_:SqL K H a us) (_:b5 H us rows) (_:rows.length<=200) (_:∀p H',H p=none->Same H H'->H' p=some (.dT (gP rows))->Q (.ref p) H'):xR K vs H Q E
theorem ZC {H:Hp}{Q:VK}{E:XK}{a:Addr}{us:List V}{rows:List aN} (hS:SqL K H a us) (hr:b5 H us rows) (hl:rows.length<=200) (h:∀p H',H p=none->Same H H'->H' p=some (.dT (gP rows))->Q (.ref p) H'):xR K [.ref a] H Q E:=⟨_,_,_,rfl,hS,hr,hl,h⟩
theorem FM (m:M K mg):bI P w K mg base CX0 1 m.sO m.sN ["plan"] (xR K):=by
 refine m.nE.ok sc_added_up (fun vs H Q E h=> ?_) (fun cdv A outer s H vs Q E hr h=> ?_)
 ·walk_at"g1";obtain⟨a,us,rows,rfl,hS,hpl,hlen,k⟩:=h;walk_at"g2";rfl
 ·walk_at"g1";obtain⟨a,us,rows,rfl,hS,hpl,hlen,k⟩:=h;walk_at"g2";have nd:=sc_added_up.nd;have hu0:=Room.units0 hr;have hu1:=Room.units1 hr;refine⟨_,(aC (aX (i:=1) nd rfl (by walk_at"oi") nM)
   (aC (d4 PassesOwn.never rfl (bV (pv 0)) (l0 (n:=3) rfl (bB (aM (i:=2) nd rfl (by walk_at"oi")) (bB (aM (i:=3) nd rfl (by walk_at"oi")) (bB (aM (i:=4) nd rfl (by walk_at"oi")) dN)))) (aE (fM hu1 (pv 1) (cI (aA (pv 2) (aA (pv 3) aD))) (aL c7 (kX hu1 (pv 1) (cI (aA (pv 2) (aA (pv 3) aD))) aF ⟨rfl,rfl,rfl,rfl⟩) (pv 4)) rfl)))
   (aE (bF (pv 1))))),?_⟩
  refine aR (σ:=[some (.ref a),none,none,none,none]) rfl ?_;walk_at"cx";have hul:us.length=rows.length:=Paired.length hpl;walk_at"go";rename_i p H1 n1 S1 e1;let Pv1:Nat->St->Hp->Prop:=fun i σ' H'=>SameBut p H1 H'/\H' p=some (.dT (gP (rows.take i)))/\∃x y z,σ'=[some (.ref a),some (.ref p),x,y,z];refine fS us Pv1 ⟨SameBut.refl,e1,_,_,_,rfl⟩ (fun i σ' H' _ q=>(SameBut.same n1 S1 q.1).seq hS) ?_ ?_
  ·rintro i x _ H' hx hq_;walk_at"g1";obtain⟨sb,ek,x1,x2,x3,rfl⟩:=hq_;walk_at"g2";have hi:i<us.length:=(List.getElem?_eq_some_iff.mp hx).1;obtain⟨⟨t,n,j⟩,hrx⟩:∃r,rows[i]? =some r:=⟨_,List.getElem?_eq_getElem (by lia)⟩
   obtain⟨q,rfl,hq⟩:=Paired.at2 hpl hx hrx;have hq':H' q=some (.tup [.int t,.str n,.int j]):=(SameBut.same n1 S1 sb) _ _ hq;obtain⟨i0,ei⟩:=OZ (rows.take i) t n;have hkl:=wQ (rows.take i);rw[List.length_take]at hkl;walk_at"go";refine jJ ek ?_;walk_at"go";rename_i b1 H2 n2 S2 e2;refine kK (eV t n) (by walk_at"hp") (by assumption) ?_;rw[ei];walk_at"go";rename_i b3 H3 n3 S3 e3;refine gX (eV t n) (by walk_at"hp") (by assumption) (by rw[sizeLine_eq];lia) fun H4 B4 e4=> ?_;refine⟨by walk_at"sb",?_,_,_,_,rfl⟩;rw[e4,cH hrx,g8];unfold zD;rw[ei];rfl
  ·rintro _ H' hq_;walk_at"g1";obtain⟨sb,ek,x1,x2,x3,rfl⟩:=hq_;walk_at"g2";rw[hul,List.take_length]at ek;walk_at"go";exact k _ _ n1 (SameBut.same n1 S1 sb) ek
theorem FO (m:M K mg):Fc P w K mg base "added_up" 1 ["plan"] (xR K):=⟨_,_,m.JR,m.nE.kp,m.JP,FM m⟩
theorem UE {a b:Nat}(h:(⟨#[a]⟩:Str)=⟨#[b]⟩):a=b:=by
 have h':=congrArg (fun z:Str=>z.cps.toList) h
 simpa using h'
theorem kR {α β γ:Type}{F:α->γ->Prop} (g:β->γ):∀{l:List β}{m:List α},Paired (fun x y=>F y (g x)) l m->Paired F m (l.map g)
 | _,_,.nil=> .nil
 | _,_,.cons r t=> .cons r (kR g t)
theorem KG {H:Hp}{Q:VK}{p:Addr}{xs:List V}{j:Nat}{v:V} (e:SqL K H p xs) (hx:xs[j]? =some v) (h:Q v H):CN K (.ref p) (.int (j:Int)) H Q:=⟨p,xs,_,v,rfl,rfl,e,u5 hx,h⟩
theorem PN {H:Hp}{ws:List V}{rz:List (Str×Int)} (hr:Paired (bY H) ws rz) {v:V} (hv:v∈ws):∃z i q,v= .ref q/\H q=some (.tup [.str z,.int i])/\(z,i)∈rz:=by
 walk_at"g1";obtain⟨e,he,q,rfl,hq⟩:=mZ hr hv;walk_at"g2";exact⟨e.1,e.2,q,rfl,hq,he⟩
theorem ZF {kvs:List (List Key×V)}:∀(o:Obj) (x:HO),HO.dT kvs≠ .frz o x:=fun _ _ z=>by cases z
theorem PP {C:Addr}{D:bA}{H H':Hp}{p:Addr}{kvs:List (List Key×V)}{h:Addr}{f l:Int}{rz ps:List (Str×Int)}{ds:List aG} (x:aV C D H h f l rz ps ds) (e:H p=some (.dT kvs)) (s:SameBut p H H'):aV C D H' h f l rz ps ds:=by
 walk_at"g1";obtain⟨dx,qs,qp,qd,nk,kv,e1,e2,e3,e4,e5,e6,e7⟩:=x.ex;walk_at"g2";have ne:∀(q:Addr) (o:HO),H q=some o->(∀k,o≠ .dT k)->q≠p:=fun q o h hn z=>by
  rw[z,e]at h;cases h;exact hn _ rfl
 exact⟨dx,qs,qp,qd,nk,kv,s _ _ e1 (ne _ _ e1 fun _ z=>by cases z),s _ _ e2 (ne _ _ e2 fun _ z=>by cases z),s _ _ e3 (ne _ _ e3 fun _ z=>by cases z),e4,e5,s _ _ e6 (ne _ _ e6 fun _ z=>by cases z),Paired.imp' (fun _ d hd=>⟨hd.1,D.but hd.2 e trivial s⟩) e7⟩
theorem o6 {rz:List (Str×Int)}{f:Int}{n:Nat} (h:rz.length<=20) (hn:n<=1001):(bC rz f n).length<=20100:=by
 rw[m8]
 calc _<=_:=Nat.le_refl _
  _<=20100:=by
   first|exact Nat.le_trans (Nat.mul_le_mul hn h) (by decide)|exact Nat.le_trans (Nat.mul_le_mul h hn) (by decide)
theorem LF {H:Hp}{Q:VK}{p:Addr}{z:Str}{ss:List Str} (e:SqL K H p (ss.map V.str)) (h:Q (.bl (!decide (z∈ss))) H):rIn K true (.str z) (.ref p) H Q:=by
 walk_at"g1";obtain⟨p',xs,e1,e2,e3,e4,e5⟩:=xH (Q:=fun v H'=>v= .bl (decide (z∈ss))/\H'=H) e ⟨rfl,rfl⟩;walk_at"g2";refine⟨p',xs,e1,e2,e3,e4,?_⟩;have e5:V.bl (inV (.str z) xs)= .bl (decide (z∈ss)):=e5.1;have e6:inV (.str z) xs=decide (z∈ss):=by injection e5
 show Q (.bl (!inV (.str z) xs)) H;rw[e6];exact h
def fB (ds:List aG)(f l t:Int)(n:Str):Int:=match fC ds n with
 | some d=>jQ f l d t
 | none=>0
theorem vP {ds:List aG}{n:Str} (h:n∉ds.map (·.1)):fC ds n=none:=by
 unfold fC;rw[List.find?_eq_none];intro d hd z;exact h (List.mem_map.mpr ⟨d,hd,by simpa using z⟩)
inductive uZ (C:Addr)(D:bA)(vs:List V)(H:Hp)(Q:VK)(E:XK):Prop
 | mk (h:Addr) (t:Int) (n:Str) (f l:Int) (rz ps:List (Str×Int)) (ds:List aG) (_:vs=[.ref h,.int t,.str n]) (_:aV C D H h f l rz ps ds) (_:(ds.map (·.1)).Nodup) (_:0<=f) (_:ds.length<=20) (_:∀H',Same H H'->Q (.int (fB ds f l t n)) H'):uZ C D vs H Q E
theorem WQ {C:Addr}{D:bA}{H:Hp}{Q:VK}{E:XK}{h:Addr}{t:Int}{n:Str}{f l:Int}{rz ps:List (Str×Int)}{ds:List aG} (hh:aV C D H h f l rz ps ds) (nd:(ds.map (·.1)).Nodup) (hf:0<=f) (ld:ds.length<=20) (k:∀H',Same H H'->Q (.int (fB ds f l t n)) H'):uZ C D [.ref h,.int t,.str n] H Q E:=⟨_,_,_,_,_,_,_,_,rfl,hh,nd,hf,ld,k⟩
theorem xT (m:M K mg):bI P w K mg base CX0 8 m.lA m.lG ["house","turn","name"] (uZ m.aH (aW P w K mg base (some 1))):=by
 refine m.iG.ok sc_most_through (fun vs H Q E h=> ?_) (fun cdv A outer s H vs Q E hr h=> ?_)
 ·walk_at"g1";obtain⟨h,t,n,f,l,rz,ps,ds,rfl,hh,ndd,hf,ld,k⟩:=h;walk_at"g2";rfl
 ·walk_at"g1";obtain⟨h,t,n,f,l,rz,ps,ds,rfl,hh,ndd,hf,ld,k⟩:=h;walk_at"g2";have nd:=sc_most_through.nd;have hu0:=Room.units0 hr;have hu1:=Room.units1 hr;have w_dc_House:=m.bG;have w_mc_House_doors:= @iF P w K mg base m;have w_mc_House_lets:= @BE P w K mg base m;refine⟨_,(aC (cG (bH DM (pv 2) (gJ 1 hr (pv 0)) (by with_unfolding_all rfl)) (aE (bF aF)) bQ)
   (aE (bF (hU 3 hr (pv 0) (aA (pv 2) (aA (pv 1) aD)))))),?_⟩
  refine aR (σ:=[some (.ref h),some (.int t),some (.str n)]) rfl ?_;walk_at"cx";walk_at"g1";obtain⟨dx,qs,qp,qd,nk,kvs0,e1,_⟩:=hh.ex;walk_at"g2";walk_at"go";refine kP hh fun p1 H1 n1 S1 f1=> ?_;walk_at"go";refine LF (SqL.of f1) ?_;walk_at"go"
  by_cases hm:n∈ds.map (·.1)
  ·walk_at"g1";obtain⟨d,hd,rfl,hdo⟩:=m6 hm;walk_at"g2";rw[decide_eq_true hm];have e11:=S1 _ _ e1;have hk:fB ds f l t d.1=jQ f l d t:=by unfold fB;rw[hdo]
   rw[hk]at k;walk_at"go";refine RK (d:=d) (aY hh S1) ndd hd hf fun H2 S2=> ?_;exact k _ (S1.trans S2)
  ·rw[decide_eq_false hm];have hk:fB ds f l t n=0:=by unfold fB;rw[vP hm]
   rw[hk]at k;walk_at"go";exact k _ S1
theorem xD (m:M K mg):Fc P w K mg base "most_through" 8 ["house","turn","name"] (uZ m.aH (aW P w K mg base (some 1))):=⟨_,_,m.z5,m.iG.kp,m.zY,xT m⟩
def flK (w:Str)(p:Str×Int):List Key:=[.inl p.2,.inr w,.inr p.1]
theorem qA {w w':Str}{a b:Str×Int} (h:flK w a=flK w' b):w=w'/\a=b:=by
 unfold flK at h;injection h with h1 h2;injection h2 with h2 h3;injection h3 with h3;exact⟨Sum.inr.inj h2,Prod.ext (Sum.inr.inj h3) (Sum.inl.inj h1)⟩
def szF (rz:List (Str×Int))(z:Str):Int:=match rz.find? fun e=>decide (e.1=z) with
 | some e=>e.2
 | none=>0
theorem uK:∀{rz:List (Str×Int)},(rz.map (·.1)).Nodup->∀{e:Str×Int},e∈rz->szF rz e.1=e.2
 | a::l,nd,e,h=>by
  have nd':=List.nodup_cons.mp nd;rcases List.mem_cons.mp h with rfl|h
  ·unfold szF;rw[List.find?_cons_of_pos (by simp)]
  ·have hne:¬a.1=e.1:=fun z=>nd'.1 (show a.1∈_ by rw[z];exact List.mem_map.mpr ⟨e,h,rfl⟩);have ih:=uK nd'.2 h;unfold szF at ih ⊢;rw[List.find?_cons_of_neg (by simpa using hne)];exact ih
def CT (e:List Key×V):Str×Int:=match e.1 with
 | [.inl t,.inr n]=>(n,t)
 | _=>(⟨#[]⟩,0)
def dfB (ds:List aG)(f l:Int)(e:List Key×V):Bool:=decide (oV e.2>fB ds f l (CT e).2 (CT e).1)
def dfK (ds:List aG)(f l:Int)(rows:List aN):List (List Key):=((gP rows).filter (dfB ds f l)).map fun e=>flK "door" (CT e)
abbrev goL (ds:List aG)(f l:Int)(rows:List aN):List Key->Int:=kZ (mE ds) (rows.filter (cnt (ds.map (·.1)) f l))
abbrev goC (ds:List aG)(f l:Int)(rows:List aN):List Key->Int:=kZ (i4 ds) (rows.filter (cnt (ds.map (·.1)) f l))
def lvB (ps:List (Str×Int))(L C LT:List Key->Int)(f:Int)(x:Str×Int):Bool:=decide (LT (bT x)>gS ps L C x.1 f (x.2 - f).toNat)
def lfK (rz ps:List (Str×Int))(L C LT:List Key->Int)(f l:Int):List (List Key):=(((bC rz f (l+1 - f).toNat).filter fun x=>decide (x.2<l)).filter (lvB ps L C LT f)).map (flK "leave")
def fuB (rz ps:List (Str×Int))(L C:List Key->Int)(f:Int)(x:Str×Int):Bool:=decide (gS ps L C x.1 f (x.2 - f).toNat>szF rz x.1)
def ffK (rz ps:List (Str×Int))(L C:List Key->Int)(f l:Int):List (List Key):=((bC rz f (l+1 - f).toNat).filter (fuB rz ps L C f)).map (flK "full")
def fN (rz ps:List (Str×Int))(ds:List aG)(f l:Int)(rows:List aN):List (List Key):=(dfK ds f l rows++lfK rz ps (goL ds f l rows) (goC ds f l rows) (goL ds f l rows) f l)++ffK rz ps (goL ds f l rows) (goC ds f l rows) f l
theorem GL (ds:List aG)(f l:Int)(rows:List aN):(dfK ds f l rows).length<=rows.length:=by
 unfold dfK;rw[List.length_map];exact Nat.le_trans (List.length_filter_le _ _) (wQ rows)
theorem GW {rz ps:List (Str×Int)}{L C LT:List Key->Int}{f l:Int} (h:(bC rz f (l+1 - f).toNat).length<=20100):(lfK rz ps L C LT f l).length<=20100:=by
 unfold lfK;rw[List.length_map];exact Nat.le_trans (List.length_filter_le _ _) (Nat.le_trans (List.length_filter_le _ _) h)
theorem GU {rz ps:List (Str×Int)}{L C:List Key->Int}{f l:Int} (h:(bC rz f (l+1 - f).toNat).length<=20100):(ffK rz ps L C f l).length<=20100:=by
 unfold ffK;rw[List.length_map];exact Nat.le_trans (List.length_filter_le _ _) h
theorem PR (rows:List aN){k:List Key}(h:k∈(gP rows).map (·.1)):∃r∈rows,k=eV r.1 r.2.1:=by
 induction rows using jM with
 | h0=>exact nomatch h
 | hs l r ih =>
  rw[g8]at h;obtain⟨e,he,rfl⟩:=List.mem_map.mp h;rcases q0 he with h'|⟨h1,h2⟩
  ·obtain⟨r',hr',e'⟩:=ih (List.mem_map.mpr ⟨e,h',rfl⟩);exact⟨r',List.mem_append_left _ hr',e'⟩
  ·exact⟨r,List.mem_append_right _ (.head _),h1⟩
theorem mem_dfK {ds:List aG}{f l:Int}{rows:List aN}{k:List Key}:k∈dfK ds f l rows↔∃r∈rows,k=flK "door" (r.2.1,r.1)/\iU rows r.1 r.2.1>fB ds f l r.1 r.2.1:=by
 unfold dfK
 constructor
 ·intro h;obtain⟨e,he,rfl⟩:=List.mem_map.mp h;obtain⟨h1,h2⟩:=List.mem_filter.mp he;obtain⟨r,hr,er⟩:=PR rows (List.mem_map.mpr ⟨e,h1,rfl⟩);walk_at"g1";obtain⟨t,n,i,rfl⟩:=(fZ rows).2 e h1;walk_at"g2";obtain⟨e1,e2⟩:=D7 er;have hv:=kU (fZ rows).1 h1;have ht:=CU t n rows;rw[hv]at ht;have ht':i=iU rows t n:=ht;refine⟨r,hr,?_,?_⟩
  ·rw[←e1,←e2];rfl
  ·rw[←e1,←e2,←ht'];exact of_decide_eq_true h2
 ·rintro hq_;walk_at"g1";obtain⟨r,hr,rfl,h⟩:=hq_;walk_at"g2";have ht:=CU r.1 r.2.1 rows;cases hv:bD (gP rows) (eV r.1 r.2.1) with
  | none =>
   exfalso
   obtain⟨l1,l2,rfl⟩:=List.append_of_mem hr;have key:∀l2:List aN,(bD (gP (l1++r::l2)) (eV r.1 r.2.1)).isSome=true:=fun l2=>by
    induction l2 using jM with
    | h0 =>
     rw[g8];unfold zD;rw[i6,if_pos rfl];rfl
    | hs l a ih =>
     rw[←List.cons_append,←List.append_assoc,g8];unfold zD;rw[i6]
     split
     ·rfl
     ·exact ih
   have:=key l2;rw[hv]at this;cases this
  | some v =>
   have hm:=oY hv;walk_at"g1";obtain⟨t',n',i,e⟩:=(fZ rows).2 _ hm;walk_at"g2";obtain⟨e1,e2⟩:=Prod.mk.inj e;subst e2;rw[hv]at ht;have ht':i=iU rows r.1 r.2.1:=ht;refine List.mem_map.mpr ⟨(eV r.1 r.2.1,.int i),List.mem_filter.mpr ⟨hm,?_⟩,rfl⟩;show decide (i>fB ds f l r.1 r.2.1)=true;rw[ht'];exact decide_eq_true h
theorem LY (ds:List aG)(f l:Int)(rows:List aN):(dfK ds f l rows).Nodup:=by
 unfold dfK;have h1:((gP rows).filter (dfB ds f l)).Pairwise fun a b=>a.1≠b.1:=by
  have:=(fZ rows).1;rw[List.Nodup,List.pairwise_map]at this;exact this.filter _
 rw[List.Nodup,List.pairwise_map];refine List.Pairwise.imp_of_mem ?_ h1;intro a b ha hb h z;walk_at"g1";obtain⟨t,n,i,rfl⟩:=(fZ rows).2 a (List.mem_filter.mp ha).1;walk_at"g2";walk_at"g1";obtain⟨t',n',i',rfl⟩:=(fZ rows).2 b (List.mem_filter.mp hb).1;walk_at"g2"
 apply h
 have z':((n,t):Str×Int)=(n',t'):=(qA z).2;cases z';rfl
theorem z9 {w:Str}{l:List (Str×Int)} (h:l.Nodup):(l.map (flK w)).Nodup:=by
 rw[List.Nodup,List.pairwise_map];exact h.imp fun hne z=>hne (qA z).2
theorem mem_lfK {rz ps:List (Str×Int)}{L C LT:List Key->Int}{f l:Int}{k:List Key}:k∈lfK rz ps L C LT f l↔∃z∈rz.map (·.1),∃i:Nat,f+(i:Int)<l/\k=flK "leave" (z,f+(i:Int))/\LT (bT (z,f+(i:Int)))>gS ps L C z f i:=by
 unfold lfK
 constructor
 ·intro h;walk_at"g1";obtain⟨⟨z,t⟩,he,rfl⟩:=List.mem_map.mp h;walk_at"g2";obtain⟨h1,h2⟩:=List.mem_filter.mp he;obtain⟨h3,h4⟩:=List.mem_filter.mp h1;walk_at"g1";obtain⟨hz,i,hi,rfl⟩:=pairsN_mem.mp h3;walk_at"g2";have h4:f+(i:Int)<l:=by simpa using h4
  have h2:=of_decide_eq_true h2;rw[show ((z,f+(i:Int)).2 - f).toNat=i by show (f+(i:Int) - f).toNat=i;lia]at h2;exact⟨z,hz,i,h4,rfl,h2⟩
 ·rintro hq_;walk_at"g1";obtain⟨z,hz,i,hi,rfl,h⟩:=hq_;walk_at"g2";refine List.mem_map.mpr ⟨(z,f+(i:Int)),List.mem_filter.mpr ⟨List.mem_filter.mpr ⟨pairsN_mem.mpr ⟨hz,i,by lia,rfl⟩,by simpa using hi⟩,?_⟩,rfl⟩;unfold lvB;rw[show ((z,f+(i:Int)).2 - f).toNat=i by show (f+(i:Int) - f).toNat=i;lia];exact decide_eq_true h
theorem uR {rz ps:List (Str×Int)}(nr:(rz.map (·.1)).Nodup){L C:List Key->Int}{f l:Int}{k:List Key}:k∈ffK rz ps L C f l↔∃e∈rz,∃i:Nat,f+(i:Int)<=l/\k=flK "full" (e.1,f+(i:Int))/\gS ps L C e.1 f i>e.2:=by
 unfold ffK
 constructor
 ·intro h;walk_at"g1";obtain⟨⟨z,t⟩,he,rfl⟩:=List.mem_map.mp h;walk_at"g2";obtain⟨h1,h2⟩:=List.mem_filter.mp he;walk_at"g1";obtain⟨hz,i,hi,rfl⟩:=pairsN_mem.mp h1;walk_at"g2";obtain⟨e,hez,hz'⟩:=List.mem_map.mp hz;have hz':e.1=z:=hz';subst hz';have h2:=of_decide_eq_true h2;rw[show ((e.1,f+(i:Int)).2 - f).toNat=i by show (f+(i:Int) - f).toNat=i;lia,show szF rz ((e.1,f+(i:Int)):Str×Int).1=e.2 from uK nr hez]at h2;exact⟨e,hez,i,by lia,rfl,h2⟩
 ·rintro hq_;walk_at"g1";obtain⟨e,he,i,hi,rfl,h⟩:=hq_;walk_at"g2";refine List.mem_map.mpr ⟨(e.1,f+(i:Int)),List.mem_filter.mpr ⟨pairsN_mem.mpr ⟨List.mem_map.mpr ⟨e,he,rfl⟩,i,by lia,rfl⟩,?_⟩,rfl⟩;unfold fuB;rw[show ((e.1,f+(i:Int)).2 - f).toNat=i by show (f+(i:Int) - f).toNat=i;lia,show szF rz ((e.1,f+(i:Int)):Str×Int).1=e.2 from uK nr he];exact decide_eq_true h
theorem xM {rz ps:List (Str×Int)}(nr:(rz.map (·.1)).Nodup)(ds:List aG)(f l:Int)(rows:List aN):(fN rz ps ds f l rows).Nodup:=by
 have pn:=hJ nr f (l+1 - f).toNat;unfold fN;rw[List.nodup_append,List.nodup_append];refine⟨⟨LY _ _ _ _,z9 ((pn.filter _).filter _),?_⟩,z9 (pn.filter _),?_⟩
 ·intro a ha b hb z;subst z;walk_at"g1";obtain⟨r,_,e1,_⟩:=mem_dfK.mp ha;walk_at"g2";walk_at"g1";obtain⟨z,_,i,_,e2,_⟩:=mem_lfK.mp hb;walk_at"g2";exact absurd (qA (e1.symm.trans e2)).1 (by decide)
 ·intro a ha b hb z;subst z;walk_at"g1";obtain⟨e,_,i,_,e2,_⟩:=(uR nr).mp hb;walk_at"g2";rcases List.mem_append.mp ha with ha|ha
  ·walk_at"g1";obtain⟨r,_,e1,_⟩:=mem_dfK.mp ha;walk_at"g2";exact absurd (qA (e1.symm.trans e2)).1 (by decide)
  ·walk_at"g1";obtain⟨z,_,i,_,e1,_⟩:=mem_lfK.mp ha;walk_at"g2";exact absurd (qA (e1.symm.trans e2)).1 (by decide)
theorem xI {rz ps:List (Str×Int)}(nr:(rz.map (·.1)).Nodup)(ds:List aG)(f l:Int)(rows:List aN):∀r∈fN rz ps ds f l rows,r.map cO=[true,false,false]:=fun k hk=>by
 unfold fN at hk;rcases List.mem_append.mp hk with hk|hk
 ·rcases List.mem_append.mp hk with hk|hk
  ·walk_at"g1";obtain⟨r,_,rfl,_⟩:=mem_dfK.mp hk;walk_at"g2";rfl
  ·walk_at"g1";obtain⟨z,_,i,_,rfl,_⟩:=mem_lfK.mp hk;walk_at"g2";rfl
 ·walk_at"g1";obtain⟨e,_,i,_,rfl,_⟩:=(uR nr).mp hk;walk_at"g2";rfl
inductive uP (K:W.Frag)(C:Addr)(D:bA)(vs:List V)(H:Hp)(Q:VK)(E:XK):Prop
 | mk (h a:Addr) (f l:Int) (rz ps:List (Str×Int)) (ds:List aG) (us:List V) (rows:List aN) (_:vs=[.ref h,.ref a]) (_:aV C D H h f l rz ps ds) (_:(ds.map (·.1)).Nodup) (_:0<=f) (_:ds.length<=20) (_:SqL K H a us) (_:b5 H us rows) (_:rows.length<=200) (_:∀p ys H',H p=none->Same H H'->H' p=some (.lst ys)->KRows H' ys (dfK ds f l rows)->Q (.ref p) H'):uP K C D vs H Q E
theorem V2 {C:Addr}{D:bA}{H:Hp}{Q:VK}{E:XK}{h a:Addr}{f l:Int}{rz ps:List (Str×Int)}{ds:List aG}{us:List V}{rows:List aN} (hh:aV C D H h f l rz ps ds) (nd:(ds.map (·.1)).Nodup) (hf:0<=f) (ld:ds.length<=20) (hS:SqL K H a us) (hp:b5 H us rows) (hl:rows.length<=200) (k:∀p ys H',H p=none->Same H H'->H' p=some (.lst ys)->KRows H' ys (dfK ds f l rows)->Q (.ref p) H'):uP K C D [.ref h,.ref a] H Q E:=⟨_,_,_,_,_,_,_,_,_,rfl,hh,nd,hf,ld,hS,hp,hl,k⟩
theorem zA (m:M K mg):bI P w K mg base CX0 9 m.mG m.mJ ["house","plan"] (uP K m.aH (aW P w K mg base (some 1))):=by
 refine m.iZ.ok sc_door_faults (fun vs H Q E h=> ?_) (fun cdv A outer s H vs Q E hr h=> ?_)
 ·walk_at"g1";obtain⟨h,a,f,l,rz,ps,ds,us,rows,rfl,hh,ndd,hf,ld,hS,hpl,hlen,k⟩:=h;walk_at"g2";rfl
 ·walk_at"g1";obtain⟨h,a,f,l,rz,ps,ds,us,rows,rfl,hh,ndd,hf,ld,hS,hpl,hlen,k⟩:=h;walk_at"g2";have nd:=sc_door_faults.nd;have hu0:=Room.units0 hr;have hu1:=Room.units1 hr;have nE:= @FO P w K mg base m;have iG:= @xD P w K mg base m;have w_dc_House:=m.bG;refine⟨_,(aC (aX (i:=2) nd rfl (by walk_at"oi") (bR nE hr (aA (pv 1) aD)))
   (aE (bF (yM (d9 (N:=["turn","name","going","house"]) (nl:=2) (ci:=[2,0]) rfl (blk (s.heap.objs.size+1) rfl rfl rfl (by kernel_rfl)) (P0 (pv 2)) (fun _ _ _ _=>(k4 (K:=K) (n:=2) rfl (bB (aM (i:=0) (show (["turn","name","going","house"]:List Str).Nodup by decide +kernel) rfl (by walk_at"oi")) (bB (aM (i:=1) (show (["turn","name","going","house"]:List Str).Nodup by decide +kernel) rfl (by walk_at"oi")) dN)))) (fun _ _ _ _=>(lX (bH o7 (iE hu1 (pv 2) (cI (aA (pv 0) (aA (pv 1) aD))) (fun _ _=>rfl)) (bR iG hr (aA (pv 3) (aA (pv 0) (aA (pv 1) aD)))) (bM _)))) (fun _ _ _ _=>(cI (aA (pv 0) (aA c3 (aA (pv 1) aD)))))))))),?_⟩
  refine aR (σ:=[some (.ref h),some (.ref a),none]) rfl ?_;walk_at"cx";walk_at"go";refine ZC hS hpl hlen fun p1 H1 n1 S1 e1=> ?_;walk_at"go";refine wP e1 ZF ?_;walk_at"go";refine OG ?_;walk_at"go";refine O8 e1 fun o H2 B2 e2=> ?_;have hg:=fZ rows;have hln:=wQ rows;have hh2:aV m.aH (aW P w K mg base (some 1)) H2 h f l rz ps ds:=PP (aY hh S1) e1 B2;refine WR (dfB ds f l) (fun e y H=>∃q,y= .ref q/\H q=some (.tup ((flK "door" (CT e)).map kV))) (fun _ _ _ _ ⟨q,h1,h2⟩ s=>⟨q,h1,s _ _ h2⟩) (fun e he=>by
   walk_at"g1";obtain⟨t,n,i,rfl⟩:=hg.2 e he;walk_at"g2";rfl) (by rw[sizeLine_eq];lia) (rest:=[some (.ref p1),some (.ref h)]) (by rfl) e2 ?_ ?_ ?_
  ·intro k1 k2 v H3 hm s3 R hR;walk_at"g1";obtain⟨t,n,i,hte⟩:=hg.2 _ hm;walk_at"g2";have h1:k1= .inl t/\k2= .inr n/\v= .int i:=by
    have e1':=congrArg Prod.fst hte;have e2':=congrArg Prod.snd hte;have e1'':[k1,k2]=eV t n:=e1';unfold eV at e1'';injection e1'' with a1 a2;injection a2 with a2;exact⟨a1,a2,e2'⟩
   obtain⟨rfl,rfl,rfl⟩:=h1;have hv:bD (gP rows) (eV t n)=some (.int i):=kU hg.1 hm;show (_:TT) (some (V.int t)::some (V.str n)::[some (.ref p1),some (.ref h)]) H3 R;walk_at"go";rename_i b4 H4 n4 S4 e4;refine rB (eV t n) (.inr ⟨o,S4 _ _ (s3 _ _ e2)⟩) e4 hv ?_;walk_at"go";refine WQ (aY hh2 (s3.trans S4)) ndd hf ld fun H5 S5=> ?_;walk_at"go";exact hR _ (S4.trans S5)
  ·intro k1 k2 v H3 hm hcc s3 R hR;walk_at"g1";obtain⟨t,n,i,hte⟩:=hg.2 _ hm;walk_at"g2";have h1:k1= .inl t/\k2= .inr n/\v= .int i:=by
    have e1':=congrArg Prod.fst hte;have e2':=congrArg Prod.snd hte;have e1'':[k1,k2]=eV t n:=e1';unfold eV at e1'';injection e1'' with a1 a2;injection a2 with a2;exact⟨a1,a2,e2'⟩
   obtain⟨rfl,rfl,rfl⟩:=h1;show (_:TE) (some (V.int t)::some (V.str n)::[some (.ref p1),some (.ref h)]) H3 R;walk_at"go";rename_i b4 H4 n4 S4 e4;exact hR _ _ ⟨b4,rfl,e4⟩ S4
  intro ys H3 s3 hys;have kr:KRows H3 ys (dfK ds f l rows):=kR (fun e=>flK "door" (CT e)) hys;walk_at"go";rename_i p4 H4 n4 S4 e4;have eo:H4 p1=some (.frz o (.dT (gP rows))):=S4 _ _ (s3 _ _ e2);refine o0 eo fun H5 B5 e5=> ?_;have hpq:p4≠p1:=fun z=>by rw[z,s3 _ _ e2]at n4;cases n4
  have hn:H p4=none:=by
   cases hq:H p4 with
   | none=>rfl
   | some u =>
    have:=s3 _ _ (B2 _ _ (S1 _ _ hq) hpq);rw[n4]at this;cases this
  have fr:∀b u,H b=some u->b≠p1:=fun b u hb z=>by rw[z,n1]at hb;cases hb
  exact k p4 ys H5 hn (fun b u hb=>B5 _ _ (S4 _ _ (s3 _ _ (B2 _ _ (S1 _ _ hb) (fr b u hb)))) (fr b u hb)) (B5 _ _ e4 hpq) (KRows.map (fun q xs hq=>B5 _ _ hq fun z=>by rw[z,eo]at hq;cases hq) (kr.same S4))
theorem yP (m:M K mg):Fc P w K mg base "door_faults" 9 ["house","plan"] (uP K m.aH (aW P w K mg base (some 1))):=⟨_,_,m.BX,m.iZ.kp,m.BO,zA m⟩
inductive uM (K:W.Frag)(C:Addr)(D:bA)(vs:List V)(H:Hp)(Q:VK)(E:XK):Prop
 | mk (h a b:Addr) (f l:Int) (rz ps:List (Str×Int)) (ds:List aG) (us:List V) (rows:List aN) (L C':List Key->Int) (_:vs=[.ref h,.ref a,.ref b]) (_:aV C D H h f l rz ps ds) (_:(rz.map (·.1)).Nodup) (_:(ds.map (·.1)).Nodup) (_:(∀d∈ds,d5 (rz.map (·.1)) d)) (_:0<=f) (_:f<=l) (_:l<1000000000000) (_:l - f<=1000) (_:rz.length<=20) (_:SqL K H a us) (_:b5 H us rows) (_:rows.length<=200) (_:H b=some (.dT (jA ps L C' f (bC rz f (l+1 - f).toNat)))) (_:∀p ys H',H p=none->Same H H'->H' p=some (.lst ys)->KRows H' ys (lfK rz ps L C' (goL ds f l rows) f l)->Q (.ref p) H'):uM K C D vs H Q E
theorem xB (m:M K mg):bI P w K mg base CX0 5 m.lD m.lB ["house","plan","inside"] (uM K m.aH (aW P w K mg base (some 1))):=by
 refine m.iH.ok sc_leave_faults (fun vs H Q E h=> ?_) (fun cdv A outer s H vs Q E hr h=> ?_)
 ·walk_at"g1";obtain⟨h,a,b,f,l,rz,ps,ds,us,rows,L,C',rfl,hh,nr,ndd,hin,h0,h1,h2,h3,lr,hS,hpl,hlen,eb,k⟩:=h;walk_at"g2";rfl
 ·walk_at"g1";obtain⟨h,a,b,f,l,rz,ps,ds,us,rows,L,C',rfl,hh,nr,ndd,hin,h0,h1,h2,h3,lr,hS,hpl,hlen,eb,k⟩:=h;walk_at"g2";have nd:=sc_leave_faults.nd;have hu0:=Room.units0 hr;have hu1:=Room.units1 hr;have jN:= @xU P w K mg base m;have w_dc_House:=m.bG;have w_mc_House_pairs:= @kF P w K mg base m;refine⟨_,(aC (aX (i:=3) nd rfl (by walk_at"oi") (bR jN hr (aA (pv 0) (aA (pv 1) aD))))
   (aC (mY (i:=4) nd rfl (by walk_at"oi") (N:=["pair","house"]) (nl:=1) (ci:=[0]) rfl (blk (s.heap.objs.size+1) rfl rfl rfl (by kernel_rfl)) (bV (gJ 1 hr (pv 0))) (fun _ _ _ _=>(aM (i:=0) (show (["pair","house"]:List Str).Nodup by decide +kernel) rfl (by walk_at"oi"))) (fun _ _ _ _=>(lX (bH jT (dJ (qN (K:=K)) (pv 0) aF (fun _ _=>rfl)) (nI (K:=K) (pv 1) rfl) (bM _)))) (fun _ _ _ _=>(pv 0)))
   (aE (bF (d9 (N:=["room","turn","inside","leave"]) (nl:=2) (ci:=[2,3]) rfl (blk (s.heap.objs.size+1) rfl rfl rfl (by kernel_rfl)) (bV (pv 4)) (fun _ _ _ _=>(k4 (K:=K) (n:=2) rfl (bB (aM (i:=0) (show (["room","turn","inside","leave"]:List Str).Nodup by decide +kernel) rfl (by walk_at"oi")) (bB (aM (i:=1) (show (["room","turn","inside","leave"]:List Str).Nodup by decide +kernel) rfl (by walk_at"oi")) dN)))) (fun _ _ _ _=>(lX (bH o7 (kX hu1 (pv 3) (cI (aA (pv 0) (aA (pv 1) aD))) aF ⟨rfl,rfl,rfl,rfl⟩) (iE hu1 (pv 2) (cI (aA (pv 0) (aA (pv 1) aD))) (fun _ _=>rfl)) (bM _)))) (fun _ _ _ _=>(cI (aA (pv 1) (aA c3 (aA (pv 0) aD)))))))))),?_⟩
  refine aR (σ:=[some (.ref h),some (.ref a),some (.ref b),none,none]) rfl ?_;walk_at"cx";walk_at"g1";obtain⟨dx,qs,qp,qd,nk,kvs0,e1,_⟩:=hh.ex;walk_at"g2";walk_at"go";refine zF hh ndd hin hS hpl hlen fun p1 H1 n1 S1 f1=> ?_;have e11:=S1 _ _ e1;walk_at"go";refine yR (aY hh S1) h0 h1 h2 h3 lr fun p2 ys H2 n2 S2 f2 hys=> ?_;have e12:=S2 _ _ e11;walk_at"go";have hpn:(bC rz f (l+1 - f).toNat).length<=20100:=o6 lr (by lia);have hyl:ys.length=(bC rz f (l+1 - f).toNat).length:=Paired.length hys;refine qE (α:=Str×Int) (xs:=bC rz f (l+1 - f).toNat) (vs:=ys) (bY H2) (fun x=>decide (x.2<l)) (fun x y H=>bY H y x) (fun _ _ _ _ ⟨q,h1,h2⟩ s=>⟨q,h1,s _ _ h2⟩) (by rw[sizeLine_eq];lia) (rest:=[some (.ref h)]) (by rfl) (SqL.of f2) hys ?_ ?_ ?_
  ·rintro v ⟨z,u⟩ H3 ⟨q3,rfl,hq3⟩ hm s3 R hR;have hq3:H3 q3=some (.tup [.str z,.int u]):=s3 _ _ hq3;have e13:=s3 _ _ e12;walk_at"go";refine⟨q3,_,1,_,rfl,rfl,SqT.of hq3,rfl,?_⟩;walk_at"go";exact hR _ (Same.refl _)
  ·rintro v x H3 ⟨q3,rfl,hq3⟩ hm - s3 R hR;walk_at"go";exact hR _ _ ⟨q3,rfl,s3 _ _ hq3⟩ (Same.refl _)
  intro zs H3 s3 hzs;have hzp:Paired (bY H3) zs ((bC rz f (l+1 - f).toNat).filter fun x=>decide (x.2<l)):=pJ hzs;have hfl:((bC rz f (l+1 - f).toNat).filter fun x=>decide (x.2<l)).length<=20100:=Nat.le_trans (List.length_filter_le _ _) hpn;walk_at"go";rename_i p4 H4 n4 S4 e4;have s14:=S2.trans (s3.trans S4);have f14:=s14 _ _ f1;have eb4:=s14 _ _ (S1 _ _ eb);refine qH (α:=Str×Int) (xs:=(bC rz f (l+1 - f).toNat).filter fun x=>decide (x.2<l)) (vs:=zs) (fun x=> .str x.1) (fun x=> .int x.2) (lvB ps L C' (goL ds f l rows) f) (fun x y H=>∃q,y= .ref q/\H q=some (.tup ((flK "leave" x).map kV))) (fun _ _ _ _ ⟨q,h1,h2⟩ s=>⟨q,h1,s _ _ h2⟩) (by rw[sizeLine_eq];lia) (rest:=[some (.ref b),some (.ref p1)]) (by rfl) (SqL.of e4) (jO hzp S4) ?_ ?_ ?_
  ·rintro ⟨z,u⟩ H5 hx s5 R hR;obtain⟨hx1,hx2⟩:=List.mem_filter.mp hx;have f15:=s5 _ _ f14;have eb5:=s5 _ _ eb4;have hpi:=v6 (ps:=ps) (L:=L) (C:=C') (f:=f) (hJ nr f (l+1 - f).toNat) hx1;show (_:TT) (some (V.str z)::some (V.int u)::[some (.ref b),some (.ref p1)]) H5 R;walk_at"go";refine jJ f15 ?_;walk_at"go";rename_i b6 H6 n6 S6 e6;refine kK (bT (z,u)) (S6 _ _ f15) e6 ?_;rw[wJ];walk_at"go";rename_i b7 H7 n7 S7 e7;refine rB (bT (z,u)) (.inl (S7 _ _ (S6 _ _ eb5))) e7 hpi ?_;walk_at"go";exact hR _ (S6.trans S7)
  ·rintro ⟨z,u⟩ H5 hx hcc s5 R hR;show (_:TE) (some (V.str z)::some (V.int u)::[some (.ref b),some (.ref p1)]) H5 R;walk_at"go";rename_i b6 H6 n6 S6 e6;exact hR _ _ ⟨b6,rfl,e6⟩ S6
  intro ws H5 s5 hws;have kr:KRows H5 ws (lfK rz ps L C' (goL ds f l rows) f l):=kR (flK "leave") hws;walk_at"go";rename_i p6 H6 n6 S6 e6;have s06:Same H H6:=S1.trans (s14.trans (s5.trans S6));refine k p6 ws H6 ?_ s06 e6 (kr.same S6);cases hq:H p6 with
  | none=>rfl
  | some u =>
   have:=(S1.trans (s14.trans s5)) _ _ hq;rw[n6]at this;cases this
theorem xJ (m:M K mg):Fc P w K mg base "leave_faults" 5 ["house","plan","inside"] (uM K m.aH (aW P w K mg base (some 1))):=⟨_,_,m.zN,m.iH.kp,m.zV,xB m⟩
theorem X6 {C:Addr}{D:bA}{H:Hp}{Q:VK}{E:XK}{h a b:Addr}{f l:Int}{rz ps:List (Str×Int)}{ds:List aG}{us:List V}{rows:List aN}{L C':List Key->Int} (hh:aV C D H h f l rz ps ds) (nr:(rz.map (·.1)).Nodup) (nd:(ds.map (·.1)).Nodup) (hin:∀d∈ds,d5 (rz.map (·.1)) d) (h0:0<=f) (h1:f<=l) (h2:l<1000000000000) (h3:l - f<=1000) (lr:rz.length<=20) (hS:SqL K H a us) (hp:b5 H us rows) (hl:rows.length<=200) (eb:H b=some (.dT (jA ps L C' f (bC rz f (l+1 - f).toNat)))) (k:∀p ys H',H p=none->Same H H'->H' p=some (.lst ys)->KRows H' ys (lfK rz ps L C' (goL ds f l rows) f l)->Q (.ref p) H'):uM K C D [.ref h,.ref a,.ref b] H Q E:=⟨_,_,_,_,_,_,_,_,_,_,_,_,rfl,hh,nr,nd,hin,h0,h1,h2,h3,lr,hS,hp,hl,eb,k⟩
inductive uX (C:Addr)(D:bA)(vs:List V)(H:Hp)(Q:VK)(E:XK):Prop
 | mk (h b:Addr) (f l:Int) (rz ps:List (Str×Int)) (ds:List aG) (L C':List Key->Int) (_:vs=[.ref h,.ref b]) (_:aV C D H h f l rz ps ds) (_:(rz.map (·.1)).Nodup) (_:0<=f) (_:f<=l) (_:l<1000000000000) (_:l - f<=1000) (_:rz.length<=20) (_:H b=some (.dT (jA ps L C' f (bC rz f (l+1 - f).toNat)))) (_:∀p ys H',H p=none->Same H H'->H' p=some (.lst ys)->KRows H' ys (ffK rz ps L C' f l)->Q (.ref p) H'):uX C D vs H Q E
theorem VR {C:Addr}{D:bA}{H:Hp}{Q:VK}{E:XK}{h b:Addr}{f l:Int}{rz ps:List (Str×Int)}{ds:List aG}{L C':List Key->Int} (hh:aV C D H h f l rz ps ds) (nr:(rz.map (·.1)).Nodup) (h0:0<=f) (h1:f<=l) (h2:l<1000000000000) (h3:l - f<=1000) (lr:rz.length<=20) (eb:H b=some (.dT (jA ps L C' f (bC rz f (l+1 - f).toNat)))) (k:∀p ys H',H p=none->Same H H'->H' p=some (.lst ys)->KRows H' ys (ffK rz ps L C' f l)->Q (.ref p) H'):uX C D [.ref h,.ref b] H Q E:=⟨_,_,_,_,_,_,_,_,_,rfl,hh,nr,h0,h1,h2,h3,lr,eb,k⟩
theorem y0 (m:M K mg):bI P w K mg base CX0 5 m.mN m.mQ ["house","inside"] (uX m.aH (aW P w K mg base (some 1))):=by
 refine m.i3.ok sc_full_faults (fun vs H Q E h=> ?_) (fun cdv A outer s H vs Q E hr h=> ?_)
 ·walk_at"g1";obtain⟨h,b,f,l,rz,ps,ds,L,C',rfl,hh,nr,h0,h1,h2,h3,lr,eb,k⟩:=h;walk_at"g2";rfl
 ·walk_at"g1";obtain⟨h,b,f,l,rz,ps,ds,L,C',rfl,hh,nr,h0,h1,h2,h3,lr,eb,k⟩:=h;walk_at"g2";have nd:=sc_full_faults.nd;have hu0:=Room.units0 hr;have hu1:=Room.units1 hr;have w_dc_House:=m.bG;have w_mc_House_pairs:= @kF P w K mg base m;have w_mc_House_holds:= @qF P w K mg base m;refine⟨_,(aE (bF (d9 (N:=["room","turn","inside","house"]) (nl:=2) (ci:=[1,0]) rfl (blk (s.heap.objs.size+1) rfl rfl rfl (by kernel_rfl)) (bV (gJ 1 hr (pv 0))) (fun _ _ _ _=>(k4 (K:=K) (n:=2) rfl (bB (aM (i:=0) (show (["room","turn","inside","house"]:List Str).Nodup by decide +kernel) rfl (by walk_at"oi")) (bB (aM (i:=1) (show (["room","turn","inside","house"]:List Str).Nodup by decide +kernel) rfl (by walk_at"oi")) dN)))) (fun _ _ _ _=>(lX (bH o7 (iE hu1 (pv 2) (cI (aA (pv 0) (aA (pv 1) aD))) (fun _ _=>rfl)) (DL (P:=P) (w:=w) (K:=K) (mg:=mg) (base:=base) 3 hr (pv 3) (aA (pv 0) aD)) (bM _)))) (fun _ _ _ _=>(cI (aA (pv 1) (aA c3 (aA (pv 0) aD)))))))),?_⟩;refine aR (σ:=[some (.ref h),some (.ref b)]) rfl ?_;walk_at"cx";walk_at"g1";obtain⟨dx,qs,qp,qd,nk,kvs0,e1,_⟩:=hh.ex;walk_at"g2";walk_at"go";refine yR hh h0 h1 h2 h3 lr fun p2 ys H2 n2 S2 f2 hys=> ?_;have hpn:(bC rz f (l+1 - f).toNat).length<=20100:=o6 lr (by lia);have eb2:=S2 _ _ eb;have hh2:=aY hh S2;have e12:=S2 _ _ e1;walk_at"go";refine qH (α:=Str×Int) (xs:=bC rz f (l+1 - f).toNat) (vs:=ys) (fun x=> .str x.1) (fun x=> .int x.2) (fuB rz ps L C' f) (fun x y H=>∃q,y= .ref q/\H q=some (.tup ((flK "full" x).map kV))) (fun _ _ _ _ ⟨q,h1,h2⟩ s=>⟨q,h1,s _ _ h2⟩) (by rw[sizeLine_eq];lia) (rest:=[some (.ref b),some (.ref h)]) (by rfl) (SqL.of f2) hys ?_ ?_ ?_
  ·rintro ⟨z,u⟩ H5 hx1 s5 R hR;walk_at"g1";obtain⟨hz,i,hi,hu⟩:=pairsN_mem.mp hx1;walk_at"g2";walk_at"g1";obtain⟨⟨ez,ej⟩,he,hez⟩:=List.mem_map.mp hz;walk_at"g2";have hez:ez=z:=hez;subst hez;have eb5:=s5 _ _ eb2;have e15:=s5 _ _ e12;have hpi:=v6 (ps:=ps) (L:=L) (C:=C') (f:=f) (hJ nr f (l+1 - f).toNat) hx1;have hsz:szF rz ez=ej:=uK nr he;unfold fuB at hR;simp only[hsz]at hR;show (_:TT) (some (V.str ez)::some (V.int u)::[some (.ref b),some (.ref h)]) H5 R;walk_at"go";rename_i b7 H7 n7 S7 e7;refine rB (bT (ez,u)) (.inl (S7 _ _ eb5)) e7 hpi ?_;have e17:=S7 _ _ e15;walk_at"go";refine G9 (aY hh2 (s5.trans S7)) nr he fun H8 S8=> ?_;walk_at"go";exact hR _ (S7.trans S8)
  ·rintro ⟨z,u⟩ H5 hx hcc s5 R hR;show (_:TE) (some (V.str z)::some (V.int u)::[some (.ref b),some (.ref h)]) H5 R;walk_at"go";rename_i b6 H6 n6 S6 e6;exact hR _ _ ⟨b6,rfl,e6⟩ S6
  intro ws H5 s5 hws;have kr:KRows H5 ws (ffK rz ps L C' f l):=kR (flK "full") hws;walk_at"go";rename_i p6 H6 n6 S6 e6;refine k p6 ws H6 ?_ (S2.trans (s5.trans S6)) e6 (kr.same S6);cases hq:H p6 with
  | none=>rfl
  | some u =>
   have:=(S2.trans s5) _ _ hq;rw[n6]at this;cases this
theorem yJ (m:M K mg):Fc P w K mg base "full_faults" 5 ["house","inside"] (uX m.aH (aW P w K mg base (some 1))):=⟨_,_,m.BU,m.i3.kp,m.BN,y0 m⟩
inductive tQ (K:W.Frag)(C:Addr)(D:bA)(vs:List V)(H:Hp)(Q:VK)(E:XK):Prop
 | mk (h a:Addr) (f l:Int) (rz ps:List (Str×Int)) (ds:List aG) (us:List V) (rows:List aN) (_:vs=[.ref h,.ref a]) (_:aV C D H h f l rz ps ds) (_:(rz.map (·.1)).Nodup) (_:(ds.map (·.1)).Nodup) (_:(∀d∈ds,d5 (rz.map (·.1)) d)) (_:0<=f) (_:f<=l) (_:l<1000000000000) (_:l - f<=1000) (_:rz.length<=20) (_:ds.length<=20) (_:SqL K H a us) (_:b5 H us rows) (_:rows.length<=200) (_:∀p ws H',H p=none->Same H H'->H' p=some (.lst ws)->KRows H' ws (gT (fN rz ps ds f l rows))->Q (.ref p) H'):tQ K C D vs H Q E
theorem ZP {C:Addr}{D:bA}{H:Hp}{Q:VK}{E:XK}{h a:Addr}{f l:Int}{rz ps:List (Str×Int)}{ds:List aG}{us:List V}{rows:List aN} (hh:aV C D H h f l rz ps ds) (nr:(rz.map (·.1)).Nodup) (nd:(ds.map (·.1)).Nodup) (hin:∀d∈ds,d5 (rz.map (·.1)) d) (h0:0<=f) (h1:f<=l) (h2:l<1000000000000) (h3:l - f<=1000) (lr:rz.length<=20) (ld:ds.length<=20) (hS:SqL K H a us) (hp:b5 H us rows) (hl:rows.length<=200) (k:∀p ws H',H p=none->Same H H'->H' p=some (.lst ws)->KRows H' ws (gT (fN rz ps ds f l rows))->Q (.ref p) H'):tQ K C D [.ref h,.ref a] H Q E:=⟨_,_,_,_,_,_,_,_,_,rfl,hh,nr,nd,hin,h0,h1,h2,h3,lr,ld,hS,hp,hl,k⟩
theorem K6 (m:M K mg):bI P w K mg base CX0 10 m.w5 m.wR ["house","plan"] (tQ K m.aH (aW P w K mg base (some 1))):=by
 refine m.k8.ok sc_faults (fun vs H Q E h=> ?_) (fun cdv A outer s H vs Q E hr h=> ?_)
 ·walk_at"g1";obtain⟨h,a,f,l,rz,ps,ds,us,rows,rfl,hh,nr,ndd,hin,h0,h1,h2,h3,lr,ld,hS,hpl,hlen,k⟩:=h;walk_at"g2";rfl
 ·walk_at"g1";obtain⟨h,a,f,l,rz,ps,ds,us,rows,rfl,hh,nr,ndd,hin,h0,h1,h2,h3,lr,ld,hS,hpl,hlen,k⟩:=h;walk_at"g2";have nd:=sc_faults.nd;have hu0:=Room.units0 hr;have hu1:=Room.units1 hr;have iZ:= @yP P w K mg base m;have i3:= @yJ P w K mg base m;have iH:= @xJ P w K mg base m;have u8:= @PV P w K mg base m;have w_dc_House:=m.bG;refine⟨_,(aC (aX (i:=2) nd rfl (by walk_at"oi") (bR u8 hr (aA (pv 0) (aA (pv 1) aD))))
   (aE (bF (cB A7 rfl m.EY AV (aA (aL DY (aL DY (bR iZ hr (aA (pv 0) (aA (pv 1) aD))) (bR iH hr (aA (pv 0) (aA (pv 1) (aA (pv 2) aD))))) (bR i3 hr (aA (pv 0) (aA (pv 2) aD)))) aD))))),?_⟩
  refine aR (σ:=[some (.ref h),some (.ref a),none]) rfl ?_;walk_at"cx";have hpn:(bC rz f (l+1 - f).toNat).length<=20100:=o6 lr (by lia);have ln1:=GL ds f l rows;walk_at"go";refine⟨_,_,_,_,_,_,_,_,_,rfl,hh,nr,ndd,hin,h0,h1,h2,h3,lr,hS,hpl,hlen,fun p1 H1 n1 S1 e1=> ?_⟩;walk_at"go";refine V2 (aY hh S1) ndd h0 ld (S1.seq hS) (d8 hpl S1) hlen fun p2 y2 H2 n2 S2 e2 k2=> ?_;have s02:=S1.trans S2;walk_at"go";refine X6 (aY hh s02) nr ndd hin h0 h1 h2 h3 lr (s02.seq hS) (d8 hpl s02) hlen (S2 _ _ e1) fun p3 y3 H3 n3 S3 e3 k3=> ?_;have s03:=s02.trans S3;have l2:y2.length=_:=Paired.length k2;have l3:y3.length<=20100:=Nat.le_trans (Nat.le_of_eq (Paired.length k3)) (GW hpn);walk_at"go";refine GM (S3 _ _ e2) e3 (by rw[sizeLine_eq];lia) fun p4 H4 n4 S4 e4=> ?_;have s04:=s03.trans S4;walk_at"go";refine VR (aY hh s04) nr h0 h1 h2 h3 lr ((S2.trans (S3.trans S4)) _ _ e1) fun p5 y5 H5 n5 S5 e5 k5=> ?_;have l5:y5.length<=20100:=Nat.le_trans (Nat.le_of_eq (Paired.length k5)) (GU hpn);walk_at"go";rename_i p6 H6 n6 S6 e6;have s06:=s04.trans (S5.trans S6);have kr:KRows H6 (y2++y3++y5) (fN rz ps ds f l rows):=mX (mX (k2.same (S3.trans (S4.trans (S5.trans S6)))) (k3.same (S4.trans (S5.trans S6)))) (k5.same S6);refine K5 (SqL.of e6) kr (xM nr ds f l rows) (xI nr ds f l rows) (by decide) fun p7 ws H7 n7 S7 e7 hws=> ?_;refine k p7 ws H7 ?_ (s06.trans S7) e7 hws;cases hq:H p7 with
  | none=>rfl
  | some u =>
   have:=s06 _ _ hq;rw[n7]at this;cases this
theorem JV (m:M K mg):Fc P w K mg base "faults" 10 ["house","plan"] (tQ K m.aH (aW P w K mg base (some 1))):=⟨_,_,m.P9,m.k8.kp,m.QD,K6 m⟩
local macro_rules| `(tactic| walk_at"rd1")=> `(tactic| first|(with_reducible refine RH ?_)|(with_reducible refine rd_clearT ?_)|(with_reducible refine OY ?_)|((with_reducible refine' KB ?e ?_);(case e=>walk_at"hp"))|((with_reducible refine' rd_isiDT ?e ?_);(case e=>walk_at"hp")))
def rK (ns:List Int)(k:Int):Int:=ns.getD k.toNat 0
inductive uW (K:W.Frag)(vs:List V)(H:Hp)(Q:VK)(E:XK):Prop
 | mk (a:Addr) (ns:List Int) (k:Int) (_:vs=[.ref a,.int k]) (_:SqL K H a (ns.map V.int)) (_:0<=k) (_:Q (.int (rK ns k)) H):uW K vs H Q E
theorem W5 {H:Hp}{Q:VK}{E:XK}{a:Addr}{ns:List Int}{i:Int} (hS:SqL K H a (ns.map V.int)) (hi:0<=i) (h:Q (.int (rK ns i)) H):uW K [.ref a,.int i] H Q E:=⟨_,_,_,rfl,hS,hi,h⟩
theorem x0 (m:M K mg):bI P w K mg base CX0 1 m.lJ m.lH ["_law_script","_law_k"] (uW K):=by
 refine m.eB.ok sc__law_cell_at (fun vs H Q E h=> ?_) (fun cdv A outer s H vs Q E hr h=> ?_)
 ·walk_at"g1";obtain⟨a,ns,i,rfl,hS,hi,k⟩:=h;walk_at"g2";rfl
 ·walk_at"g1";obtain⟨a,ns,i,rfl,hS,hi,k⟩:=h;walk_at"g2";have nd:=sc__law_cell_at.nd;have hu0:=Room.units0 hr;have hu1:=Room.units1 hr;refine⟨_,(aC (cG (bH jT (pv 1) (cB jH rfl m.sQ nT (aA (pv 0) aD)) (bM _)) (aE (bF (dJ gK (pv 0) (pv 1) (fun _ _=>rfl)))) bQ)
   (aE (bF aF))),?_⟩
  refine aR (σ:=[some (.ref a),some (.int i)]) rfl ?_;walk_at"cx";walk_at"go";rw[List.length_map];refine cS (fun h1=> ?_) (fun h1=> ?_)
  ·have hlt:i.toNat<ns.length:=by lia
   have e:=u5 (xs:=ns.map V.int) (j:=i.toNat) (v:= .int (rK ns i)) (by
    rw[List.getElem?_map,List.getElem?_eq_getElem hlt];unfold rK;rw[List.getD_eq_getElem?_getD,List.getElem?_eq_getElem hlt];rfl)
   rw[show ((i.toNat:Nat):Int)=i by lia]at e;exact⟨_,rfl,_,rfl,a,_,i,_,rfl,rfl,hS,e,k⟩
  ·have e:rK ns i=0:=by
    unfold rK;rw[List.getD_eq_getElem?_getD,List.getElem?_eq_none (by lia)];rfl
   rw[e]at k;exact k
theorem xK (m:M K mg):Fc P w K mg base "_law_cell_at" 1 ["_law_script","_law_k"] (uW K):=⟨_,_,m.zX,m.eB.kp,m.zS,x0 m⟩
inductive rV (vs:List V)(H:Hp)(Q:VK)(E:XK):Prop
 | mk (c k:Int) (_:vs=[.int c,.int k]) (_:∀n,0<=n->n<2147483648->Q (.int n) H):rV vs H Q E
theorem T9 {H:Hp}{Q:VK}{E:XK}{c k:Int} (h:∀n,0<=n->n<2147483648->Q (.int n) H):rV [.int c,.int k] H Q E:=⟨_,_,rfl,h⟩
theorem A3 (m:M K mg):bI P w K mg base CX0 1 m.oQ m.nY ["_law_cell","_law_k"] (rV):=by
 refine m.fY.ok sc__law_drawn (fun vs H Q E h=> ?_) (fun cdv A outer s H vs Q E hr h=> ?_)
 ·walk_at"g1";obtain⟨c,j,rfl,k⟩:=h;walk_at"g2";rfl
 ·walk_at"g1";obtain⟨c,j,rfl,k⟩:=h;walk_at"g2";have nd:=sc__law_drawn.nd;have hu0:=Room.units0 hr;have hu1:=Room.units1 hr;refine⟨_,(aC (aX (i:=2) nd rfl (by walk_at"oi") (aL b9 (aL EC (aL c7 (aL c7 (pv 0) (aL EC aF (pv 1))) aF) aF) aF))
   (aE (bF (aL b9 (aL EC (pv 2) (aL c7 (aL cF (pv 2) aF) aF)) aF)))),?_⟩
  refine aR (σ:=[some (.int c),some (.int j),none]) rfl ?_;walk_at"cx";walk_at"go";refine k _ ?_ ?_
  ·exact Int.emod_nonneg _ (by decide)
  ·exact Int.lt_trans (Int.emod_lt_of_pos _ (by decide)) (by decide)
theorem sV (m:M K mg):Fc P w K mg base "_law_drawn" 1 ["_law_cell","_law_k"] (rV):=⟨_,_,m.FE,m.fY.kp,m.E3,A3 m⟩
local macro_rules| `(tactic| walk_at"rd1")=> `(tactic| first|(with_reducible refine r_lwhole ?_)|((with_reducible refine' W5 ?e ?s ?_);(case e=>walk_at"hp");(case s=>walk_at"sd"))|((with_reducible refine T9 ?_);intro n' h0' h1'))
theorem SD {H:Hp}{p dx:Addr}{n st:Str}{e:V}{wd:Int} (m:M K mg) (h:H p=some (.ins m.fX dx (qL (.str n) (.str st) e (.int wd)))):(aW P w K mg base (some 1)).at' H (.ref p) (n,st,e,fun _=>wd) :=
 ⟨p,_,dx,_,[],rfl,h,m.qR,by walk_at"lk",by walk_at"lk",by walk_at"lk",by walk_at"lk",by walk_at"lk",yB m,(fun _ z=>nomatch z),fun kl hk=>by
  cases hk;exact⟨_,EF m,fun H' t Q hp _ ht k=>FQ hp m.qR (by walk_at"lk") (k _ (Same.refl _))⟩⟩
theorem NW {H:Hp}{p dx:Addr}{n st:Str}{e:V}{wd i0:Int} (m:M K mg) (b0:0<=i0) (h:H p=some (.ins m.gM dx (uL (.str n) (.str st) e (.int wd) (.int i0)))):(aW P w K mg base (some 1)).at' H (.ref p) (n,st,e,xX wd i0) :=
 ⟨p,_,dx,_,[],rfl,h,m.oJ,by walk_at"lk",by walk_at"lk",by walk_at"lk",by walk_at"lk",by walk_at"lk",wA m,(fun _ z=>nomatch z),fun kl hk=>by
  cases hk;exact⟨_,BA m,fun H' t Q hp _ ht k=>t9 hp m.oJ (by walk_at"lk") (by walk_at"lk") ht b0 (k _ (Same.refl _))⟩⟩
theorem JZ {H:Hp}{p dx:Addr}{n st:Str}{e:V}{wd i0:Int} (m:M K mg) (b0:0<=i0) (h:H p=some (.ins m.fK dx (rN (.str n) (.str st) e (.int wd) (.int i0)))):(aW P w K mg base (some 1)).at' H (.ref p) (n,st,e,u0 wd i0) :=
 ⟨p,_,dx,_,[],rfl,h,m.l7,by walk_at"lk",by walk_at"lk",by walk_at"lk",by walk_at"lk",by walk_at"lk",vA m,(fun _ z=>nomatch z),fun kl hk=>by
  cases hk;exact⟨_,zB m,fun H' t Q hp _ ht k=>sU hp m.l7 (by walk_at"lk") (by walk_at"lk") ht b0 (k _ (Same.refl _))⟩⟩
def ltr (x:Str)(i:Nat):Str:=⟨#[x.cps.toList.getD i 0]⟩
theorem JW {x:Str}{i:Int} (h0:0<=i) (h1:i<x.cps.toList.length):atI x.cps.toList i=some (x.cps.toList.getD i.toNat 0):=by
 have e:=u5 (xs:=x.cps.toList) (j:=i.toNat) (v:=x.cps.toList.getD i.toNat 0) (by rw[List.getD_eq_getElem?_getD,List.getElem?_eq_getElem (by lia)];rfl);rw[show ((i.toNat:Nat):Int)=i by lia]at e;exact e
theorem yI {l:List Nat}{i:Nat} (h:i<l.length):l.getD i 0=l[i]:=by rw[List.getD_eq_getElem?_getD,List.getElem?_eq_getElem h];rfl
theorem D0 {x:Str}(hl:tR x=true){i:Nat}(h1:i<x.cps.toList.length):bN (ltr x i)=true:=by
 refine N5 (show 1<=1 from Nat.le_refl _) (show 1<=8 by decide) (NQ hl ?_);rw[yI h1];exact List.getElem_mem h1
theorem tK {x:Str}(hx:x.cps.toList.Nodup){n:Nat}(hn:n<=x.cps.toList.length):((List.range n).map (ltr x)).Nodup:=by
 rw[List.Nodup,List.pairwise_map];refine List.Pairwise.imp_of_mem ?_ (List.nodup_range (n:=n));intro a b ha hb hne z;have ha:=List.mem_range.mp ha;have hb:=List.mem_range.mp hb;have e:=UE z;rw[yI (by lia),yI (by lia)]at e;have pw:=List.pairwise_iff_getElem.mp hx;rcases Nat.lt_or_gt_of_ne hne with h|h
 ·exact pw a b (by lia) (by lia) h e
 ·exact pw b a (by lia) (by lia) h e.symm
theorem SK {α:Type}(nm:α->Str)(sz pp:α->Int):∀{l:List α},(l.map nm).Nodup->(∀i∈l,0<=pp i/\pp i<=sz i)->rO (l.map fun i=>(nm i,sz i)) (l.map fun i=>(nm i,pp i)):=fun {l} nd h=>by
 refine⟨fun p hp=> ?_,fun e he=> ?_⟩
 ·obtain⟨e,he,rfl⟩:=List.mem_map.mp hp;exact(h e he).1
 ·obtain⟨j,hj,rfl⟩:=List.mem_map.mp he;have key:∀l:List α,(l.map nm).Nodup->j∈l->gR (l.map fun i=>(nm i,pp i)) (nm j)=pp j:=fun l=>by
   induction l with
   | nil=>exact fun _ h=>nomatch h
   | cons a l ih =>
    intro nd hm;have nd':=List.nodup_cons.mp nd;have hz:∀l:List α,nm a∉l.map nm->gR (l.map fun i=>(nm i,pp i)) (nm a)=0:=fun l=>by
     induction l with
     | nil=>exact fun _=>rfl
     | cons b l ih =>
      intro hn;rw[List.map_cons,List.mem_cons,not_or]at hn;have:=ih hn.2;unfold gR at this ⊢;rw[List.map_cons,List.filter_cons_of_neg (by simpa using fun z=>hn.1 z.symm),this]
    rcases List.mem_cons.mp hm with h|h
    ·subst h;have:=hz l nd'.1;unfold gR at this ⊢;rw[List.map_cons,List.filter_cons_of_pos (by simp),List.map_cons,List.sum_cons,this];exact Int.add_zero _
    ·have hne:¬nm a=nm j:=fun z=>nd'.1 (show nm a∈_ by rw[z];exact List.mem_map.mpr ⟨j,h,rfl⟩);have:=ih nd'.2 h;unfold gR at this ⊢;rw[List.map_cons,List.filter_cons_of_neg (by simpa using hne),this]
  show gR _ (nm j)<=sz j;rw[key l nd hj];exact(h j hj).2
inductive qX (K:W.Frag)(D:bA)(vs:List V)(H:Hp)(Q:VK)(E:XK):Prop
 | mk (n:Str) (a:Addr) (ws:List V) (rz:List (Str×Int)) (dd f:Int) (_:vs=[.str n,.ref a,.int dd,.int f]) (_:bN n=true) (_:SqL K H a ws) (_:RoomsAt H ws rz) (_:(∀e∈rz,bN e.1=true)) (_:0<rz.length) (_:0<=dd) (_:0<=f) (_:∀v d H',Same H H'->D.at' H' v d->d.1=n->d5 (rz.map (·.1)) d->Q v H'):qX K D vs H Q E
theorem SE {D:bA}{H:Hp}{Q:VK}{E:XK}{n:Str}{a:Addr}{ws:List V}{rz:List (Str×Int)}{dd f:Int} (hn:bN n=true) (hS:SqL K H a ws) (hr:RoomsAt H ws rz) (hnm:∀e∈rz,bN e.1=true) (h0:0<rz.length) (hd:0<=dd) (hf:0<=f) (k:∀v d H',Same H H'->D.at' H' v d->d.1=n->d5 (rz.map (·.1)) d->Q v H'):qX K D [.str n,.ref a,.int dd,.int f] H Q E:=⟨_,_,_,_,_,_,rfl,hn,hS,hr,hnm,h0,hd,hf,k⟩
theorem DP (m:M K mg):bI P w K mg base CX0 6 m.pV m.pS ["_law_name","_law_rooms","_law_draw","_law_first"] (qX K (aW P w K mg base (some 1))):=by
 refine m.lU.ok sc__law_door (fun vs H Q E h=> ?_) (fun cdv A outer s H vs Q E hr h=> ?_)
 ·walk_at"g1";obtain⟨n,a,ws,rz,dd,f,rfl,hn,hS,hra,hnm,hz0,hd,hf,k⟩:=h;walk_at"g2";rfl
 ·walk_at"g1";obtain⟨n,a,ws,rz,dd,f,rfl,hn,hS,hra,hnm,hz0,hd,hf,k⟩:=h;walk_at"g2";have nd:=sc__law_door.nd;have hu0:=Room.units0 hr;have hu1:=Room.units1 hr;have K_Door_0:= @JT P w K mg base m;have K_Marked_0:= @FI P w K mg base m;have K_Until_0:= @IR P w K mg base m;have w_dc_Door:=m.qR;have w_dc_Until:=m.oJ;have w_dc_Marked:=m.l7;refine⟨_,(aC (aX (i:=4) nd rfl (by walk_at"oi") (dJ xZ (dJ gK (pv 1) (aL b9 (pv 2) (cB jH rfl m.sQ nT (aA (pv 1) aD))) (fun _ _=>rfl)) aF (fun _ _=>rfl)))
   (aC (aX (i:=5) nd rfl (by walk_at"oi") (dJ gK (fQ (aA DE (aA (dJ xZ (dJ gK (pv 1) (aL b9 (aL cF (pv 2) aF) (cB jH rfl m.sQ nT (aA (pv 1) aD))) (fun _ _=>rfl)) aF (fun _ _=>rfl)) (aA (dJ xZ (dJ gK (pv 1) (aL b9 (aL cF (pv 2) aF) (cB jH rfl m.sQ nT (aA (pv 1) aD))) (fun _ _=>rfl)) aF (fun _ _=>rfl)) aD)))) (aL b9 (aL cF (pv 2) aF) aF) (fun _ _=>rfl)))
   (aC (aX (i:=6) nd rfl (by walk_at"oi") (aL b9 (aL cF (pv 2) aF) aF))
   (aC (cG (bH o8 (aL b9 (aL cF (pv 2) aF) aF) aF (bM _)) (aE (bF (CB K_Until_0 hr (aA (pv 0) (aA (pv 4) (aA (pv 5) (aA (pv 6) (aA (aL c7 (pv 3) (aL b9 (aL cF (pv 2) aF) aF)) aD)))))))) bQ)
   (aC (cG (bH o8 (aL b9 (aL cF (pv 2) aF) aF) aF (bM _)) (aE (bF (CB K_Marked_0 hr (aA (pv 0) (aA (pv 4) (aA (pv 5) (aA (pv 6) (aA (aL cF (pv 2) aF) aD)))))))) bQ)
   (aE (bF (CB K_Door_0 hr (aA (pv 0) (aA (pv 4) (aA (pv 5) (aA (pv 6) aD)))))))))))),?_⟩
  refine aR (σ:=[some (.str n),some (.ref a),some (.int dd),some (.int f),none,none,none]) rfl ?_;walk_at"cx";have hwl:ws.length=rz.length:=Paired.length hra;have hmem:∀{H':Hp},RoomsAt H' ws rz->∀v∈ws,∃z i q,v= .ref q/\H' q=some (.tup [.str z,.int i])/\z∈rz.map (·.1)/\bN z=true:=fun hr v hv=>by
   walk_at"g1";obtain⟨z,i,q,e1,e2,e3⟩:=PN hr hv;walk_at"g2";exact⟨z,i,q,e1,e2,List.mem_map.mpr ⟨_,e3,rfl⟩,hnm _ e3⟩
  walk_at"go";rename_i ha0 ha1;refine nK hS ha0 ha1 fun v1 hv1=> ?_;walk_at"g1";obtain⟨z1,j1,q1,rfl,hq1,hz1,hb1⟩:=hmem hra v1 hv1;walk_at"g2";walk_at"go";refine⟨q1,_,0,_,rfl,rfl,SqT.of hq1,rfl,?_⟩;walk_at"go";rename_i hc0 hc1;refine nK hS hc0 hc1 fun v2 hv2=> ?_;walk_at"g1";obtain⟨z2,j2,q2,rfl,hq2,hz2,hb2⟩:=hmem hra v2 hv2;walk_at"g2";walk_at"go";refine⟨q2,_,0,_,rfl,rfl,SqT.of hq2,rfl,?_⟩;walk_at"go";rename_i he0 he1;refine nK hS he0 he1 fun v3 hv3=> ?_;walk_at"g1";obtain⟨z3,j3,q3,rfl,hq3,hz3,hb3⟩:=hmem hra v3 hv3;walk_at"g2";walk_at"go";refine⟨q3,_,0,_,rfl,rfl,SqT.of hq3,rfl,?_⟩;walk_at"go";rename_i pE H4 n4 S4 eE;refine nK (SqL.of eE) (by lia) (by show _<(3:Int);lia) fun v hv=> ?_;have hve:lO v/\(v= .non∨∃z,v= .str z/\z∈rz.map (·.1)):=by
   simp only[List.mem_cons,List.not_mem_nil,or_false]at hv;rcases hv with rfl|rfl|rfl
   ·exact⟨.inl rfl,.inl rfl⟩
   ·exact⟨.inr ⟨_,rfl,hb2⟩,.inr ⟨_,rfl,hz2⟩⟩
   ·exact⟨.inr ⟨_,rfl,hb3⟩,.inr ⟨_,rfl,hz3⟩⟩
  obtain⟨hve,hvi⟩:=hve;walk_at"go";refine cS (fun h0=> ?_) (fun h0=> ?_)
  ·walk_at"go";rename_i p dx H5 n5 S5 e5;exact k _ _ _ (S4.trans S5) (NW (P:=P) (w:=w) (base:=base) m (by lia) e5) rfl ⟨hz1,hvi⟩
  walk_at"go";refine cS (fun h1=> ?_) (fun h1=> ?_)
  ·walk_at"go";rename_i p dx H5 n5 S5 e5;exact k _ _ _ (S4.trans S5) (JZ (P:=P) (w:=w) (base:=base) m (by lia) e5) rfl ⟨hz1,hvi⟩
  walk_at"go";rename_i p dx H5 n5 S5 e5;exact k _ _ _ (S4.trans S5) (SD (P:=P) (w:=w) (base:=base) m e5) rfl ⟨hz1,hvi⟩
theorem EL (m:M K mg):Fc P w K mg base "_law_door" 6 ["_law_name","_law_rooms","_law_draw","_law_first"] (qX K (aW P w K mg base (some 1))):=⟨_,_,m.GB,m.lU.kp,m.F5,DP m⟩
theorem U6:("mnabc" :Str).cps.toList.length=5:=by decide +kernel
theorem W9:("stqrnxu" :Str).cps.toList.length=7:=by decide +kernel
theorem W7:tR "mnabc" =true:=by decide +kernel
theorem V0:tR "stqrnxu" =true:=by decide +kernel
theorem QG:("mnabc" :Str).cps.toList.Nodup:=by decide +kernel
theorem ZD:("stqrnxu" :Str).cps.toList.Nodup:=by decide +kernel
def iC (c:Int)(i:Nat):Str×Int:=(ltr "mnabc" i,c/(7+(i:Int))%9)
def D3 (c:Int)(i:Nat):Str×Int:=(ltr "mnabc" i,c/((i:Int)+3)%(c/(7+(i:Int))%9+1))
structure nU (rz ps:List (Str×Int))(ds:List aG)(f l:Int):Prop where
 nr:(rz.map (·.1)).Nodup
 nd:(ds.map (·.1)).Nodup
 hin:∀d∈ds,d5 (rz.map (·.1)) d
 fit:rO rz ps
 lr:rz.length<=5
 ld:ds.length<=7
 f0:0<=f
 f1:f+2<=l
 f2:l<=f+8
 f3:f<100000000000
inductive oW (K:W.Frag)(C:Addr)(D:bA)(vs:List V)(H:Hp)(Q:VK)(E:XK):Prop
 | mk (a:Addr) (ns:List Int) (_:vs=[.ref a]) (_:SqL K H a (ns.map V.int)) (_:∀h H' f l rz ps ds,Same H H'->aV C D H' h f l rz ps ds->nU rz ps ds f l->Q (.ref h) H'):oW K C D vs H Q E
theorem NV {C:Addr}{D:bA}{H:Hp}{Q:VK}{E:XK}{a:Addr}{ns:List Int} (hS:SqL K H a (ns.map V.int)) (k:∀h H' f l rz ps ds,Same H H'->aV C D H' h f l rz ps ds->nU rz ps ds f l->Q (.ref h) H'):oW K C D [.ref a] H Q E:=⟨_,_,rfl,hS,k⟩
theorem BF (m:M K mg):bI P w K mg base CX0 8 m.oM m.nX ["_law_script"] (oW K m.aH (aW P w K mg base (some 1))):=by
 refine m.kA.ok sc__law_house (fun vs H Q E h=> ?_) (fun cdv A outer s H vs Q E hr h=> ?_)
 ·walk_at"g1";obtain⟨a,ns,rfl,hS,k⟩:=h;walk_at"g2";rfl
 ·walk_at"g1";obtain⟨a,ns,rfl,hS,k⟩:=h;walk_at"g2";have nd:=sc__law_house.nd;have hu0:=Room.units0 hr;have hu1:=Room.units1 hr;have eB:= @xK P w K mg base m;have lU:= @EL P w K mg base m;have fY:= @sV P w K mg base m;have K_House_0:= @HL P w K mg base m;have w_dc_House:=m.bG;refine⟨_,(aC (aX (i:=1) nd rfl (by walk_at"oi") (bR eB hr (aA (pv 0) (aA aF aD))))
   (aC (aX (i:=2) nd rfl (by walk_at"oi") (d9 (N:=["_law_k","_law_cell"]) (nl:=1) (ci:=[1]) rfl (blk (s.heap.objs.size+1) rfl rfl rfl (by kernel_rfl)) (tJ rfl m.qT (aA (aL c7 aF (aL b9 (pv 1) aF)) aD)) (fun _ _ _ _=>(aM (i:=0) (show (["_law_k","_law_cell"]:List Str).Nodup by decide +kernel) rfl (by walk_at"oi"))) (fun _ _ _ _=>jW) (fun _ _ _ _=>(cI (aA (dJ MS c3 (pv 0) (fun _ _=>rfl)) (aA (aL b9 (aL cF (pv 1) (aL c7 aF (pv 0))) aF) aD))))))
   (aC (aX (i:=3) nd rfl (by walk_at"oi") (dJ gK (fQ (aA aF (aA aF (aA aF (aA (aL b9 (aL cF (pv 1) aF) (GV 100000000000 (by decide) ⟨by decide,by decide,by decide⟩)) aD))))) (aL b9 (aL cF (pv 1) aF) aF) (fun _ _=>rfl)))
   (aC (aX (i:=4) nd rfl (by walk_at"oi") (fQ aD))
   (aC (d4 PassesOwn.never rfl (tJ rfl m.qT (aA (aL b9 (bR eB hr (aA (pv 0) (aA aF aD))) aF) aD)) (aM (i:=5) nd rfl (by walk_at"oi")) (aE (bX (uN PySem.F.plainAttrs_list PySem.F.slot_list_append PySem.F.type_list_append jI (pv 4) (aA (bR lU hr (aA (dJ MS c3 (pv 5) (fun _ _=>rfl)) (aA (pv 2) (aA (bR fY hr (aA (bR eB hr (aA (pv 0) (aA aF aD))) (aA (pv 5) aD))) (aA (pv 3) aD))))) aD)))))
   (aC (mY (i:=6) nd rfl (by walk_at"oi") (N:=["_law_k","_law_rooms","_law_cell"]) (nl:=1) (ci:=[2,1]) rfl (blk (s.heap.objs.size+1) rfl rfl rfl (by kernel_rfl)) (tJ rfl m.qT (aA (cB jH rfl m.sQ nT (aA (pv 2) aD)) aD)) (fun _ _ _ _=>(aM (i:=0) (show (["_law_k","_law_rooms","_law_cell"]:List Str).Nodup by decide +kernel) rfl (by walk_at"oi"))) (fun _ _ _ _=>jW) (fun _ _ _ _=>(cI (aA (dJ (qN (K:=K)) (dJ (DJ (K:=K)) (pv 1) (pv 0) (fun _ _=>rfl)) aF (fun _ _=>rfl)) (aA (aL b9 (aL cF (pv 2) (aL c7 (pv 0) aF)) (aL c7 (dJ (qN (K:=K)) (dJ (DJ (K:=K)) (pv 1) (pv 0) (fun _ _=>rfl)) aF (fun _ _=>rfl)) aF)) aD)))))
   (aE (bF (CB K_House_0 hr (aA (pv 2) (aA (pv 4) (aA (pv 6) (aA (aL c7 (aL c7 (pv 3) aF) (aL b9 (aL cF (pv 1) aF) aF)) (aA (pv 3) aD)))))))))))))),?_⟩
  refine aR (σ:=[some (.ref a),none,none,none,none,none,none]) rfl ?_;walk_at"cx";have hl5:("mnabc" :Str).length=5:=by rw[bS];rfl
  have hl7:("stqrnxu" :Str).length=7:=by rw[bS];rfl
  have hc5:=U6;have hc7:=W9;walk_at"go";generalize hcc:rK ns 0=c0;refine LA (fun i y H=>bY H y (iC c0 i)) (fun _ _ _ _ ⟨q,e,h⟩ s=>⟨q,e,s _ _ h⟩) (by rw[sizeLine_eq];lia) (rest:=[some (.int c0)]) (by rfl) ?_ ?_
  ·intro i H1 hi s1 R hR;walk_at"go";rw[Int.zero_add];refine⟨_,_,_,rfl,rfl,(by walk_at"sz"),JW (by lia) (by lia),?_⟩;walk_at"go";rename_i q2 H2 n2 S2 e2;exact hR _ _ ⟨q2,rfl,by rw[e2];rfl⟩ S2
  intro ws H1 s1 hws;generalize hne:(1+c0%5).toNat=n at hws;have hn0:0<n:=by lia
  have hn5:n<=5:=by lia
  have hra:RoomsAt H1 ws ((List.range n).map (iC c0)):=kR (iC c0) hws;have hwl:ws.length=n:=by rw[Paired.length hra,List.length_map,List.length_range]
  have hrn:((List.range n).map (iC c0)).map (·.1)=(List.range n).map (ltr "mnabc"):=by rw[List.map_map];rfl
  have hnr:(((List.range n).map (iC c0)).map (·.1)).Nodup:=by rw[hrn];exact tK QG (by lia)
  have hnm:∀e∈(List.range n).map (iC c0),bN e.1=true:=fun e he=>by
   obtain⟨i,hi,rfl⟩:=List.mem_map.mp he;exact D0 W7 (by have:=List.mem_range.mp hi;lia)
  walk_at"go";rename_i pW H2 n2 S2 eW pF H3 n3 S3 eF;refine nK (SqL.of eF) (by lia) (by show _<(4:Int);lia) fun vf hvf=> ?_;obtain⟨f,rfl,hf0,hf1⟩:∃f,vf= .int f/\0<=f/\f<100000000000:=by
   simp only[List.mem_cons,List.not_mem_nil,or_false]at hvf;rcases hvf with rfl|rfl|rfl|rfl
   ·exact⟨_,rfl,by decide,by decide⟩
   ·exact⟨_,rfl,by decide,by decide⟩
   ·exact⟨_,rfl,by decide,by decide⟩
   ·exact⟨_,rfl,by lia,by lia⟩
  clear hvf;walk_at"go";rename_i p H4 n4 S4 ep;have s14:Same H1 H4:=S2.trans (S3.trans S4);have hS1:=s1.seq hS;let Pv1:Nat->St->Hp->Prop:=fun i σ' H'=>SameBut p H4 H'/\(∃us ds,H' p=some (.lst us)/\Paired ((aW P w K mg base (some 1)).at' H') us ds/\(∀d∈ds,d5 (((List.range n).map (iC c0)).map (·.1)) d)/\ds.map (·.1)=(List.range i).map (ltr "stqrnxu"))/\∃x,σ'=[some (.ref a),some (.int c0),some (.ref pW),some (.int f),some (.ref p),x,none];refine yN Pv1 ⟨SameBut.refl,⟨[],[],ep,.nil,(fun _ z=>nomatch z),rfl⟩,_,rfl⟩ ?_ ?_
  ·rintro i _ H' hi hq_;walk_at"g1";obtain⟨sb,⟨us,ds,eu,hud,hds,hnm2⟩,x1,rfl⟩:=hq_;walk_at"g2";have hi7:i<7:=by lia
   have hul:us.length=i:=by
    have h5:ds.length=i:=by rw[←List.length_map (f:=fun d:aG=>d.1),hnm2,List.length_map,List.length_range]
    rw[Paired.length hud];exact h5
   have s3':Same H3 H':=SameBut.same n4 S4 sb;have eW':=s3' _ _ (S3 _ _ eW);have hra':=hra.sm ((S2.trans S3).trans s3');have hS':SqL K H' a (ns.map V.int):=((s1.trans (S2.trans S3)).trans s3').seq hS;walk_at"go";rw[Int.zero_add];refine⟨_,_,_,rfl,rfl,(by walk_at"sz"),JW (by lia) (by lia),?_⟩;walk_at"go";rename_i dd hd0 hd1;refine SE (n:=ltr "stqrnxu" i) (by exact D0 V0 (by lia)) (SqL.of eW') hra' hnm (by rw[List.length_map,List.length_range];exact hn0) hd0 hf0 fun v d H5 S5 hd5 hdn hdi=> ?_;walk_at"go";have eu5:=S5 _ _ eu;refine jK eu5 (by rw[sizeLine_eq];lia) fun H6 B6 e6=> ?_;refine⟨(sb.trans S5.but).trans B6,⟨us++[v],ds++[d],e6,?_,?_,?_⟩,_,rfl⟩
   ·exact L2.Paired.snoc (Paired.imp' (fun _ _ h=>(aW P w K mg base (some 1)).but ((aW P w K mg base (some 1)).same h S5) eu5 trivial B6) hud) ((aW P w K mg base (some 1)).but hd5 eu5 trivial B6)
   ·intro d' hd';rcases List.mem_append.mp hd' with hd'|hd'
    ·exact hds d' hd'
    ·cases List.mem_singleton.mp hd';exact hdi
   ·rw[List.map_append,hnm2,List.range_succ,List.map_append,List.map_singleton,List.map_singleton,hdn]
  ·rintro _ H' hq_;walk_at"g1";obtain⟨sb,⟨us,ds,eu,hud,hds,hnm2⟩,x1,rfl⟩:=hq_;walk_at"g2";have s3':Same H3 H':=SameBut.same n4 S4 sb;have eW':=s3' _ _ (S3 _ _ eW);have hra':=hra.sm ((S2.trans S3).trans s3');walk_at"go";refine LA (fun i y H=>bY H y (D3 c0 i)) (fun _ _ _ _ ⟨q,e,h⟩ s=>⟨q,e,s _ _ h⟩) (by rw[sizeLine_eq];lia) (rest:=[some (.ref pW),some (.int c0)]) (by rfl) ?_ ?_
   ·intro i G1 hi g1 R hR;have hin':i<n:=by lia
    have hwi:ws[i]? =some ws[i]:=List.getElem?_eq_getElem (by lia);have hri:((List.range n).map (iC c0))[i]? =some (iC c0 i):=by rw[List.getElem?_map,List.getElem?_range hin'];rfl
    obtain⟨q,hq,hqt⟩:=Paired.at2 (hra'.sm g1) hwi hri;rw[hq]at hwi;have eWG:=g1 _ _ eW';have hqt':G1 q=some (.tup [.str (ltr "mnabc" i),.int (c0/(7+(i:Int))%9)]):=hqt;have hm0:0<=c0/(7+(i:Int))%9:=Int.emod_nonneg _ (by decide);walk_at"go";rw[Int.zero_add];refine KG (SqL.of eWG) hwi ?_;walk_at"go";refine⟨q,_,0,_,rfl,rfl,SqT.of hqt',rfl,?_⟩;walk_at"go";refine KG (SqL.of eWG) hwi ?_;walk_at"go";refine⟨q,_,1,_,rfl,rfl,SqT.of hqt',rfl,?_⟩;walk_at"go";rename_i q7 G7 n7 S7 e7;exact hR _ _ ⟨q7,rfl,by rw[e7];rfl⟩ S7
   intro cs G1 g1 hcs;have hcp:Paired (bY G1) cs ((List.range (ws.length:Int).toNat).map (D3 c0)):=kR (D3 c0) hcs;rw[show (ws.length:Int).toNat=n by lia]at hcp;have hdl:ds.length<=7:=by
    rw[←List.length_map (f:=fun d:aG=>d.1),hnm2,List.length_map,List.length_range];lia
   walk_at"go";rename_i pC G2 m2 T2 eC;have tX:Same H' G2:=g1.trans T2;have hrl:((List.range n).map (iC c0)).length=n:=by rw[List.length_map,List.length_range]
   have hnd:(ds.map (·.1)).Nodup:=by rw[hnm2];exact tK ZD (by lia)
   have hfit:rO ((List.range n).map (iC c0)) ((List.range n).map (D3 c0)):=SK (ltr "mnabc") (fun i=>c0/(7+(i:Int))%9) (fun i=>c0/((i:Int)+3)%(c0/(7+(i:Int))%9+1)) (tK QG (by lia)) fun i _=>by
    have h0:=Int.emod_nonneg (c0/(7+(i:Int))) (show (9:Int)≠0 by decide);have h1:=Int.emod_nonneg (c0/((i:Int)+3)) (show c0/(7+(i:Int))%9+1≠0 by lia);have h2:=Int.emod_lt_of_pos (c0/((i:Int)+3)) (show 0<c0/(7+(i:Int))%9+1 by lia);exact⟨h1,by show _<=c0/(7+(i:Int))%9;lia⟩
   refine MH (rz:=(List.range n).map (iC c0)) (ds:=ds) (ps:=(List.range n).map (D3 c0)) rfl (by assumption) (tX _ _ eW') (hra'.sm tX) (SqL.of (tX _ _ eu)) (rA hud tX) (SqL.of eC) (jO hcp T2) hnr hnd hds (fun p hp=> ?_) hfit (by lia) (by lia) (by rw[List.length_map,List.length_range];lia) (by lia) (by lia) fun h G4 m4 T4 hh=> ?_
   ·obtain⟨i,hi,rfl⟩:=List.mem_map.mp hp;exact List.mem_map.mpr ⟨iC c0 i,List.mem_map.mpr ⟨i,hi,rfl⟩,rfl⟩
   ·exact k _ _ _ _ _ _ _ ((s1.trans (S2.trans S3)).trans (s3'.trans (tX.trans T4))) hh ⟨hnr,hnd,hds,hfit,by lia,by lia,by lia,by lia,by lia,by lia⟩
theorem BD (m:M K mg):Fc P w K mg base "_law_house" 8 ["_law_script"] (oW K m.aH (aW P w K mg base (some 1))):=⟨_,_,m.E4,m.kA.kp,m.EX,BF m⟩
theorem ZX (ns:List Int):(yS ns (some 2) (some 32)).length<=30:=by
 unfold yS;rw[show HT.sIx ns.length ns.length (some 32)=min 32 ns.length from HT.sIx_nat _ _ 32,show HT.sIx ns.length 0 (some 2)=min 2 ns.length from HT.sIx_nat _ _ 2,List.length_take,List.length_drop]
 lia
inductive rQ (K:W.Frag)(C:Addr)(D:bA)(vs:List V)(H:Hp)(Q:VK)(E:XK):Prop
 | mk (h a:Addr) (f l:Int) (rz ps:List (Str×Int)) (ds:List aG) (ns:List Int) (_:vs=[.ref h,.ref a]) (_:aV C D H h f l rz ps ds) (_:nU rz ps ds f l) (_:SqL K H a (ns.map V.int)) (_:∀p us rows H',Same H H'->H' p=some (.lst us)->b5 H' us rows->rows.length<=30->Q (.ref p) H'):rQ K C D vs H Q E
theorem SG {C:Addr}{D:bA}{H:Hp}{Q:VK}{E:XK}{h a:Addr}{f l:Int}{rz ps:List (Str×Int)}{ds:List aG}{ns:List Int} (hh:aV C D H h f l rz ps ds) (dh:nU rz ps ds f l) (hS:SqL K H a (ns.map V.int)) (k:∀p us rows H',Same H H'->H' p=some (.lst us)->b5 H' us rows->rows.length<=30->Q (.ref p) H'):rQ K C D [.ref h,.ref a] H Q E:=⟨_,_,_,_,_,_,_,_,rfl,hh,dh,hS,k⟩
theorem ED (m:M K mg):bI P w K mg base CX0 2 m.pQ m.pR ["_law_house_here","_law_script"] (rQ K m.aH (aW P w K mg base (some 1))):=by
 refine m.lT.ok sc__law_plan (fun vs H Q E h=> ?_) (fun cdv A outer s H vs Q E hr h=> ?_)
 ·walk_at"g1";obtain⟨h,a,f,l,rz,ps,ds,ns,rfl,hh,dh,hS,k⟩:=h;walk_at"g2";rfl
 ·walk_at"g1";obtain⟨h,a,f,l,rz,ps,ds,ns,rfl,hh,dh,hS,k⟩:=h;walk_at"g2";have nd:=sc__law_plan.nd;have hu0:=Room.units0 hr;have hu1:=Room.units1 hr;have fY:= @sV P w K mg base m;have w_dc_House:=m.bG;have w_mc_House_doors:= @iF P w K mg base m;refine⟨_,(aC (aX (i:=2) nd rfl (by walk_at"oi") (gJ 1 hr (pv 0)))
   (aC (aX (i:=3) nd rfl (by walk_at"oi") (fQ aD))
   (aC (d4 PassesOwn.never rfl (SS rfl m.F9 (aA (OJ TH (pv 1) (GK aF) (GK aF)) aD)) (l0 (n:=2) rfl (bB (aM (i:=4) nd rfl (by walk_at"oi")) (bB (aM (i:=5) nd rfl (by walk_at"oi")) dN))) (aC (aX (i:=6) nd rfl (by walk_at"oi") (bR fY hr (aA (pv 5) (aA (pv 4) aD))))
   (aC (aX (i:=7) nd rfl (by walk_at"oi") (aL c7 (bJ (pv 0) rfl) (aL b9 (pv 6) (aL t5 (bJ (pv 0) rfl) (bJ (pv 0) rfl)))))
   (aC (aX (i:=8) nd rfl (by walk_at"oi") c3)
   (aC (cG (PW.pt (tY (bH (X1 hu0) (pv 2) (fQ aD) (bM _)) (qK (bH o7 (aL b9 (aL cF (pv 6) aF) aF) aF (bM _))))) (aE (aX (i:=8) nd rfl (by walk_at"oi") (dJ gK (pv 2) (aL b9 (aL cF (pv 6) aF) (cB jH rfl m.sQ nT (aA (pv 2) aD))) (fun _ _=>rfl)))) bQ)
   (aC (cG (bH o8 (aL b9 (aL cF (pv 6) aF) aF) aF (bM _)) (aE (aX (i:=7) nd rfl (by walk_at"oi") (dJ gK (fQ (aA (cB (KU rfl) rfl m.Z9 W2 (aA aF (aA (aL t5 (bJ (pv 0) rfl) aF) aD))) (aA (bJ (pv 0) rfl) aD))) (aL b9 (aL cF (pv 6) aF) aF) (fun _ _=>rfl)))) bQ)
   (aE (bX (uN PySem.F.plainAttrs_list PySem.F.slot_list_append PySem.F.type_list_append jI (pv 3) (aA (cI (aA (pv 7) (aA (pv 8) (aA (dJ gK (fQ (aA aF (aA aF (aA aF (aA aF (aA aF (aA aF (aA aF (aA (aL b9 (pv 5) (GV 100000000000 (by decide) ⟨by decide,by decide,by decide⟩)) aD))))))))) (aL b9 (aL cF (pv 6) aF) aF) (fun _ _=>rfl)) aD)))) aD))))))))))
   (aE (bF (pv 3)))))),?_⟩
  refine aR (σ:=[some (.ref h),some (.ref a),none,none,none,none,none,none,none]) rfl ?_;walk_at"cx";walk_at"g1";obtain⟨dnr,dnd,dhin,dfit,dlr,dld,df0,df1,df2,df3⟩:=dh;walk_at"g2";walk_at"g1";obtain⟨dx,qs,qp,qd,nk,kvs,e1,_⟩:=hh.ex;walk_at"g2";walk_at"go";refine kP hh fun p1 H1 n1 S1 e8=> ?_;have e11:=S1 _ _ e1;walk_at"go";rename_i p H4 n4 S4 ep p5 H5 n5 S5 e5;have hcl:=ZX ns;generalize yS ns (some 2) (some 32)=cs at e5 hcl;have hnl:(ds.map (·.1)).length<=7:=by rw[List.length_map];exact dld
  generalize (ds.map (·.1):List Str)=nms at e8 hnl;have ep5:=S5 _ _ ep;have hp5:p5≠p:=fun z=>by rw[z,ep]at n5;cases n5
  have fr:∀x u,H1 x=some u->x≠p:=fun x u hx z=>by rw[z,n4]at hx;cases hx
  let Pv1:Nat->St->Hp->Prop:=fun i σ' H'=>SameBut p H5 H'/\(∃us rows,H' p=some (.lst us)/\b5 H' us rows/\us.length<=i)/\i<=cs.length/\∃x y z u w,σ'=[some (.ref h),some (.ref a),some (.ref p1),some (.ref p),x,y,z,u,w];refine R7 (cs.map V.int) Pv1 ⟨SameBut.refl,⟨[],[],ep5,.nil,Nat.le_refl _⟩,Nat.zero_le _,_,_,_,_,_,rfl⟩ (fun i σ' H' q=>SqL.of (q.1 _ _ e5 hp5)) ?_ ?_
  ·rintro i x _ G q G1 hx ⟨sb,⟨us,rows,eu,hpl,hul⟩,hil,x1,x2,x3,x4,x5,rfl⟩ hq sG eq;have hi:i<(cs.map V.int).length:=(List.getElem?_eq_some_iff.mp hx).1;rw[List.length_map]at hi;rw[List.getElem?_map]at hx;obtain⟨c,hc,rfl⟩:=Option.map_eq_some_iff.mp hx;have s3G:Same H1 G1:=fun x u hx=>sG _ _ (sb _ _ (S5 _ _ (S4 _ _ hx)) (fr x u hx));have eh:=s3G _ _ e11;have e3':=s3G _ _ e8;have euG:=sG _ _ eu;walk_at"gs";rename_i dd hd0 hd1 hr0 hr1;refine qG (fun σ' G2=>Same G1 G2/\∃nm:Str,σ'=[some (.ref h),some (.ref a),some (.ref p1),some (.ref p),some (.int i),some (.int c),some (.int dd),some (.int (f+dd%(l - f))),some (.str nm)]) ?_ ?_
   rotate_left
   ·intro nx' hnx;walk_at"go";rename_i q2 G2 m2 T2 e2;refine XV (SqL.of (T2 _ _ e3')) (SqL.of e2) ?_
    by_cases hn0:nms=[]
    ·rw[show (!(nms.map V.str).isEmpty)=false by rw[hn0];rfl];walk_at"go";exact hnx _ _ ⟨T2,_,rfl⟩
    ·have hnp:0<nms.length:=List.length_pos_iff.mpr hn0;have hml:0<(nms.map V.str).length:=by rw[List.length_map];exact hnp
     rw[show (!(nms.map V.str).isEmpty)=true by cases nms with|nil=>exact absurd rfl hn0|cons x y=>rfl];walk_at"go";refine cS (fun hc=> ?_) (fun hc=> ?_)
     ·walk_at"go";rename_i hm0 hm1;refine nK (SqL.of (T2 _ _ e3')) hm0 hm1 fun v2 hv2=> ?_;obtain⟨nm,_,rfl⟩:=List.mem_map.mp hv2;walk_at"go";exact hnx _ _ ⟨T2,_,rfl⟩
     ·walk_at"go";exact hnx _ _ ⟨T2,_,rfl⟩
   rintro _ G2 ⟨T2,nm,rfl⟩;have eh2:=T2 _ _ eh;walk_at"gs";refine qG (fun σ' G3=>Same G2 G3/\∃t:Int,σ'=[some (.ref h),some (.ref a),some (.ref p1),some (.ref p),some (.int i),some (.int c),some (.int dd),some (.int t),some (.str nm)]) ?_ ?_
   rotate_left
   ·intro nx' hnx;walk_at"go";refine cS (fun hc=> ?_) (fun hc=> ?_)
    ·walk_at"go";rename_i q3 G3 m3 T3 e3 t ht;exact hnx _ _ ⟨T3,_,rfl⟩
    ·walk_at"go";exact hnx _ _ ⟨Same.refl _,_,rfl⟩
   rintro _ G3 ⟨T3,t,rfl⟩;walk_at"go";rename_i p6 H6 n6 S6 e6;refine nK (SqL.of e6) (by lia) (by show _<(8:Int);lia) fun v hv=> ?_;have hvn:∃j,v= .int j:=by
    simp only[List.mem_cons,List.not_mem_nil,or_false]at hv;rcases hv with rfl|rfl|rfl|rfl|rfl|rfl|rfl|rfl<;>exact⟨_,rfl⟩
   obtain⟨j,rfl⟩:=hvn;clear hv;walk_at"go";rename_i q8 H8 n8 S8 e8';have sG6:Same G1 H6:=T2.trans (T3.trans S6);have eu8:H8 p=some (.lst us):=S8 _ _ (sG6 _ _ euG);refine jK eu8 (by rw[sizeLine_eq];lia) fun H9 B9 e9=> ?_;have hq8:q8≠p:=fun z=>by rw[z,sG6 _ _ euG]at n8;cases n8
   refine⟨(sb.trans (sG.trans (sG6.trans S8)).but).trans B9,⟨us++[.ref q8],rows++[(t,nm,j)],e9,?_,by rw[List.length_append];show us.length+1<=_;lia⟩,by lia,_,_,_,_,_,rfl⟩;exact L2.Paired.snoc (Paired.imp' (fun _ d ⟨q,e,h⟩=>⟨q,e,B9 _ _ (S8 _ _ (sG6 _ _ (sG _ _ h))) fun z=>by rw[z,eu]at h;cases h⟩) hpl) ⟨q8,rfl,B9 _ _ e8' hq8⟩
  ·rintro _ G hq_;walk_at"g1";obtain⟨sb,⟨us,rows,eu,hpl,hul⟩,hil,x1,x2,x3,x4,x5,rfl⟩:=hq_;walk_at"g2";rw[List.length_map]at hul;walk_at"go";refine k _ _ _ _ (fun x u hx=> ?_) eu hpl ?_
   ·have h3:=S1 _ _ hx;exact sb _ _ (S5 _ _ (S4 _ _ h3)) (fr x u h3)
   ·have h5:us.length=rows.length:=Paired.length hpl
    lia
theorem CZ (m:M K mg):Fc P w K mg base "_law_plan" 2 ["_law_house_here","_law_script"] (rQ K m.aH (aW P w K mg base (some 1))):=⟨_,_,m.F3,m.lT.kp,m.F4,ED m⟩
def iV (rows:List aN)(t:Int)(ns:List Str):Int:=((rows.filter fun r=>decide (r.1=t)&&decide (r.2.1∈ns)).map (·.2.2)).sum
theorem O1 (rows:List aN)(t:Int)(n:Str):iV rows t [n]=iU rows t n:=by
 unfold iV iU
 congr 2
 apply List.filter_congr
 intro r _;simp only[List.mem_singleton]
theorem oZ {ds:List aG}(nd:(ds.map (·.1)).Nodup){d:aG}(hd:d∈ds):fC ds d.1=some d:=by
 induction ds with
 | nil=>exact nomatch hd
 | cons a l ih =>
  have nd':=List.nodup_cons.mp nd;unfold fC;rcases List.mem_cons.mp hd with rfl|h
  ·rw[List.find?_cons_of_pos (by simp)]
  ·have hne:¬a.1=d.1:=fun z=>nd'.1 (show a.1∈_ by rw[z];exact List.mem_map.mpr ⟨d,h,rfl⟩);rw[List.find?_cons_of_neg (by simpa using hne)];exact ih nd'.2 h
def qC (ds:List aG)(z:Str):List Str:=(ds.filter fun d=>decide (d.2.1=z)).map (·.1)
def yU (ds:List aG)(z:Str):List Str:=(ds.filter fun d=>decide (d.2.2.1= .str z)).map (·.1)
theorem JF {ds:List aG}(nd:(ds.map (·.1)).Nodup){f l t:Int}{z:Str} (h0:f<=t) (h1:t<l) (rows:List aN):iV rows t (qC ds z)=goL ds f l rows (bT (z,t)):=by
 unfold iV goL kZ;rw[List.filter_filter]
 congr 2
 apply List.filter_congr
 rintro ⟨rt,rn,rj⟩ _;rw[Bool.eq_iff_iff];simp only[Bool.and_eq_true,decide_eq_true_eq];unfold cnt mE;simp only[Bool.and_eq_true,decide_eq_true_eq]
 constructor
 ·rintro ⟨rfl,h⟩;obtain⟨d,hd,rfl⟩:=List.mem_map.mp h;obtain⟨h2,h3⟩:=List.mem_filter.mp hd;rw[oZ nd h2];have h3:d.2.1=z:=of_decide_eq_true h3;refine⟨?_,List.mem_map.mpr ⟨d,h2,rfl⟩,h0,h1⟩;show some [Sum.inr d.2.1,Sum.inl rt]=_;rw[h3];rfl
 ·rintro hq_;walk_at"g1";obtain⟨h,hm,_,_⟩:=hq_;walk_at"g2";obtain⟨d,hd,rfl⟩:=List.mem_map.mp hm;rw[oZ nd hd]at h;have h:=r9 (a:=(d.2.1,rt)) (b:=(z,t)) (Option.some.inj h);have e1:d.2.1=z:=(Prod.mk.inj h).1;have e2:rt=t:=(Prod.mk.inj h).2;exact⟨e2,List.mem_map.mpr ⟨d,List.mem_filter.mpr ⟨hd,decide_eq_true e1⟩,rfl⟩⟩
theorem GS {ds:List aG}{d:aG} (h:fC ds d.1=some d) (rt rj:Int) (z:Str) (t:Int):i4 ds (rt,d.1,rj)=some (bT (z,t))↔d.2.2.1= .str z/\rt=t:=by
 unfold i4;rw[show fC ds ((rt,d.1,rj):aN).2.1=some d from h,Option.bind_some];walk_at"g1";obtain⟨dn,dst,de,lt⟩:=d;walk_at"g2";show (match de with| .str z=>some [Sum.inr z,Sum.inl rt]|_=>none)=_↔de= .str z/\rt=t;cases de with
 | str y =>
  show some (bT (y,rt))=_↔_
  constructor
  ·intro h;have h:=r9 (Option.some.inj h);cases h;exact⟨rfl,rfl⟩
  ·rintro ⟨h,rfl⟩;cases h;rfl
 | _=>exact⟨(fun h=>nomatch h),(fun h=>nomatch h.1)⟩
theorem JY {ds:List aG}(nd:(ds.map (·.1)).Nodup){f l t:Int}{z:Str} (h0:f<=t) (h1:t<l) (rows:List aN):iV rows t (yU ds z)=goC ds f l rows (bT (z,t)):=by
 unfold iV goC kZ;rw[List.filter_filter]
 congr 2
 apply List.filter_congr
 rintro ⟨rt,rn,rj⟩ _;rw[Bool.eq_iff_iff];simp only[Bool.and_eq_true,decide_eq_true_eq];unfold cnt;simp only[Bool.and_eq_true,decide_eq_true_eq]
 constructor
 ·rintro ⟨rfl,h⟩;obtain⟨d,hd,rfl⟩:=List.mem_map.mp h;obtain⟨h2,h3⟩:=List.mem_filter.mp hd;exact⟨(GS (oZ nd h2) _ _ _ _).mpr ⟨of_decide_eq_true h3,rfl⟩,List.mem_map.mpr ⟨d,h2,rfl⟩,h0,h1⟩
 ·rintro hq_;walk_at"g1";obtain⟨h,hm,_,_⟩:=hq_;walk_at"g2";obtain⟨d,hd,rfl⟩:=List.mem_map.mp hm;obtain⟨e1,e2⟩:=(GS (oZ nd hd) _ _ _ _).mp h;exact⟨e2,List.mem_map.mpr ⟨d,List.mem_filter.mpr ⟨hd,decide_eq_true e1⟩,rfl⟩⟩
inductive uT (K:W.Frag)(vs:List V)(H:Hp)(Q:VK)(E:XK):Prop
 | mk (v:V) (a b:Addr) (t:Int) (us:List V) (rows:List aN) (ns:List Str) (_:vs=[v,.ref a,.int t,.ref b]) (_:SqL K H a us) (_:b5 H us rows) (_:rows.length<=200) (_:SqL K H b (ns.map V.str)) (_:∀H',Same H H'->Q (.int (iV rows t ns)) H'):uT K vs H Q E
theorem DX {H:Hp}{Q:VK}{E:XK}{v:V}{a b:Addr}{t:Int}{us:List V}{rows:List aN}{ns:List Str} (hS:SqL K H a us) (hp:b5 H us rows) (hl:rows.length<=200) (hb:SqL K H b (ns.map V.str)) (k:∀H',Same H H'->Q (.int (iV rows t ns)) H'):uT K [v,.ref a,.int t,.ref b] H Q E:=⟨_,_,_,_,_,_,_,rfl,hS,hp,hl,hb,k⟩
theorem D1 (m:M K mg):bI P w K mg base CX0 2 m.pX m.pZ ["_law_house_here","_law_plan_here","_law_turn","_law_names"] (uT K):=by
 refine m.gO.ok sc__law_gone (fun vs H Q E h=> ?_) (fun cdv A outer s H vs Q E hr h=> ?_)
 ·walk_at"g1";obtain⟨v,a,b,t,us,rows,ns,rfl,hS,hpl,hlen,hb,k⟩:=h;walk_at"g2";rfl
 ·walk_at"g1";obtain⟨v,a,b,t,us,rows,ns,rfl,hS,hpl,hlen,hb,k⟩:=h;walk_at"g2";have nd:=sc__law_gone.nd;have hu0:=Room.units0 hr;have hu1:=Room.units1 hr;refine⟨_,(aE (bF (cB (L5 rfl) rfl m.Z7 WC (aA (d9 (N:=["_law_at","_law_name","_law_number","_law_turn","_law_names"]) (nl:=3) (ci:=[2,3]) rfl (blk (s.heap.objs.size+1) rfl rfl rfl (by kernel_rfl)) (bV (pv 1)) (fun _ _ _ _=>(k4 (K:=K) (n:=3) rfl (bB (aM (i:=0) (show (["_law_at","_law_name","_law_number","_law_turn","_law_names"]:List Str).Nodup by decide +kernel) rfl (by walk_at"oi")) (bB (aM (i:=1) (show (["_law_at","_law_name","_law_number","_law_turn","_law_names"]:List Str).Nodup by decide +kernel) rfl (by walk_at"oi")) (bB (aM (i:=2) (show (["_law_at","_law_name","_law_number","_law_turn","_law_names"]:List Str).Nodup by decide +kernel) rfl (by walk_at"oi")) dN))))) (fun _ _ _ _=>(lX (PW.pt (tY (bH o8 (pv 0) (pv 3) (bM _)) (qK (bH (xP (K:=K)) (pv 1) (pv 4) (by with_unfolding_all rfl))))))) (fun _ _ _ _=>(pv 2))) aD)))),?_⟩;refine aR (σ:=[some (v),some (.ref a),some (.int t),some (.ref b)]) rfl ?_;walk_at"cx";unfold iV at k;walk_at"go";refine UA (α:=aN) (xs:=rows) (vs:=us) (fun r=> .int r.1) (fun r=> .str r.2.1) (fun r=> .int r.2.2) (fun r=>decide (r.1=t)&&decide (r.2.1∈ns)) (fun r y _=>y= .int r.2.2) (fun _ _ _ _ h _=>h) (by rw[sizeLine_eq];lia) (rest:=[some (.int t),some (.ref b)]) (by rfl) hS hpl ?_ ?_ ?_
  ·rintro ⟨t0,n0,j0⟩ H2 hm s2 R hR;have hR':=hR _ (Same.refl _);have hb2:=s2.seq hb;walk_at"go";refine cS (fun hc=> ?_) (fun hc=> ?_)
   ·rw[show (decide (((t0,n0,j0):aN).1=t))=true from decide_eq_true hc,Bool.true_and]at hR';walk_at"go";refine xH hb2 ?_;walk_at"go";exact hR'
   ·rw[show (decide (((t0,n0,j0):aN).1=t))=false from decide_eq_false hc,Bool.false_and]at hR';exact hR'
  ·rintro ⟨t0,n0,j0⟩ H2 hm - s2 R hR;walk_at"go";exact hR _ _ rfl (Same.refl _)
  intro ys2 H2 s2 hys2;have ey2:ys2=((rows.filter fun r=>decide (r.1=t)&&decide (r.2.1∈ns)).map (·.2.2)).map V.int:=by rw[gW hys2,List.map_map];rfl
  subst ey2;walk_at"go";rename_i q3 H3 n3 S3 e3;refine WB (SqL.of e3) ?_;exact k _ (s2.trans S3)
theorem DI (m:M K mg):Fc P w K mg base "_law_gone" 2 ["_law_house_here","_law_plan_here","_law_turn","_law_names"] (uT K):=⟨_,_,m.GA,m.gO.kp,m.F6,D1 m⟩
structure Holds (kvs:List (List Key×V))(S:List Key->Prop):Prop where
 nd:(kvs.map (·.1)).Nodup
 at':∀k,k∈kvs.map (·.1)↔S k
theorem NM {kvs:List (List Key×V)}{k x:List Key}{v:V}:x∈(bU kvs k v).map (·.1)↔x∈kvs.map (·.1)∨x=k:=by
 constructor
 ·intro h;obtain⟨e,he,rfl⟩:=List.mem_map.mp h;rcases q0 he with h'|⟨h1,h2⟩
  ·exact .inl (List.mem_map.mpr ⟨e,h',rfl⟩)
  ·exact .inr h1
 ·intro h;have key:(bD (bU kvs k v) x).isSome=true->x∈(bU kvs k v).map (·.1):=fun h=>by
   obtain⟨u,hu⟩:=Option.isSome_iff_exists.mp h;exact List.mem_map.mpr ⟨_,oY hu,rfl⟩
  apply key
  rw[i6]
  by_cases e:x=k
  ·rw[if_pos e];rfl
  ·rw[if_neg e];rcases h with h|h
   ·obtain⟨e',he',rfl⟩:=List.mem_map.mp h;cases hv:bD kvs e'.1 with
    | some u=>rfl
    | none =>
     unfold bD at hv;have:=List.find?_eq_none.mp (Option.map_eq_none_iff.mp hv) e' he';exact absurd (decide_eq_true rfl) this
   ·exact absurd h e
theorem Holds.put {kvs:List (List Key×V)}{S:List Key->Prop} (h:Holds kvs S) (k:List Key) (v:V):Holds (bU kvs k v) fun x=>S x∨x=k :=
 ⟨AZ h.nd,fun x=>by rw[NM,h.at' x]⟩
theorem Holds.cong {kvs:List (List Key×V)}{S T:List Key->Prop} (h:Holds kvs S) (e:∀k,S k↔T k):Holds kvs T:=⟨h.nd,fun k=>(h.at' k).trans (e k)⟩
def kG (ds:List aG)(f l:Int)(rows:List aN)(i:Nat)(k:List Key):Prop:=∃r∈rows.take i,k=flK "door" (r.2.1,r.1)/\iU rows r.1 r.2.1>fB ds f l r.1 r.2.1
def oS (ps:List (Str×Int))(ds:List aG)(f l:Int)(rows:List aN)(e:Str×Int)(j:Nat)(k:List Key):Prop:=∃i:Nat,i<j/\((k=flK "full" (e.1,f+(i:Int))/\gS ps (goL ds f l rows) (goC ds f l rows) e.1 f i>e.2)∨(f+(i:Int)<l/\k=flK "leave" (e.1,f+(i:Int))/\goL ds f l rows (bT (e.1,f+(i:Int)))>gS ps (goL ds f l rows) (goC ds f l rows) e.1 f i))
def nA (rz ps:List (Str×Int))(ds:List aG)(f l:Int)(rows:List aN)(n:Nat)(k:List Key):Prop:=∃e∈rz.take n,oS ps ds f l rows e (l+1 - f).toNat k
theorem RD {rz ps:List (Str×Int)}(nr:(rz.map (·.1)).Nodup){ds:List aG}{f l:Int}{rows:List aN} (h0:f<=l) (k:List Key):kG ds f l rows rows.length k∨nA rz ps ds f l rows rz.length k↔k∈fN rz ps ds f l rows:=by
 unfold kG nA fN;rw[List.take_length,List.take_length,List.mem_append,List.mem_append,mem_dfK,mem_lfK,uR nr]
 constructor
 ·rintro (h|⟨e,he,i,hi,(⟨h1,h2⟩|⟨h1,h2,h3⟩)⟩)
  ·exact .inl (.inl h)
  ·exact .inr ⟨e,he,i,by lia,h1,h2⟩
  ·exact .inl (.inr ⟨e.1,List.mem_map.mpr ⟨e,he,rfl⟩,i,h1,h2,h3⟩)
 ·rintro ((h|⟨z,hz,i,h1,h2,h3⟩)|⟨e,he,i,hi,h1,h2⟩)
  ·exact .inl h
  ·obtain⟨e,he,rfl⟩:=List.mem_map.mp hz;exact .inr ⟨e,he,i,by lia,.inr ⟨h1,h2,h3⟩⟩
  ·exact .inr ⟨e,he,i,by lia,.inl ⟨h1,h2⟩⟩
theorem OP {ds:List aG}{f l:Int}{rows:List aN}{i:Nat}{r:aN} (hrx:rows[i]? =some r) (h:iU rows r.1 r.2.1>fB ds f l r.1 r.2.1) (k:List Key):(kG ds f l rows i k∨k=flK "door" (r.2.1,r.1))↔kG ds f l rows (i+1) k:=by
 unfold kG;rw[cH hrx]
 constructor
 ·rintro (⟨r',hr',x⟩|rfl)
  ·exact⟨r',List.mem_append_left _ hr',x⟩
  ·exact⟨r,List.mem_append_right _ (.head _),rfl,h⟩
 ·rintro ⟨r',hr',x⟩;rcases List.mem_append.mp hr' with hr'|hr'
  ·exact .inl ⟨r',hr',x⟩
  ·cases List.mem_singleton.mp hr';exact .inr x.1
theorem SQ {ds:List aG}{f l:Int}{rows:List aN}{i:Nat}{r:aN} (hrx:rows[i]? =some r) (h:¬iU rows r.1 r.2.1>fB ds f l r.1 r.2.1) (k:List Key):kG ds f l rows i k↔kG ds f l rows (i+1) k:=by
 unfold kG;rw[cH hrx]
 constructor
 ·rintro ⟨r',hr',x⟩;exact⟨r',List.mem_append_left _ hr',x⟩
 ·rintro ⟨r',hr',x⟩;rcases List.mem_append.mp hr' with hr'|hr'
  ·exact⟨r',hr',x⟩
  ·cases List.mem_singleton.mp hr';exact absurd x.2 h
theorem Holds.yes {kvs:List (List Key×V)}{S:List Key->Prop}{b:Prop} (h:Holds kvs S) (k:List Key) (v:V) (hb:b):Holds (bU kvs k v) fun x=>S x∨(x=k/\b) :=
 (h.put k v).cong fun x=>⟨fun y=>y.imp_right fun e=>⟨e,hb⟩,fun y=>y.imp_right fun e=>e.1⟩
theorem Holds.no {kvs:List (List Key×V)}{S:List Key->Prop}{b:Prop} (h:Holds kvs S) (k:List Key) (hb:¬b):Holds kvs fun x=>S x∨(x=k/\b) :=
 h.cong fun x=>⟨.inl,fun y=>y.elim id fun e=>absurd e.2 hb⟩
theorem IW {ps:List (Str×Int)}{ds:List aG}{f l:Int}{rows:List aN}{e:Str×Int}{j:Nat}{v lf:Int}{S:List Key->Prop} (hj:f+(j:Int)<=l) (hv:v=gS ps (goL ds f l rows) (goC ds f l rows) e.1 f j) (hl:f+(j:Int)<l->lf=goL ds f l rows (bT (e.1,f+(j:Int)))) (k:List Key) :
  (((S k∨oS ps ds f l rows e j k)∨(k=flK "full" (e.1,f+(j:Int))/\v>e.2))∨(k=flK "leave" (e.1,f+(j:Int))/\(f+(j:Int)<l/\lf>v)))↔(S k∨oS ps ds f l rows e (j+1) k):=by
 subst hv;unfold oS
 constructor
 ·rintro (((h|⟨i,hi,h⟩)|h)|⟨h1,h2,h3⟩)
  ·exact .inl h
  ·exact .inr ⟨i,by lia,h⟩
  ·exact .inr ⟨j,by lia,.inl h⟩
  ·rw[hl h2]at h3;exact .inr ⟨j,by lia,.inr ⟨h2,h1,h3⟩⟩
 ·rintro (h|⟨i,hi,h⟩)
  ·exact .inl (.inl (.inl h))
  ·by_cases hij:i=j
   ·subst hij;rcases h with h|⟨h1,h2,h3⟩
    ·exact .inl (.inr h)
    ·rw[←hl h1]at h3;exact .inr ⟨h2,h1,h3⟩
   ·exact .inl (.inl (.inr ⟨i,by lia,h⟩))
theorem JC {rz ps:List (Str×Int)}{ds:List aG}{f l:Int}{rows:List aN}{i:Nat}{e:Str×Int} (he:rz[i]? =some e) (S:List Key->Prop) (k:List Key):((S k∨nA rz ps ds f l rows i k)∨oS ps ds f l rows e (l+1 - f).toNat k)↔(S k∨nA rz ps ds f l rows (i+1) k):=by
 unfold nA;rw[cH he]
 constructor
 ·rintro ((h|⟨e',he',h⟩)|h)
  ·exact .inl h
  ·exact .inr ⟨e',List.mem_append_left _ he',h⟩
  ·exact .inr ⟨e,List.mem_append_right _ (.head _),h⟩
 ·rintro (h|⟨e',he',h⟩)
  ·exact .inl (.inl h)
  ·rcases List.mem_append.mp he' with he'|he'
   ·exact .inl (.inr ⟨e',he',h⟩)
   ·cases List.mem_singleton.mp he';exact .inr h
theorem rE:∀ds:List aG,Paired (fun (v:V) (d:aG)=>v= .str d.1) ((ds.map (·.1)).map V.str) ds
 | []=> .nil
 | _::ds=> .cons rfl (rE ds)
inductive xS (K:W.Frag)(C:Addr)(D:bA)(vs:List V)(H:Hp)(Q:VK)(E:XK):Prop
 | mk (h a:Addr) (f l:Int) (rz ps:List (Str×Int)) (ds:List aG) (us:List V) (rows:List aN) (_:vs=[.ref h,.ref a]) (_:aV C D H h f l rz ps ds) (_:nU rz ps ds f l) (_:SqL K H a us) (_:b5 H us rows) (_:rows.length<=30) (_:∀p ws H',H p=none->Same H H'->H' p=some (.lst ws)->KRows H' ws (gT (fN rz ps ds f l rows))->Q (.ref p) H'):xS K C D vs H Q E
theorem YQ {C:Addr}{D:bA}{H:Hp}{Q:VK}{E:XK}{h a:Addr}{f l:Int}{rz ps:List (Str×Int)}{ds:List aG}{us:List V}{rows:List aN} (hh:aV C D H h f l rz ps ds) (dh:nU rz ps ds f l) (hS:SqL K H a us) (hp:b5 H us rows) (hl:rows.length<=30) (k:∀p ws H',H p=none->Same H H'->H' p=some (.lst ws)->KRows H' ws (gT (fN rz ps ds f l rows))->Q (.ref p) H'):xS K C D [.ref h,.ref a] H Q E:=⟨_,_,_,_,_,_,_,_,_,rfl,hh,dh,hS,hp,hl,k⟩
theorem FW (m:M K mg):bI P w K mg base CX0 6 m.sL m.sM ["_law_house_here","_law_plan_here"] (xS K m.aH (aW P w K mg base (some 1))):=by
 refine m.nD.ok sc__law_due (fun vs H Q E h=> ?_) (fun cdv A outer s H vs Q E hr h=> ?_)
 ·walk_at"g1";obtain⟨h,a,f,l,rz,ps,ds,us,rows,rfl,hh,dh,hS,hpl,hlen,k⟩:=h;walk_at"g2";rfl
 ·walk_at"g1";obtain⟨h,a,f,l,rz,ps,ds,us,rows,rfl,hh,dh,hS,hpl,hlen,k⟩:=h;walk_at"g2";have nd:=sc__law_due.nd;have hu0:=Room.units0 hr;have hu1:=Room.units1 hr;have gO:= @DI P w K mg base m;have w_dc_House:=m.bG;have w_mc_House_doors:= @iF P w K mg base m;have w_mc_House_rooms:= @zE P w K mg base m;have w_mc_House_door:= @iT P w K mg base m;have w_mc_House_found:= @qQ P w K mg base m;have w_mc_House_holds:= @qF P w K mg base m;refine⟨_,(aC (aX (i:=2) nd rfl (by walk_at"oi") nM)
   (aC (d4 PassesOwn.never rfl (bV (pv 1)) (l0 (n:=3) rfl (bB (aM (i:=3) nd rfl (by walk_at"oi")) (bB (aM (i:=4) nd rfl (by walk_at"oi")) (bB (aM (i:=5) nd rfl (by walk_at"oi")) dN)))) (aC (aX (i:=6) nd rfl (by walk_at"oi") aF)
   (aC (cG (PW.pt (tY (bH AB (pv 4) (gJ 1 hr (pv 0)) (by with_unfolding_all rfl)) (qK (EE CG jT (bJ (pv 0) rfl) (pv 3) (bJ (pv 0) rfl))))) (aE (aX (i:=6) nd rfl (by walk_at"oi") (hU 1 hr (hU 1 hr (pv 0) (aA (pv 4) aD)) (aA (pv 3) aD)))) bQ)
   (aE (cG (bH o7 (bR gO hr (aA (pv 0) (aA (pv 1) (aA (pv 3) (aA (fQ (aA (pv 4) aD)) aD))))) (pv 6) (bM _)) (aE (fM hu1 (pv 2) (cI (aA (pv 3) (aA c3 (aA (pv 4) aD)))) uS rfl)) bQ)))))
   (aC (d4 PassesOwn.never rfl (bV (gJ 1 hr (pv 0))) (aM (i:=7) nd rfl (by walk_at"oi")) (aC (aX (i:=8) nd rfl (by walk_at"oi") (hU 3 hr (pv 0) (aA (pv 7) aD)))
   (aC (mY (i:=9) nd rfl (by walk_at"oi") (N:=["_law_name","_law_room","_law_house_here"]) (nl:=1) (ci:=[7,0]) rfl (blk (s.heap.objs.size+1) rfl rfl rfl (by kernel_rfl)) (bV (gJ 1 hr (pv 0))) (fun _ _ _ _=>(aM (i:=0) (show (["_law_name","_law_room","_law_house_here"]:List Str).Nodup by decide +kernel) rfl (by walk_at"oi"))) (fun _ _ _ _=>(lX (bH o8 (nI (K:=K) (DL (P:=P) (w:=w) (K:=K) (mg:=mg) (base:=base) 1 hr (pv 2) (aA (pv 0) aD)) rfl) (pv 1) (bM _)))) (fun _ _ _ _=>(pv 0)))
   (aC (mY (i:=10) nd rfl (by walk_at"oi") (N:=["_law_name","_law_room","_law_house_here"]) (nl:=1) (ci:=[7,0]) rfl (blk (s.heap.objs.size+1) rfl rfl rfl (by kernel_rfl)) (bV (gJ 1 hr (pv 0))) (fun _ _ _ _=>(aM (i:=0) (show (["_law_name","_law_room","_law_house_here"]:List Str).Nodup by decide +kernel) rfl (by walk_at"oi"))) (fun _ _ _ _=>(lX (bH o8 (nI (K:=K) (DL (P:=P) (w:=w) (K:=K) (mg:=mg) (base:=base) 1 hr (pv 2) (aA (pv 0) aD)) rfl) (pv 1) (bM _)))) (fun _ _ _ _=>(pv 0)))
   (aE (d4 PassesOwn.never rfl (z8 rfl m.qT (aA (bJ (pv 0) rfl) (aA (aL c7 (bJ (pv 0) rfl) aF) aD))) (aM (i:=3) nd rfl (by walk_at"oi")) (aC (cG (bH o7 (pv 8) (hU 3 hr (pv 0) (aA (pv 7) aD)) (bM _)) (aE (fM hu1 (pv 2) (cI (aA (pv 3) (aA c3 (aA (pv 7) aD)))) uS rfl)) bQ)
   (aC (aX (i:=11) nd rfl (by walk_at"oi") (bR gO hr (aA (pv 0) (aA (pv 1) (aA (pv 3) (aA (pv 9) aD))))))
   (aC (cG (PW.pt (tY (bH jT (pv 3) (bJ (pv 0) rfl) (bM _)) (qK (bH o7 (pv 11) (pv 8) (bM _))))) (aE (fM hu1 (pv 2) (cI (aA (pv 3) (aA c3 (aA (pv 7) aD)))) uS rfl)) bQ)
   (aE (aX (i:=8) nd rfl (by walk_at"oi") (aL c7 (aL t5 (pv 8) (pv 11)) (bR gO hr (aA (pv 0) (aA (pv 1) (aA (pv 3) (aA (pv 10) aD)))))))))))))))))
   (aE (bF (cB (BB rfl) rfl m.EY AV (aA (LD (pv 2)) aD))))))),?_⟩
  refine aR (σ:=[some (.ref h),some (.ref a),none,none,none,none,none,none,none,none,none,none]) rfl ?_;walk_at"cx";walk_at"g1";obtain⟨dnr,dnd,dhin,dfit,dlr,dld,df0,df1,df2,df3⟩:=id dh;walk_at"g2";have hul:us.length=rows.length:=Paired.length hpl;walk_at"go";rename_i p H1 n1 S1 ep;have fr0:∀x u,H x=some u->x≠p:=fun x u hx z=>by rw[z,n1]at hx;cases hx
  let Pv1:Nat->St->Hp->Prop:=fun i σ' H'=>SameBut p H1 H'/\(∃kvs,H' p=some (.dT kvs)/\Holds kvs (kG ds f l rows i)/\kvs.length<=i)/\∃x y z u,σ'=[some (.ref h),some (.ref a),some (.ref p),x,y,z,u,none,none,none,none,none];refine fS us Pv1 ⟨SameBut.refl,⟨[],ep,⟨.nil,fun k=>⟨(fun h=>nomatch h),fun⟨r,h,_⟩=>by rw[List.take_zero]at h;exact nomatch h⟩⟩,Nat.le_refl _⟩,_,_,_,_,rfl⟩ (fun i σ' H' _ q=>(SameBut.same n1 S1 q.1).seq hS) ?_ ?_
  ·rintro i x _ H' hx hq_;walk_at"g1";obtain⟨sb,⟨kvs,ek,hk,hkl⟩,x1,x2,x3,x4,rfl⟩:=hq_;walk_at"g2";have hi:i<us.length:=(List.getElem?_eq_some_iff.mp hx).1;obtain⟨⟨t,n,j⟩,hrx⟩:∃r,rows[i]? =some r:=⟨_,List.getElem?_eq_getElem (by lia)⟩
   obtain⟨q,rfl,hq⟩:=Paired.at2 hpl hx hrx;have s':Same H H':=SameBut.same n1 S1 sb;have hq':H' q=some (.tup [.int t,.str n,.int j]):=s' _ _ hq;have hh':=aY hh s';walk_at"g1";obtain⟨dx,qs,qp,qd,nk,kvs0,e1,_⟩:=hh'.ex;walk_at"g2";walk_at"gs";refine qG (fun σ' G=>Same H' G/\σ'=[some (.ref h),some (.ref a),some (.ref p),some (.int t),some (.str n),some (.int j),some (.int (fB ds f l t n)),none,none,none,none,none]) ?_ ?_
   rotate_left
   ·intro nx' hnx;walk_at"go";refine kP hh' fun p3 H3 n3 S3 e3=> ?_;have e13:=S3 _ _ e1;walk_at"go";refine xH (SqL.of e3) ?_;walk_at"go";refine cS (fun hm=> ?_) (fun hm=> ?_)
    ·walk_at"g1";obtain⟨⟨dn,dst,de,lt⟩,hd,rfl,hdo⟩:=m6 hm;walk_at"g2";have hmo:fB ds f l t dn=jQ f l (dn,dst,de,lt) t:=by unfold fB;rw[hdo]
     walk_at"go";refine cS (fun hc1=> ?_) (fun hc1=> ?_)
     ·walk_at"go";refine cS (fun hc2=> ?_) (fun hc2=> ?_)
      ·walk_at"go";refine p8 (d:=(dn,dst,de,lt)) (aY hh' S3) dnd hd fun v hv=> ?_;walk_at"g1";obtain⟨q2,C2,dx2,fs2,fp2,rfl,hq2,dcC,l1,l2,l3,l4,l5,mcE,hfp,hlt⟩:=DoorAt.ex hv;walk_at"g2";obtain⟨sp,mcL,hsp⟩:=hlt _ rfl;walk_at"go";refine hsp _ _ _ hq2 (fun x hx=>(hfp x hx).1) (by lia) fun H4 S4=> ?_;walk_at"go";refine hnx _ _ ⟨S3.trans S4,?_⟩;rw[hmo];unfold jQ;rw[if_pos ⟨hc1,hc2⟩]
      ·walk_at"go";refine hnx _ _ ⟨S3,?_⟩;rw[hmo];unfold jQ;rw[if_neg (fun y=>hc2 y.2)]
     ·refine⟨false,rfl,?_⟩;walk_at"go";refine hnx _ _ ⟨S3,?_⟩;rw[hmo];unfold jQ;rw[if_neg (fun y=>hc1 y.1)]
    ·have hmo:fB ds f l t n=0:=by unfold fB;rw[vP hm]
     walk_at"go";refine hnx _ _ ⟨S3,?_⟩;rw[hmo]
   rintro _ G ⟨sG,rfl⟩;have sHG:=s'.trans sG;walk_at"go";rename_i q5 H5 n5 S5 e5;refine DX (ns:=[n]) ((sHG.trans S5).seq hS) (d8 hpl (sHG.trans S5)) (by lia) (SqL.of e5) fun H6 S6=> ?_;rw[O1];have s16:Same H' H6:=sG.trans (S5.trans S6);walk_at"go";refine cS (fun hc=> ?_) (fun hc=> ?_)
   ·walk_at"go";rename_i b7 H7 n7 S7 e7;refine gX (flK "door" (n,t)) (S7 _ _ (s16 _ _ ek)) e7 (by rw[sizeLine_eq];lia) fun H8 B8 e8=> ?_;exact⟨(sb.trans (s16.trans S7).but).trans B8,⟨_,e8,(hk.put _ _).cong (OP hrx hc),Nat.le_trans (dI _ _ _) (by lia)⟩,_,_,_,_,rfl⟩
   ·walk_at"go";exact⟨sb.trans s16.but,⟨kvs,s16 _ _ ek,hk.cong (SQ hrx hc),by lia⟩,_,_,_,_,rfl⟩
  ·rintro _ H' hq_;walk_at"g1";obtain⟨sb,⟨kvs,ek,hk,hkl⟩,x1,x2,x3,x4,rfl⟩:=hq_;walk_at"g2";rw[hul]at hk hkl;have s':Same H H':=SameBut.same n1 S1 sb;have hh':=aY hh s';walk_at"g1";obtain⟨dx,qs,qp,qd,nk,kvs0,e1,_⟩:=hh'.ex;walk_at"g2";walk_at"go";refine kP hh' fun p3 H3 n3 S3 e3=> ?_;have ek3:=S3 _ _ ek;have hp3:p3≠p:=fun z=>by rw[z,ek]at n3;cases n3
   walk_at"go";let Pv2:Nat->St->Hp->Prop:=fun i σ' G=>SameBut p H3 G/\(∃kvs,G p=some (.dT kvs)/\Holds kvs (fun k=>kG ds f l rows rows.length k∨nA rz ps ds f l rows i k)/\kvs.length<=30+40 * i)/\∃y1 y2 y3 y4 y5 y6 y7 y8 y9,σ'=[some (.ref h),some (.ref a),some (.ref p),y1,y2,y3,y4,y5,y6,y7,y8,y9];refine fS ((rz.map (·.1)).map V.str) Pv2 ⟨SameBut.refl,⟨kvs,ek3,hk.cong (fun k=>⟨.inl,fun y=>y.elim id fun⟨e,he,_⟩=>by rw[List.take_zero]at he;exact nomatch he⟩),by lia⟩,_,_,_,_,_,_,_,_,_,rfl⟩ (fun i σ' G _ q=>SqL.of (q.1 _ _ e3 hp3)) ?_ ?_
   ·rintro i x _ G hx hq_;walk_at"g1";obtain⟨sbG,⟨kvs,ekG,hkG,hklG⟩,y1,y2,y3,y4,y5,y6,y7,y8,y9,rfl⟩:=hq_;walk_at"g2";have hi:i<((rz.map (·.1)).map V.str).length:=(List.getElem?_eq_some_iff.mp hx).1;rw[List.length_map,List.length_map]at hi;obtain⟨⟨z,sz⟩,hrz⟩:∃e,rz[i]? =some e:=⟨_,List.getElem?_eq_getElem hi⟩
    rw[List.getElem?_map,List.getElem?_map,hrz]at hx;cases hx;have hez:(z,sz)∈rz:=List.mem_of_getElem? hrz;have hz:z∈rz.map (·.1):=List.mem_map.mpr ⟨_,hez,rfl⟩;have sG:Same H G:=fun x u hx=>sbG _ _ (S3 _ _ (s' _ _ hx)) (fr0 x u hx);have hhG:=aY hh sG;walk_at"g1";obtain⟨dxG,qsG,qpG,qdG,nkG,kvsG,e1G,_⟩:=hhG.ex;walk_at"g2";walk_at"go";refine GE hhG dnr hz fun G1 T1=> ?_;have hh1:=aY hhG T1;have e11:=T1 _ _ e1G;walk_at"go";refine kP hh1 fun pD G2 m2 T2 eD=> ?_;have hh2:=aY hh1 T2;walk_at"go";refine qE (α:=aG) (xs:=ds) (vs:=(ds.map (·.1)).map V.str) (fun v d=>v= .str d.1) (fun d=>decide (d.2.1=z)) (fun d y _=>y= .str d.1) (fun _ _ _ _ h _=>h) (by rw[sizeLine_eq];lia) (rest:=[some (.str z),some (.ref h)]) (by rfl) (SqL.of eD) (rE ds) ?_ ?_ ?_
    ·rintro v ⟨dn,dst,de,lt⟩ G3 rfl hd s3 R hR;have hh3:=aY hh2 s3;walk_at"g1";obtain⟨dx3,qs3,qp3,qd3,nk3,kvs3,e13,_⟩:=hh3.ex;walk_at"g2";walk_at"go";refine p8 (d:=(dn,dst,de,lt)) hh3 dnd hd fun v hv=> ?_;walk_at"g1";obtain⟨q2,C2,dx2,fs2,fp2,rfl,hq2,dcC,l1,l2,l3,l4,l5,mcE,hfp,hlt⟩:=DoorAt.ex hv;walk_at"g2";walk_at"go";exact hR _ (Same.refl _)
    ·rintro v d G3 rfl hd - s3 R hR;walk_at"go";exact hR _ _ rfl (Same.refl _)
    intro o1 G3 s3 ho1;have eo1:o1=(qC ds z).map V.str:=by rw[gW ho1];unfold qC;rw[List.map_map];rfl
    subst eo1;have e13:=(T2.trans s3) _ _ e11;walk_at"go";rename_i pO G4 m4 T4 eO;have hh4:=aY hh2 (s3.trans T4);refine kP hh4 fun pD2 G5 m5 T5 eD2=> ?_;have hh5:=aY hh4 T5;walk_at"go";refine qE (α:=aG) (xs:=ds) (vs:=(ds.map (·.1)).map V.str) (fun v d=>v= .str d.1) (fun d=>decide (d.2.2.1= .str z)) (fun d y _=>y= .str d.1) (fun _ _ _ _ h _=>h) (by rw[sizeLine_eq];lia) (rest:=[some (.str z),some (.ref h)]) (by rfl) (SqL.of eD2) (rE ds) ?_ ?_ ?_
    ·rintro v ⟨dn,dst,de,lt⟩ G6 rfl hd s6 R hR;have hh6:=aY hh5 s6;walk_at"g1";obtain⟨dx3,qs3,qp3,qd3,nk3,kvs3,e16,_⟩:=hh6.ex;walk_at"g2";have hend:=(dhin _ hd).2;have hR':=hR _ (Same.refl _);walk_at"go";refine p8 (d:=(dn,dst,de,lt)) hh6 dnd hd fun v hv=> ?_;walk_at"g1";obtain⟨q2,C2,dx2,fs2,fp2,rfl,hq2,dcC,l1,l2,l3,l4,l5,mcE,hfp,hlt⟩:=DoorAt.ex hv;walk_at"g2";rcases hend with hend|⟨y,hend,hy⟩
     ·have hde:de= .non:=hend;subst hde;walk_at"go";exact hR'
     ·have hde:de= .str y:=hend;subst hde;rw[show decide (((dn,dst,V.str y,lt):aG).2.2.1= .str z)=decide (y=z) from decide_eq_decide.mpr ⟨fun h=>V.str.inj h,fun h=>by rw[h]⟩]at hR';walk_at"go";exact hR'
    ·rintro v d G6 rfl hd - s6 R hR;walk_at"go";exact hR _ _ rfl (Same.refl _)
    intro o2 G6 s6 ho2;have eo2:o2=(yU ds z).map V.str:=by rw[gW ho2];unfold yU;rw[List.map_map];rfl
    subst eo2;have e16:=(T4.trans (T5.trans s6)) _ _ e13;walk_at"go";rename_i pI G7 m7 T7 eI;have sG7:Same G G7:=T1.trans (T2.trans (s3.trans (T4.trans (T5.trans (s6.trans T7)))));have ek7:=sG7 _ _ ekG;have eO7:=(T5.trans (s6.trans T7)) _ _ eO;have hOp:pO≠p:=fun z=>by rw[z,(T1.trans (T2.trans s3)) _ _ ekG]at m4;cases m4
    have hIp:pI≠p:=fun z=>by rw[z,(T1.trans (T2.trans (s3.trans (T4.trans (T5.trans s6))))) _ _ ekG]at m7;cases m7
    let Pv3:Nat->St->Hp->Prop:=fun j σ' G=>SameBut p G7 G/\(∃kvs,G p=some (.dT kvs)/\Holds kvs (fun k=>(kG ds f l rows rows.length k∨nA rz ps ds f l rows i k)∨oS ps ds f l rows (z,sz) j k)/\kvs.length<=30+40 * i+2 * j)/\∃x v y2 y3 y4 y9,(f+(j:Int)<=l->v=gS ps (goL ds f l rows) (goC ds f l rows) z f j)/\σ'=[some (.ref h),some (.ref a),some (.ref p),x,y2,y3,y4,some (.str z),some (.int v),some (.ref pO),some (.ref pI),y9];refine yN Pv3 ⟨SameBut.refl,⟨kvs,ek7,hkG.cong (fun k=>⟨.inl,fun y=>y.elim id fun⟨i',hi',_⟩=>absurd hi' (Nat.not_lt_zero _)⟩),by lia⟩,_,_,_,_,_,_,(fun _=>rfl),rfl⟩ ?_ ?_
    ·rintro j _ J hj hq_;walk_at"g1";obtain⟨sbJ,⟨kvs,ekJ,hkJ,hklJ⟩,x,v,y2,y3,y4,y9,hv,rfl⟩:=hq_;walk_at"g2";have hv:=hv (by lia);have sJ:Same H J:=fun x u hx=>sbJ _ _ (sG7 _ _ (sG _ _ hx)) (fr0 x u hx);have hhJ:=aY hh sJ;walk_at"g1";obtain⟨dxJ,qsJ,qpJ,qdJ,nkJ,kvsJ,e1J,_⟩:=hhJ.ex;walk_at"g2";have eOJ:=sbJ _ _ eO7 hOp;have eIJ:=sbJ _ _ eI hIp;walk_at"gs";refine qG (fun σ' J1=>SameBut p J J1/\(∃kvs,J1 p=some (.dT kvs)/\Holds kvs (fun k=>((kG ds f l rows rows.length k∨nA rz ps ds f l rows i k)∨oS ps ds f l rows (z,sz) j k)∨(k=flK "full" (z,f+(j:Int))/\v>sz))/\kvs.length<=30+40 * i+2 * j+1)/\σ'=[some (.ref h),some (.ref a),some (.ref p),some (.int (f+(j:Int))),y2,y3,y4,some (.str z),some (.int v),some (.ref pO),some (.ref pI),y9]) ?_ ?_
     rotate_left
     ·intro nx' hnx;walk_at"go";refine G9 hhJ dnr hez fun J1 U1=> ?_;walk_at"go";refine cS (fun hc=> ?_) (fun hc=> ?_)
      ·walk_at"go";rename_i b2 J2 k2 U2 eb2;refine gX (flK "full" (z,f+(j:Int))) ((U1.trans U2) _ _ ekJ) eb2 (by rw[sizeLine_eq];lia) fun J3 B3 e3=> ?_;exact hnx _ _ ⟨(U1.trans U2).but.trans B3,⟨_,e3,hkJ.yes _ _ hc,Nat.le_trans (dI _ _ _) (by lia)⟩,rfl⟩
      ·walk_at"go";exact hnx _ _ ⟨U1.but,⟨kvs,U1 _ _ ekJ,hkJ.no _ hc,by lia⟩,rfl⟩
     rintro _ J1 hq_;walk_at"g1";obtain⟨sb1,⟨kvs1,ek1,hk1,hkl1⟩,rfl⟩:=hq_;walk_at"g2";have s1:Same H J1:=fun x u hx=>sb1 _ _ (sJ _ _ hx) (fr0 x u hx);have eO1:=sb1 _ _ eOJ hOp;have eI1:=sb1 _ _ eIJ hIp;walk_at"gs";refine DX (s1.seq hS) (d8 hpl s1) (by lia) (SqL.of eO1) fun J2 U2=> ?_;have s2:=s1.trans U2;have hh2':=aY hh s2;walk_at"g1";obtain⟨dx2,qs2,qp2,qd2,nk2,kvs2,e12,_⟩:=hh2'.ex;walk_at"g2";walk_at"gs";refine qG (fun σ' J3=>SameBut p J2 J3/\(∃kvs,J3 p=some (.dT kvs)/\Holds kvs (fun k=>(((kG ds f l rows rows.length k∨nA rz ps ds f l rows i k)∨oS ps ds f l rows (z,sz) j k)∨(k=flK "full" (z,f+(j:Int))/\v>sz))∨(k=flK "leave" (z,f+(j:Int))/\(f+(j:Int)<l/\iV rows (f+(j:Int)) (qC ds z)>v)))/\kvs.length<=30+40 * i+2 * j+2)/\σ'=[some (.ref h),some (.ref a),some (.ref p),some (.int (f+(j:Int))),y2,y3,y4,some (.str z),some (.int v),some (.ref pO),some (.ref pI),some (.int (iV rows (f+(j:Int)) (qC ds z)))]) ?_ ?_
     rotate_left
     ·intro nx' hnx;walk_at"go";refine cS (fun hc=> ?_) (fun hc=> ?_)
      ·walk_at"go";refine cS (fun hc2=> ?_) (fun hc2=> ?_)
       ·walk_at"go";rename_i b3 J3 k3 U3 eb3;refine gX (flK "leave" (z,f+(j:Int))) ((U2.trans U3) _ _ ek1) eb3 (by rw[sizeLine_eq];lia) fun J4 B4 e4=> ?_;exact hnx _ _ ⟨U3.but.trans B4,⟨_,e4,hk1.yes _ _ ⟨hc,hc2⟩,Nat.le_trans (dI _ _ _) (by lia)⟩,rfl⟩
       ·walk_at"go";exact hnx _ _ ⟨SameBut.refl,⟨kvs1,U2 _ _ ek1,hk1.no _ (fun y=>hc2 y.2),by lia⟩,rfl⟩
      ·walk_at"go";exact hnx _ _ ⟨SameBut.refl,⟨kvs1,U2 _ _ ek1,hk1.no _ (fun y=>hc y.1),by lia⟩,rfl⟩
     rintro _ J3 hq_;walk_at"g1";obtain⟨sb3,⟨kvs3,ek3',hk3,hkl3⟩,rfl⟩:=hq_;walk_at"g2";have s3':Same H J3:=fun x u hx=>sb3 _ _ (s2 _ _ hx) (fr0 x u hx);have eI3:=sb3 _ _ (U2 _ _ eI1) hIp;walk_at"go";refine DX (s3'.seq hS) (d8 hpl s3') (by lia) (SqL.of eI3) fun J4 U4=> ?_;walk_at"go";have hlf:f+(j:Int)<l->iV rows (f+(j:Int)) (qC ds z)=goL ds f l rows (bT (z,f+(j:Int))):=fun y=>JF dnd (by lia) y rows;refine⟨((sbJ.trans sb1).trans U2.but).trans (sb3.trans U4.but),⟨kvs3,U4 _ _ ek3',hk3.cong (IW (e:=(z,sz)) (by lia) hv hlf),by lia⟩,_,_,_,_,_,_,fun hle=> ?_,rfl⟩;have hlt:f+(j:Int)<l:=by lia
     rw[hlf hlt,JY (f:=f) dnd (by lia) hlt rows,hv];rfl
    ·rintro _ J hq_;walk_at"g1";obtain⟨sbJ,⟨kvs,ekJ,hkJ,hklJ⟩,x,v,y2,y3,y4,y9,hv,rfl⟩:=hq_;walk_at"g2";walk_at"go";exact⟨(sbG.trans sG7.but).trans sbJ,⟨kvs,ekJ,hkJ.cong (JC hrz _),by lia⟩,_,_,_,_,_,_,_,_,_,rfl⟩
   ·rintro _ G hq_;walk_at"g1";obtain⟨sbG,⟨kvs,ekG,hkG,hklG⟩,y1,y2,y3,y4,y5,y6,y7,y8,y9,rfl⟩:=hq_;walk_at"g2";rw[List.length_map,List.length_map]at hkG;have hkF:Holds kvs fun k=>k∈fN rz ps ds f l rows:=hkG.cong (RD dnr (by lia));have hkk:∀e∈kvs,e.1.map cO=[true,false,false]:=fun e he=>xI dnr ds f l rows _ ((hkF.at' _).mp (List.mem_map.mpr ⟨e,he,rfl⟩));have hpm:(kvs.map (·.1)).Perm (fN rz ps ds f l rows):=(List.perm_ext_iff_of_nodup hkF.nd (xM dnr ds f l rows)).mpr hkF.at';have sG:Same H G:=fun x u hx=>sbG _ _ (S3 _ _ (s' _ _ hx)) (fr0 x u hx);walk_at"go";refine P3 ekG fun v G1 m1 T1 e1=> ?_;walk_at"go";refine LZ [true,false,false] e1 (T1 _ _ ekG) hkF.nd hkk (by decide) fun l1 w1 G2 m2 T2 e2 kr2=> ?_;rw[IE ⟨_,fun r hr=>by obtain⟨e,he,rfl⟩:=List.mem_map.mp hr;exact hkk e he⟩ hkF.nd hpm]at kr2;refine k l1 w1 G2 ?_ (sG.trans (T1.trans T2)) e2 kr2;cases hq:H l1 with
    | none=>rfl
    | some u=>rw[T1 _ _ (sG _ _ hq)]at m2;cases m2
theorem FL (m:M K mg):Fc P w K mg base "_law_due" 6 ["_law_house_here","_law_plan_here"] (xS K m.aH (aW P w K mg base (some 1))):=⟨_,_,m.JJ,m.nD.kp,m.JQ,FW m⟩
theorem NZ:W.kitOne K (.type "list") (.type "list")=some true:=by
 unfold W.kitOne;rw[if_pos (beq_self_eq_true _)]
theorem PB {H:Hp}{Q:VK}{a:Addr}{xs:List V} (e:H a=some (.lst xs)) (h:Q (.bl true) H):VE K [.ref a,.ty "list"] H Q:=⟨_,_,_,_,_,rfl,.lst e,rfl,NZ,h⟩
theorem OA {rz ps:List (Str×Int)}{ds:List aG}{f l:Int} (nr:(rz.map (·.1)).Nodup) (ht:rO rz ps):fN rz ps ds f l []=[]:=by
 have z0:∀k,goL ds f l [] k=0:=fun k=>rfl;have zc:∀k,goC ds f l [] k=0:=fun k=>rfl;have hp:∀l:List (Str×Int),(∀p∈l,0<=p.2)->∀z,0<=gR l z:=fun l=>by
  induction l with
  | nil=>exact fun _ _=>Int.le_refl _
  | cons a l ih =>
   intro h z;have h1:=ih (fun p hp=>h p (List.mem_cons_of_mem _ hp)) z;have h2:=h a (.head _);unfold gR at h1 ⊢
   by_cases e:a.1=z
   ·rw[List.filter_cons_of_pos (by simpa using e),List.map_cons,List.sum_cons];lia
   ·rw[List.filter_cons_of_neg (by simpa using e)];exact h1
 have hi:∀z n,gS ps (goL ds f l []) (goC ds f l []) z f n=gR ps z:=fun z n=>by
  induction n with
  | zero=>rfl
  | succ n ih =>
   show gS ps (goL ds f l []) (goC ds f l []) z f n - goL ds f l [] (bT (z,f+(n:Int)))+goC ds f l [] (bT (z,f+(n:Int)))=_;rw[ih,z0,zc];lia
 rw[List.eq_nil_iff_forall_not_mem];intro k hk;unfold fN at hk;rcases List.mem_append.mp hk with hk|hk
 ·rcases List.mem_append.mp hk with hk|hk
  ·obtain⟨r,hr,_⟩:=mem_dfK.mp hk;exact nomatch hr
  ·walk_at"g1";obtain⟨z,_,i,_,_,h⟩:=mem_lfK.mp hk;walk_at"g2";rw[hi,z0]at h;have:=hp ps ht.1 z
   lia
 ·walk_at"g1";obtain⟨e,he,i,_,_,h⟩:=(uR nr).mp hk;walk_at"g2";rw[hi]at h;have:=ht.2 e he
  lia
theorem C3 {C:Addr}{D:bA}{H:Hp}{Q:VK}{E:XK}{h a:Addr}{f l:Int}{rz ps:List (Str×Int)}{ds:List aG}{us:List V}{rows:List aN} (hh:aV C D H h f l rz ps ds) (dh:nU rz ps ds f l) (hS:SqL K H a us) (hp:b5 H us rows) (hl:rows.length<=30) (k:∀p ws H',H p=none->Same H H'->H' p=some (.lst ws)->KRows H' ws (gT (fN rz ps ds f l rows))->Q (.ref p) H'):tQ K C D [.ref h,.ref a] H Q E:=by
 walk_at"g1";obtain⟨dnr,dnd,dhin,dfit,dlr,dld,df0,df1,df2,df3⟩:=dh;walk_at"g2";exact ZP hh dnr dnd dhin df0 (by lia) (by lia) (by lia) (by lia) (by lia) hS hp (by lia) k
inductive tW (K:W.Frag)(vs:List V)(H:Hp)(Q:VK)(E:XK):Prop
 | mk (a:Addr) (ns:List Int) (_:vs=[.ref a]) (_:SqL K H a (ns.map V.int)) (_:ns.length<=63) (_:∀H',Q (.bl true) H'):tW K vs H Q E
theorem XD (m:M K mg):bI P w K mg base CX0 20 m.JM m.JK ["_law_script"] (tW K):=by
 refine m.Z4.ok sc_law (fun vs H Q E h=> ?_) (fun cdv A outer s H vs Q E hr h=> ?_)
 ·walk_at"g1";obtain⟨a,ns,rfl,hS,hlen,k⟩:=h;walk_at"g2";rfl
 ·walk_at"g1";obtain⟨a,ns,rfl,hS,hlen,k⟩:=h;walk_at"g2";have nd:=sc_law.nd;have hu0:=Room.units0 hr;have hu1:=Room.units1 hr;have nD:= @FL P w K mg base m;have kA:= @BD P w K mg base m;have lT:= @CZ P w K mg base m;have k8:= @JV P w K mg base m;have w_dc_House:=m.bG;refine⟨_,(aC (aX (i:=1) nd rfl (by walk_at"oi") (bR kA hr (aA (pv 0) aD)))
   (aC (aX (i:=2) nd rfl (by walk_at"oi") (bR lT hr (aA (pv 1) (aA (pv 0) aD))))
   (aC (aX (i:=3) nd rfl (by walk_at"oi") (oU HI rfl m.yD u3 (aA (pv 2) aD)))
   (aC (aX (i:=4) nd rfl (by walk_at"oi") (bR nD hr (aA (pv 1) (aA (pv 2) aD))))
   (aC (aX (i:=5) nd rfl (by walk_at"oi") (bR k8 hr (aA (pv 1) (aA (pv 3) aD))))
   (aC (cG (PW.pt (CJ (qD (lY (cB rJ rfl m.j7 iW (aA (pv 5) (aA (CK rfl m.yD u3) aD))))) (CJ (bH (XB hu1) (pv 5) (pv 4) (bM _)) (DA (bH (VA hu0) (pv 3) (pv 2) (bM _)))))) (aE (bF uS)) bQ)
   (aC (bX (uN PySem.F.plainAttrs_list PySem.F.slot_list_append PySem.F.type_list_append jI (pv 5) (aA (cI (aA aF (aA c3 (aA c3 aD)))) aD)))
   (aE (bF (EG (qM (XI hu1) (bR k8 hr (aA (pv 1) (aA (pv 3) aD))) (pv 4) (bM _)) (CO (qM (WE hu0) (bR k8 hr (aA (pv 1) (aA (fQ aD) aD))) (fQ aD) (bM _))))))))))))),?_⟩
  refine aR (σ:=[some (.ref a),none,none,none,none,none]) rfl ?_;walk_at"cx";walk_at"go";refine NV hS fun h H1 f l rz ps ds S1 hh dh=> ?_;walk_at"go";refine SG hh dh (S1.seq hS) fun pP us rows H2 S2 eP hpl hrl=> ?_;walk_at"go";rename_i pH H3 n3 S3 eH;have hh3:=aY hh (S2.trans S3);have hpl3:=d8 hpl S3;have eP3:=S3 _ _ eP;refine YQ hh3 dh (SqL.of eP3) hpl3 hrl fun pD wD H4 n4 S4 eD krD=> ?_;walk_at"go";refine C3 (aY hh3 S4) dh (SqL.of (S4 _ _ eH)) (d8 hpl3 S4) hrl fun pF wF H5 n5 S5 eF krF=> ?_;walk_at"go";refine PB eF ?_;walk_at"go";refine CW (SqL.of eF) (SqL.of (S5 _ _ eD)) krF (krD.same S5) ?_;have hself:us.all w6=true:=by
   rw[List.all_eq_true];intro v hv;walk_at"g1";obtain⟨r,_,q,rfl,_⟩:=mZ hpl hv;walk_at"g2";rfl
  have s35:=S4.trans S5;walk_at"go";refine NN (SqL.of (s35 _ _ eH)) (SqL.of (s35 _ _ eP3)) hself ?_;walk_at"go";rename_i q6 H6 n6 S6 e6;have lF:wF.length<=40400:=by
   have h1:wF.length=_:=Paired.length krF;have h2:(gT (fN rz ps ds f l rows)).length=(fN rz ps ds f l rows).length:=(rY _).length_eq;have hpn:(bC rz f (l+1 - f).toNat).length<=20100:=o6 (by have:=dh.lr;lia) (by have:=dh.f2;lia);have l1:=GL ds f l rows;have l2:=GW (ps:=ps) (L:=goL ds f l rows) (C:=goC ds f l rows) (LT:=goL ds f l rows) hpn;have l3:=GU (ps:=ps) (L:=goL ds f l rows) (C:=goC ds f l rows) hpn;have h3:(fN rz ps ds f l rows).length<=30+20100+20100:=by unfold fN;rw[List.length_append,List.length_append];lia
   lia
  refine jK (S6 _ _ eF) (by rw[sizeLine_eq];lia) fun H7 B7 e7=> ?_;have s37:Same H4 H7:=fun x u hx=>B7 _ _ ((S5.trans S6) _ _ hx) fun z=>by rw[z,n5]at hx;cases hx
  have s37':=S4.trans s37;walk_at"go";refine C3 (aY hh3 s37') dh (SqL.of (s37' _ _ eH)) (d8 hpl3 s37') hrl fun pG wG H8 n8 S8 eG krG=> ?_;walk_at"go";refine CW (SqL.of eG) (SqL.of (S8 _ _ (s37 _ _ eD))) krG (krD.same (s37.trans S8)) ?_;have s38:=s37'.trans S8;walk_at"go";rename_i q9 H9 n9 S9 e9;refine C3 (rows:=[]) (aY hh3 (s38.trans S9)) dh (SqL.of e9) .nil (by decide) fun pI wI H10 n10 S10 eI krI=> ?_;rw[OA dh.nr dh.fit]at krI;cases krI;walk_at"go";rename_i q11 H11 n11 S11 e11;refine VS (SqL.of (S11 _ _ eI)) (SqL.of e11) ?_;exact k _
end
theorem all_mk {l:W.OpenLaw}{w:World}{K:W.Frag}{h:Heap}{mg:Str->Option Value}{fa:Addr} (X:K.In h) (G:h.Ns mainGlobals mg) (hfa:mg "law" =some (.ref fa))
  {zaa zab zac zad zae zaf zag zah zai zaj zak zal zam zan zao zap zaq zar zas zat zau zav zaw zax zay zaz zba zbb zbc zbd zbe zbf zbg zbh zbi zbj zbk zbl zbm zbn zbo zbp zbq zbr zbs zbt zbu zbv zbw zbx zby zbz zca zcb zcc zcd zce zcf zcg zch zci zcj:Addr}
  {zck zcl:Option Addr}{zcm:Array (Option Value)}{zcn zco zcp zcq zcr zcs:Value}
  {zct zcu:Option Addr}{zcv:Array (Option Value)}{zcw zcx zcy zcz zda zdb:Value}
  {zdc zdd:Option Addr}{zde:Array (Option Value)}{zdf zdg zdh zdi zdj zdk:Value}
  {zdl zdm:Option Addr}{zdn:Array (Option Value)}{zdo zdp zdq zdr zds zdt:Value}
  {zdu zdv:Option Addr}{zdw:Array (Option Value)}{zdx zdy zdz zea zeb zec:Value}
  {zed zee:Option Addr}{zef:Array (Option Value)}{zeg zeh zei zej zek zel:Value}
  {zem zen:Option Addr}{zeo:Array (Option Value)}{zep zeq zer zes zet zeu:Value}
  {zev zew:Option Addr}{zex:Array (Option Value)}{zey zez zfa zfb zfc zfd:Value}
  {zfe zff:Option Addr}{zfg:Array (Option Value)}{zfh zfi zfj zfk zfl zfm:Value}
  {zfn zfo:Option Addr}{zfp:Array (Option Value)}{zfq zfr zfs zft zfu zfv:Value}
  {zfw zfx:Option Addr}{zfy:Array (Option Value)}{zfz zga zgb zgc zgd zge:Value}
  {zgf zgg:Option Addr}{zgh:Array (Option Value)}{zgi zgj zgk zgl zgm zgn:Value}
  {zgo zgp:Option Addr}{zgq:Array (Option Value)}{zgr zgs zgt zgu zgv zgw:Value}
  {zgx zgy:Option Addr}{zgz:Array (Option Value)}{zha zhb zhc zhd zhe zhf:Value}
  {zhg zhh:Option Addr}{zhi:Array (Option Value)}{zhj zhk zhl zhm zhn zho:Value}
  {zhp zhq:Option Addr}{zhr:Array (Option Value)}{zhs zht zhu zhv zhw zhx:Value}
  {zhy zhz:Option Addr}{zia:Array (Option Value)}{zib zic zid zie zif zig:Value}
  {zih zii:Option Addr}{zij:Array (Option Value)}{zik zil zim zin zio ziq:Value}
  {zir zis:Option Addr}{zit:Array (Option Value)}{ziu ziv ziw zix ziy ziz:Value}
  {zja zjb:Option Addr}{zjc:Array (Option Value)}{zjd zje zjf zjg zjh zji:Value}
  {zjj zjk:Option Addr}{zjl:Array (Option Value)}{zjm zjn zjo zjp zjq zjr:Value}
  {zjs zjt:Option Addr}{zju:Array (Option Value)}{zjv zjw zjx zjy zjz zka:Value}
  {zkb zkc:Option Addr}{zkd:Array (Option Value)}{zke zkf zkg zkh zki zkj:Value}
  {zkk zkl:Option Addr}{zkm:Array (Option Value)}{zkn zko zkp zkq zkr zks:Value}
  {zkt zku:Option Addr}{zkv:Array (Option Value)}{zkw zkx zky zkz zla zlb:Value}
  {zlc zld:Option Addr}{zle:Array (Option Value)}{zlf zlg zlh zli zlj zlk:Value}
  {zll zlm:Option Addr}{zln:Array (Option Value)}{zlo zlp zlq zlr zls zlt:Value}
  {zlu zlv:Option Addr}{zlw:Array (Option Value)}{zlx zly zlz zma zmb zmc:Value}
  {zmd zme:Option Addr}{zmf:Array (Option Value)}{zmg zmh zmi zmj zmk zml:Value}
  {zmm zmn:Option Addr}{zmo:Array (Option Value)}{zmp zmq zmr zms zmt zmu:Value}
  {zmv:Addr}
  {zmw:Tok}
  {zmx:Value}{zmy:Option Addr}{zmz:Nat}{zna:Array (Option Value)}
  {znb znc:Option Addr}{znd:Array (Option Value)}{zne znf zng znh zni znj:Value}
  {znk znl:Option Addr}{znm:Array (Option Value)}{znn zno znp znq znr zns:Value}
  {znt znu:Option Addr}{znv:Array (Option Value)}{znw znx zny znz zoa zob:Value}
  {zoc zod:Option Addr}{zoe:Array (Option Value)}{zof zog zoh zoi zoj zok:Value}
  {zol zom:Option Addr}{zon:Array (Option Value)}{zoo zop zoq zor zos zot:Value}
  {zou zov:Option Addr}{zow:Array (Option Value)}{zox zoy zoz zpa zpb zpc:Value}
  {zpd zpe:Option Addr}{zpf:Array (Option Value)}{zpg zph zpi zpj zpk zpl:Value}
  {zpm zpn:Option Addr}{zpo:Array (Option Value)}{zpp zpq zpr zps zpt zpu:Value}
  {zpv zpw:Option Addr}{zpx:Array (Option Value)}{zpy zpz zqa zqb zqc zqd:Value}
  {zqe zqf:Option Addr}{zqg:Array (Option Value)}{zqh zqi zqj zqk zql zqm:Value}
  {zqn:Addr}
  {zqo:Tok}
  {zqp:Value}{zqq:Option Addr}{zqr:Nat}{zqs:Array (Option Value)}
  {zqt zqu:Option Addr}{zqv:Array (Option Value)}{zqw zqx zqy zqz zra zrb:Value}
  {zrc zrd:Option Addr}{zre:Array (Option Value)}{zrf zrg zrh zri zrj zrk:Value}
  {zrl zrm:Option Addr}{zrn:Array (Option Value)}{zro zrp zrq zrr zrs zrt:Value}
  {zru zrv:Option Addr}{zrw:Array (Option Value)}{zrx zry zrz zsa zsb zsc:Value}
  {zsd zse:Option Addr}{zsf:Array (Option Value)}{zsg zsh zsi zsj zsk zsl:Value}
  {zsm zsn:Option Addr}{zso:Array (Option Value)}{zsp zsq zsr zss zst zsu:Value}
  {zsv zsw:Option Addr}{zsx:Array (Option Value)}{zsy zsz zta ztb ztc ztd:Value}
  {zte ztf:Option Addr}{ztg:Array (Option Value)}{zth zti ztj ztk ztl ztm:Value}
  {ztn zto:Option Addr}{ztp:Array (Option Value)}{ztq ztr zts ztt ztu ztv:Value}
  {ztw ztx:Option Addr}{zty:Array (Option Value)}{ztz zua zub zuc zud zue:Value}
  {zuf zug:Option Addr}{zuh:Array (Option Value)}{zui zuj zuk zul zum zun:Value}
  {zuo:Tok}
  (zup:W.nsIn K mainGlobals "_wall" =some (some (.ref zaa)))
  (zuq:W.nsIn K mainGlobals "added_up" =some (some (.ref zab)))
  (zur:W.nsIn K mainGlobals "rows_that_count" =some (some (.ref zac)))
  (zus:W.nsIn K mainGlobals "leaving" =some (some (.ref zad)))
  (zut:W.nsIn K mainGlobals "coming" =some (some (.ref zae)))
  (zuu:W.nsIn K mainGlobals "there" =some (some (.ref zaf)))
  (zuv:W.nsIn K mainGlobals "most_through" =some (some (.ref zag)))
  (zuw:W.nsIn K mainGlobals "door_faults" =some (some (.ref zah)))
  (zux:W.nsIn K mainGlobals "leave_faults" =some (some (.ref zai)))
  (zuy:W.nsIn K mainGlobals "full_faults" =some (some (.ref zaj)))
  (zuz:W.nsIn K mainGlobals "faults" =some (some (.ref zak)))
  (zva:W.nsIn K mainGlobals "is_whole" =some (some (.ref zal)))
  (zvb:W.nsIn K mainGlobals "is_name" =some (some (.ref zam)))
  (zvc:W.nsIn K mainGlobals "need_name" =some (some (.ref zan)))
  (zvd:W.nsIn K mainGlobals "need_whole" =some (some (.ref zao)))
  (zve:W.nsIn K mainGlobals "need_turns" =some (some (.ref zap)))
  (zvf:W.nsIn K mainGlobals "need_each_once" =some (some (.ref zaq)))
  (zvg:W.nsIn K mainGlobals "rooms_spoken_of" =some (some (.ref zar)))
  (zvh:W.nsIn K mainGlobals "need_rooms" =some (some (.ref zas)))
  (zvi:W.nsIn K mainGlobals "added_people" =some (some (.ref zat)))
  (zvj:W.nsIn K mainGlobals "need_space" =some (some (.ref zau)))
  (zvk:W.nsIn K mainGlobals "_law_cell_at" =some (some (.ref zav)))
  (zvl:W.nsIn K mainGlobals "_law_drawn" =some (some (.ref zaw)))
  (zvm:W.nsIn K mainGlobals "_law_door" =some (some (.ref zax)))
  (zvn:W.nsIn K mainGlobals "_law_house" =some (some (.ref zay)))
  (zvo:W.nsIn K mainGlobals "_law_plan" =some (some (.ref zaz)))
  (zvp:W.nsIn K mainGlobals "_law_gone" =some (some (.ref zba)))
  (zvq:W.nsIn K mainGlobals "_law_due" =some (some (.ref zbb)))
  (zvr:W.nsIn K mainGlobals "law" =some (some (.ref zbc)))
  (zvs:W.nsIn K mainGlobals "Door" =some (some (.ref zbd)))
  (zvt:W.nsIn K mainGlobals "Until" =some (some (.ref zbe)))
  (zvu:W.nsIn K mainGlobals "Marked" =some (some (.ref zbf)))
  (zvv:W.nsIn K mainGlobals "House" =some (some (.ref zbg)))
  (zvw:W.nsIn K mainGlobals "OutError" =some (some (.ref zbh)))
  (zvx:W.nsIn K mainGlobals "NoDoor" =some (some (.ref zbi)))
  (zvy:W.nsIn K mainGlobals "NoHouse" =some (some (.ref zbj)))
  (zvz:W.nsIn K mainGlobals "NoTurn" =some (some (.ref zbk)))
  (zwa:W.nsIn K mainGlobals "Twice" =some (some (.ref zbl)))
  (zwb:W.nsIn K mainGlobals "NoRoom" =some (some (.ref zbm)))
  (zwc:W.nsIn K mainGlobals "Unknown" =some (some (.ref zbn)))
  (zwd:W.findIn K (.ref zbd) "__init__" =some (some (.ref zbo)))
  (zwe:W.findIn K (.ref zbd) "lets" =some (some (.ref zbp)))
  (zwf:W.findIn K (.ref zbd) "is_exit" =some (some (.ref zbq)))
  (zwg:W.findIn K (.ref zbd) "words" =some (some (.ref zbr)))
  (zwh:W.findIn K (.ref zbe) "__init__" =some (some (.ref zbs)))
  (zwi:W.findIn K (.ref zbe) "lets" =some (some (.ref zbt)))
  (zwj:W.findIn K (.ref zbe) "words" =some (some (.ref zbu)))
  (zwk:W.findIn K (.ref zbf) "__init__" =some (some (.ref zbv)))
  (zwl:W.findIn K (.ref zbf) "lets" =some (some (.ref zbw)))
  (zwm:W.findIn K (.ref zbf) "words" =some (some (.ref zbx)))
  (zwn:W.findIn K (.ref zbg) "__init__" =some (some (.ref zby)))
  (zwo:W.findIn K (.ref zbg) "rooms" =some (some (.ref zbz)))
  (zwp:W.findIn K (.ref zbg) "doors" =some (some (.ref zca)))
  (zwq:W.findIn K (.ref zbg) "need_room" =some (some (.ref zcb)))
  (zwr:W.findIn K (.ref zbg) "holds" =some (some (.ref zcc)))
  (zws:W.findIn K (.ref zbg) "found" =some (some (.ref zcd)))
  (zwt:W.findIn K (.ref zbg) "into" =some (some (.ref zce)))
  (zwu:W.findIn K (.ref zbg) "from_room" =some (some (.ref zcf)))
  (zwv:W.findIn K (.ref zbg) "door" =some (some (.ref zcg)))
  (zww:W.findIn K (.ref zbg) "lets" =some (some (.ref zch)))
  (zwx:W.findIn K (.ref zbg) "total" =some (some (.ref zci)))
  (zwy:W.findIn K (.ref zbg) "pairs" =some (some (.ref zcj)))
  (zwz:K.lookup zaa=some ⟨zcn,zck,.func (W.fnOf "_wall" "_wall" (aJ nG) (aI nG) (aB nG) .none zco zcp zcq zcl zcr zcs),zcm⟩)
  (zxa:W.codeIn K zcr "_wall" =true)
  (zxb:W.keepIn K (.ref zaa)=true)
  (zxc:K.lookup zab=some ⟨zcw,zct,.func (W.fnOf "added_up" "added_up" (aJ gD) (aI gD) (aB gD) .none zcx zcy zcz zcu zda zdb),zcv⟩)
  (zxd:W.codeIn K zda "added_up" =true)
  (zxe:W.keepIn K (.ref zab)=true)
  (zxf:K.lookup zac=some ⟨zdf,zdc,.func (W.fnOf "rows_that_count" "rows_that_count" (aJ cN) (aI cN) (aB cN) .none zdg zdh zdi zdd zdj zdk),zde⟩)
  (zxg:W.codeIn K zdj "rows_that_count" =true)
  (zxh:W.keepIn K (.ref zac)=true)
  (zxi:K.lookup zad=some ⟨zdo,zdl,.func (W.fnOf "leaving" "leaving" (aJ hG) (aI hG) (aB hG) .none zdp zdq zdr zdm zds zdt),zdn⟩)
  (zxj:W.codeIn K zds "leaving" =true)
  (zxk:W.keepIn K (.ref zad)=true)
  (zxl:K.lookup zae=some ⟨zdx,zdu,.func (W.fnOf "coming" "coming" (aJ i9) (aI i9) (aB i9) .none zdy zdz zea zdv zeb zec),zdw⟩)
  (zxm:W.codeIn K zeb "coming" =true)
  (zxn:W.keepIn K (.ref zae)=true)
  (zxo:K.lookup zaf=some ⟨zeg,zed,.func (W.fnOf "there" "there" (aJ kY) (aI kY) (aB kY) .none zeh zei zej zee zek zel),zef⟩)
  (zxp:W.codeIn K zek "there" =true)
  (zxq:W.keepIn K (.ref zaf)=true)
  (zxr:K.lookup zag=some ⟨zep,zem,.func (W.fnOf "most_through" "most_through" (aJ c8) (aI c8) (aB c8) .none zeq zer zes zen zet zeu),zeo⟩)
  (zxs:W.codeIn K zet "most_through" =true)
  (zxt:W.keepIn K (.ref zag)=true)
  (zxu:K.lookup zah=some ⟨zey,zev,.func (W.fnOf "door_faults" "door_faults" (aJ d3) (aI d3) (aB d3) .none zez zfa zfb zew zfc zfd),zex⟩)
  (zxv:W.codeIn K zfc "door_faults" =true)
  (zxw:W.keepIn K (.ref zah)=true)
  (zxx:K.lookup zai=some ⟨zfh,zfe,.func (W.fnOf "leave_faults" "leave_faults" (aJ dH) (aI dH) (aB dH) .none zfi zfj zfk zff zfl zfm),zfg⟩)
  (zxy:W.codeIn K zfl "leave_faults" =true)
  (zxz:W.keepIn K (.ref zai)=true)
  (zya:K.lookup zaj=some ⟨zfq,zfn,.func (W.fnOf "full_faults" "full_faults" (aJ dY) (aI dY) (aB dY) .none zfr zfs zft zfo zfu zfv),zfp⟩)
  (zyb:W.codeIn K zfu "full_faults" =true)
  (zyc:W.keepIn K (.ref zaj)=true)
  (zyd:K.lookup zak=some ⟨zfz,zfw,.func (W.fnOf "faults" "faults" (aJ i8) (aI i8) (aB i8) .none zga zgb zgc zfx zgd zge),zfy⟩)
  (zye:W.codeIn K zgd "faults" =true)
  (zyf:W.keepIn K (.ref zak)=true)
  (zyg:K.lookup zal=some ⟨zgi,zgf,.func (W.fnOf "is_whole" "is_whole" (aJ gB) (aI gB) (aB gB) .none zgj zgk zgl zgg zgm zgn),zgh⟩)
  (zyh:W.codeIn K zgm "is_whole" =true)
  (zyi:W.keepIn K (.ref zal)=true)
  (zyj:K.lookup zam=some ⟨zgr,zgo,.func (W.fnOf "is_name" "is_name" (aJ gZ) (aI gZ) (aB gZ) .none zgs zgt zgu zgp zgv zgw),zgq⟩)
  (zyk:W.codeIn K zgv "is_name" =true)
  (zyl:W.keepIn K (.ref zam)=true)
  (zym:K.lookup zan=some ⟨zha,zgx,.func (W.fnOf "need_name" "need_name" (aJ fG) (aI fG) (aB fG) .none zhb zhc zhd zgy zhe zhf),zgz⟩)
  (zyn:W.codeIn K zhe "need_name" =true)
  (zyo:W.keepIn K (.ref zan)=true)
  (zyp:K.lookup zao=some ⟨zhj,zhg,.func (W.fnOf "need_whole" "need_whole" (aJ eQ) (aI eQ) (aB eQ) .none zhk zhl zhm zhh zhn zho),zhi⟩)
  (zyq:W.codeIn K zhn "need_whole" =true)
  (zyr:W.keepIn K (.ref zao)=true)
  (zys:K.lookup zap=some ⟨zhs,zhp,.func (W.fnOf "need_turns" "need_turns" (aJ eS) (aI eS) (aB eS) .none zht zhu zhv zhq zhw zhx),zhr⟩)
  (zyt:W.codeIn K zhw "need_turns" =true)
  (zyu:W.keepIn K (.ref zap)=true)
  (zyv:K.lookup zaq=some ⟨zib,zhy,.func (W.fnOf "need_each_once" "need_each_once" (aJ cW) (aI cW) (aB cW) .none zic zid zie zhz zif zig),zia⟩)
  (zyw:W.codeIn K zif "need_each_once" =true)
  (zyx:W.keepIn K (.ref zaq)=true)
  (zyy:K.lookup zar=some ⟨zik,zih,.func (W.fnOf "rooms_spoken_of" "rooms_spoken_of" (aJ cK) (aI cK) (aB cK) .none zil zim zin zii zio ziq),zij⟩)
  (zyz:W.codeIn K zio "rooms_spoken_of" =true)
  (zza:W.keepIn K (.ref zar)=true)
  (zzb:K.lookup zas=some ⟨ziu,zir,.func (W.fnOf "need_rooms" "need_rooms" (aJ eU) (aI eU) (aB eU) .none ziv ziw zix zis ziy ziz),zit⟩)
  (zzc:W.codeIn K ziy "need_rooms" =true)
  (zzd:W.keepIn K (.ref zas)=true)
  (zze:K.lookup zat=some ⟨zjd,zja,.func (W.fnOf "added_people" "added_people" (aJ dE) (aI dE) (aB dE) .none zje zjf zjg zjb zjh zji),zjc⟩)
  (zzf:W.codeIn K zjh "added_people" =true)
  (zzg:W.keepIn K (.ref zat)=true)
  (zzh:K.lookup zau=some ⟨zjm,zjj,.func (W.fnOf "need_space" "need_space" (aJ eR) (aI eR) (aB eR) .none zjn zjo zjp zjk zjq zjr),zjl⟩)
  (zzi:W.codeIn K zjq "need_space" =true)
  (zzj:W.keepIn K (.ref zau)=true)
  (zzk:K.lookup zav=some ⟨zjv,zjs,.func (W.fnOf "_law_cell_at" "_law_cell_at" (aJ dG) (aI dG) (aB dG) .none zjw zjx zjy zjt zjz zka),zju⟩)
  (zzl:W.codeIn K zjz "_law_cell_at" =true)
  (zzm:W.keepIn K (.ref zav)=true)
  (zzn:K.lookup zaw=some ⟨zke,zkb,.func (W.fnOf "_law_drawn" "_law_drawn" (aJ eK) (aI eK) (aB eK) .none zkf zkg zkh zkc zki zkj),zkd⟩)
  (zzo:W.codeIn K zki "_law_drawn" =true)
  (zzp:W.keepIn K (.ref zaw)=true)
  (zzq:K.lookup zax=some ⟨zkn,zkk,.func (W.fnOf "_law_door" "_law_door" (aJ fH) (aI fH) (aB fH) .none zko zkp zkq zkl zkr zks),zkm⟩)
  (zzr:W.codeIn K zkr "_law_door" =true)
  (zzs:W.keepIn K (.ref zax)=true)
  (zzt:K.lookup zay=some ⟨zkw,zkt,.func (W.fnOf "_law_house" "_law_house" (aJ eT) (aI eT) (aB eT) .none zkx zky zkz zku zla zlb),zkv⟩)
  (zzu:W.codeIn K zla "_law_house" =true)
  (zzv:W.keepIn K (.ref zay)=true)
  (zzw:K.lookup zaz=some ⟨zlf,zlc,.func (W.fnOf "_law_plan" "_law_plan" (aJ fJ) (aI fJ) (aB fJ) .none zlg zlh zli zld zlj zlk),zle⟩)
  (zzx:W.codeIn K zlj "_law_plan" =true)
  (zzy:W.keepIn K (.ref zaz)=true)
  (zzz:K.lookup zba=some ⟨zlo,zll,.func (W.fnOf "_law_gone" "_law_gone" (aJ fE) (aI fE) (aB fE) .none zlp zlq zlr zlm zls zlt),zln⟩)
  (zbaa:W.codeIn K zls "_law_gone" =true)
  (zbab:W.keepIn K (.ref zba)=true)
  (zbac:K.lookup zbb=some ⟨zlx,zlu,.func (W.fnOf "_law_due" "_law_due" (aJ f9) (aI f9) (aB f9) .none zly zlz zma zlv zmb zmc),zlw⟩)
  (zbad:W.codeIn K zmb "_law_due" =true)
  (zbae:W.keepIn K (.ref zbb)=true)
  (zbaf:K.lookup zbc=some ⟨zmg,zmd,.func (W.fnOf "law" "law" (aJ lN) (aI lN) (aB lN) .none zmh zmi zmj zme zmk zml),zmf⟩)
  (zbag:W.codeIn K zmk "law" =true)
  (zbah:W.keepIn K (.ref zbc)=true)
  (zbai:K.lookup zbo=some ⟨zmp,zmm,.func (W.fnOf "__init__" "Door.__init__" (aJ cC) (aI cC) (aB cC) (.ref zmv) zmq zmr zms zmn zmt zmu),zmo⟩)
  (zbaj:W.codeIn K zmt "Door.__init__" =true)
  (zbak:W.keepIn K (.ref zbo)=true)
  (zbal:K.lookup zmv=some ⟨zmx,zmy,.seq #[.none,.int 1 zmw] zmz,zna⟩)
  (zbam:K.lookup zbp=some ⟨zne,znb,.func (W.fnOf "lets" "Door.lets" (aJ fI) (aI fI) (aB fI) .none znf zng znh znc zni znj),znd⟩)
  (zban:W.codeIn K zni "Door.lets" =true)
  (zbao:W.keepIn K (.ref zbp)=true)
  (zbap:K.lookup zbq=some ⟨znn,znk,.func (W.fnOf "is_exit" "Door.is_exit" (aJ dF) (aI dF) (aB dF) .none zno znp znq znl znr zns),znm⟩)
  (zbaq:W.codeIn K znr "Door.is_exit" =true)
  (zbar:W.keepIn K (.ref zbq)=true)
  (zbas:K.lookup zbr=some ⟨znw,znt,.func (W.fnOf "words" "Door.words" (aJ fR) (aI fR) (aB fR) .none znx zny znz znu zoa zob),znv⟩)
  (zbat:W.codeIn K zoa "Door.words" =true)
  (zbau:W.keepIn K (.ref zbr)=true)
  (zbav:K.lookup zbs=some ⟨zof,zoc,.func (W.fnOf "__init__" "Until.__init__" (aJ cV) (aI cV) (aB cV) .none zog zoh zoi zod zoj zok),zoe⟩)
  (zbaw:W.codeIn K zoj "Until.__init__" =true)
  (zbax:W.keepIn K (.ref zbs)=true)
  (zbay:K.lookup zbt=some ⟨zoo,zol,.func (W.fnOf "lets" "Until.lets" (aJ eJ) (aI eJ) (aB eJ) .none zop zoq zor zom zos zot),zon⟩)
  (zbaz:W.codeIn K zos "Until.lets" =true)
  (zbba:W.keepIn K (.ref zbt)=true)
  (zbbb:K.lookup zbu=some ⟨zox,zou,.func (W.fnOf "words" "Until.words" (aJ fA) (aI fA) (aB fA) .none zoy zoz zpa zov zpb zpc),zow⟩)
  (zbbc:W.codeIn K zpb "Until.words" =true)
  (zbbd:W.keepIn K (.ref zbu)=true)
  (zbbe:K.lookup zbv=some ⟨zpg,zpd,.func (W.fnOf "__init__" "Marked.__init__" (aJ cM) (aI cM) (aB cM) .none zph zpi zpj zpe zpk zpl),zpf⟩)
  (zbbf:W.codeIn K zpk "Marked.__init__" =true)
  (zbbg:W.keepIn K (.ref zbv)=true)
  (zbbh:K.lookup zbw=some ⟨zpp,zpm,.func (W.fnOf "lets" "Marked.lets" (aJ dQ) (aI dQ) (aB dQ) .none zpq zpr zps zpn zpt zpu),zpo⟩)
  (zbbi:W.codeIn K zpt "Marked.lets" =true)
  (zbbj:W.keepIn K (.ref zbw)=true)
  (zbbk:K.lookup zbx=some ⟨zpy,zpv,.func (W.fnOf "words" "Marked.words" (aJ d7) (aI d7) (aB d7) .none zpz zqa zqb zpw zqc zqd),zpx⟩)
  (zbbl:W.codeIn K zqc "Marked.words" =true)
  (zbbm:W.keepIn K (.ref zbx)=true)
  (zbbn:K.lookup zby=some ⟨zqh,zqe,.func (W.fnOf "__init__" "House.__init__" (aJ cE) (aI cE) (aB cE) (.ref zqn) zqi zqj zqk zqf zql zqm),zqg⟩)
  (zbbo:W.codeIn K zql "House.__init__" =true)
  (zbbp:W.keepIn K (.ref zby)=true)
  (zbbq:K.lookup zqn=some ⟨zqp,zqq,.seq #[.int 0 zqo] zqr,zqs⟩)
  (zbbr:K.lookup zbz=some ⟨zqw,zqt,.func (W.fnOf "rooms" "House.rooms" (aJ dU) (aI dU) (aB dU) .none zqx zqy zqz zqu zra zrb),zqv⟩)
  (zbbs:W.codeIn K zra "House.rooms" =true)
  (zbbt:W.keepIn K (.ref zbz)=true)
  (zbbu:K.lookup zca=some ⟨zrf,zrc,.func (W.fnOf "doors" "House.doors" (aJ dW) (aI dW) (aB dW) .none zrg zrh zri zrd zrj zrk),zre⟩)
  (zbbv:W.codeIn K zrj "House.doors" =true)
  (zbbw:W.keepIn K (.ref zca)=true)
  (zbbx:K.lookup zcb=some ⟨zro,zrl,.func (W.fnOf "need_room" "House.need_room" (aJ cJ) (aI cJ) (aB cJ) .none zrp zrq zrr zrm zrs zrt),zrn⟩)
  (zbby:W.codeIn K zrs "House.need_room" =true)
  (zbbz:W.keepIn K (.ref zcb)=true)
  (zbca:K.lookup zcc=some ⟨zrx,zru,.func (W.fnOf "holds" "House.holds" (aJ dP) (aI dP) (aB dP) .none zry zrz zsa zrv zsb zsc),zrw⟩)
  (zbcb:W.codeIn K zsb "House.holds" =true)
  (zbcc:W.keepIn K (.ref zcc)=true)
  (zbcd:K.lookup zcd=some ⟨zsg,zsd,.func (W.fnOf "found" "House.found" (aJ dZ) (aI dZ) (aB dZ) .none zsh zsi zsj zse zsk zsl),zsf⟩)
  (zbce:W.codeIn K zsk "House.found" =true)
  (zbcf:W.keepIn K (.ref zcd)=true)
  (zbcg:K.lookup zce=some ⟨zsp,zsm,.func (W.fnOf "into" "House.into" (aJ fU) (aI fU) (aB fU) .none zsq zsr zss zsn zst zsu),zso⟩)
  (zbch:W.codeIn K zst "House.into" =true)
  (zbci:W.keepIn K (.ref zce)=true)
  (zbcj:K.lookup zcf=some ⟨zsy,zsv,.func (W.fnOf "from_room" "House.from_room" (aJ c5) (aI c5) (aB c5) .none zsz zta ztb zsw ztc ztd),zsx⟩)
  (zbck:W.codeIn K ztc "House.from_room" =true)
  (zbcl:W.keepIn K (.ref zcf)=true)
  (zbcm:K.lookup zcg=some ⟨zth,zte,.func (W.fnOf "door" "House.door" (aJ eN) (aI eN) (aB eN) .none zti ztj ztk ztf ztl ztm),ztg⟩)
  (zbcn:W.codeIn K ztl "House.door" =true)
  (zbco:W.keepIn K (.ref zcg)=true)
  (zbcp:K.lookup zch=some ⟨ztq,ztn,.func (W.fnOf "lets" "House.lets" (aJ eM) (aI eM) (aB eM) .none ztr zts ztt zto ztu ztv),ztp⟩)
  (zbcq:W.codeIn K ztu "House.lets" =true)
  (zbcr:W.keepIn K (.ref zch)=true)
  (zbcs:K.lookup zci=some ⟨ztz,ztw,.func (W.fnOf "total" "House.total" (aJ eZ) (aI eZ) (aB eZ) .none zua zub zuc ztx zud zue),zty⟩)
  (zbct:W.codeIn K zud "House.total" =true)
  (zbcu:W.keepIn K (.ref zci)=true)
  (zbcv:K.lookup zcj=some ⟨zui,zuf,.func (W.fnOf "pairs" "House.pairs" (aJ dX) (aI dX) (aB dX) .none zuj zuk zul zug zum zun),zuh⟩)
  (zbcw:W.codeIn K zum "House.pairs" =true)
  (zbcx:W.keepIn K (.ref zcj)=true)
  (zbcy:W.plainGet K zbd Str.empty=true)
  (zbcz:W.hasDictIn K zbd=true)
  (zbda:W.plainOver K zbd=true)
  (zbdb:W.findIn K (.ref zbd) "__setattr__" =some (some (.builtin "object.__setattr__")))
  (zbdc:W.makesIn K zbd=true)
  (zbdd:W.keepIn K (.ref zbd)=true)
  (zbde:W.findIn K (.ref zbd) "__class__" =some (some (.builtin "object.__class__")))
  (zbdf:W.mroIn K zbd (.type "object")=some true)
  (zbdg:W.findIn K (.ref zbd) "name" =some none)
  (zbdh:W.findIn K (.ref zbd) "start" =some none)
  (zbdi:W.findIn K (.ref zbd) "end" =some none)
  (zbdj:W.findIn K (.ref zbd) "wide" =some none)
  (zbdk:W.findIn K (.ref zbd) "until" =some none)
  (zbdl:W.findIn K (.ref zbd) "bits" =some none)
  (zbdm:W.findIn K (.ref zbd) "first" =some none)
  (zbdn:W.findIn K (.ref zbd) "last" =some none)
  (zbdo:W.findIn K (.ref zbd) "sizes" =some none)
  (zbdp:W.findIn K (.ref zbd) "people" =some none)
  (zbdq:W.findIn K (.ref zbd) "named_doors" =some none)
  (zbdr:W.findIn K (.ref zbd) "__init__" =some (some (.ref zbo)))
  (zbds:W.isFn K (.ref zbo)=true)
  (zbdt:W.findIn K (.ref zbd) "lets" =some (some (.ref zbp)))
  (zbdu:W.isFn K (.ref zbp)=true)
  (zbdv:W.findIn K (.ref zbd) "is_exit" =some (some (.ref zbq)))
  (zbdw:W.isFn K (.ref zbq)=true)
  (zbdx:W.findIn K (.ref zbd) "words" =some (some (.ref zbr)))
  (zbdy:W.isFn K (.ref zbr)=true)
  (zbdz:W.plainGet K zbe Str.empty=true)
  (zbea:W.hasDictIn K zbe=true)
  (zbeb:W.plainOver K zbe=true)
  (zbec:W.findIn K (.ref zbe) "__setattr__" =some (some (.builtin "object.__setattr__")))
  (zbed:W.makesIn K zbe=true)
  (zbee:W.keepIn K (.ref zbe)=true)
  (zbef:W.findIn K (.ref zbe) "__class__" =some (some (.builtin "object.__class__")))
  (zbeg:W.mroIn K zbe (.type "object")=some true)
  (zbeh:W.findIn K (.ref zbe) "name" =some none)
  (zbei:W.findIn K (.ref zbe) "start" =some none)
  (zbej:W.findIn K (.ref zbe) "end" =some none)
  (zbek:W.findIn K (.ref zbe) "wide" =some none)
  (zbel:W.findIn K (.ref zbe) "until" =some none)
  (zbem:W.findIn K (.ref zbe) "bits" =some none)
  (zben:W.findIn K (.ref zbe) "first" =some none)
  (zbeo:W.findIn K (.ref zbe) "last" =some none)
  (zbep:W.findIn K (.ref zbe) "sizes" =some none)
  (zbeq:W.findIn K (.ref zbe) "people" =some none)
  (zber:W.findIn K (.ref zbe) "named_doors" =some none)
  (zbes:W.findIn K (.ref zbe) "__init__" =some (some (.ref zbs)))
  (zbet:W.isFn K (.ref zbs)=true)
  (zbeu:W.findIn K (.ref zbe) "lets" =some (some (.ref zbt)))
  (zbev:W.isFn K (.ref zbt)=true)
  (zbew:W.findIn K (.ref zbe) "words" =some (some (.ref zbu)))
  (zbex:W.isFn K (.ref zbu)=true)
  (zbey:W.findIn K (.ref zbe) "is_exit" =some (some (.ref zbq)))
  (zbez:W.isFn K (.ref zbq)=true)
  (zbfa:W.plainGet K zbf Str.empty=true)
  (zbfb:W.hasDictIn K zbf=true)
  (zbfc:W.plainOver K zbf=true)
  (zbfd:W.findIn K (.ref zbf) "__setattr__" =some (some (.builtin "object.__setattr__")))
  (zbfe:W.makesIn K zbf=true)
  (zbff:W.keepIn K (.ref zbf)=true)
  (zbfg:W.findIn K (.ref zbf) "__class__" =some (some (.builtin "object.__class__")))
  (zbfh:W.mroIn K zbf (.type "object")=some true)
  (zbfi:W.findIn K (.ref zbf) "name" =some none)
  (zbfj:W.findIn K (.ref zbf) "start" =some none)
  (zbfk:W.findIn K (.ref zbf) "end" =some none)
  (zbfl:W.findIn K (.ref zbf) "wide" =some none)
  (zbfm:W.findIn K (.ref zbf) "until" =some none)
  (zbfn:W.findIn K (.ref zbf) "bits" =some none)
  (zbfo:W.findIn K (.ref zbf) "first" =some none)
  (zbfp:W.findIn K (.ref zbf) "last" =some none)
  (zbfq:W.findIn K (.ref zbf) "sizes" =some none)
  (zbfr:W.findIn K (.ref zbf) "people" =some none)
  (zbfs:W.findIn K (.ref zbf) "named_doors" =some none)
  (zbft:W.findIn K (.ref zbf) "__init__" =some (some (.ref zbv)))
  (zbfu:W.isFn K (.ref zbv)=true)
  (zbfv:W.findIn K (.ref zbf) "lets" =some (some (.ref zbw)))
  (zbfw:W.isFn K (.ref zbw)=true)
  (zbfx:W.findIn K (.ref zbf) "words" =some (some (.ref zbx)))
  (zbfy:W.isFn K (.ref zbx)=true)
  (zbfz:W.findIn K (.ref zbf) "is_exit" =some (some (.ref zbq)))
  (zbga:W.isFn K (.ref zbq)=true)
  (zbgb:W.plainGet K zbg Str.empty=true)
  (zbgc:W.hasDictIn K zbg=true)
  (zbgd:W.plainOver K zbg=true)
  (zbge:W.findIn K (.ref zbg) "__setattr__" =some (some (.builtin "object.__setattr__")))
  (zbgf:W.makesIn K zbg=true)
  (zbgg:W.keepIn K (.ref zbg)=true)
  (zbgh:W.findIn K (.ref zbg) "__class__" =some (some (.builtin "object.__class__")))
  (zbgi:W.mroIn K zbg (.type "object")=some true)
  (zbgj:W.findIn K (.ref zbg) "name" =some none)
  (zbgk:W.findIn K (.ref zbg) "start" =some none)
  (zbgl:W.findIn K (.ref zbg) "end" =some none)
  (zbgm:W.findIn K (.ref zbg) "wide" =some none)
  (zbgn:W.findIn K (.ref zbg) "until" =some none)
  (zbgo:W.findIn K (.ref zbg) "bits" =some none)
  (zbgp:W.findIn K (.ref zbg) "first" =some none)
  (zbgq:W.findIn K (.ref zbg) "last" =some none)
  (zbgr:W.findIn K (.ref zbg) "sizes" =some none)
  (zbgs:W.findIn K (.ref zbg) "people" =some none)
  (zbgt:W.findIn K (.ref zbg) "named_doors" =some none)
  (zbgu:W.findIn K (.ref zbg) "__init__" =some (some (.ref zby)))
  (zbgv:W.isFn K (.ref zby)=true)
  (zbgw:W.findIn K (.ref zbg) "rooms" =some (some (.ref zbz)))
  (zbgx:W.isFn K (.ref zbz)=true)
  (zbgy:W.findIn K (.ref zbg) "doors" =some (some (.ref zca)))
  (zbgz:W.isFn K (.ref zca)=true)
  (zbha:W.findIn K (.ref zbg) "need_room" =some (some (.ref zcb)))
  (zbhb:W.isFn K (.ref zcb)=true)
  (zbhc:W.findIn K (.ref zbg) "holds" =some (some (.ref zcc)))
  (zbhd:W.isFn K (.ref zcc)=true)
  (zbhe:W.findIn K (.ref zbg) "found" =some (some (.ref zcd)))
  (zbhf:W.isFn K (.ref zcd)=true)
  (zbhg:W.findIn K (.ref zbg) "into" =some (some (.ref zce)))
  (zbhh:W.isFn K (.ref zce)=true)
  (zbhi:W.findIn K (.ref zbg) "from_room" =some (some (.ref zcf)))
  (zbhj:W.isFn K (.ref zcf)=true)
  (zbhk:W.findIn K (.ref zbg) "door" =some (some (.ref zcg)))
  (zbhl:W.isFn K (.ref zcg)=true)
  (zbhm:W.findIn K (.ref zbg) "lets" =some (some (.ref zch)))
  (zbhn:W.isFn K (.ref zch)=true)
  (zbho:W.findIn K (.ref zbg) "total" =some (some (.ref zci)))
  (zbhp:W.isFn K (.ref zci)=true)
  (zbhq:W.findIn K (.ref zbg) "pairs" =some (some (.ref zcj)))
  (zbhr:W.isFn K (.ref zcj)=true)
  (zbhs:W.specialIn K (.builtin "object.__class__") "__get__" =some (some (.builtin "getset_descriptor.__get__")))
  (zbht:W.takesIn K (.builtin "object.__class__")=some true)
  (zbhu:W.specialIn K (.ref zbd) "__getattribute__" =some (some (.builtin "type.__getattribute__")))
  (zbhv:W.readsIn K zbd (.type "type")=true)
  (zbhw:W.findCls K (.ref zbd) (.type "type") "__init__" =some (.val (.ref zbo)))
  (zbhx:W.nsIn K mainGlobals "ValueError" =some none)
  (zbhy:W.nsIn K mainGlobals "sorted" =some none)
  (zbhz:W.nsIn K mainGlobals "any" =some none)
  (zbia:W.nsIn K mainGlobals "range" =some none)
  (zbib:W.nsIn K mainGlobals "enumerate" =some none)
  (zbic:W.nsIn K mainGlobals "sum" =some none)
  (zbid:W.nsIn K mainGlobals "list" =some none)
  (zbie:W.nsIn K mainGlobals "isinstance" =some none)
  (zbif:W.nsIn K mainGlobals "int" =some none)
  (zbig:W.nsIn K mainGlobals "str" =some none)
  (zbih:W.nsIn K mainGlobals "all" =some none)
  (zbii:W.nsIn K mainGlobals "dict" =some none)
  (zbij:W.nsIn K mainGlobals "len" =some none)
  (zbik:W.nsIn K mainGlobals "bool" =some none)
  (zbil:W.nsIn K mainGlobals "max" =some none)
  (zbim:W.nsIn K mainGlobals "LONGEST_NAME" =some (some (.int 8 zuo))) :
  ∃fd:FuncData,(∀(s:Shared) (v:Value),BindsTo s fd ⟨[v],[]⟩ [("_law_script",v)])/\∀base:Heap,K.In base->base.Ns mainGlobals mg->bI l.prog w K mg base CX0 20 fa fd ["_law_script"] (tW K):=by
 have e:=hfa.symm.trans (W.mg_of X G zvr);cases e;have zbin:=aP (st:=nG) zwz zxa zxb;have zbio:=aS (K:=K) (x:= "_wall") (qual:= "_wall") (st:=nG) (kV:=zco) (doc:=zcp) (pm:=zcq) (an:=zcl) (cdv:=zcr) (ct:=zcs) (ps:=["k"])<|aK 1 _ fun _=>rfl
 have zbip:=aP (st:=gD) zxc zxd zxe;have zbiq:=aS (K:=K) (x:= "added_up") (qual:= "added_up") (st:=gD) (kV:=zcx) (doc:=zcy) (pm:=zcz) (an:=zcu) (cdv:=zda) (ct:=zdb) (ps:=["plan"])<|aK 1 _ fun _=>rfl
 have zbir:=aP (st:=cN) zxf zxg zxh;have zbis:=aS (K:=K) (x:= "rows_that_count") (qual:= "rows_that_count") (st:=cN) (kV:=zdg) (doc:=zdh) (pm:=zdi) (an:=zdd) (cdv:=zdj) (ct:=zdk) (ps:=["house","plan"])<|aK 2 _ fun _ _=>rfl
 have zbit:=aP (st:=hG) zxi zxj zxk;have zbiu:=aS (K:=K) (x:= "leaving") (qual:= "leaving") (st:=hG) (kV:=zdp) (doc:=zdq) (pm:=zdr) (an:=zdm) (cdv:=zds) (ct:=zdt) (ps:=["house","plan"])<|aK 2 _ fun _ _=>rfl
 have zbiv:=aP (st:=i9) zxl zxm zxn;have zbiw:=aS (K:=K) (x:= "coming") (qual:= "coming") (st:=i9) (kV:=zdy) (doc:=zdz) (pm:=zea) (an:=zdv) (cdv:=zeb) (ct:=zec) (ps:=["house","plan"])<|aK 2 _ fun _ _=>rfl
 have zbix:=aP (st:=kY) zxo zxp zxq;have zbiy:=aS (K:=K) (x:= "there") (qual:= "there") (st:=kY) (kV:=zeh) (doc:=zei) (pm:=zej) (an:=zee) (cdv:=zek) (ct:=zel) (ps:=["house","plan"])<|aK 2 _ fun _ _=>rfl
 have zbiz:=aP (st:=c8) zxr zxs zxt;have zbja:=aS (K:=K) (x:= "most_through") (qual:= "most_through") (st:=c8) (kV:=zeq) (doc:=zer) (pm:=zes) (an:=zen) (cdv:=zet) (ct:=zeu) (ps:=["house","turn","name"])<|aK 3 _ fun _ _ _=>rfl
 have zbjb:=aP (st:=d3) zxu zxv zxw;have zbjc:=aS (K:=K) (x:= "door_faults") (qual:= "door_faults") (st:=d3) (kV:=zez) (doc:=zfa) (pm:=zfb) (an:=zew) (cdv:=zfc) (ct:=zfd) (ps:=["house","plan"])<|aK 2 _ fun _ _=>rfl
 have zbjd:=aP (st:=dH) zxx zxy zxz;have zbje:=aS (K:=K) (x:= "leave_faults") (qual:= "leave_faults") (st:=dH) (kV:=zfi) (doc:=zfj) (pm:=zfk) (an:=zff) (cdv:=zfl) (ct:=zfm) (ps:=["house","plan","inside"])<|aK 3 _ fun _ _ _=>rfl
 have zbjf:=aP (st:=dY) zya zyb zyc;have zbjg:=aS (K:=K) (x:= "full_faults") (qual:= "full_faults") (st:=dY) (kV:=zfr) (doc:=zfs) (pm:=zft) (an:=zfo) (cdv:=zfu) (ct:=zfv) (ps:=["house","inside"])<|aK 2 _ fun _ _=>rfl
 have zbjh:=aP (st:=i8) zyd zye zyf;have zbji:=aS (K:=K) (x:= "faults") (qual:= "faults") (st:=i8) (kV:=zga) (doc:=zgb) (pm:=zgc) (an:=zfx) (cdv:=zgd) (ct:=zge) (ps:=["house","plan"])<|aK 2 _ fun _ _=>rfl
 have zbjj:=aP (st:=gB) zyg zyh zyi;have zbjk:=aS (K:=K) (x:= "is_whole") (qual:= "is_whole") (st:=gB) (kV:=zgj) (doc:=zgk) (pm:=zgl) (an:=zgg) (cdv:=zgm) (ct:=zgn) (ps:=["thing"])<|aK 1 _ fun _=>rfl
 have zbjl:=aP (st:=gZ) zyj zyk zyl;have zbjm:=aS (K:=K) (x:= "is_name") (qual:= "is_name") (st:=gZ) (kV:=zgs) (doc:=zgt) (pm:=zgu) (an:=zgp) (cdv:=zgv) (ct:=zgw) (ps:=["thing"])<|aK 1 _ fun _=>rfl
 have zbjn:=aP (st:=fG) zym zyn zyo;have zbjo:=aS (K:=K) (x:= "need_name") (qual:= "need_name") (st:=fG) (kV:=zhb) (doc:=zhc) (pm:=zhd) (an:=zgy) (cdv:=zhe) (ct:=zhf) (ps:=["part","thing"])<|aK 2 _ fun _ _=>rfl
 have zbjp:=aP (st:=eQ) zyp zyq zyr;have zbjq:=aS (K:=K) (x:= "need_whole") (qual:= "need_whole") (st:=eQ) (kV:=zhk) (doc:=zhl) (pm:=zhm) (an:=zhh) (cdv:=zhn) (ct:=zho) (ps:=["part","thing","least"])<|aK 3 _ fun _ _ _=>rfl
 have zbjr:=aP (st:=eS) zys zyt zyu;have zbjs:=aS (K:=K) (x:= "need_turns") (qual:= "need_turns") (st:=eS) (kV:=zht) (doc:=zhu) (pm:=zhv) (an:=zhq) (cdv:=zhw) (ct:=zhx) (ps:=["first","last"])<|aK 2 _ fun _ _=>rfl
 have zbjt:=aP (st:=cW) zyv zyw zyx;have zbju:=aS (K:=K) (x:= "need_each_once") (qual:= "need_each_once") (st:=cW) (kV:=zic) (doc:=zid) (pm:=zie) (an:=zhz) (cdv:=zif) (ct:=zig) (ps:=["names"])<|aK 1 _ fun _=>rfl
 have zbjv:=aP (st:=cK) zyy zyz zza;have zbjw:=aS (K:=K) (x:= "rooms_spoken_of") (qual:= "rooms_spoken_of") (st:=cK) (kV:=zil) (doc:=zim) (pm:=zin) (an:=zii) (cdv:=zio) (ct:=ziq) (ps:=["doors","people"])<|aK 2 _ fun _ _=>rfl
 have zbjx:=aP (st:=eU) zzb zzc zzd;have zbjy:=aS (K:=K) (x:= "need_rooms") (qual:= "need_rooms") (st:=eU) (kV:=ziv) (doc:=ziw) (pm:=zix) (an:=zis) (cdv:=ziy) (ct:=ziz) (ps:=["names","sizes"])<|aK 2 _ fun _ _=>rfl
 have zbjz:=aP (st:=dE) zze zzf zzg;have zbka:=aS (K:=K) (x:= "added_people") (qual:= "added_people") (st:=dE) (kV:=zje) (doc:=zjf) (pm:=zjg) (an:=zjb) (cdv:=zjh) (ct:=zji) (ps:=["sizes","people"])<|aK 2 _ fun _ _=>rfl
 have zbkb:=aP (st:=eR) zzh zzi zzj;have zbkc:=aS (K:=K) (x:= "need_space") (qual:= "need_space") (st:=eR) (kV:=zjn) (doc:=zjo) (pm:=zjp) (an:=zjk) (cdv:=zjq) (ct:=zjr) (ps:=["sizes","people"])<|aK 2 _ fun _ _=>rfl
 have zbkd:=aP (st:=dG) zzk zzl zzm;have zbke:=aS (K:=K) (x:= "_law_cell_at") (qual:= "_law_cell_at") (st:=dG) (kV:=zjw) (doc:=zjx) (pm:=zjy) (an:=zjt) (cdv:=zjz) (ct:=zka) (ps:=["_law_script","_law_k"])<|aK 2 _ fun _ _=>rfl
 have zbkf:=aP (st:=eK) zzn zzo zzp;have zbkg:=aS (K:=K) (x:= "_law_drawn") (qual:= "_law_drawn") (st:=eK) (kV:=zkf) (doc:=zkg) (pm:=zkh) (an:=zkc) (cdv:=zki) (ct:=zkj) (ps:=["_law_cell","_law_k"])<|aK 2 _ fun _ _=>rfl
 have zbkh:=aP (st:=fH) zzq zzr zzs;have zbki:=aS (K:=K) (x:= "_law_door") (qual:= "_law_door") (st:=fH) (kV:=zko) (doc:=zkp) (pm:=zkq) (an:=zkl) (cdv:=zkr) (ct:=zks) (ps:=["_law_name","_law_rooms","_law_draw","_law_first"])<|aK 4 _ fun _ _ _ _=>rfl
 have zbkj:=aP (st:=eT) zzt zzu zzv;have zbkk:=aS (K:=K) (x:= "_law_house") (qual:= "_law_house") (st:=eT) (kV:=zkx) (doc:=zky) (pm:=zkz) (an:=zku) (cdv:=zla) (ct:=zlb) (ps:=["_law_script"])<|aK 1 _ fun _=>rfl
 have zbkl:=aP (st:=fJ) zzw zzx zzy;have zbkm:=aS (K:=K) (x:= "_law_plan") (qual:= "_law_plan") (st:=fJ) (kV:=zlg) (doc:=zlh) (pm:=zli) (an:=zld) (cdv:=zlj) (ct:=zlk) (ps:=["_law_house_here","_law_script"])<|aK 2 _ fun _ _=>rfl
 have zbkn:=aP (st:=fE) zzz zbaa zbab;have zbko:=aS (K:=K) (x:= "_law_gone") (qual:= "_law_gone") (st:=fE) (kV:=zlp) (doc:=zlq) (pm:=zlr) (an:=zlm) (cdv:=zls) (ct:=zlt) (ps:=["_law_house_here","_law_plan_here","_law_turn","_law_names"])<|aK 4 _ fun _ _ _ _=>rfl
 have zbkp:=aP (st:=f9) zbac zbad zbae;have zbkq:=aS (K:=K) (x:= "_law_due") (qual:= "_law_due") (st:=f9) (kV:=zly) (doc:=zlz) (pm:=zma) (an:=zlv) (cdv:=zmb) (ct:=zmc) (ps:=["_law_house_here","_law_plan_here"])<|aK 2 _ fun _ _=>rfl
 have zbkr:=aP (st:=lN) zbaf zbag zbah;have zbks:=aS (K:=K) (x:= "law") (qual:= "law") (st:=lN) (kV:=zmh) (doc:=zmi) (pm:=zmj) (an:=zme) (cdv:=zmk) (ct:=zml) (ps:=["_law_script"])<|aK 1 _ fun _=>rfl
 have zbkt:=aP (st:=cC) zbai zbaj zbak;have zbku:=qI 5 (K:=K) (x:= "__init__") (qual:= "Door.__init__") (st:=cC) (kV:=zmq) (doc:=zmr) (pm:=zms) (an:=zmn) (cdv:=zmt) (ct:=zmu) (ps:=["self","name","start","end","wide"]) (ds:=[]) zbal<|aK 5 _ fun _ _ _ _ _=>⟨_,rfl,rfl⟩
 have zbkv:=qI 4 (K:=K) (x:= "__init__") (qual:= "Door.__init__") (st:=cC) (kV:=zmq) (doc:=zmr) (pm:=zms) (an:=zmn) (cdv:=zmt) (ct:=zmu) (ps:=["self","name","start","end","wide"]) (ds:=[.int 1 zmw]) zbal<|aK 4 _ fun _ _ _ _=>⟨_,rfl,rfl⟩
 have zbkw:=qI 3 (K:=K) (x:= "__init__") (qual:= "Door.__init__") (st:=cC) (kV:=zmq) (doc:=zmr) (pm:=zms) (an:=zmn) (cdv:=zmt) (ct:=zmu) (ps:=["self","name","start","end","wide"]) (ds:=[.none,.int 1 zmw]) zbal<|aK 3 _ fun _ _ _=>⟨_,rfl,rfl⟩
 have zbkx:=aP (st:=fI) zbam zban zbao;have zbky:=aS (K:=K) (x:= "lets") (qual:= "Door.lets") (st:=fI) (kV:=znf) (doc:=zng) (pm:=znh) (an:=znc) (cdv:=zni) (ct:=znj) (ps:=["self","turn"])<|aK 2 _ fun _ _=>rfl
 have zbkz:=aP (st:=dF) zbap zbaq zbar;have zbla:=aS (K:=K) (x:= "is_exit") (qual:= "Door.is_exit") (st:=dF) (kV:=zno) (doc:=znp) (pm:=znq) (an:=znl) (cdv:=znr) (ct:=zns) (ps:=["self"])<|aK 1 _ fun _=>rfl
 have zblb:=aP (st:=fR) zbas zbat zbau;have zblc:=aS (K:=K) (x:= "words") (qual:= "Door.words") (st:=fR) (kV:=znx) (doc:=zny) (pm:=znz) (an:=znu) (cdv:=zoa) (ct:=zob) (ps:=["self"])<|aK 1 _ fun _=>rfl
 have zbld:=aP (st:=cV) zbav zbaw zbax;have zble:=aS (K:=K) (x:= "__init__") (qual:= "Until.__init__") (st:=cV) (kV:=zog) (doc:=zoh) (pm:=zoi) (an:=zod) (cdv:=zoj) (ct:=zok) (ps:=["self","name","start","end","wide","until"])<|aK 6 _ fun _ _ _ _ _ _=>rfl
 have zblf:=aP (st:=eJ) zbay zbaz zbba;have zblg:=aS (K:=K) (x:= "lets") (qual:= "Until.lets") (st:=eJ) (kV:=zop) (doc:=zoq) (pm:=zor) (an:=zom) (cdv:=zos) (ct:=zot) (ps:=["self","turn"])<|aK 2 _ fun _ _=>rfl
 have zblh:=aP (st:=fA) zbbb zbbc zbbd;have zbli:=aS (K:=K) (x:= "words") (qual:= "Until.words") (st:=fA) (kV:=zoy) (doc:=zoz) (pm:=zpa) (an:=zov) (cdv:=zpb) (ct:=zpc) (ps:=["self"])<|aK 1 _ fun _=>rfl
 have zblj:=aP (st:=cM) zbbe zbbf zbbg;have zblk:=aS (K:=K) (x:= "__init__") (qual:= "Marked.__init__") (st:=cM) (kV:=zph) (doc:=zpi) (pm:=zpj) (an:=zpe) (cdv:=zpk) (ct:=zpl) (ps:=["self","name","start","end","wide","bits"])<|aK 6 _ fun _ _ _ _ _ _=>rfl
 have zbll:=aP (st:=dQ) zbbh zbbi zbbj;have zblm:=aS (K:=K) (x:= "lets") (qual:= "Marked.lets") (st:=dQ) (kV:=zpq) (doc:=zpr) (pm:=zps) (an:=zpn) (cdv:=zpt) (ct:=zpu) (ps:=["self","turn"])<|aK 2 _ fun _ _=>rfl
 have zbln:=aP (st:=d7) zbbk zbbl zbbm;have zblo:=aS (K:=K) (x:= "words") (qual:= "Marked.words") (st:=d7) (kV:=zpz) (doc:=zqa) (pm:=zqb) (an:=zpw) (cdv:=zqc) (ct:=zqd) (ps:=["self"])<|aK 1 _ fun _=>rfl
 have zblp:=aP (st:=cE) zbbn zbbo zbbp;have zblq:=qI 6 (K:=K) (x:= "__init__") (qual:= "House.__init__") (st:=cE) (kV:=zqi) (doc:=zqj) (pm:=zqk) (an:=zqf) (cdv:=zql) (ct:=zqm) (ps:=["self","rooms","doors","people","last","first"]) (ds:=[]) zbbq<|aK 6 _ fun _ _ _ _ _ _=>⟨_,rfl,rfl⟩
 have zblr:=qI 5 (K:=K) (x:= "__init__") (qual:= "House.__init__") (st:=cE) (kV:=zqi) (doc:=zqj) (pm:=zqk) (an:=zqf) (cdv:=zql) (ct:=zqm) (ps:=["self","rooms","doors","people","last","first"]) (ds:=[.int 0 zqo]) zbbq<|aK 5 _ fun _ _ _ _ _=>⟨_,rfl,rfl⟩
 have zbls:=aP (st:=dU) zbbr zbbs zbbt;have zblt:=aS (K:=K) (x:= "rooms") (qual:= "House.rooms") (st:=dU) (kV:=zqx) (doc:=zqy) (pm:=zqz) (an:=zqu) (cdv:=zra) (ct:=zrb) (ps:=["self"])<|aK 1 _ fun _=>rfl
 have zblu:=aP (st:=dW) zbbu zbbv zbbw;have zblv:=aS (K:=K) (x:= "doors") (qual:= "House.doors") (st:=dW) (kV:=zrg) (doc:=zrh) (pm:=zri) (an:=zrd) (cdv:=zrj) (ct:=zrk) (ps:=["self"])<|aK 1 _ fun _=>rfl
 have zblw:=aP (st:=cJ) zbbx zbby zbbz;have zblx:=aS (K:=K) (x:= "need_room") (qual:= "House.need_room") (st:=cJ) (kV:=zrp) (doc:=zrq) (pm:=zrr) (an:=zrm) (cdv:=zrs) (ct:=zrt) (ps:=["self","room"])<|aK 2 _ fun _ _=>rfl
 have zbly:=aP (st:=dP) zbca zbcb zbcc;have zblz:=aS (K:=K) (x:= "holds") (qual:= "House.holds") (st:=dP) (kV:=zry) (doc:=zrz) (pm:=zsa) (an:=zrv) (cdv:=zsb) (ct:=zsc) (ps:=["self","room"])<|aK 2 _ fun _ _=>rfl
 have zbma:=aP (st:=dZ) zbcd zbce zbcf;have zbmb:=aS (K:=K) (x:= "found") (qual:= "House.found") (st:=dZ) (kV:=zsh) (doc:=zsi) (pm:=zsj) (an:=zse) (cdv:=zsk) (ct:=zsl) (ps:=["self","room"])<|aK 2 _ fun _ _=>rfl
 have zbmc:=aP (st:=fU) zbcg zbch zbci;have zbmd:=aS (K:=K) (x:= "into") (qual:= "House.into") (st:=fU) (kV:=zsq) (doc:=zsr) (pm:=zss) (an:=zsn) (cdv:=zst) (ct:=zsu) (ps:=["self","room"])<|aK 2 _ fun _ _=>rfl
 have zbme:=aP (st:=c5) zbcj zbck zbcl;have zbmf:=aS (K:=K) (x:= "from_room") (qual:= "House.from_room") (st:=c5) (kV:=zsz) (doc:=zta) (pm:=ztb) (an:=zsw) (cdv:=ztc) (ct:=ztd) (ps:=["self","room"])<|aK 2 _ fun _ _=>rfl
 have zbmg:=aP (st:=eN) zbcm zbcn zbco;have zbmh:=aS (K:=K) (x:= "door") (qual:= "House.door") (st:=eN) (kV:=zti) (doc:=ztj) (pm:=ztk) (an:=ztf) (cdv:=ztl) (ct:=ztm) (ps:=["self","name"])<|aK 2 _ fun _ _=>rfl
 have zbmi:=aP (st:=eM) zbcp zbcq zbcr;have zbmj:=aS (K:=K) (x:= "lets") (qual:= "House.lets") (st:=eM) (kV:=ztr) (doc:=zts) (pm:=ztt) (an:=zto) (cdv:=ztu) (ct:=ztv) (ps:=["self","name","turn"])<|aK 3 _ fun _ _ _=>rfl
 have zbmk:=aP (st:=eZ) zbcs zbct zbcu;have zbml:=aS (K:=K) (x:= "total") (qual:= "House.total") (st:=eZ) (kV:=zua) (doc:=zub) (pm:=zuc) (an:=ztx) (cdv:=zud) (ct:=zue) (ps:=["self"])<|aK 1 _ fun _=>rfl
 have zbmm:=aP (st:=dX) zbcv zbcw zbcx;have zbmn:=aS (K:=K) (x:= "pairs") (qual:= "House.pairs") (st:=dX) (kV:=zuj) (doc:=zuk) (pm:=zul) (an:=zug) (cdv:=zum) (ct:=zun) (ps:=["self"])<|aK 1 _ fun _=>rfl
 have zbmo:ICls K zbd:=⟨⟨zbcy,zbcz,zbda,zbdb⟩,zbde,zbhs,zbht,zbdf⟩
 have zbmp:ICls K zbe:=⟨⟨zbdz,zbea,zbeb,zbec⟩,zbef,zbhs,zbht,zbeg⟩
 have zbmq:ICls K zbf:=⟨⟨zbfa,zbfb,zbfc,zbfd⟩,zbfg,zbhs,zbht,zbfh⟩
 have zbmr:ICls K zbg:=⟨⟨zbgb,zbgc,zbgd,zbge⟩,zbgh,zbhs,zbht,zbgi⟩
 exact⟨W.fnOf "law" "law" (aJ lN) (aI lN) (aB lN) .none zmh zmi zmj zme zmk zml,fun s v=> .of_eq rfl,fun base _ _=>XD ⟨zaa,_,zbin,zbio,
  zab,_,zbip,zbiq,
  zac,_,zbir,zbis,
  zad,_,zbit,zbiu,
  zae,_,zbiv,zbiw,
  zaf,_,zbix,zbiy,
  zag,_,zbiz,zbja,
  zah,_,zbjb,zbjc,
  zai,_,zbjd,zbje,
  zaj,_,zbjf,zbjg,
  zak,_,zbjh,zbji,
  zal,_,zbjj,zbjk,
  zam,_,zbjl,zbjm,
  zan,_,zbjn,zbjo,
  zao,_,zbjp,zbjq,
  zap,_,zbjr,zbjs,
  zaq,_,zbjt,zbju,
  zar,_,zbjv,zbjw,
  zas,_,zbjx,zbjy,
  zat,_,zbjz,zbka,
  zau,_,zbkb,zbkc,
  zav,_,zbkd,zbke,
  zaw,_,zbkf,zbkg,
  zax,_,zbkh,zbki,
  zay,_,zbkj,zbkk,
  zaz,_,zbkl,zbkm,
  zba,_,zbkn,zbko,
  zbb,_,zbkp,zbkq,
  fa,_,zbkr,zbks,
  zbo,_,zbkt,zbku,
  zbp,_,zbkx,zbky,
  zbq,_,zbkz,zbla,
  zbr,_,zblb,zblc,
  zbs,_,zbld,zble,
  zbt,_,zblf,zblg,
  zbu,_,zblh,zbli,
  zbv,_,zblj,zblk,
  zbw,_,zbll,zblm,
  zbx,_,zbln,zblo,
  zby,_,zblp,zblq,
  zbz,_,zbls,zblt,
  zca,_,zblu,zblv,
  zcb,_,zblw,zblx,
  zcc,_,zbly,zblz,
  zcd,_,zbma,zbmb,
  zce,_,zbmc,zbmd,
  zcf,_,zbme,zbmf,
  zcg,_,zbmg,zbmh,
  zch,_,zbmi,zbmj,
  zci,_,zbmk,zbml,
  zcj,_,zbmm,zbmn,
  W.mg_of X G zup,
  W.mg_of X G zuq,
  W.mg_of X G zur,
  W.mg_of X G zus,
  W.mg_of X G zut,
  W.mg_of X G zuu,
  W.mg_of X G zuv,
  W.mg_of X G zuw,
  W.mg_of X G zux,
  W.mg_of X G zuy,
  W.mg_of X G zuz,
  W.mg_of X G zva,
  W.mg_of X G zvb,
  W.mg_of X G zvc,
  W.mg_of X G zvd,
  W.mg_of X G zve,
  W.mg_of X G zvf,
  W.mg_of X G zvg,
  W.mg_of X G zvh,
  W.mg_of X G zvi,
  W.mg_of X G zvj,
  W.mg_of X G zvk,
  W.mg_of X G zvl,
  W.mg_of X G zvm,
  W.mg_of X G zvn,
  W.mg_of X G zvo,
  W.mg_of X G zvp,
  W.mg_of X G zvq,
  W.mg_of X G zvr,
  ⟨_,.cons ⟨_,rfl⟩ (.nil),zbkv⟩,
  ⟨_,.cons rfl (.cons ⟨_,rfl⟩ (.nil)),zbkw⟩,
  ⟨_,.cons ⟨_,rfl⟩ (.nil),zblr⟩,
  zbd,W.mg_of X G zvs,
  zbe,W.mg_of X G zvt,
  zbf,W.mg_of X G zvu,
  zbg,W.mg_of X G zvv,
  zbh,W.mg_of X G zvw,
  zbi,W.mg_of X G zvx,
  zbj,W.mg_of X G zvy,
  zbk,W.mg_of X G zvz,
  zbl,W.mg_of X G zwa,
  zbm,W.mg_of X G zwb,
  zbn,W.mg_of X G zwc,
  ⟨zbmo,zbdg,zbdh,zbdi,zbdj,zbdk,zbdl,zbdm,zbdn,zbdo,zbdp,zbdq⟩,
  ⟨zbdc,zbdr,zbds,zbdd⟩,
  ⟨zbdt,zbdu,zbao⟩,
  ⟨zbdv,zbdw,zbar⟩,
  ⟨zbdx,zbdy,zbau⟩,
  ⟨zbmp,zbeh,zbei,zbej,zbek,zbel,zbem,zben,zbeo,zbep,zbeq,zber⟩,
  ⟨zbed,zbes,zbet,zbee⟩,
  ⟨zbeu,zbev,zbba⟩,
  ⟨zbew,zbex,zbbd⟩,
  ⟨zbey,zbez,zbar⟩,
  ⟨zbmq,zbfi,zbfj,zbfk,zbfl,zbfm,zbfn,zbfo,zbfp,zbfq,zbfr,zbfs⟩,
  ⟨zbfe,zbft,zbfu,zbff⟩,
  ⟨zbfv,zbfw,zbbj⟩,
  ⟨zbfx,zbfy,zbbm⟩,
  ⟨zbfz,zbga,zbar⟩,
  ⟨zbmr,zbgj,zbgk,zbgl,zbgm,zbgn,zbgo,zbgp,zbgq,zbgr,zbgs,zbgt⟩,
  ⟨zbgf,zbgu,zbgv,zbgg⟩,
  ⟨zbgw,zbgx,zbbt⟩,
  ⟨zbgy,zbgz,zbbw⟩,
  ⟨zbha,zbhb,zbbz⟩,
  ⟨zbhc,zbhd,zbcc⟩,
  ⟨zbhe,zbhf,zbcf⟩,
  ⟨zbhg,zbhh,zbci⟩,
  ⟨zbhi,zbhj,zbcl⟩,
  ⟨zbhk,zbhl,zbco⟩,
  ⟨zbhm,zbhn,zbcr⟩,
  ⟨zbho,zbhp,zbcu⟩,
  ⟨zbhq,zbhr,zbcx⟩,
  ⟨zbhu,zbhv,zbhw⟩,
  W.mg_none_of X G zbhx,
  W.mg_none_of X G zbhy,
  W.mg_none_of X G zbhz,
  W.mg_none_of X G zbia,
  W.mg_none_of X G zbib,
  W.mg_none_of X G zbic,
  W.mg_none_of X G zbid,
  W.mg_none_of X G zbie,
  W.mg_none_of X G zbif,
  W.mg_none_of X G zbig,
  W.mg_none_of X G zbih,
  W.mg_none_of X G zbii,
  W.mg_none_of X G zbij,
  W.mg_none_of X G zbik,
  W.mg_none_of X G zbil,
  ⟨zuo,W.mg_of X G zbim⟩⟩⟩
theorem walk {l:W.OpenLaw}{q:Program}{loose:List Str}{XP:(Str->Option Value)->Heap->Prop}{YP:World->Heap->Prop}{d:DefRec}{K:Params->W.Frag} (hn:l.most=some 63) (hdf:d.params.defaults=[])
  (hY:∀(w:World) (h:Heap),YP w h->(K w.params).In h)
  (F:∀(w:World) (mg:Str->Option Value) (fa:Addr) (h:Heap),(K w.params).In h->h.Ns mainGlobals mg->mg d.name=some (.ref fa) →
   ∃fd:FuncData,(∀(s:Shared) (u:Value),BindsTo s fd ⟨[u],[]⟩ [("_law_script",u)])/\∀base:Heap,(K w.params).In base->base.Ns mainGlobals mg->bI l.prog w (K w.params) mg base CX0 20 fa fd ["_law_script"] (tW (K w.params))) :
  W.WalkO q loose XP YP l.row.toRowW d [] (fun f vs=>PySem.call f vs) :=
 L2.walk_of (n:=63) (k:=20) (x:= "_law_script") (CX:=fun _=>CX0) (sp:=fun w=>tW (K w.params)) hn (by decide) hdf ⟨rfl,by decide,by decide⟩ hY F (fun _ _ a ns hl _ hS=>⟨a,ns,rfl,hS,hl,fun _=>rfl⟩) fun _ _ _ _ _ z=>z
end Prf
open PySem PySem.W PyProof.Rows
set_option maxRecDepth 100000 in
set_option maxHeartbeats 0 in
theorem PySem.Challenge.cw_firstout_k22_all_that_is_wrong_holds : PySem.Challenge.rw_firstout_k22_all_that_is_wrong.Holds := by
 w_on;o_law;k_head;(case hw=>w_witness2)
 k_fill
 refine Prf.walk (l:=PySem.Challenge.rw_firstout_k22_all_that_is_wrong) rfl rfl (fun w h Y=>PySem.W.kIn_of Y) ?F
 case F =>
  intro w mg fa h KX G hmg;refine' Prf.all_mk KX G hmg ?zup ?zuq ?zur ?zus ?zut ?zuu ?zuv ?zuw ?zux ?zuy ?zuz ?zva ?zvb ?zvc ?zvd ?zve ?zvf ?zvg ?zvh ?zvi ?zvj ?zvk ?zvl ?zvm ?zvn ?zvo ?zvp ?zvq ?zvr ?zvs ?zvt ?zvu ?zvv ?zvw ?zvx ?zvy ?zvz ?zwa ?zwb ?zwc ?zwd ?zwe ?zwf ?zwg ?zwh ?zwi ?zwj ?zwk ?zwl ?zwm ?zwn ?zwo ?zwp ?zwq ?zwr ?zws ?zwt ?zwu ?zwv ?zww ?zwx ?zwy ?zwz ?zxa ?zxb ?zxc ?zxd ?zxe ?zxf ?zxg ?zxh ?zxi ?zxj ?zxk ?zxl ?zxm ?zxn ?zxo ?zxp ?zxq ?zxr ?zxs ?zxt ?zxu ?zxv ?zxw ?zxx ?zxy ?zxz ?zya ?zyb ?zyc ?zyd ?zye ?zyf ?zyg ?zyh ?zyi ?zyj ?zyk ?zyl ?zym ?zyn ?zyo ?zyp ?zyq ?zyr ?zys ?zyt ?zyu ?zyv ?zyw ?zyx ?zyy ?zyz ?zza ?zzb ?zzc ?zzd ?zze ?zzf ?zzg ?zzh ?zzi ?zzj ?zzk ?zzl ?zzm ?zzn ?zzo ?zzp ?zzq ?zzr ?zzs ?zzt ?zzu ?zzv ?zzw ?zzx ?zzy ?zzz ?zbaa ?zbab ?zbac ?zbad ?zbae ?zbaf ?zbag ?zbah ?zbai ?zbaj ?zbak ?zbal ?zbam ?zban ?zbao ?zbap ?zbaq ?zbar ?zbas ?zbat ?zbau ?zbav ?zbaw ?zbax ?zbay ?zbaz ?zbba ?zbbb ?zbbc ?zbbd ?zbbe ?zbbf ?zbbg ?zbbh ?zbbi ?zbbj ?zbbk ?zbbl ?zbbm ?zbbn ?zbbo ?zbbp ?zbbq ?zbbr ?zbbs ?zbbt ?zbbu ?zbbv ?zbbw ?zbbx ?zbby ?zbbz ?zbca ?zbcb ?zbcc ?zbcd ?zbce ?zbcf ?zbcg ?zbch ?zbci ?zbcj ?zbck ?zbcl ?zbcm ?zbcn ?zbco ?zbcp ?zbcq ?zbcr ?zbcs ?zbct ?zbcu ?zbcv ?zbcw ?zbcx ?zbcy ?zbcz ?zbda ?zbdb ?zbdc ?zbdd ?zbde ?zbdf ?zbdg ?zbdh ?zbdi ?zbdj ?zbdk ?zbdl ?zbdm ?zbdn ?zbdo ?zbdp ?zbdq ?zbdr ?zbds ?zbdt ?zbdu ?zbdv ?zbdw ?zbdx ?zbdy ?zbdz ?zbea ?zbeb ?zbec ?zbed ?zbee ?zbef ?zbeg ?zbeh ?zbei ?zbej ?zbek ?zbel ?zbem ?zben ?zbeo ?zbep ?zbeq ?zber ?zbes ?zbet ?zbeu ?zbev ?zbew ?zbex ?zbey ?zbez ?zbfa ?zbfb ?zbfc ?zbfd ?zbfe ?zbff ?zbfg ?zbfh ?zbfi ?zbfj ?zbfk ?zbfl ?zbfm ?zbfn ?zbfo ?zbfp ?zbfq ?zbfr ?zbfs ?zbft ?zbfu ?zbfv ?zbfw ?zbfx ?zbfy ?zbfz ?zbga ?zbgb ?zbgc ?zbgd ?zbge ?zbgf ?zbgg ?zbgh ?zbgi ?zbgj ?zbgk ?zbgl ?zbgm ?zbgn ?zbgo ?zbgp ?zbgq ?zbgr ?zbgs ?zbgt ?zbgu ?zbgv ?zbgw ?zbgx ?zbgy ?zbgz ?zbha ?zbhb ?zbhc ?zbhd ?zbhe ?zbhf ?zbhg ?zbhh ?zbhi ?zbhj ?zbhk ?zbhl ?zbhm ?zbhn ?zbho ?zbhp ?zbhq ?zbhr ?zbhs ?zbht ?zbhu ?zbhv ?zbhw ?zbhx ?zbhy ?zbhz ?zbia ?zbib ?zbic ?zbid ?zbie ?zbif ?zbig ?zbih ?zbii ?zbij ?zbik ?zbil ?zbim
  (case zup|zuq|zur|zus|zut|zuu|zuv|zuw|zux|zuy|zuz|zva|zvb|zvc|zvd|zve|zvf|zvg|zvh|zvi|zvj|zvk|zvl|zvm|zvn|zvo|zvp|zvq|zvr|zvs|zvt|zvu|zvv|zvw|zvx|zvy|zvz|zwa|zwb|zwc|zwd|zwe|zwf|zwg|zwh|zwi|zwj|zwk|zwl|zwm|zwn|zwo|zwp|zwq|zwr|zws|zwt|zwu|zwv|zww|zwx|zwy|zwz|zxa|zxb|zxc|zxd|zxe|zxf|zxg|zxh|zxi|zxj|zxk|zxl|zxm|zxn|zxo|zxp|zxq|zxr|zxs|zxt|zxu|zxv|zxw|zxx|zxy|zxz|zya|zyb|zyc|zyd|zye|zyf|zyg|zyh|zyi|zyj|zyk|zyl|zym|zyn|zyo|zyp|zyq|zyr|zys|zyt|zyu|zyv|zyw|zyx|zyy|zyz|zza|zzb|zzc|zzd|zze|zzf|zzg|zzh|zzi|zzj|zzk|zzl|zzm|zzn|zzo|zzp|zzq|zzr|zzs|zzt|zzu|zzv|zzw|zzx|zzy|zzz|zbaa|zbab|zbac|zbad|zbae|zbaf|zbag|zbah|zbai|zbaj|zbak|zbal|zbam|zban|zbao|zbap|zbaq|zbar|zbas|zbat|zbau|zbav|zbaw|zbax|zbay|zbaz|zbba|zbbb|zbbc|zbbd|zbbe|zbbf|zbbg|zbbh|zbbi|zbbj|zbbk|zbbl|zbbm|zbbn|zbbo|zbbp|zbbq|zbbr|zbbs|zbbt|zbbu|zbbv|zbbw|zbbx|zbby|zbbz|zbca|zbcb|zbcc|zbcd|zbce|zbcf|zbcg|zbch|zbci|zbcj|zbck|zbcl|zbcm|zbcn|zbco|zbcp|zbcq|zbcr|zbcs|zbct|zbcu|zbcv|zbcw|zbcx|zbcy|zbcz|zbda|zbdb|zbdc|zbdd|zbde|zbdf|zbdg|zbdh|zbdi|zbdj|zbdk|zbdl|zbdm|zbdn|zbdo|zbdp|zbdq|zbdr|zbds|zbdt|zbdu|zbdv|zbdw|zbdx|zbdy|zbdz|zbea|zbeb|zbec|zbed|zbee|zbef|zbeg|zbeh|zbei|zbej|zbek|zbel|zbem|zben|zbeo|zbep|zbeq|zber|zbes|zbet|zbeu|zbev|zbew|zbex|zbey|zbez|zbfa|zbfb|zbfc|zbfd|zbfe|zbff|zbfg|zbfh|zbfi|zbfj|zbfk|zbfl|zbfm|zbfn|zbfo|zbfp|zbfq|zbfr|zbfs|zbft|zbfu|zbfv|zbfw|zbfx|zbfy|zbfz|zbga|zbgb|zbgc|zbgd|zbge|zbgf|zbgg|zbgh|zbgi|zbgj|zbgk|zbgl|zbgm|zbgn|zbgo|zbgp|zbgq|zbgr|zbgs|zbgt|zbgu|zbgv|zbgw|zbgx|zbgy|zbgz|zbha|zbhb|zbhc|zbhd|zbhe|zbhf|zbhg|zbhh|zbhi|zbhj|zbhk|zbhl|zbhm|zbhn|zbho|zbhp|zbhq|zbhr|zbhs|zbht|zbhu|zbhv|zbhw|zbhx|zbhy|zbhz|zbia|zbib|zbic|zbid|zbie|zbif|zbig|zbih|zbii|zbij|zbik|zbil|zbim=>k_is)
