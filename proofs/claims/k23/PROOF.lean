import PyProof.Rows.All
import Wide.All
import OpenK.AllK
import Wide.FinOn
import Lean
import PyProof.EqAt
import PyProof.EqKinds
import PyProof.TupleCall
import KE.KSortTup
import PyProof.Rows.DictUnroll
import PyProof.DictItems
import KE.LcSums
import PyProof.IsiH_list
import KE.KDictOf
import PyProof.DictWalks
import PyProof.ListRange
import PyProof.EnumStmt
import PyProof.EnumMake
import KE.KDictSum
import PyProof.StrOps2
import PyProof.Rows.CallKwBuiltin
import KE.KRevSl
import PySem.Challenge.RW_firstout_k23_heads_that_go
namespace PySem.W.Fast
def tw16303453125769637056:=()
def tw2887327849968580674:=()
def tw6975361268533614114:=()
def tw1954497207588289288:=()
def tw1955924780049430922:=()
def tw13919205698871014507:=()
def tw5457442528067082157:=()
def tw11236170139296605902:=()
def tw14208684435076279022:=()
def tw17662610125805077235:=()
def tw1827484067149704308:=()
def tw4176222119512311413:=()
def tw997315758019976438:=()
def tw18153592729657623351:=()
def tw4278881638888501560:=()
def tw9636103416578378394:=()
def tw7122864345777757724:=()
def tw7069885236542254853:=()
def tw2627558206064002887:=()
def tw376202992439071058:=()
def tw16770478696675990235:=()
def tw4042678465382642465:=()
def tw8329625213768973177:=()
def tw15227047633439601229:=()
def tw2311077276585984417:=()
def tw9476661106814349010:=()
def tw10752773919533325185:=()
def tw10352659199373981455:=()
def tw17719829478286127831:=()
def tw5639691755509039343:=()
def tw6246351013531536754:=()
def tw13945526143308911828:=()
def tw2400969266714274559:=()
def tw17876197985397700034:=()
def tw11417643729789677884:=()
def tw5689937790134546965:=()
def tw8123847410573579095:=()
def tw4389068080810398644:=()
def tw9461746335053423490:=()
def tw14425899801435937880:=()
def tw2908685107878243659:=()
def tw12961981052837387286:=()
def tw13228278907143275774:=()
def tw6069878593301713409:=()
def tw1279918114332595604:=()
def tw17401295686649062212:=()
def tw3967612567396521318:=()
def tw1181286974134940903:=()
def tw17615246251654883655:=()
def tw7368209523114151770:=()
def tw8860416528359686572:=()
def tw11089829774348285253:=()
def tw16598772192507391445:=()
def tw14942923826591337963:=()
def tw6300953149787072020:=()
def tw2548345376098163292:=()
def tw16333633188650779545:=()
def tw18044991713834188756:=()
def tw2721412837377264393:=()
def tw6667048818684258820:=()
def tw11642775968214263157:=()
def tw17453389334135996247:=()
def tw12014003568235898292:=()
def tw1776803688121078564:=()
def tw3118789150908070379:=()
def tw8966473709903995999:=()
def tw8224969804460968663:=()
def tw10687271683955851549:=()
def tw6334143389598726997:=()
def tw16791107140783585165:=()
def tw8992369315146100295:=()
def tw5386413129855590374:=()
def tw460778978725039063:=()
def tw12273980224133281814:=()
def tw9409480929062296565:=()
def tw6190270307192573352:=()
def tw5821811552537945399:=()
def tw7642464400742710776:=()
def tw17669649891551856597:=()
def tw11851702431211204322:=()
def tw12284120990157766922:=()
def tw14190097368906554507:=()
def tw8608933328165275202:=()
def tw3591012960451947125:=()
def tw2610900282216604492:=()
def tw6524688051502206853:=()
def tw17682814799419360179:=()
def tw13079409588909449197:=()
def tw3810479996225486720:=()
def tw15655580011504627773:=()
def tw7109609540258092288:=()
def tw6014072468751709097:=()
def tw5195717944492069086:=()
def tw10757910885107996138:=()
def tw5785454157107434923:=()
def tw12638614659507640785:=()
def tw18130477846780722006:=()
def tw7078734995271898796:=()
def tw2727860141871966775:=()
def tw13835488021961069510:=()
def tw6457689102939063507:=()
def tw1881072992668021976:=()
def tw4329123427334135852:=()
def tw13082552330880385358:=()
def tw9778990982379473018:=()
def tw3469908973617810455:=()
def tw12848654415513429667:=()
def tw3062085828740727256:=()
def tw3483599560864605291:=()
def tw16704602249863528454:=()
def tw7644718325387314632:=()
def tw11960271928064411996:=()
def tw4919143875060681667:=()
def tw5876813883912239580:=()
def tw7711116365203216736:=()
def tw1756720303992576861:=()
def tw13352831525334267078:=()
def tw18009230596827525900:=()
def tw17938976333877938290:=()
def tw279331001735351564:=()
def tw2969604763412081797:=()
def tw7331311994648438097:=()
def tw15537751367767279349:=()
def tw13498785570228351311:=()
def tw4380065677089106545:=()
def tw3727359282240847025:=()
def tw12261051801977997144:=()
def tw7989140522662253317:=()
def tw3669009768504765632:=()
def tw15182265960835635564:=()
def tw14336387564813817753:=()
def tw7883801167638028052:=()
def tw2733745598988885422:=()
def tw4036180819727156969:=()
def tw10467046249272846607:=()
def tw11558050642948724302:=()
def tw14384321202520151376:=()
end PySem.W.Fast
set_option compiler.extract_closed false
local macro_rules| `(tactic| walk_at"oi")=> `(tactic| first|exact Or.inl rfl|exact Or.inr rfl)
set_option Elab.async false
set_option linter.all false
set_option maxRecDepth 100000
namespace L2
open PySem PySem.Spec PyProof.Rows
abbrev Key:=Sum Int Str
def vU:Key->Value->Bool
 | .inl k,v=>Value.isInt k v
 | .inr x,v=>Value.isStrOf x v
def aBX (w:World):Key->Int
 | .inl k=>hashInt k
 | .inr x=>hashStr w x
theorem c9:∀{k:Key}{v:Value},vU k v=true->(∃i t,k=Sum.inl i/\v=Value.int i t)∨(∃x t,k=Sum.inr x/\v=Value.str x t)
 | .inl i,v,h=>by
  obtain⟨t,e⟩:=Value.isInt_shape (k:=i) (v:=v) h;exact .inl ⟨i,t,rfl,e⟩
 | .inr x,v,h=>by
  obtain⟨t,e⟩:=Value.isStrOf_shape (x:=x) (v:=v) h;exact .inr ⟨x,t,rfl,e⟩
theorem NF (i:Int)(t:Tok):vU (.inl i) (.int i t)=true:=by simp[vU,Value.isInt]
theorem OC (x:Str)(t:Tok):vU (.inr x) (.str x t)=true:=by simp[vU,Value.isStrOf]
theorem Z8 (a b:Int):decide ((Sum.inl a:Key)=Sum.inl b)=(a==b):=by
 by_cases e:a=b
 ·subst e;simp
 ·have h:¬(Sum.inl a:Key)=Sum.inl b:=fun q=>e (Sum.inl.inj q);rw[decide_eq_false h];exact(beq_eq_false_iff_ne.mpr e).symm
theorem ZG (a b:Str):decide ((Sum.inr a:Key)=Sum.inr b)=decide (a=b):=by
 by_cases e:a=b
 ·subst e;simp
 ·have h:¬(Sum.inr a:Key)=Sum.inr b:=fun q=>e (Sum.inr.inj q);rw[decide_eq_false h,decide_eq_false e]
theorem Y5 (a:Int)(b:Str):decide ((Sum.inl a:Key)=Sum.inr b)=false:=decide_eq_false (fun q=>nomatch q)
theorem YG (a:Str)(b:Int):decide ((Sum.inr a:Key)=Sum.inl b)=false:=decide_eq_false (fun q=>nomatch q)
def bV (prog:Program)(w:World):PySem.KeyKind prog w Key where
 is:=vU
 hash:=aBX w
 inj:=fun v a b ha hb=>by
  rcases c9 ha with⟨i,t,rfl,rfl⟩|⟨x,t,rfl,rfl⟩
  ·rcases c9 hb with⟨j,u,rfl,e⟩|⟨y,u,rfl,e⟩
   ·injection e with e1 _;rw[e1]
   ·exact nomatch e
  ·rcases c9 hb with⟨j,u,rfl,e⟩|⟨y,u,rfl,e⟩
   ·exact nomatch e
   ·injection e with e1 _;rw[e1]
 byValue:=fun k v h=>by
  rcases c9 h with⟨i,t,rfl,rfl⟩|⟨x,t,rfl,rfl⟩<;>rfl
 pyHash:=fun hv h=>by
  rcases c9 hv with⟨i,t,rfl,rfl⟩|⟨x,t,rfl,rfl⟩
  ·exact wpAny_pyHash_int h
  ·exact wpAny_pyHash_str h
 eqBool:=fun hu hv h=>by
  rcases c9 hu with⟨i,t,rfl,rfl⟩|⟨x,t,rfl,rfl⟩
  ·rcases c9 hv with⟨j,u,rfl,rfl⟩|⟨y,u,rfl,rfl⟩
   ·rw[Z8]at h;exact wpAny_eqBool_int h
   ·rw[Y5]at h;exact SeqAt.EqAt.int_str i t y u _ _ _ _ h
  ·rcases c9 hv with⟨j,u,rfl,rfl⟩|⟨y,u,rfl,rfl⟩
   ·rw[YG]at h;exact SeqAt.EqAt.str_int x t j u _ _ _ _ h
   ·rw[ZG]at h;exact wpAny_eqBool_str h
 «strs»:=fun k x t v h=>by
  rcases c9 h with⟨i,u,rfl,e⟩|⟨y,u,rfl,e⟩
  ·exact nomatch e
  ·injection e with e1 _;subst e1;cases v<;>rfl
theorem HA (prog:Program)(w:World)(i:Int)(t:Tok):(bV prog w).is (.inl i) (.int i t)=true:=NF i t
theorem HP (prog:Program)(w:World)(x:Str)(t:Tok):(bV prog w).is (.inr x) (.str x t)=true:=OC x t
end L2
namespace L2
open PySem PySem.Spec PyProof.Rows
inductive V where
 | non|bl (b:Bool)|int (i:Int)|str (x:Str)|byt (b:Array UInt8)|flt (b:UInt64)|ref (a:Addr)|ty (n:String)
 deriving DecidableEq
def RelV:V->Value->Prop
 | .non,u=>u=Value.none
 | .bl b,u=>u=Value.bool b
 | .int i,u=>∃t,u=Value.int i t
 | .str x,u=>∃t,u=Value.str x t
 | .byt b,u=>∃t,u=Value.bytes b t
 | .flt b,u=>∃t,u=Value.float b t
 | .ref a,u=>u=Value.ref a
 | .ty n,u=>u=Value.type n
abbrev Vals:List V->List Value->Prop:=Paired RelV
theorem Vals.length {xs:List V}{us:List Value} (r:Vals xs us):xs.length=us.length:=Paired.length r
theorem Vals.get:∀{xs:List V}{us:List Value}{i:Nat}{x:V},Vals xs us->xs[i]? =some x->∃u,us[i]? =some u/\RelV x u
 | _,_,_,_,.nil,e=>by simp at e
 | _,_,0,_,.cons r _,e=>by simp at e;subst e;exact⟨_,rfl,r⟩
 | _,_,i+1,x,.cons _ t,e=>by
  obtain⟨u,h1,h2⟩:=Vals.get (i:=i) (x:=x) t (by simpa using e);exact⟨u,by simpa using h1,h2⟩
theorem Vals.set {x:V}{u:Value} (r:RelV x u):∀{xs:List V}{us:List Value} (i:Nat),Vals xs us->Vals (xs.set i x) (us.set i u)
 | _,_,_,.nil=> .nil
 | _,_,0,.cons _ t=> .cons r t
 | _,_,i+1,.cons q t=> .cons q (Vals.set r i t)
theorem Vals.append:∀{xs ys:List V}{us ws:List Value},Vals xs us->Vals ys ws->Vals (xs++ys) (us++ws)
 | _,_,_,_,.nil,s=>s
 | _,_,_,_,.cons r t,s=> .cons r (Vals.append t s)
theorem Vals.take:∀{xs:List V}{us:List Value} (n:Nat),Vals xs us->Vals (xs.take n) (us.take n)
 | _,_,0,_=> .nil
 | _,_,_+1,.nil=> .nil
 | _,_,n+1,.cons r t=> .cons r (Vals.take n t)
theorem Vals.drop:∀{xs:List V}{us:List Value} (n:Nat),Vals xs us->Vals (xs.drop n) (us.drop n)
 | _,_,0,r=>r
 | _,_,_+1,.nil=> .nil
 | _,_,n+1,.cons _ t=>Vals.drop n t
def RelO:Option V->Option Value->Prop
 | some v,some u=>RelV v u
 | none,none=>True
 | _,_=>False
def KV {κ:Type}:List (κ×V)->List (κ×Value)->Prop:=Paired fun (p:κ×V) (q:κ×Value)=>p.1=q.1/\RelV p.2 q.2
def kV:Key->V
 | .inl i=> .int i
 | .inr x=> .str x
inductive HO where
  | lst (xs:List V)
  | tup (xs:List V)
  | dK (kvs:List (Key×V))|dT (kvs:List (List Key×V))
  | set (S:Int->Bool) (n:Nat)
  | ins (C dx:Addr) (fs:List (Str×V))
  | own (x:Addr)
  | xd (fs:List (Str×V))
  | met (f x:Addr)
  | rng (lo hi:Int)
  | frz (o:Obj) (u:HO)
  | tbl (ps:Array Value)
  | ext (φ:Heap->Prop)
abbrev Hp:=Addr->Option HO
def upd (H:Hp)(a:Addr)(o:HO):Hp:=fun b=>if b=a then some o else H b
theorem bM {H:Hp}{a:Addr}{o:HO}:upd H a o a=some o:=by unfold upd;rw[if_pos rfl]
theorem aU {H:Hp}{a b:Addr}{o:HO} (h:b≠a):upd H a o b=H b:=by unfold upd;rw[if_neg h]
theorem UO {H:Hp}{a:Addr}{o u:HO}:upd (upd H a o) a u=upd H a u:=by
 funext b;unfold upd;split<;>rfl
theorem aBl {H:Hp}{a b:Addr}{o u:HO} (h:H a=some o) (h':H b=some u) (d:o≠u):a≠b:=by
 intro e;subst e;rw[h]at h';exact d (Option.some.inj h')
theorem bN {H:Hp}{a b:Addr}{o:HO} (h:H a=some o) (h':H b=none):a≠b:=by
 intro e;subst e;rw[h]at h';cases h'
section
variable (P:Program)(w:World)
def ObjOk (H:Hp)(h:Heap)(a:Addr):HO->Prop
 | .lst xs=>xs.length<=sizeLine/\∃(its:List Value) (n:Nat),Vals xs its/\h.get? a=some { cls:= .type "list",data:= .seq its.toArray n }
 | .tup xs=>xs.length<=sizeLine/\∃its:List Value,Vals xs its/\IsTup h a its.toArray
 | .dK kvs=>kvs.length<=sizeLine/\(a==sysModules)=false/\∃vs,KV kvs vs/\h.DictOf (bV P w) a vs
 | .dT kvs=>kvs.length<=sizeLine/\(a==sysModules)=false/\∃xs:List (List Key×Addr×Value),
   Paired (fun (p:List Key×V) (q:List Key×Addr×Value)=>p.1=q.1/\H q.2.1=some (.tup (p.1.map kV))/\RelV p.2 q.2.2) kvs xs ∧
   ∃o es ep,h.get? a=some o/\o.ExactDict/\o.data= .dict es ep/\es.toList=xs.map (entryOfKey (tupleKind (bV P w)))/\(xs.map (·.1)).Nodup
 | .set S n=>h.SetOf (intKind P w) a S n
 | .ins C dx fs=>H dx=some (.own a)/\fs.length<=1000/\dx≠a/\h.get? a=some (PySem.W.instObj C dx) ∧
   ∃mA,h.Ns1 dx mA/\(∀f,RelO (fs.lookup f) (mA f))/\PySem.Within mA (fs.map (·.1))
 | .own _=>∃o,h.get? a=some o
 | .xd fs=>∃mA,h.Ns1 a mA/\∀f,RelO (fs.lookup f) (mA f)
 | .rng lo hi=>∃t u v,h.get? a=some { cls:= .type "range",data:= .fields #[.int lo t,.int hi u,.int 1 v] }
 | .frz o u=>h.get? a=some o/\ObjOk H h a u
 | .tbl ps=>h.get? a=some { cls:= .none,data:= .fields ps }
 | .met f x=>h.get? a=some (PySem.W.methodObj (.ref f) (.ref x))
 | .ext φ=>φ h/\(∃o,h.get? a=some o)/\∀h1 h2:Heap,φ h1->(∀o,h1.get? a=some o->h2.get? a=some o)->φ h2
def HOk (H:Hp)(h:Heap):Prop:=∀a o,H a=some o->ObjOk P w H h a o
end
section
variable {P:Program}{w:World}{H H':Hp}{h h':Heap}{a:Addr}{o:HO}
theorem ObjOk.lt (x:ObjOk P w H h a o):a<h.objs.size:=by
 cases o with
 | lst xs=>obtain⟨_,_,_,_,e⟩:=x;exact Heap.lt_size e
 | tup xs=>obtain⟨_,_,_,p⟩:=x;exact p.lt
 | dK kvs=>obtain⟨_,_,_,_,o,_,_,e,_⟩:=x;exact Heap.lt_size e
 | dT kvs=>obtain⟨_,_,_,_,o,_,_,e,_⟩:=x;exact Heap.lt_size e
 | set S n=>obtain⟨o,_,_,_,e,_⟩:=x;exact Heap.lt_size e
 | ins C dx fs=>obtain⟨_,_,_,e,_⟩:=x;exact Heap.lt_size e
 | own y=>obtain⟨_,e⟩:=x;exact Heap.lt_size e
 | xd fs=>obtain⟨_,⟨_,_,_,e,_⟩,_⟩:=x;exact Heap.lt_size e
 | rng lo hi=>obtain⟨_,_,_,e⟩:=x;exact Heap.lt_size e
 | frz ob u=>obtain⟨e,_⟩:=x;exact Heap.lt_size e
 | tbl ps=>exact Heap.lt_size (show h.get? a=some _ from x)
 | met f y=>exact Heap.lt_size (show h.get? a=some _ from x)
 | ext φ=>obtain⟨_,⟨_,e⟩,_⟩:=x;exact Heap.lt_size e
theorem Paired.mapP {α β:Type}{F G:α->β->Prop}:∀{l₁:List α}{l₂:List β},Paired F l₁ l₂->(∀a b,F a b->G a b)->Paired G l₁ l₂
 | _,_,.nil,_=> .nil
 | _,_,.cons r t,f=> .cons (f _ _ r) (Paired.mapP t f)
theorem Paired.imp' {α β:Type}{F G:α->β->Prop} (f:∀a b,F a b->G a b) {l₁:List α}{l₂:List β} (r:Paired F l₁ l₂):Paired G l₁ l₂:=Paired.mapP r f
theorem ObjOk.stay (x:ObjOk P w H h a o)(k:∀b u,(b=a∨H b=some (.own a))->h.get? b=some u->h'.get? b=some u)
  (ho:∀b,H b=some (.own a)->H' b=some (.own a))(ht:∀b xs,H b=some (.tup xs)->H' b=some (.tup xs)):ObjOk P w H' h' a o:=by
 induction o with
 | lst xs=>obtain⟨z,its,n,r,e⟩:=x;exact⟨z,its,n,r,k _ _ (.inl rfl) e⟩
 | tup xs=>obtain⟨z,its,r,ob,e,c⟩:=x;exact⟨z,its,r,ob,k _ _ (.inl rfl) e,c⟩
 | dK kvs=>obtain⟨z,y,vs,r,ob,es,ep,e,c⟩:=x;exact⟨z,y,vs,r,ob,es,ep,k _ _ (.inl rfl) e,c⟩
 | dT kvs =>
  obtain⟨z,y,xs,r,ob,es,ep,e,c⟩:=x;exact⟨z,y,xs,Paired.mapP r fun p q z=>⟨z.1,ht _ _ z.2.1,z.2.2⟩,ob,es,ep,k _ _ (.inl rfl) e,c⟩
 | set S n=>obtain⟨ob,es,ep,t,e,c⟩:=x;exact⟨ob,es,ep,t,k _ _ (.inl rfl) e,c⟩
 | ins C dx fs =>
  obtain⟨d,z,ne,e,mA,⟨od,es,ep,e2,c⟩,r⟩:=x;exact⟨ho _ d,z,ne,k _ _ (.inl rfl) e,mA,⟨od,es,ep,k _ _ (.inr d) e2,c⟩,r⟩
 | own y=>obtain⟨ob,e⟩:=x;exact⟨ob,k _ _ (.inl rfl) e⟩
 | xd fs=>obtain⟨mA,⟨od,es,ep,e,c⟩,r⟩:=x;exact⟨mA,⟨od,es,ep,k _ _ (.inl rfl) e,c⟩,r⟩
 | rng lo hi=>obtain⟨t,u,v,e⟩:=x;exact⟨t,u,v,k _ _ (.inl rfl) e⟩
 | frz ob u ih=>obtain⟨e,q⟩:=x;exact⟨k _ _ (.inl rfl) e,ih q⟩
 | tbl ps =>
  have e:h.get? a=some { cls:= .none,data:= .fields ps }:=x;show h'.get? a=some { cls:= .none,data:= .fields ps };exact k a _ (.inl rfl) e
 | met f y =>
  have e:h.get? a=some (PySem.W.methodObj (.ref f) (.ref y)):=x;show h'.get? a=some (PySem.W.methodObj (.ref f) (.ref y));exact k a _ (.inl rfl) e
 | ext φ=>obtain⟨p,⟨o,e⟩,st⟩:=x;exact⟨st _ _ p fun o q=>k _ _ (.inl rfl) q,⟨o,k _ _ (.inl rfl) e⟩,st⟩
theorem HOk.lt (x:HOk P w H h)(e:H a=some o):a<h.objs.size:=(x a o e).lt
theorem HOk.fresh (x:HOk P w H h)(e:h.objs.size<=a):H a=none:=by
 cases q:H a with
 | none=>rfl
 | some u=>exact absurd (Nat.lt_of_lt_of_le (x.lt q) e) (Nat.lt_irrefl _)
theorem HOk.kept (x:HOk P w H h)(k:∀b u,h.get? b=some u->h'.get? b=some u):HOk P w H h':=fun a o e =>
 (x a o e).stay (fun b u _ q=>k b u q) (fun _ q=>q) fun _ _ q=>q
theorem HOk.laid (x:HOk P w H h)(k:∀b u,h.get? b=some u->h'.get? b=some u)(hp:h.objs.size<=a)(new:ObjOk P w (upd H a o) h' a o):HOk P w (upd H a o) h':=fun b u e=>by
 have hn:=x.fresh hp
 by_cases hb:b=a
 ·subst hb;rw[bM]at e;cases e;exact new
 ·rw[aU hb]at e;exact(x b u e).stay (fun c v _ q=>k c v q) (fun c q=>by rw[aU (bN q hn)];exact q) fun c xs q=>by rw[aU (bN q hn)];exact q
end
def Rd (H:Hp)(a:Addr)(u:HO):Prop:=H a=some u∨∃o,H a=some (.frz o u)
theorem Rd.ok {P:Program}{w:World}{H:Hp}{h:Heap}{a:Addr}{u:HO} (r:Rd H a u) (x:HOk P w H h):ObjOk P w H h a u:=by
 rcases r with r|⟨o,r⟩
 ·exact x a u r
 ·obtain⟨_,q⟩:=x a _ r;exact q
def Mut:Option HO->Prop
 | some (.lst _)=>True
 | some (.dK _)=>True
 | some (.dT _)=>True
 | some (.set _ _)=>True
 | some (.ins _ _ _)=>True
 | some (.ext _)=>True
 | _=>False
section
variable {P:Program}{w:World}{H:Hp}{h h':Heap}{x e:Addr}{o':HO}
theorem HOk.write (ok:HOk P w H h)(mu:Mut (H x))(he:e=x∨H e=some (.own x))(k:∀b u,b≠e->h.get? b=some u->h'.get? b=some u)(heo:∃u,h'.get? e=some u)
  (new:ObjOk P w (upd H x o') h' x o'):HOk P w (upd H x o') h':=fun b u q=>by
 have nown:∀c y,H c=some (.own y)->c≠x:=fun c y r z=>by subst z;rw[r]at mu;exact mu
 have ntup:∀c xs,H c=some (.tup xs)->c≠x:=fun c xs r z=>by subst z;rw[r]at mu;exact mu
 by_cases hb:b=x
 ·subst hb;rw[bM]at q;cases q;exact new
 ·rw[aU hb]at q
  by_cases hbe:b=e
  ·have q':H b=some (.own x):=by
    rcases he with z|z
    ·exact absurd (hbe.trans z) hb
    ·rw[hbe];exact z
   rw[q]at q';cases q';obtain⟨v,hv⟩:=heo;exact⟨v,by rw[hbe];exact hv⟩
  ·refine(ok b u q).stay (fun c v hc r=>k c v ?_ r) (fun c r=>by rw[aU (nown c b r)];exact r) fun c xs r=>by rw[aU (ntup c xs r)];exact r
   rcases hc with rfl|hc
   ·exact hbe
   ·rintro rfl;rcases he with z|z
    ·exact nown c b hc z
    ·rw[hc]at z;cases z;exact hb rfl
end
structure Un (fs ex:List Addr)(H H':Hp)(h h':Heap):Prop where
 keep:∀b o,h.get? b=some o->H b=none->b∉fs->b∉ex->h'.get? b=some o
 slot:∀b o,h.get? b=some o->H b=none->b∈fs->b∉ex->∃sl,h'.get? b=some { o with slots:=sl }
 free:∀b o,h.get? b=some o->H b=none->b∉ex->H' b=none
 there:∀b o,h.get? b=some o->b∉ex->∃o',h'.get? b=some o'
 tups:∀b xs,H b=some (.tup xs)->H' b=some (.tup xs)
 frzs:∀b o u,H b=some (.frz o u)->H' b=some (.frz o u)
 tbls:∀b ps,H b=some (.tbl ps)->∃more,H' b=some (.tbl (ps++more))
section
variable {fs fs' ex ex':List Addr}{H H1 H2:Hp}{h h1 h2 h':Heap}{a x e:Addr}{o:HO}
theorem Un.any (u:Un fs ex H H1 h h1){b:Addr}{ob:Obj} (q:h.get? b=some ob) (n:H b=none) (hx:b∉ex):∃sl,h1.get? b=some { ob with slots:=sl }:=by
 by_cases hb:b∈fs
 ·exact u.slot b ob q n hb hx
 ·exact⟨ob.slots,u.keep b ob q n hb hx⟩
theorem Un.kept (k:∀b u,h.get? b=some u->h'.get? b=some u):Un fs ex H H h h' :=
 ⟨fun b ob q _ _ _=>k b ob q,fun b ob q _ _ _=>⟨ob.slots,k b ob q⟩,fun _ _ _ n _=>n,fun b ob q _=>⟨ob,k b ob q⟩,fun _ _ q=>q,fun _ _ _ q=>q,fun _ ps q=>⟨#[],by rw[q];simp⟩⟩
theorem Un.refl:Un fs ex H H h h:=Un.kept fun _ _ q=>q
theorem Un.laid (k:∀b u,h.get? b=some u->h'.get? b=some u)(hp:h.objs.size<=a)(hn:H a=none):Un fs ex H (upd H a o) h h' where
 keep:=fun b u q _ _ _=>k b u q
 slot:=fun b u q _ _ _=>⟨u.slots,k b u q⟩
 free:=fun b u q n _=>by rw[aU (Nat.ne_of_lt (Nat.lt_of_lt_of_le (Heap.lt_size q) hp))];exact n
 there:=fun b u q _=>⟨u,k b u q⟩
 tups:=fun b xs q=>by rw[aU (bN q hn)];exact q
 frzs:=fun b u xs q=>by rw[aU (bN q hn)];exact q
 tbls:=fun b ps q=>⟨#[],by rw[aU (bN q hn),q];simp⟩
theorem Un.write (mu:Mut (H x))(he:e=x∨H e=some (.own x))(k:∀b u,b≠e->h.get? b=some u->h'.get? b=some u)(heo:∃u,h'.get? e=some u):Un fs ex H (upd H x o) h h':=by
 have hx:∀b,H b=none->b≠x:=fun b n z=>by subst z;rw[n]at mu;exact mu
 have hb:∀b,H b=none->b≠e:=fun b n z=>by
  subst z;rcases he with r|r
  ·exact hx b n r
  ·rw[n]at r;cases r
 have hm:∀b u,H b=some u->¬Mut (some u)->b≠x:=fun b u q nm z=>by subst z;rw[q]at mu;exact nm mu
 refine⟨fun b u q n _ _=>k b u (hb b n) q,fun b u q n _ _=>⟨u.slots,k b u (hb b n) q⟩,fun b u q n _=>by rw[aU (hx b n)];exact n,fun b u q _=> ?_,
  fun b xs q=>by rw[aU (hm b _ q fun z=>z)];exact q,fun b u xs q=>by rw[aU (hm b _ q fun z=>z)];exact q,fun b ps q=>⟨#[],by rw[aU (hm b _ q fun z=>z),q];simp⟩⟩
 by_cases hbe:b=e
 ·subst hbe;exact heo
 ·exact⟨u,k b u hbe q⟩
end
def trk (h:Heap)(H:Hp):List Addr:=(List.range h.objs.size).filter fun a=>(H a).isSome
def sM (h:Heap)(H:Hp):Heap:=PySem.W.hideAll h (trk h H)
theorem M5 (h:Heap)(H:Hp):(sM h H).objs.size=h.objs.size:=PySem.W.hideAll_size _ _
theorem QX {h:Heap}{H:Hp}{b:Addr}{o:Obj} (e:h.get? b=some o) (n:H b=none):(sM h H).get? b=some o :=
 PySem.W.hideAll_get _ e fun hm=>by
  have q:(H b).isSome=true:=(List.mem_filter.mp hm).2;rw[n]at q;simp at q
theorem VR {h:Heap}{H:Hp}{b:Addr}{o:Obj} (e:(sM h H).get? b=some o):h.get? b=some o/\H b=none:=by
 have e':h.get? b=some o:=PySem.W.of_hideAll (trk h H) e;refine⟨e',?_⟩;cases q:H b with
 | none=>rfl
 | some x =>
  have hm:b∈trk h H:=List.mem_filter.mpr ⟨List.mem_range.mpr (Heap.lt_size e'),by simp[q]⟩;have z:(sM h H).get? b=none:=PySem.W.hideAll_none (trk h H) hm;rw[z]at e;cases e
end L2
namespace L2
open PySem PySem.Spec PyProof.Rows
structure Mod (K:PySem.W.Frag)(mg:Str->Option Value)(base:Heap):Prop where
 kin:K.In base
 glob:base.Ns mainGlobals mg
 blt:∃mb,base.Ns builtinsNs mb/\∀x:Str,x≠ "__name__" ->mb x=bootBuiltins x
 nolimit:base.NoLimit
structure Cx where
 prog:Program
 w:World
 K:PySem.W.Frag
 mg:Str->Option Value
 base:Heap
 A:Around
 N:List Str
 s₀:Shared
 H₀:Hp
 env:Env
 outer:List Env
 stack:List Env
 ex:List Addr
 fn:Str->Bool
 calm:Bool
 pn:List (Addr×Obj)
 xe:Value->Shared->Prop
def frs (l:List Env):List Addr:=l.filterMap (·.frame)
abbrev Cx.fs (X:Cx):List Addr:=frs X.outer
def Vis (sc:Scope)(x:Str):Prop:=sc.names.lookup x=some .local∨sc.names.lookup x=some .cell∨sc.names.lookup x=some .free
def Loc (sc:Scope)(x:Str):Prop:=sc.names.lookup x=some .local∨sc.names.lookup x=some .cell
def aBV (env:Env)(h:Heap)(m:Str->Option Value)(x:Str)(u:Value):Prop :=
 (env.kindOf x=some .local/\m x=some u)∨((env.kindOf x=some .cell∨env.kindOf x=some .free)/\∃c,env.cells.lookup x=some c/\h.IsCell c (some u))
structure Cx.Ok (X:Cx):Prop where
 mod:Mod X.K X.mg X.base
 kind:X.env.scope.kind= .function
 glob:X.env.globals=mainGlobals
 blt:X.env.builtins=builtinsNs
 above:X.s₀.heap.objs.size<=X.env.locals
 inj:∀x y c,X.env.cells.lookup x=some c->X.env.cells.lookup y=some c->x=y
 has:∀x,(X.env.kindOf x=some .cell∨X.env.kindOf x=some .free)->∃c,X.env.cells.lookup x=some c
 cab:∀x c,X.fn x=true->X.env.cells.lookup x=some c->X.s₀.heap.objs.size<=c
 hd:X.calm=true->X.A.handled=none
 frames:X.A.frames=some X.stack
 stk:X.stack=X.outer∨(X.stack=X.env::X.outer/\X.env.frame=some X.env.locals)
 exf:∀b∈X.ex,b≠X.env.locals/\∀x c,X.env.cells.lookup x=some c->c≠b
 bs:∀b o,X.base.get? b=some o->X.s₀.heap.get? b=some o/\X.H₀ b=none
 bsz:X.base.objs.size<=X.s₀.heap.objs.size
 noex:∀b o,X.base.get? b=some o->b∉X.ex
 exfs:∀b∈X.ex,b∉X.fs
 funs:X.s₀.heap.FunFrames X.base X.outer
 frf:∀b∈X.fs,X.H₀ b=none
structure Inv (X:Cx)(pins:List (Addr×Obj))(σ:List (Option V))(H:Hp)(s:Shared):Prop where
 ok:X.Ok
 os:s.os=X.s₀.os
 bare:AllBare s.gens
 base:Un X.fs X.ex X.H₀ H X.s₀.heap s.heap
 loc:∃m,s.heap.Ns X.env.locals m/\∀(i:Nat) (x:Str) (v:V),X.N[i]? =some x->σ[i]? =some (some v)->Vis X.env.scope x->∃u,RelV v u/\aBV X.env s.heap m x u
 cell:∀x c,X.env.cells.lookup x=some c->∃v,s.heap.IsCell c v
 free:H X.env.locals=none
 freeC:∀x c,X.env.cells.lookup x=some c->H c=none
 pin:∀p∈X.pn++pins,s.heap.get? p.1=some p.2/\H p.1=none/\p.1≠X.env.locals/\p.1∉X.fs/\∀v,p.2.data≠ .cell v
 hok:HOk X.prog X.w H s.heap
 len:σ.length=X.N.length
section
variable {X:Cx}{pins:List (Addr×Obj)}{σ:List (Option V)}{H H':Hp}{s:Shared}{h':Heap}
theorem Cx.Ok.nofr (ok:X.Ok){b:Addr}{o:Obj} (e:X.base.get? b=some o):b∉X.fs:=fun hb=>by
 have:=(ok.funs.mem hb).1;rw[e]at this;cases this
theorem Inv.bs (I:Inv X pins σ H s):∀b o,X.base.get? b=some o->s.heap.get? b=some o/\H b=none:=fun b o e =>
 ⟨I.base.keep b o (I.ok.bs b o e).1 (I.ok.bs b o e).2 (I.ok.nofr e) (I.ok.noex b o e),I.base.free b o (I.ok.bs b o e).1 (I.ok.bs b o e).2 (I.ok.noex b o e)⟩
theorem Inv.bk (I:Inv X pins σ H s):∀b o,X.base.get? b=some o->s.heap.get? b=some o:=fun b o e=>(I.bs b o e).1
theorem Inv.mod (I:Inv X pins σ H s):Mod X.K X.mg X.base:=I.ok.mod
theorem Inv.kIn (I:Inv X pins σ H s):X.K.In s.heap:=I.ok.mod.kin.keeps I.bk
theorem Inv.lt (I:Inv X pins σ H s):X.env.locals<s.heap.objs.size:=let ⟨_,hn,_⟩:=I.loc;hn.lt
theorem Inv.sz (I:Inv X pins σ H s):X.s₀.heap.objs.size<=s.heap.objs.size:=Nat.le_trans I.ok.above (Nat.le_of_lt I.lt)
theorem Inv.nofs (I:Inv X pins σ H s){a:Addr}(h:s.heap.objs.size<=a):a∉X.fs:=fun hb=>by
 obtain⟨_,o,ho,_⟩:=I.ok.funs.mem hb;exact absurd (Nat.lt_of_lt_of_le (Heap.lt_size ho) (Nat.le_trans I.sz h)) (Nat.lt_irrefl _)
theorem Inv.cne (I:Inv X pins σ H s):∀x c,X.env.cells.lookup x=some c->c≠X.env.locals:=fun x c e z=>by
 obtain⟨v,o,ho,hd⟩:=I.cell x c e;obtain⟨m,⟨o',es,ep,ho',hd',_⟩,_⟩:=I.loc;rw[z,ho']at ho;cases ho;rw[hd']at hd;cases hd
theorem Inv.funs (I:Inv X pins σ H s):s.heap.FunFrames X.base X.outer:=by
 have all:∀(l:List Env),(∀b∈frs l,b∈X.fs)->X.s₀.heap.FunFrames X.base l->s.heap.FunFrames X.base l:=by
  intro l
  induction l with
  | nil=>intro _ _;trivial
  | cons env r ih =>
   intro hs hl;obtain⟨hk,⟨L,o,hf,hn,ho,hd⟩,hr⟩:=hl;have hL:L∈X.fs:=hs L (by unfold frs;rw[List.filterMap_cons,hf];exact List.mem_cons_self);obtain⟨sl,e⟩:=I.base.slot L o ho (I.ok.frf L hL) hL fun z=>I.ok.exfs L z hL;exact⟨hk,⟨L,_,hf,hn,e,hd⟩,ih (fun b hb=>hs b (by unfold frs;rw[List.filterMap_cons,hf];exact List.mem_cons_of_mem _ hb)) hr⟩
 exact all X.outer (fun _ hb=>hb) I.ok.funs
theorem Inv.stack (I:Inv X pins σ H s):s.heap.FunFrames X.base X.stack:=by
 rcases I.ok.stk with e|⟨e,hf⟩
 ·rw[e];exact I.funs
 ·rw[e];obtain⟨m,hn,_⟩:=I.loc;refine .cons (by rw[I.ok.kind];decide) hf hn ?_ I.funs;exact Heap.get?_none_of_le (Nat.le_trans I.ok.bsz I.ok.above)
theorem Inv.stkSub (I:Inv X pins σ H s):∀b∈frs X.stack,b∈X.env.locals::X.fs:=fun b hb=>by
 rcases I.ok.stk with e|⟨e,hf⟩
 ·rw[e]at hb;exact List.mem_cons_of_mem _ hb
 ·rw[e]at hb;unfold frs at hb;rw[List.filterMap_cons,hf]at hb;exact hb
theorem Inv.stkFree (I:Inv X pins σ H s):∀b∈frs X.stack,H b=none:=fun b hb=>by
 rcases List.mem_cons.mp (I.stkSub b hb) with e|hb
 ·rw[e];exact I.free
 ·obtain⟨_,o,ho,_⟩:=I.ok.funs.mem hb;exact I.base.free b o ho (I.ok.frf b hb) fun z=>I.ok.exfs b z hb
theorem Inv.step {g':Array GenState}{t':Nat}{d':Drawn}{ch:List Addr} (I:Inv X pins σ H s)
  (hch:∀b∈ch,(b∈X.ex∨X.s₀.heap.objs.size<=b)/\b≠X.env.locals/\(∀x c,X.env.cells.lookup x=some c->c≠b)/\∀p∈X.pn++pins,p.1≠b)
  (keep:∀b o,b≠X.env.locals->b∉X.fs->b∉ch->s.heap.get? b=some o->H b=none->h'.get? b=some o)
  (slot:∀b o,b≠X.env.locals->b∈X.fs->b∉ch->s.heap.get? b=some o->H b=none->∃sl,h'.get? b=some { o with slots:=sl })(free:∀b o,b∉ch->s.heap.get? b=some o->H b=none->H' b=none)
  (there:∀b o,b∉ch->s.heap.get? b=some o->∃o',h'.get? b=some o')
  (tups:∀b xs,H b=some (.tup xs)->H' b=some (.tup xs))(frzs:∀b o u,H b=some (.frz o u)->H' b=some (.frz o u))(tbls:∀b ps,H b=some (.tbl ps)->∃more,H' b=some (.tbl (ps++more)))
  (ns:∀m,s.heap.Ns X.env.locals m->h'.Ns X.env.locals m)(hok:HOk X.prog X.w H' h')(hg:AllBare g') :
  Inv X pins σ H' { s with heap:=h',gens:=g',drawn:=d',toks:=t' }:=by
 have neL:∀b o,X.s₀.heap.get? b=some o->b≠X.env.locals:=fun b o e=>Nat.ne_of_lt (Nat.lt_of_lt_of_le (Heap.lt_size e) I.ok.above);have neC:∀b o,X.s₀.heap.get? b=some o->b∉X.ex->b∉ch:=fun b o e hx hb=>by
  rcases (hch b hb).1 with z|z
  ·exact hx z
  ·exact absurd (Nat.lt_of_lt_of_le (Heap.lt_size e) z) (Nat.lt_irrefl _)
 have cellK:∀x c,X.env.cells.lookup x=some c->∀v,s.heap.IsCell c v->h'.IsCell c v:=fun x c e v ⟨o,ho,hd⟩=>by
  have nch:c∉ch:=fun z=>(hch c z).2.2.1 x c e rfl
  by_cases hc:c∈X.fs
  ·obtain⟨sl,q⟩:=slot c o (I.cne x c e) hc nch ho (I.freeC x c e);exact⟨_,q,hd⟩
  ·exact⟨o,keep c o (I.cne x c e) hc nch ho (I.freeC x c e),hd⟩
 refine⟨I.ok,I.os,hg,⟨fun b o e n hb hx=> ?_,fun b o e n hb hx=> ?_,fun b o e n hx=> ?_,fun b o e hx=> ?_,fun b xs e=>tups b xs (I.base.tups b xs e),fun b o xs e=>frzs b o xs (I.base.frzs b o xs e),fun b ps e=> ?_⟩,?_,fun x c e=> ?_,?_,fun x c e=> ?_,fun p hp=> ?_,hok,I.len⟩
 ·exact keep b o (neL b o e) hb (neC b o e hx) (I.base.keep b o e n hb hx) (I.base.free b o e n hx)
 ·obtain⟨sl,e1⟩:=I.base.slot b o e n hb hx;obtain⟨sl',e2⟩:=slot b _ (neL b o e) hb (neC b o e hx) e1 (I.base.free b o e n hx);exact⟨sl',e2⟩
 ·obtain⟨o',e1⟩:=I.base.there b o e hx;exact free b o' (neC b o e hx) e1 (I.base.free b o e n hx)
 ·obtain⟨o',e1⟩:=I.base.there b o e hx;exact there b o' (neC b o e hx) e1
 ·obtain⟨m1,e1⟩:=I.base.tbls b ps e;obtain⟨m2,e2⟩:=tbls b _ e1;exact⟨m1++m2,by rw[e2,Array.append_assoc]⟩
 ·obtain⟨m,hn,hl⟩:=I.loc;refine⟨m,ns m hn,fun i x v e1 e2 e3=> ?_⟩;obtain⟨u,r,l⟩:=hl i x v e1 e2 e3;refine⟨u,r,?_⟩;rcases l with l|⟨k,c,e,z⟩
  ·exact .inl l
  ·exact .inr ⟨k,c,e,cellK x c e _ z⟩
 ·obtain⟨v,z⟩:=I.cell x c e;exact⟨v,cellK x c e v z⟩
 ·obtain⟨m,⟨o,_,_,ho,_⟩,_⟩:=I.loc;exact free _ o (fun z=>(hch _ z).2.1 rfl) ho I.free
 ·obtain⟨v,o,ho,hd⟩:=I.cell x c e;exact free c o (fun z=>(hch c z).2.2.1 x c e rfl) ho (I.freeC x c e)
 ·obtain⟨e,n,ne,nf,d⟩:=I.pin p hp;have nch:p.1∉ch:=fun z=>(hch p.1 z).2.2.2 p hp rfl;exact⟨keep p.1 p.2 ne nf nch e n,free p.1 p.2 nch e n,ne,nf,d⟩
theorem Inv.un {t':Nat}(I:Inv X pins σ H s)(u:Un X.fs [] H H' s.heap h')(hok:HOk X.prog X.w H' h'):Inv X pins σ H' { s with heap:=h',toks:=t' }:=by
 obtain⟨m,⟨o,es,ep,ho,r⟩,_⟩:=id I.loc;obtain⟨sl,hL⟩:=u.any ho I.free (by simp);exact I.step (g':=s.gens) (d':=s.drawn) (ch:=[]) (fun _ z=>nomatch z) (fun b o _ hb _ e n=>u.keep b o e n hb (by simp)) (fun b o _ hb _ e n=>u.slot b o e n hb (by simp)) (fun b o _ e n=>u.free b o e n (by simp)) (fun b o _ e=>u.there b o e (by simp)) u.tups u.frzs u.tbls (fun m' hm=>by
  obtain⟨o',es',ep',ho',r'⟩:=hm;rw[ho]at ho';cases ho';exact⟨_,es',ep',hL,r'⟩) hok I.bare
theorem Inv.call {g':Array GenState}{t':Nat}{d':Drawn}{ch:List Addr} (I:Inv X pins σ H s) (u:Un (frs X.stack) ch H H' s.heap h') (hok:HOk X.prog X.w H' h') (hg:AllBare g')
  (hch:∀b∈ch,(b∈X.ex∨X.s₀.heap.objs.size<=b)/\b≠X.env.locals/\(∀x c,X.env.cells.lookup x=some c->c≠b)/\∀p∈X.pn++pins,p.1≠b) :
  Inv X pins σ H' { s with heap:=h',gens:=g',drawn:=d',toks:=t' }:=by
 obtain⟨m,⟨o,es,ep,ho,r⟩,_⟩:=id I.loc;obtain⟨sl,hL⟩:=u.any ho I.free fun z=>(hch _ z).2.1 rfl;exact I.step (ch:=ch) hch (fun b o hL hb hc e n=>u.keep b o e n (fun z=>(List.mem_cons.mp (I.stkSub b z)).elim hL hb) hc) (fun b o _ _ hc e n=>u.any e n hc) (fun b o hc e n=>u.free b o e n hc) (fun b o hc e=>u.there b o e hc) u.tups u.frzs u.tbls (fun m' hm=>by
  obtain⟨o',es',ep',ho',r'⟩:=hm;rw[ho]at ho';cases ho';exact⟨_,es',ep',hL,r'⟩) hok hg
theorem Inv.turned {t':Nat}{it:Addr} (I:Inv X pins σ H s) (k:∀b o,b≠it->s.heap.get? b=some o->h'.get? b=some o) (hn:H it=none) (hL:it≠X.env.locals)
  (h1:it∈X.ex∨X.s₀.heap.objs.size<=it)(h2:∀x c,X.env.cells.lookup x=some c->c≠it)(h3:∀p∈X.pn++pins,p.1≠it):Inv X pins σ H { s with heap:=h',toks:=t' }:=by
 have nit:∀b u,H b=some u->b≠it:=fun b u e z=>by rw[z,hn]at e;cases e
 refine I.step (g':=s.gens) (d':=s.drawn) (ch:=[it]) (fun b hb=> ?_) (fun b o _ _ hc e _=>k b o (fun z=>hc (by simp[z])) e) (fun b o _ _ hc e _=>⟨o.slots,k b o (fun z=>hc (by simp[z])) e⟩) (fun _ _ _ _ n=>n)
  (fun b o hc e=>⟨o,k b o (fun z=>hc (by simp[z])) e⟩) (fun _ _ e=>e) (fun _ _ _ e=>e) (fun b ps e=>⟨#[],by rw[e];simp⟩) (fun m hm=> ?_) (fun b u e=> ?_) I.bare
 ·have e:b=it:=by simpa using hb
  subst e;exact⟨h1,hL,h2,h3⟩
 ·obtain⟨o,es,ep,ho,r⟩:=hm;exact⟨o,es,ep,k _ o (Ne.symm hL) ho,r⟩
 ·refine(I.hok b u e).stay (fun c v hc q=>k c v ?_ q) (fun _ q=>q) fun _ _ q=>q;rcases hc with z|z
  ·rw[z];exact nit b u e
  ·exact nit c _ z
theorem Inv.tok (I:Inv X pins σ H s)(t:Nat):Inv X pins σ H { s with toks:=t }:=I.un (h':=s.heap) (t':=t) Un.refl I.hok
theorem Inv.kept {t':Nat}(I:Inv X pins σ H s)(k:∀b u,s.heap.get? b=some u->h'.get? b=some u):Inv X pins σ H { s with heap:=h',toks:=t' }:=I.un (Un.kept k) (I.hok.kept k)
theorem Inv.laid {a:Addr}{o:HO}{t':Nat} (I:Inv X pins σ H s) (k:∀b u,s.heap.get? b=some u->h'.get? b=some u) (hp:s.heap.objs.size<=a) (new:ObjOk X.prog X.w (upd H a o) h' a o) :
  Inv X pins σ (upd H a o) { s with heap:=h',toks:=t' }:=I.un (Un.laid k hp (I.hok.fresh hp)) (I.hok.laid k hp new)
theorem Inv.write {x e:Addr}{o:HO}{t':Nat} (I:Inv X pins σ H s) (mu:Mut (H x)) (he:e=x∨H e=some (.own x)) (k:∀b u,b≠e->s.heap.get? b=some u->h'.get? b=some u) (heo:∃u,h'.get? e=some u)
  (new:ObjOk X.prog X.w (upd H x o) h' x o):Inv X pins σ (upd H x o) { s with heap:=h',toks:=t' }:=I.un (Un.write mu he k heo) (I.hok.write mu he k heo new)
theorem Inv.weak {σ':List (Option V)}(I:Inv X pins σ H s)(hl:σ'.length=σ.length)(w:∀(i:Nat) v,σ'[i]? =some (some v)->σ[i]? =some (some v)):Inv X pins σ' H s :=
 ⟨I.ok,I.os,I.bare,I.base,let ⟨m,hn,hl'⟩:=I.loc;⟨m,hn,fun i x v e1 e2 e3=>hl' i x v e1 (w i v e2) e3⟩,I.cell,I.free,I.freeC,I.pin,I.hok,hl.trans I.len⟩
theorem Inv.pins_of {pins':List (Addr×Obj)}(I:Inv X pins σ H s)(h:∀p∈pins',s.heap.get? p.1=some p.2/\H p.1=none/\p.1≠X.env.locals/\p.1∉X.fs/\∀v,p.2.data≠ .cell v):Inv X pins' σ H s :=
 ⟨I.ok,I.os,I.bare,I.base,I.loc,I.cell,I.free,I.freeC,fun p hp=>(List.mem_append.mp hp).elim (fun z=>I.pin p (List.mem_append_left _ z)) (h p),I.hok,I.len⟩
theorem E2 {N:List Str}(hN:N.Nodup){i j:Nat}{x:Str} (a:N[i]? =some x) (b:N[j]? =some x):i=j:=by
 obtain⟨h1,e1⟩:=List.getElem?_eq_some_iff.mp a;obtain⟨h2,e2⟩:=List.getElem?_eq_some_iff.mp b;exact(List.getElem_inj hN).mp (e1.trans e2.symm)
theorem NS {M:Model}{A:Around}{E:Value->Shared->Prop}{i:Nat}{x:Str}{v:V}{u:Value}{Q:Unit->Shared->Prop} (I:Inv X pins σ H s) (hN:X.N.Nodup) (hi:X.N[i]? =some x) (hx:Loc X.env.scope x) (r:RelV v u)
  (h:∀s',Inv X pins (σ.set i (some v)) H s'->(∃a,Heap.SameBut a s.heap s'.heap/\(a=X.env.locals∨X.env.cells.lookup x=some a))->Q () s')(hf:X.fn x=true∨X.env.scope.names.lookup x=some .local:=by first|exact .inl rfl|exact .inr rfl|assumption):wpAny M A (storeName X.env x u) Q E s:=by
 obtain⟨m,hn,hl⟩:=id I.loc;have hcls:(X.env.scope.kind== .class||(X.env.scope.kind== .module&&X.env.locals !=X.env.globals))=false:=by rw[I.ok.kind];rfl
 have hiσ:i<σ.length:=by rw[I.len];exact(List.getElem?_eq_some_iff.mp hi).1
 have cne:=I.cne;have tracked:∀{a:Addr}{h':Heap},(∃o,s.heap.get? a=some o/\H a=none)->Heap.SameBut a s.heap h'->HOk X.prog X.w H h':=fun {a h'} ha hs b ob e=>by
  obtain⟨_,_,hfree⟩:=ha;refine(I.hok b ob e).stay (fun c w' hc q=>(hs.2 c ?_).trans q) (fun _ q=>q) fun _ _ q=>q;rintro rfl;rcases hc with rfl|hc
  ·rw[hfree]at e;cases e
  ·rw[hfree]at hc;cases hc
 rcases hx with hk|hk
 ·refine wpAny_storeName_local hk hn (fun h' hn' hs=> ?_) hcls;obtain⟨oL,_,_,hoL,_⟩:=id hn;refine h _ ⟨I.ok,I.os,I.bare,⟨fun b o e n hb hx=> ?_,fun b o e n hb hx=> ?_,I.base.free,fun b o e hx=> ?_,I.base.tups,I.base.frzs,I.base.tbls⟩,⟨_,hn',fun j y v' e1 e2 e3=> ?_⟩,fun y c e=> ?_,I.free,I.freeC,fun p hp=> ?_,tracked ⟨oL,hoL,I.free⟩ hs,by simpa using I.len⟩ ⟨_,hs,.inl rfl⟩
  ·exact(hs.2 b (Nat.ne_of_lt (Nat.lt_of_lt_of_le (Heap.lt_size e) I.ok.above))).trans (I.base.keep b o e n hb hx)
  ·obtain⟨sl,e1⟩:=I.base.slot b o e n hb hx;exact⟨sl,(hs.2 b (Nat.ne_of_lt (Nat.lt_of_lt_of_le (Heap.lt_size e) I.ok.above))).trans e1⟩
  ·obtain⟨o',e1⟩:=I.base.there b o e hx;exact⟨o',(hs.2 b (Nat.ne_of_lt (Nat.lt_of_lt_of_le (Heap.lt_size e) I.ok.above))).trans e1⟩
  ·by_cases hj:j=i
   ·subst hj;rw[hi]at e1;cases e1;rw[List.getElem?_set_self hiσ]at e2;cases e2;exact⟨u,r,.inl ⟨hk,by simp⟩⟩
   ·rw[List.getElem?_set_ne (Ne.symm hj)]at e2;obtain⟨u',r',q⟩:=hl j y v' e1 e2 e3;refine⟨u',r',?_⟩;rcases q with⟨k,e⟩|⟨k,c,e,z⟩
    ·refine .inl ⟨k,?_⟩;have:y≠x:=fun e=>hj (E2 hN e1 (e▸hi));simp[this,e]
    ·exact .inr ⟨k,c,e,z.sameBut hs (cne y c e)⟩
  ·obtain⟨w',z⟩:=I.cell y c e;exact⟨w',z.sameBut hs (cne y c e)⟩
  ·obtain⟨e,n,ne,nf,d⟩:=I.pin p hp;exact⟨(hs.2 p.1 ne).trans e,n,ne,nf,d⟩
 ·have hfn:X.fn x=true:=by
   rcases hf with z|z
   ·exact z
   ·rw[z]at hk;cases hk
  obtain⟨c,hc⟩:=I.ok.has x (.inl hk);obtain⟨w',z⟩:=I.cell x c hc;refine wpAny_storeName_cell I.ok.kind hk hc z (fun h' hc' hs=> ?_);obtain⟨oc,hoc,hocd⟩:=id z;refine h { s with heap:=h' } ⟨I.ok,I.os,I.bare,⟨fun b o e n hb hx=> ?_,fun b o e n hb hx=> ?_,I.base.free,fun b o e hx=> ?_,I.base.tups,I.base.frzs,I.base.tbls⟩,⟨m,hn.sameBut hs (Ne.symm (cne x c hc)),fun j y v' e1 e2 e3=> ?_⟩,fun y c' e=> ?_,I.free,I.freeC,fun p hp=> ?_,tracked ⟨oc,hoc,I.freeC x c hc⟩ hs,by simpa using I.len⟩ ⟨c,hs,.inr hc⟩
  ·exact(hs.2 b (Nat.ne_of_lt (Nat.lt_of_lt_of_le (Heap.lt_size e) (I.ok.cab x c hfn hc)))).trans (I.base.keep b o e n hb hx)
  ·obtain⟨sl,e1⟩:=I.base.slot b o e n hb hx;exact⟨sl,(hs.2 b (Nat.ne_of_lt (Nat.lt_of_lt_of_le (Heap.lt_size e) (I.ok.cab x c hfn hc)))).trans e1⟩
  ·obtain⟨o',e1⟩:=I.base.there b o e hx;exact⟨o',(hs.2 b (Nat.ne_of_lt (Nat.lt_of_lt_of_le (Heap.lt_size e) (I.ok.cab x c hfn hc)))).trans e1⟩
  ·by_cases hj:j=i
   ·subst hj;rw[hi]at e1;cases e1;rw[List.getElem?_set_self hiσ]at e2;cases e2;exact⟨u,r,.inr ⟨.inl hk,c,hc,hc'⟩⟩
   ·rw[List.getElem?_set_ne (Ne.symm hj)]at e2;obtain⟨u',r',q⟩:=hl j y v' e1 e2 e3;refine⟨u',r',?_⟩;rcases q with q|⟨k,c',e,z'⟩
    ·exact .inl q
    ·refine .inr ⟨k,c',e,z'.sameBut hs ?_⟩;rintro rfl;exact hj (E2 hN e1 (I.ok.inj _ _ _ e hc▸hi))
  ·by_cases hcc:c'=c
   ·subst hcc;exact⟨_,hc'⟩
   ·obtain⟨w2,z2⟩:=I.cell y c' e;exact⟨w2,z2.sameBut hs hcc⟩
  ·obtain⟨e,n,ne,nf,d⟩:=I.pin p hp;refine⟨(hs.2 p.1 ?_).trans e,n,ne,nf,d⟩;intro q;rw[q,hoc]at e;have q':oc=p.2:=Option.some.inj e;exact d w' (by rw[←q'];exact hocd)
theorem FE {M:Model}{A:Around}{E:Value->Shared->Prop}{i:Nat}{x:Str}{v:V}{u:Value}{Q:Unit->Shared->Prop} (I:Inv X pins σ H s) (hN:X.N.Nodup) (hi:X.N[i]? =some x) (hx:Loc X.env.scope x) (r:RelV v u)
  (h:∀s',Inv X pins (σ.set i (some v)) H s'->Q () s')(hf:X.fn x=true∨X.env.scope.names.lookup x=some .local:=by first|exact .inl rfl|exact .inr rfl|assumption):wpAny M A (storeName X.env x u) Q E s :=
 NS I hN hi hx r (fun s' I' _=>h s' I') hf
theorem Inv.call' {s':Shared}{ch:List Addr} (I:Inv X pins σ H s) (ho:s'.os=s.os) (u:Un (frs X.stack) ch H H' s.heap s'.heap) (hok:HOk X.prog X.w H' s'.heap) (hg:AllBare s'.gens)
  (hch:∀b∈ch,(b∈X.ex∨X.s₀.heap.objs.size<=b)/\b≠X.env.locals/\(∀x c,X.env.cells.lookup x=some c->c≠b)/\∀p∈X.pn++pins,p.1≠b):Inv X pins σ H' s':=by
 obtain⟨h',g',d',t',o'⟩:=s';have e:o'=s.os:=ho;subst e;exact I.call (g':=g') (t':=t') (d':=d') u hok hg hch
end
abbrev XK:=Value->Option Addr->Hp->Prop
abbrev St:=List (Option V)
abbrev VK:=V->Hp->Prop
abbrev TE:=St->Hp->VK->Prop
abbrev TT:=St->Hp->(Bool->Hp->Prop)->Prop
abbrev TA:=St->Hp->(List V->Hp->Prop)->Prop
structure qS where
 nx:St->Hp->Prop
 rt:VK
 bk:St->Hp->Prop:=fun _ _=>False
 ct:St->Hp->Prop:=fun _ _=>False
abbrev TS:=qS->St->Hp->Prop
def EP (X:Cx)(pins:List (Addr×Obj))(σ:St)(Q:VK)(u:Value)(s':Shared):Prop:=∃v H',Inv X pins σ H' s'/\RelV v u/\Q v H'
def TP (X:Cx)(pins:List (Addr×Obj))(σ:St)(Q:Bool->Hp->Prop)(b:Bool)(s':Shared):Prop:=∃H',Inv X pins σ H' s'/\Q b H'
def AP (X:Cx)(pins:List (Addr×Obj))(σ:St)(Q:List V->Hp->Prop)(us:List Value)(s':Shared):Prop:=∃vs H',Inv X pins σ H' s'/\Vals vs us/\Q vs H'
def SP (X:Cx)(pins:List (Addr×Obj))(D:qS)(f:Flow)(s':Shared):Prop :=
 match f with
 | .next=>∃σ' H',Inv X pins σ' H' s'/\D.nx σ' H'
 | .brk=>∃σ' H',Inv X pins σ' H' s'/\D.bk σ' H'
 | .cont=>∃σ' H',Inv X pins σ' H' s'/\D.ct σ' H'
 | .ret u=>∃v σ' H',Inv X pins σ' H' s'/\RelV v u/\D.rt v H'
def PE (X:Cx)(e:Expr)(t:TE):Prop :=
 ∀(pins:List (Addr×Obj)) (s:Shared) (σ:St) (H:Hp) (Q:VK),Inv X pins σ H s->t σ H Q->wpAny (model X.prog X.w) X.A (eval e X.env) (EP X pins σ Q) X.xe s
def PT (X:Cx)(e:Expr)(t:TT):Prop :=
 ∀(pins:List (Addr×Obj)) (s:Shared) (σ:St) (H:Hp) (Q:Bool->Hp->Prop),Inv X pins σ H s->t σ H Q->wpAny (model X.prog X.w) X.A (isTrue e X.env (eval e X.env)) (TP X pins σ Q) X.xe s
def PW (X:Cx)(e:Expr)(t:TT):Prop :=
 ∀(whole:Sem Value) (pins:List (Addr×Obj)) (s:Shared) (σ:St) (H:Hp) (Q:Bool->Hp->Prop),Inv X pins σ H s->t σ H Q->wpAny (model X.prog X.w) X.A (isTrue e X.env whole) (TP X pins σ Q) X.xe s
theorem PW.pt {X:Cx}{e:Expr}{t:TT} (h:PW X e t):PT X e t:=h _
def PA (X:Cx)(es:List Expr)(t:TA):Prop :=
 ∀(pos:Pos) (pins:List (Addr×Obj)) (s:Shared) (σ:St) (H:Hp) (Q:List V->Hp->Prop),Inv X pins σ H s->t σ H Q->wpAny (model X.prog X.w) X.A (spliced (backTo pos (starEach es X.env))) (AP X pins σ Q) X.xe s
def PS (X:Cx)(st:Stmt)(t:TS):Prop :=
 ∀(pins:List (Addr×Obj)) (s:Shared) (σ:St) (H:Hp) (D:qS),Inv X pins σ H s->t D σ H->wpAny (model X.prog X.w) X.A (exec st X.env) (SP X pins D) X.xe s
def PSs (X:Cx)(st:List Stmt)(t:TS):Prop :=
 ∀(pins:List (Addr×Obj)) (s:Shared) (σ:St) (H:Hp) (D:qS),Inv X pins σ H s->t D σ H->wpAny (model X.prog X.w) X.A (execs st X.env) (SP X pins D) X.xe s
theorem thn {α:Type}{t:Sem α}{Q Q':α->Shared->Prop}{M:Model}{A:Around}{E:Value->Shared->Prop}{s:Shared} (h:wpAny M A t Q E s) (hQ:∀a s,Q a s->Q' a s):wpAny M A t Q' E s:=wpAny_mono h hQ fun _ _ x=>x
end L2
namespace L2
open PySem PySem.Spec PyProof.Rows
section
variable {X:Cx}
def lH (i:Nat):TE:=fun σ H Q=>∃v,σ[i]? =some (some v)/\Q v H
def tC (v:V):TE:=fun _ H Q=>Q v H
theorem ZF {i:Nat}{x:Str}{pos:Pos} (hN:X.N[i]? =some x) (hv:Vis X.env.scope x) (hd:(x==("__debug__" :Str))=false:=by decide) (hcd:(x==("__classdict__" :Str))=false:=by decide):PE X (.Name x pos) (lH i):=by
 intro pins s σ H Q I h;obtain⟨v,e,h⟩:=h;obtain⟨m,hn,hl⟩:=I.loc;obtain⟨u,r,l⟩:=hl i x v hN e hv;have fin:EP X pins σ Q u s:=⟨v,H,I,r,h⟩
 rcases l with⟨hk,hm⟩|⟨hk,c,hc,hcell⟩
 ·exact wpAny_Name (wpAny_loadName_local I.ok.kind hk hn hm fin) hd
 ·rcases hk with hk|hk
  ·exact wpAny_Name (wpAny_loadName_cell I.ok.kind hk hc hcell fin) hd
  ·exact wpAny_Name (wpAny_loadName_free I.ok.kind hk hc hcell fin hcd) hd
theorem aG {i j pos}:PE X (.Constant (.int i) j pos) (tC (.int i)):=fun _ _ _ H _ I h=>wpAny_Constant_int ⟨.int i,H,I.tok _,⟨_,rfl⟩,h⟩
theorem y9 {b j pos}:PE X (.Constant (.bool b) j pos) (tC (.bl b)):=fun _ _ _ H _ I h=>Constant_bool ⟨.bl b,H,I,rfl,h⟩
theorem hZ {j pos}:PE X (.Constant .none j pos) (tC .non):=fun _ _ _ H _ I h=>Constant_none ⟨.non,H,I,rfl,h⟩
theorem fU {x j pos}:PE X (.Constant (.str x) j pos) (tC (.str x)):=fun _ _ _ H _ I h=>Calls.Constant_str ⟨.str x,H,I.tok _,⟨_,rfl⟩,h⟩
def Gl (X:Cx)(x:Str):Prop:=X.env.kindOf x=some .globalImplicit
theorem wG {E:Value->Shared->Prop}{pins:List (Addr×Obj)}{s:Shared}{σ:St}{H:Hp}{x:Str}{u:Value}{pos:Pos}{Q:Value->Shared->Prop} (I:Inv X pins σ H s) (hg:Gl X x) (hm:X.mg x=some u) (h:Q u s)
  (hd:(x==("__debug__" :Str))=false:=by decide):wpAny (model X.prog X.w) X.A (eval (.Name x pos) X.env) Q E s :=
 Calls.Name_function_global I.ok.kind hg (Calls.loadGlobal_global (by rw[I.ok.glob];exact I.mod.glob.keeps I.bk) hm h) hd
theorem uI {E:Value->Shared->Prop}{pins:List (Addr×Obj)}{s:Shared}{σ:St}{H:Hp}{x:Str}{u:Value}{pos:Pos}{Q:Value->Shared->Prop} (I:Inv X pins σ H s) (hg:Gl X x) (hm:X.mg x=none) (hv:bootBuiltins x=some u) (h:Q u s)
  (hn:x≠ "__name__" :=by decide)(hd:(x==("__debug__" :Str))=false:=by decide):wpAny (model X.prog X.w) X.A (eval (.Name x pos) X.env) Q E s:=by
 obtain⟨mb,h1,h2⟩:=I.mod.blt;exact Calls.Name_function_global I.ok.kind hg (Calls.loadGlobal_builtin (by rw[I.ok.glob];exact I.mod.glob.keeps I.bk) hm (by rw[I.ok.blt];exact h1.keeps I.bk) ((h2 x hn).trans hv) h) hd
theorem U6 {x:Str}{v:V}{u:Value}{pos:Pos} (hg:Gl X x) (hm:X.mg x=some u) (r:RelV v u) (hd:(x==("__debug__" :Str))=false:=by decide):PE X (.Name x pos) (tC v) :=
 fun _ _ _ H _ I h=>wG I hg hm ⟨v,H,I,r,h⟩ hd
theorem VB {x:Str}{v:V}{u:Value}{pos:Pos} (hg:Gl X x) (hm:X.mg x=none) (hv:bootBuiltins x=some u) (r:RelV v u) (hn:x≠ "__name__" :=by decide) (hd:(x==("__debug__" :Str))=false:=by decide):PE X (.Name x pos) (tC v) :=
 fun _ _ _ H _ I h=>uI I hg hm hv ⟨v,H,I,r,h⟩ hn hd
variable {a b:Expr}{ta tb:TE}{pos:Pos}
def PC (X:Cx)(op:CmpOp)(a b:Expr)(t:TE):Prop :=
 ∀(pins:List (Addr×Obj)) (s:Shared) (σ:St) (H:Hp) (Q:VK),Inv X pins σ H s->t σ H Q →
  wpAny (model X.prog X.w) X.A (eval a X.env) (fun v s₁=>wpAny (model X.prog X.w) X.A (eval b X.env) (fun u s₂=>wpAny (model X.prog X.w) X.A (compareOp op v u) (EP X pins σ Q) X.xe s₂) X.xe s₁) X.xe s
def tB (t:TE):TT:=fun σ H Q=>t σ H fun x H1=>∃c,x= .bl c/\Q c H1
theorem F3 {op:CmpOp}{t:TE} (h:PC X op a b t) (h1:behindInMarks op b=false:=by first|exact nobehind _ (by decide) (by decide)|rfl):PT X (.Compare a [op] [b] pos) (tB t):=by
 intro pins s σ H Q I hw;refine wpAny_isTrue_Compare1 (thn (h pins s σ H _ I hw) fun v s1 h1=>thn h1 fun u s2 h2=>thn h2 fun c s3 ⟨x,H1,I1,r1,q1⟩=> ?_) h1;obtain⟨d,rfl,q⟩:=q1;cases r1;exact wpAny_truthy_bool ⟨H1,I1,q⟩
theorem jO {e:Expr}{t:TE} (h:PE X e t) (he:∀whole,isTrue e X.env whole=(do let v ←whole;standAt e.pos;holding [v] (truthy v)):=by intro _;rfl):PT X e (tB t):=by
 intro pins s σ H Q I hw;refine isTrue_plain (thn (h pins s σ H _ I hw) fun v s1 ⟨x,H1,I1,r1,q1⟩=> ?_) (he _);obtain⟨d,rfl,q⟩:=q1;cases r1;exact wpAny_truthy_bool ⟨H1,I1,q⟩
variable {tA tB':TT}{rest:List Expr}
def X9 (t u:TT):TT:=fun σ H Q=>t σ H fun c H1=>if c=true then u σ H1 Q else Q false H1
def tOr (t u:TT):TT:=fun σ H Q=>t σ H fun c H1=>if c=true then Q true H1 else u σ H1 Q
def YS (t:TT):TT:=fun σ H Q=>t σ H fun c H1=>Q (!c) H1
theorem zY (ha:PT X a tA):PW X (.BoolOp .And [a] pos) tA:=by
 intro wh pins s σ H Q I h;refine isTrue_and (thn (ha pins s σ H Q I h) fun c s1 e=> ?_);cases c with
 | true=>exact isTrue_and_nil e
 | false=>exact e
theorem uM (ha:PT X a tA):PW X (.BoolOp .Or [a] pos) tA:=by
 intro wh pins s σ H Q I h;refine isTrue_or (thn (ha pins s σ H Q I h) fun c s1 e=> ?_);cases c with
 | false=>exact isTrue_or_nil e
 | true=>exact e
theorem zF (ha:PT X a tA)(hb:PW X (.BoolOp .And (b::rest) pos) tB'):PW X (.BoolOp .And (a::b::rest) pos) (X9 tA tB'):=by
 intro wh pins s σ H Q I h;refine isTrue_and (thn (ha pins s σ H _ I h) fun c s1 ⟨H1,I1,q1⟩=> ?_);cases c with
 | true=>exact hb wh pins s1 σ H1 Q I1 q1
 | false=>exact⟨H1,I1,q1⟩
theorem yN (ha:PT X a tA)(hb:PW X (.BoolOp .Or (b::rest) pos) tB'):PW X (.BoolOp .Or (a::b::rest) pos) (tOr tA tB'):=by
 intro wh pins s σ H Q I h;refine isTrue_or (thn (ha pins s σ H _ I h) fun c s1 ⟨H1,I1,q1⟩=> ?_);cases c with
 | true=>exact⟨H1,I1,q1⟩
 | false=>exact hb wh pins s1 σ H1 Q I1 q1
theorem oO (ha:PT X a tA):PT X (.UnaryOp .Not a pos) (YS tA):=by
 intro pins s σ H Q I h;exact isTrue_not (ha pins s σ H (fun c H1=>Q (!c) H1) I h)
def TL (ta tb:TE):TE:=fun σ H Q=>ta σ H fun x H1=>∃c,x= .bl c/\if c=true then tb σ H1 Q else Q (.bl false) H1
def UI (ta:TE):TE:=fun σ H Q=>ta σ H fun x H1=>∃c,x= .bl c/\Q (.bl (!c)) H1
theorem yY {op}{t:TE} (h:PE X a t):PE X (.BoolOp op [a] pos) t:=fun pins s σ H Q I hw=>BoolOp_one (h pins s σ H Q I hw)
theorem zE (ha:PE X a ta)(hb:PE X (.BoolOp .And (b::rest) pos) tb):PE X (.BoolOp .And (a::b::rest) pos) (TL ta tb):=by
 intro pins s σ H Q I h;refine BoolOp_and (thn (ha pins s σ H _ I h) fun v s1 ⟨x,H1,I1,r1,q1⟩=> ?_);obtain⟨c,rfl,q1⟩:=q1;cases r1;refine wpAny_truthy_bool ?_;cases c with
 | true=>exact hb pins s1 σ H1 Q I1 q1
 | false=>exact⟨.bl false,H1,I1,rfl,q1⟩
theorem NV (ha:PE X a ta):PE X (.UnaryOp .Not a pos) (UI ta):=by
 intro pins s σ H Q I h;refine UnaryOp_ (thn (ha pins s σ H _ I h) fun v s1 ⟨x,H1,I1,r1,q1⟩=> ?_);obtain⟨c,rfl,q1⟩:=q1;cases r1;exact not_of (wpAny_truthy_bool ⟨.bl (!c),H1,I1,rfl,q1⟩)
def tIf (t:TT)(ta tb:TE):TE:=fun σ H Q=>t σ H fun c H1=>if c=true then ta σ H1 Q else tb σ H1 Q
theorem Q7 {c:Expr}(hc:PT X c tA)(ha:PE X a ta)(hb:PE X b tb):PE X (.IfExp c a b pos) (tIf tA ta tb):=by
 intro pins s σ H Q I h;refine wpAny_IfExp (thn (hc pins s σ H _ I h) fun d s1 ⟨H1,I1,q1⟩=> ?_);cases d with
 | true=>exact ha pins s1 σ H1 Q I1 q1
 | false=>exact hb pins s1 σ H1 Q I1 q1
end
end L2
namespace L2
open PySem PySem.Spec PyProof.Rows
def SqL (K:PySem.W.Frag)(H:Hp)(a:Addr)(xs:List V):Prop :=
 Rd H a (.lst xs) ∨
  ∃(o:Obj) (its:Array Value) (n:Nat),K.lookup a=some o/\o.cls= .type "list" /\o.dict=none/\o.data= .seq its n/\its.size<=sizeLine/\Vals xs its.toList
def SqT (K:PySem.W.Frag)(H:Hp)(a:Addr)(xs:List V):Prop :=
 Rd H a (.tup xs) ∨
  ∃(o:Obj) (its:Array Value) (n:Nat),K.lookup a=some o/\o.cls= .type "tuple" /\o.data= .seq its n/\its.size<=sizeLine/\Vals xs its.toList
def aBY:Value->Option V
 | .none=>some .non
 | .bool b=>some (.bl b)
 | .int i _=>some (.int i)
 | .str x _=>some (.str x)
 | .bytes b _=>some (.byt b)
 | .float b _=>some (.flt b)
 | .ref a=>some (.ref a)
 | .type n=>some (.ty n)
 | _=>none
theorem RelV.abs {x:V}{u:Value} (r:RelV x u):aBY u=some x:=by
 cases x with
 | non=>cases r;rfl
 | bl _=>cases r;rfl
 | int _=>obtain⟨t,rfl⟩:=r;rfl
 | str _=>obtain⟨t,rfl⟩:=r;rfl
 | byt _=>obtain⟨t,rfl⟩:=r;rfl
 | flt _=>obtain⟨t,rfl⟩:=r;rfl
 | ref _=>cases r;rfl
 | ty _=>cases r;rfl
theorem RelV.inj {x y:V}{u:Value} (r:RelV x u) (q:RelV y u):x=y:=Option.some.inj (r.abs.symm.trans q.abs)
theorem Vals.inj:∀{xs ys:List V}{us:List Value},Vals xs us->Vals ys us->xs=ys
 | _,_,_,.nil,.nil=>rfl
 | _,_,_,.cons r t,.cons r' t'=>by rw[r.inj r',Vals.inj t t']
section
variable {X:Cx}{pins:List (Addr×Obj)}{σ:St}{H:Hp}{s:Shared}{a:Addr}{xs ys:List V}
theorem SqL.of {K:PySem.W.Frag}(h:H a=some (.lst xs)):SqL K H a xs:= .inl (.inl h)
theorem SqT.of {K:PySem.W.Frag}(h:H a=some (.tup xs)):SqT K H a xs:= .inl (.inl h)
theorem Inv.list (I:Inv X pins σ H s)(h:SqL X.K H a xs):∃its:List Value,Vals xs its/\PlainL s.heap a its.toArray/\xs.length<=sizeLine:=by
 rcases h with h|⟨o,its,n,hk,hc,hd,hs,hz,r⟩
 ·obtain⟨z,its,n,r,e⟩:=h.ok I.hok;exact⟨its,r,⟨_,n,e,rfl,rfl,rfl⟩,z⟩
 ·refine⟨its.toList,r,⟨o,n,I.kIn a o hk,hc,hd,by simpa using hs⟩,?_⟩;have e:=r.length;simp only[Array.length_toList]at e
  lia
theorem Inv.tuple (I:Inv X pins σ H s)(h:SqT X.K H a xs):∃its:List Value,Vals xs its/\IsTup s.heap a its.toArray/\xs.length<=sizeLine:=by
 rcases h with h|⟨o,its,n,hk,hc,hs,hz,r⟩
 ·obtain⟨z,its,r,p⟩:=h.ok I.hok;exact⟨its,r,p,z⟩
 ·refine⟨its.toList,r,⟨o,I.kIn a o hk,hc,n,by simpa using hs⟩,?_⟩;have e:=r.length;simp only[Array.length_toList]at e
  lia
theorem Inv.list_inj (I:Inv X pins σ H s)(h:SqL X.K H a xs)(h':SqL X.K H a ys):xs=ys:=by
 obtain⟨its,r,⟨o,n,e,_,_,d⟩,_⟩:=I.list h;obtain⟨its',r',⟨o',n',e',_,_,d'⟩,_⟩:=I.list h';rw[e]at e';cases e';rw[d]at d';injection d' with d1 _;have:its=its':=by simpa using congrArg Array.toList d1
 subst this;exact r.inj r'
end
abbrev Cx.wish (X:Cx)(E:Value->Shared->Prop):Cx:={ X with xe:=E }
abbrev Cx.nox (X:Cx):Cx:=X.wish fun _ _=>False
theorem Cx.Ok.wish {X:Cx}(ok:X.Ok)(E:Value->Shared->Prop):(X.wish E).Ok :=
 ⟨ok.mod,ok.kind,ok.glob,ok.blt,ok.above,ok.inj,ok.has,ok.cab,ok.hd,ok.frames,ok.stk,ok.exf,ok.bs,ok.bsz,ok.noex,ok.exfs,ok.funs,ok.frf⟩
theorem Cx.Ok.unwish {X:Cx}{E:Value->Shared->Prop} (ok:(X.wish E).Ok):X.Ok :=
 ⟨ok.mod,ok.kind,ok.glob,ok.blt,ok.above,ok.inj,ok.has,ok.cab,ok.hd,ok.frames,ok.stk,ok.exf,ok.bs,ok.bsz,ok.noex,ok.exfs,ok.funs,ok.frf⟩
section
variable {X:Cx}{pins:List (Addr×Obj)}{σ:St}{H:Hp}{s:Shared}{E:Value->Shared->Prop}
theorem Inv.wish (I:Inv X pins σ H s)(E:Value->Shared->Prop):Inv (X.wish E) pins σ H s:=⟨I.ok.wish E,I.os,I.bare,I.base,I.loc,I.cell,I.free,I.freeC,I.pin,I.hok,I.len⟩
theorem Inv.unwish (I:Inv (X.wish E) pins σ H s):Inv X pins σ H s:=⟨I.ok.unwish,I.os,I.bare,I.base,I.loc,I.cell,I.free,I.freeC,I.pin,I.hok,I.len⟩
theorem SP.unwish {D:qS}{f:Flow}{s':Shared} (h:SP (X.wish E) pins D f s'):SP X pins D f s':=by
 cases f with
 | next=>obtain⟨σ',H',I,q⟩:=h;exact⟨σ',H',I.unwish,q⟩
 | brk=>obtain⟨σ',H',I,q⟩:=h;exact⟨σ',H',I.unwish,q⟩
 | cont=>obtain⟨σ',H',I,q⟩:=h;exact⟨σ',H',I.unwish,q⟩
 | ret u=>obtain⟨v,σ',H',I,r,q⟩:=h;exact⟨v,σ',H',I.unwish,r,q⟩
theorem PSs.nox {st:List Stmt}{t:TS} (h:PSs X.nox st t):PSs X st t:=fun pins s σ H D I hw =>
 wpAny_mono (h pins s σ H D (I.wish _) hw) (fun _ _ q=>q.unwish) fun _ _ z=>False.elim z
end
section
variable {X:Cx}{st:Stmt}{rest:List Stmt}{t u:TS}{e:Expr}{te:TE}{pos:Pos}
def TM:TS:=fun D σ H=>D.nx σ H
def KQ (t u:TS):TS:=fun D σ H=>t { D with nx:=u D } σ H
theorem bT:PSs X [] TM:=fun _ _ σ H _ I h=>wpAny_execs_nil ⟨σ,H,I,h⟩
theorem aC (h1:PS X st t)(h2:PSs X rest u):PSs X (st::rest) (KQ t u):=by
 intro pins s σ H D I h;refine wpAny_execs_cons (thn (h1 pins s σ H { D with nx:=u D } I h) fun f s1 q=> ?_);cases f with
 | next =>
  obtain⟨σ',H',I',q⟩:=q;exact h2 pins s1 σ' H' D I' q
 | ret v=>exact q
 | brk=>exact q
 | cont=>exact q
theorem aF (h1:PS X st t):PSs X [st] t:=by
 intro pins s σ H D I h;refine wpAny_execs_cons (thn (h1 pins s σ H D I h) fun f s1 q=> ?_);cases f with
 | next=>exact wpAny_execs_nil q
 | ret v=>exact q
 | brk=>exact q
 | cont=>exact q
theorem Inv.quiet {pins:List (Addr×Obj)}{σ:St}{H:Hp}{s:Shared} (I:Inv X pins σ H s):interactive X.env=false:=by simp[interactive,I.ok.kind]
def UG (te:TE):TS:=fun D σ H=>te σ H fun _ H1=>D.nx σ H1
theorem cI (he:PE X e te)(hs:swapsWith e none pos.line X.env=pure false:=by rfl):PS X (.Expr e pos) (UG te):=by
 intro pins s σ H D I h;exact wpAny_Expr_any (thn (he pins s σ H _ I h) fun v s1 ⟨x,H1,I1,r1,q1⟩=>⟨σ,H1,I1,q1⟩) I.quiet hs
def X6 (te:TE):TS:=fun D σ H=>te σ H D.rt
theorem bC (he:PE X e te):PS X (.Return (some e) pos) (X6 te):=by
 intro pins s σ H D I h;exact wpAny_Return_some (thn (he pins s σ H _ I h) fun v s1 ⟨x,H1,I1,r1,q1⟩=>⟨x,σ,H1,I1,r1,q1⟩)
def KR (c:TT)(t u:TS):TS:=fun D σ H=>c σ H fun b H1=>if b=true then t D σ H1 else u D σ H1
theorem cP {c:Expr}{a b:List Stmt}{tc:TT} (hc:PT X c tc) (ha:PSs X a t) (hb:PSs X b u):PS X (.If c a b pos) (KR tc t u):=by
 intro pins s σ H D I h;refine wpAny_If (thn (hc pins s σ H _ I h) fun d s1 ⟨H1,I1,q1⟩=> ?_);cases d with
 | true=>exact ha pins s1 σ H1 D I1 q1
 | false=>exact hb pins s1 σ H1 D I1 q1
def aAc:TS:=fun _ _ _=>False
theorem g7:PS X st aAc:=fun _ _ _ _ _ _ h=>h.elim
end
abbrev TG:=V->St->Hp->(St->Hp->Prop)->Prop
abbrev TGs:=List V->St->Hp->(St->Hp->Prop)->Prop
def PG (X:Cx)(target:Expr)(t:TG):Prop :=
 ∀(pins:List (Addr×Obj)) (s:Shared) (σ:St) (H:Hp) (v:V) (u:Value) (Q:St->Hp->Prop),Inv X pins σ H s->RelV v u->t v σ H Q →
  wpAny (model X.prog X.w) X.A (assign target X.env u) (fun _ s'=>∃σ' H',Inv X pins σ' H' s'/\Q σ' H') X.xe s
def PGs (X:Cx)(ts:List Expr)(t:TGs):Prop :=
 ∀(pins:List (Addr×Obj)) (s:Shared) (σ:St) (H:Hp) (vs:List V) (us:List Value) (Q:St->Hp->Prop),Inv X pins σ H s->Vals vs us->t vs σ H Q →
  wpAny (model X.prog X.w) X.A (assignInOrder ((assignEach ts X.env).map (·.2)) us) (fun _ s'=>∃σ' H',Inv X pins σ' H' s'/\Q σ' H') X.xe s
abbrev KI:=V->V->V->Hp->(Hp->Prop)->Prop
def ZQ (X:Cx)(t:KI):Prop :=
 ∀(pins:List (Addr×Obj)) (s:Shared) (σ:St) (H:Hp) (o i v:V) (ov iv u:Value) (Q:Hp->Prop),Inv X pins σ H s->RelV o ov->RelV i iv->RelV v u->t o i v H Q →
  wpAny (model X.prog X.w) X.A (setItem ov iv u) (fun _ s'=>∃H',Inv X pins σ H' s'/\Q H') X.xe s
section
variable {X:Cx}{pos:Pos}
def cM (i:Nat):TG:=fun v σ H Q=>Q (σ.set i (some v)) H
theorem aL {i:Nat}{x:Str} (hN:X.N.Nodup) (hi:X.N[i]? =some x) (hx:Loc X.env.scope x) (hf:X.fn x=true∨X.env.scope.names.lookup x=some .local:=by first|exact .inl rfl|exact .inr rfl|assumption):PG X (.Name x pos) (cM i):=by
 intro pins s σ H v u Q I r h;exact wpAny_assign_Name (FE I hN hi hx r (fun s' I'=>⟨_,H,I',h⟩) hf)
def zW:TGs:=fun vs σ H Q=>vs=[]/\Q σ H
def kO (t:TG)(u:TGs):TGs:=fun vs σ H Q=>∃v r,vs=v::r/\t v σ H fun σ' H'=>u r σ' H' Q
theorem dO:PGs X [] zW:=by
 intro pins s σ H vs us Q I r h;obtain⟨e,h⟩:=h;subst e;cases r;exact assignInOrder_nil ⟨σ,H,I,h⟩
theorem bD {e:Expr}{es:List Expr}{t:TG}{u:TGs} (h1:PG X e t) (h2:PGs X es u)
  (hs:(assignEach (e::es) X.env).map (·.2)=assign e X.env::(assignEach es X.env).map (·.2):=by rfl):PGs X (e::es) (kO t u):=by
 intro pins s σ H vs us Q I r h;obtain⟨v,vr,e1,h⟩:=h;subst e1;cases r with
 | cons r rr =>
  rw[hs];refine assignInOrder_cons (thn (h1 pins s σ H _ _ _ I r h) fun _ s1 ⟨σ1,H1,I1,q1⟩=> ?_);exact h2 pins s1 σ1 H1 _ _ Q I1 rr q1
def xD (K:PySem.W.Frag)(n:Nat)(t:TGs):TG:=fun v σ H Q=>∃a xs,v= .ref a/\SqT K H a xs/\xs.length=n/\t xs σ H Q
theorem mU {es:List Expr}{k:Nat}{t:TGs}{n:Nat} (hc:X.calm=true) (h:PGs X es t)
  (hn:(assignEach es X.env).length=n:=by rfl)(hst:(assignEach es X.env).findIdx? (·.1)=none:=by rfl):PG X (.Tuple es k pos) (xD X.K n t):=by
 intro pins s σ H v u Q I r hw;obtain⟨a,xs,e1,hq,hl,hw⟩:=hw;subst e1;cases r;obtain⟨its,rv,ht,hz⟩:=I.tuple hq;refine assign_Tuple_tuple (I.ok.hd hc) ht (by simp[hn,←hl,rv.length]) hst fun h' hx=> ?_;have I1:Inv X pins σ H { s with heap:=h' }:=I.kept (t':=s.toks) fun b o e=>hx b o (Nat.ne_of_lt (Heap.lt_size e)) e;exact h pins _ σ H xs _ Q I1 (by simpa using rv) hw
def YU (to ti:TE)(t:KI):TG:=fun v σ H Q=>to σ H fun o H1=>ti σ H1 fun i H2=>t o i v H2 fun H3=>Q σ H3
theorem YR {o i:Expr}{to ti:TE}{t:KI} (ho:PE X o to) (hi:PE X i ti) (hs:ZQ X t)
  (ha:∀v,assign (.Subscript o i pos) X.env v=(do
   let ov ←holding [v] (eval o X.env);let iv ←holding [v,ov] (eval i X.env)
   standAt pos
   holding [v,ov,iv] (setItem ov iv v)
   release [v,ov,iv] []):=by intro _;rfl):PG X (.Subscript o i pos) (YU to ti t):=by
 intro pins s σ H v u Q I r h;rw[ha];refine wpAny_bind (wpAny_holding (thn (ho pins s σ H _ I h) fun ov s1 ⟨x,H1,I1,r1,q1⟩=> ?_));refine wpAny_bind (wpAny_holding (thn (hi pins s1 σ H1 _ I1 q1) fun iv s2 ⟨y,H2,I2,r2,q2⟩=> ?_));refine wpAny_bind (wpAny_standAt (wpAny_bind (wpAny_holding (thn (hs pins s2 σ H2 x y v ov iv u _ I2 r1 r2 r q2) fun _ s3 ⟨H3,I3,q3⟩=> ?_))));exact wpAny_release ⟨σ,H3,I3,q3⟩
def LE (te:TE)(g:TG):TS:=fun D σ H=>te σ H fun x H1=>g x σ H1 D.nx
theorem NN {tg e:Expr}{te:TE}{g:TG} (he:PE X e te) (hg:PG X tg g) (hs:swapsWithSole [tg] e pos.line X.env=pure false:=by rfl) (hw:swappedStores [tg] e X.env=pure none:=by rfl)
  (h1:(assignEach [tg] X.env).map (·.2)=[assign tg X.env]:=by rfl):PS X (.Assign [tg] e pos) (LE te g):=by
 intro pins s σ H D I h;refine wpAny_Assign_stores (thn (he pins s σ H _ I h) fun v s1 ⟨x,H1,I1,r1,q1⟩=> ?_) hs hw;rw[h1];exact thn (hg pins s1 σ H1 x v _ I1 r1 q1) fun _ s2 q=>q
theorem aZ {i:Nat}{x:Str}{e:Expr}{te:TE}{pos':Pos} (hN:X.N.Nodup) (hi:X.N[i]? =some x) (hx:Loc X.env.scope x) (he:PE X e te) (hs:swapsWith e (some (.Name x pos')) pos.line X.env=pure false:=by rfl) (hf:X.fn x=true∨X.env.scope.names.lookup x=some .local:=by first|exact .inl rfl|exact .inr rfl|assumption) :
  PS X (.Assign [.Name x pos'] e pos) (LE te (cM i)):=by
 intro pins s σ H D I h;refine wpAny_Assign_Name (thn (he pins s σ H _ I h) fun v s1 ⟨y,H1,I1,r1,q1⟩=> ?_) hs;exact FE I1 hN hi hx r1 (fun s2 I2=>⟨_,H1,I2,q1⟩) hf
end
section
variable {X:Cx}{pos:Pos}
end
structure It where
 go:Nat->Hp->Prop
 yld:Nat->Hp->V->Hp->Prop
 stop:Nat->Hp->Prop
def oT (X:Cx)(pins:List (Addr×Obj))(H:Hp)(b:Addr):Prop :=
 H b=none/\b≠X.env.locals/\b∉X.fs/\(b∈X.ex∨X.s₀.heap.objs.size<=b)/\(∀x c,X.env.cells.lookup x=some c->c≠b)/\∀p∈X.pn++pins,p.1≠b
theorem Inv.fpOk {X:Cx}{pins:List (Addr×Obj)}{σ:St}{H H':Hp}{s:Shared}{b:Addr} (I:Inv X pins σ H s) (hb:s.heap.objs.size<=b) (hn:H' b=none):oT X pins H' b:=by
 refine⟨hn,Nat.ne_of_gt (Nat.lt_of_lt_of_le I.lt hb),I.nofs hb,.inr (Nat.le_trans I.sz hb),fun x c e z=> ?_,fun p hp z=> ?_⟩
 ·obtain⟨v,q⟩:=I.cell x c e;exact absurd (Nat.lt_of_lt_of_le q.lt (by rw[z];exact hb)) (Nat.lt_irrefl _)
 ·exact absurd (Nat.lt_of_lt_of_le (Heap.lt_size (I.pin p hp).1) (by rw[z];exact hb)) (Nat.lt_irrefl _)
structure u9 (P:Program)(w:World)(K:PySem.W.Frag)(tg:Expr)(J:It)(fp:List Addr)(it:Addr)(tn:Nat->Heap->Prop):Prop where
 mem:it∈fp
 obj:∀i h,tn i h->∀b∈fp,∃o,h.get? b=some o/\∀v,o.data≠ .cell v
 keep:∀i h h',tn i h->(∀b∈fp,∀o,h.get? b=some o->h'.get? b=some o)->tn i h'
 item:∀(X:Cx),X.prog=P->X.w=w->X.K=K->X.calm=true->∀(i:Nat) (pins:List (Addr×Obj)) (s:Shared) (σ:St) (H:Hp) (E:Value->Shared->Prop),Inv X pins σ H s->(∀b∈fp,oT X pins H b)->tn i s.heap->J.go i H →
  wpAny (model P w) X.A (pyNext (.ref it)) (fun r s1=>∃u,r=some u ∧
   wpAny (model P w) X.A (letOwnedTupleGo tg (.ref it) u) (fun _ s2=>∃x H',Inv X pins σ H' s2/\RelV x u/\J.yld i H x H'/\tn (i+1) s2.heap/\∀b∈fp,H' b=none) E s1) E s
 done:∀(X:Cx),X.prog=P->X.w=w->X.K=K->X.calm=true->∀(i:Nat) (pins:List (Addr×Obj)) (s:Shared) (σ:St) (H:Hp) (E:Value->Shared->Prop),Inv X pins σ H s->(∀b∈fp,oT X pins H b)->tn i s.heap->J.stop i H →
  wpAny (model P w) X.A (pyNext (.ref it)) (fun r s1=>r=none/\Inv X pins σ H s1) E s
 self:∀(A:Around) (i:Nat) (s:Shared) (Q:Value->Shared->Prop) (E:Value->Shared->Prop),tn i s.heap->Q (.ref it) s->wpAny (model P w) A (pyIter (.ref it)) Q E s
abbrev TI:=St->Hp->(It->Hp->Prop)->Prop
def PIE (X:Cx)(pins:List (Addr×Obj))(σ:St)(tg:Expr)(R:It->Hp->Prop)(itv:Value)(s2:Shared):Prop :=
 ∃(it:Addr) (fp:List Addr) (tn:Nat->Heap->Prop) (J:It) (H':Hp),itv= .ref it/\Inv X pins σ H' s2/\u9 X.prog X.w X.K tg J fp it tn/\tn 0 s2.heap/\(∀b∈fp,oT X pins H' b)/\R J H'
def PI (X:Cx)(tg iter:Expr)(wi:TI):Prop :=
 ∀(pins:List (Addr×Obj)) (s:Shared) (σ:St) (H:Hp) (R:It->Hp->Prop),Inv X pins σ H s->wi σ H R →
  wpAny (model X.prog X.w) X.A (eval iter X.env) (fun v s1=>wpAny (model X.prog X.w) X.A (pyIter v) (PIE X pins σ tg R) X.xe s1) X.xe s
theorem JX {M:Model}{A:Around}{E:Value->Shared->Prop}{s:Shared}{tg:Expr}{it:Addr}{u:Value}{o:Obj}{n:String}{vs:Array Value}{Q:Unit->Shared->Prop} (ho:s.heap.get? it=some o) (hc:o.cls= .type n) (hd:o.data= .fields vs)
  (hn:["enumerate","zip","dict_itemiterator","dict_reverseitemiterator","odict_iterator","itertools.zip_longest","itertools.pairwise"].contains n=false)(hQ:Q () s):wpAny M A (letOwnedTupleGo tg (.ref it) u) Q E s:=by
 unfold letOwnedTupleGo;cases tg<;>first
  | exact wpAny_pure hQ
  | (cases u<;>first
    | exact wpAny_pure hQ
    | (refine wpAny_bind (wpAny_load ho ?_);rw[hc,hd];show wpAny M A (if (["enumerate","zip","dict_itemiterator","dict_reverseitemiterator","odict_iterator","itertools.zip_longest","itertools.pairwise"].contains n&&vs[0]? ==some (rawInt _))=true then _ else _) Q E s;rw[if_neg (by intro h;rw[hn,Bool.false_and]at h;cases h)];exact wpAny_pure hQ))
def Itl (K:PySem.W.Frag)(a:Addr):It :=
 ⟨fun i H=>∃xs x,SqL K H a xs/\xs[i]? =some x,fun i H x H'=>H'=H/\∀xs,SqL K H a xs->xs[i]? =some x,fun i H=>∃xs,SqL K H a xs/\xs.length<=i⟩
def Itr (lo:Int)(n:Nat):It:=⟨fun i _=>i<n,fun i H x H'=>H'=H/\x= .int (lo+i),fun i _=>n<=i⟩
theorem NI {P:Program}{w:World}{K:PySem.W.Frag}{tg:Expr} (a it:Addr):u9 P w K tg (Itl K a) [it] it (fun i h=>h.IsListIter it a i) where
 mem:=by simp
 obj:=fun i h st b hb=>by
  have e:b=it:=by simpa using hb
  subst e;obtain⟨o,e,c,d⟩:=st;exact⟨o,e,fun v z=>by rw[d]at z;cases z⟩
 keep:=fun i h h' st k=>st.at fun o e=>k it (by simp) o e
 item:=by
  intro X hP hw hK hc i pins s σ H E I hf st hg;subst hP hw hK;obtain⟨xs,x,hq,hx⟩:=hg;obtain⟨its,rv,p,hz⟩:=I.list hq;obtain⟨u,hu,ru⟩:=rv.get hx;obtain⟨f0,f1,f2,f3,f4,f5⟩:=hf it (by simp);refine wpAny_pyNext_list_item st p.isList (x:=u) (by simpa using hu) fun h' st' sb=> ?_;have I1:Inv X pins σ H { s with heap:=h' }:=I.turned (t':=s.toks) (fun b o hb e=>(sb.2 b hb).trans e) f0 f1 f3 f4 f5;obtain⟨o,e,c,d⟩:=id st';exact⟨u,rfl,JX (s:={ s with heap:=h' }) e c d (by decide) ⟨x,H,I1,ru,⟨rfl,fun ys hy=>by rw[I.list_inj hy hq];exact hx⟩,st',fun b hb=>(hf b hb).1⟩⟩
 done:=by
  intro X hP hw hK hc i pins s σ H E I hf st hg;subst hP hw hK;obtain⟨xs,hq,hx⟩:=hg;obtain⟨its,rv,p,hz⟩:=I.list hq;obtain⟨f0,f1,f2,f3,f4,f5⟩:=hf it (by simp);have hl:=rv.length;exact wpAny_pyNext_list_end (I.ok.hd hc) st p.isList (by simp;lia) fun h' eb=>⟨rfl,I.turned (t':=s.toks) (fun b o hb e=>eb b o hb e) f0 f1 f3 f4 f5⟩
 self:=fun _ _ _ _ _ st h=>wpAny_pyIter_listiter st h
theorem KY {P:Program}{w:World}{K:PySem.W.Frag}{tg:Expr} (it:Addr) (lo:Int) (n:Nat):u9 P w K tg (Itr lo n) [it] it (fun i h=>IsRangeIter h it (lo+(i:Nat) * 1) ((n:Int) - (i:Nat)) 1) where
 mem:=by simp
 obj:=fun i h st b hb=>by
  have e:b=it:=by simpa using hb
  subst e;exact⟨_,st,fun v z=>by
   have z':Data.fields _=Data.cell v:=z;cases z'⟩
 keep:=fun i h h' st k=>k it (by simp) _ st
 item:=by
  intro X hP hw hK hc i pins s σ H E I hf st hg;subst hP hw hK;obtain⟨f0,f1,f2,f3,f4,f5⟩:=hf it (by simp);have W:=Walks.range (prog:=X.prog) (w:=X.w) (I.ok.hd hc) it lo 1 n;refine W.item i s _ _ hg st fun v h' tk hv st' kk=> ?_;obtain⟨t,rfl⟩:=hv;have I1:Inv X pins σ H { s with heap:=h',toks:=tk }:=I.turned (fun b o hb e=>kk b o (by simpa using hb) e) f0 f1 f3 f4 f5;refine⟨_,rfl,JX (s:={ s with heap:=h',toks:=tk }) (n:= "range_iterator") st' rfl rfl (by decide) ⟨.int (lo+i),H,I1,⟨t,?_⟩,⟨rfl,rfl⟩,st',fun b hb=>(hf b hb).1⟩⟩;rw[Int.mul_one]
 done:=by
  intro X hP hw hK hc i pins s σ H E I hf st hg;subst hP hw hK;obtain⟨f0,f1,f2,f3,f4,f5⟩:=hf it (by simp);exact wpAny_pyNext_range_end (I.ok.hd hc) st (by have:n<=i:=hg;lia) fun h' eb=>⟨rfl,I.turned (t':=s.toks) (fun b o hb e=>eb b o hb e) f0 f1 f3 f4 f5⟩
 self:=fun _ _ _ _ _ st h=>wpAny_pyIter_rangeiter st h
end L2
namespace L2
open PySem PySem.Spec PyProof.Rows
section
variable {X:Cx}{tg:Expr}
def TH (K:PySem.W.Frag)(tl:TE):TI:=fun σ H R=>tl σ H fun x H1=>∃a,x= .ref a/\(∃xs,SqL K H1 a xs)/\R (Itl K a) H1
theorem bW {l:Expr}{tl:TE} (hl:PE X l tl):PI X tg l (TH X.K tl):=by
 intro pins s σ H R I h;refine thn (hl pins s σ H _ I h) fun v s1 ⟨x,H1,I1,r1,q1⟩=> ?_;obtain⟨a,e,⟨xs,hq⟩,q⟩:=q1;subst e;cases r1;obtain⟨its,rv,p,hz⟩:=I1.list hq;refine wpAny_pyIter_list p.isList ?_;refine⟨s1.heap.objs.size,[s1.heap.objs.size],_,_,H1,rfl,I1.kept (t':=s1.toks) fun b o e=>Heap.get?_push_of_some _ e,NI a _,⟨_,Heap.get?_push_size _ rfl,rfl,rfl⟩,fun b hb=> ?_,q⟩;have e:b=s1.heap.objs.size:=by simpa using hb
 subst e;exact I1.fpOk (Nat.le_refl _) (I1.hok.fresh (Nat.le_refl _))
theorem EO {pins:List (Addr×Obj)}{σ:St}{H:Hp}{s:Shared}{R:It->Hp->Prop}{E:Value->Shared->Prop}{lo hi:Int}{t u v:Tok}{tk:Nat} (I:Inv X pins σ H s) (h1: -(2^62)<=lo) (h2:lo<2^62) (h3: -(2^62)<=hi) (h4:hi<2^62)
  (q:R (Itr lo (hi - lo).toNat) H):wpAny (model X.prog X.w) X.A (pyIter (.ref s.heap.objs.size)) (PIE X pins σ tg R) E { s with heap:=s.heap.push { cls:= .type "range",data:= .fields #[.int lo t,.int hi u,.int 1 v] },toks:=tk }:=by
 refine wpAny_pyIter_range (IsRange.new ..) (small_one h1 h2 h3 h4) ?_;have I1:Inv X pins σ H { s with heap:=s.heap.push { cls:= .type "range",data:= .fields #[.int lo t,.int hi u,.int 1 v] },toks:=tk }:=I.kept fun b o e=>Heap.get?_push_of_some _ e;refine⟨(s.heap.push { cls:= .type "range",data:= .fields #[.int lo t,.int hi u,.int 1 v] }).objs.size,[(s.heap.push { cls:= .type "range",data:= .fields #[.int lo t,.int hi u,.int 1 v] }).objs.size],_,_,H,rfl,
  I1.kept (t':=tk) fun b o e=>Heap.get?_push_of_some _ e,KY _ lo (hi - lo).toNat,?_,fun b hb=> ?_,q⟩
 ·have e1:lo+((0:Nat):Int) * 1=lo:=by simp
  have e2:(((hi - lo).toNat:Nat):Int) - ((0:Nat):Int)=Builtin.Range.rangeSize lo hi 1:=by rw[rangeSize_one];split<;>lia
  show IsRangeIter _ _ (lo+((0:Nat):Int) * 1) ((((hi - lo).toNat:Nat):Int) - ((0:Nat):Int)) 1;rw[e1,e2];exact Heap.get?_push_size _ rfl
 ·have e:b=(s.heap.push { cls:= .type "range",data:= .fields #[.int lo t,.int hi u,.int 1 v] }).objs.size:=by simpa using hb
  subst e;exact I1.fpOk (Nat.le_refl _) (I1.hok.fresh (Nat.le_refl _))
def TB (ta:TA):TI:=fun σ H R=>ta σ H fun vs H1=>∃j:Int,vs=[.int j]/\ -(2^62)<=j/\j<2^62/\R (Itr 0 j.toNat) H1
def UC (ta:TA):TI:=fun σ H R=>ta σ H fun vs H1=>∃i j:Int,vs=[.int i,.int j]/\(-(2^62)<=i/\i<2^62/\ -(2^62)<=j/\j<2^62)/\R (Itr i (j - i).toNat) H1
theorem qH {a:Expr}{ta:TA}{p pos:Pos} (hg:Gl X "range") (hm:X.mg "range" =none) (ha:PA X [a] ta) (hs:starEach [a] X.env=[(false,eval a X.env)]:=by rfl):PI X tg (.Call (.Name "range" p) [a] [] pos) (TB ta):=by
 intro pins s σ H R I h;refine Call_ (uI I hg hm boot_range (PyProof.Rows.callWith_type1 (thn (ha pos pins s σ H _ I h) fun us s1 ⟨vs,H1,I1,r1,q1⟩=> ?_) hs rfl));obtain⟨j,e,q1,q2,q⟩:=q1;subst e;cases r1 with
 | cons r rr =>
  cases rr;obtain⟨t,rfl⟩:=r;exact call_range_1 (EO I1 (by lia) (by lia) q1 q2 (by simpa using q))
theorem qM {a b:Expr}{ta:TA}{p pos:Pos} (hg:Gl X "range") (hm:X.mg "range" =none) (ha:PA X [a,b] ta) (hs:starEach [a,b] X.env=[(false,eval a X.env),(false,eval b X.env)]:=by rfl) (hs2:starEach [b] X.env=[(false,eval b X.env)]:=by rfl) :
  PI X tg (.Call (.Name "range" p) [a,b] [] pos) (UC ta):=by
 intro pins s σ H R I h;refine Call_ (uI I hg hm boot_range (PyProof.Rows.callWith_type1 (thn (ha pos pins s σ H _ I h) fun us s1 ⟨vs,H1,I1,r1,q1⟩=> ?_) (by rw[hs,hs2]) (by rw[hs2];rfl)));obtain⟨i,j,e,⟨q1,q2,q3,q4⟩,q⟩:=q1;subst e;cases r1 with
 | cons r rr =>
  cases rr with
  | cons r' rr =>
   cases rr;obtain⟨t,rfl⟩:=r;obtain⟨t',rfl⟩:=r';exact call_range_2 (EO I1 q1 q2 q3 q4 q)
def aAI (wi:TI)(g:TG)(tb:TS):TS:=fun D σ H=>wi σ H fun J H1=>∃W:Nat->Nat->St->Hp->Prop,(∃m,W 0 m σ H1)/\∀i m σ H,W i m σ H →
 (J.stop i H/\D.nx σ H)∨(J.go i H/\∃N:St->Hp->Prop,(∀σ' H',N σ' H'->∃m',m'<m/\W (i+1) m' σ' H')/\∀x H',J.yld i H x H'->g x σ H' fun σ2 H2=>tb { D with nx:=N,ct:=N,bk:=D.nx } σ2 H2)
def mS (fp:List Addr)(h:Heap):List (Addr×Obj):=fp.filterMap fun b=>(h.get? b).map fun o=>(b,o)
theorem kJ {fp:List Addr}{h:Heap}{b:Addr}{o:Obj} (hb:b∈fp) (e:h.get? b=some o):(b,o)∈mS fp h:=List.mem_filterMap.mpr ⟨b,hb,by rw[e];rfl⟩
theorem BB {fp:List Addr}{h:Heap}{p:Addr×Obj} (hp:p∈mS fp h):p.1∈fp/\h.get? p.1=some p.2:=by
 obtain⟨b,hb,e⟩:=List.mem_filterMap.mp hp;cases q:h.get? b with
 | none=>rw[q]at e;cases e
 | some o =>
  rw[q]at e;have e':(b,o)=p:=Option.some.inj e;subst e';exact⟨hb,q⟩
theorem Inv.pinned {pins:List (Addr×Obj)}{σ:St}{H:Hp}{s:Shared}{fp:List Addr} (I:Inv X pins σ H s) (hf:∀b∈fp,oT X pins H b) (ho:∀b∈fp,∃o,s.heap.get? b=some o/\∀v,o.data≠ .cell v):Inv X (pins++mS fp s.heap) σ H s :=
 I.pins_of fun p hp=>(List.mem_append.mp hp).elim (fun z=>I.pin p (List.mem_append_right _ z)) fun z=>by
  obtain⟨hb,e⟩:=BB z;obtain⟨f0,f1,f2,_⟩:=hf p.1 hb;obtain⟨o,e',d⟩:=ho p.1 hb;rw[e]at e';cases e';exact⟨e,f0,f1,f2,d⟩
theorem Inv.unpinned {pins pl:List (Addr×Obj)}{σ:St}{H:Hp}{s:Shared} (I:Inv X (pins++pl) σ H s):Inv X pins σ H s:=I.pins_of fun p hp=>I.pin p (List.mem_append_right _ (List.mem_append_left _ hp))
theorem dE {iter:Expr}{body:List Stmt}{wi:TI}{g:TG}{tb:TS}{pos:Pos} (hp:PassesOwn (model X.prog X.w) X.A X.env X.xe) (hc:X.calm=true) (hi:PI X tg iter wi) (hg:PG X tg g) (hb:PSs X body tb)
  (hs:∀x,foldedSetIterable iter X.env x=pure x:=by intro _;rfl):PS X (.For tg iter body [] pos) (aAI wi g tb):=by
 intro pins s σ H D I h;refine wpAny_For (thn (hi pins s σ H _ I h) fun v s1 h1=>thn h1 fun itv s2 h2=> ?_) hs;obtain⟨it,fp,tn,J,H2,e,I2,T,st2,f2,W,⟨m0,w0⟩,turn⟩:=h2;subst e;have stat:∀{H':Hp},(∀b∈fp,H' b=none)->∀b∈fp,oT X pins H' b:=fun hn b hb=>⟨hn b hb,(f2 b hb).2⟩
 refine codeAny_forLoop_any (fun n s'=>∃i σ' H',Inv X pins σ' H' s'/\tn i s'.heap/\(∀b∈fp,H' b=none)/\W i n σ' H') ?_ m0 ⟨0,σ,H2,I2,st2,fun b hb=>(f2 b hb).1,w0⟩;rintro n s3 ⟨i,σ3,H3,I3,st3,fr3,w3⟩;rcases turn i n σ3 H3 w3 with⟨stop,qn⟩|⟨go,N,hN,step⟩
 ·refine wpAny_passesOwn hp (thn (T.done X rfl rfl rfl hc i pins s3 σ3 H3 X.xe I3 (stat fr3) st3 stop) fun r s4 ⟨hr,I4⟩=> ?_);subst hr;exact wpAny_execs_nil ⟨σ3,H3,I4,qn⟩
 ·refine wpAny_passesOwn hp (thn (T.item X rfl rfl rfl hc i pins s3 σ3 H3 X.xe I3 (stat fr3) st3 go) fun r s4 ⟨u,hr,h4⟩=> ?_);subst hr;refine wpAny_passesOwn hp (thn h4 fun _ s5 ⟨x,H5,I5,r5,y5,st5,fr5⟩=> ?_);have I5':=I5.pinned (stat fr5) (T.obj _ _ st5);refine wpAny_passesOwn hp (thn (hg _ s5 σ3 H5 x u _ I5' r5 (step x H5 y5)) fun _ s6 ⟨σ6,H6,I6,q6⟩=> ?_);refine wpAny_passesOwn hp (thn (hb _ s6 σ6 H6 _ I6 q6) fun f s7 q7=> ?_);have again:∀{σ7:St}{H7:Hp},Inv X (pins++mS fp s5.heap) σ7 H7 s7->N σ7 H7->∃m,m<n/\∃i σ' H',Inv X pins σ' H' s7/\tn i s7.heap/\(∀b∈fp,H' b=none)/\W i m σ' H':=fun {σ7 H7} I7 n7=>by
   obtain⟨m',hm,w7⟩:=hN σ7 H7 n7;refine⟨m',hm,i+1,σ7,H7,I7.unpinned,T.keep _ _ _ st5 fun b hb o e=>(I7.pin (b,o) (List.mem_append_right _ (List.mem_append_right _ (kJ hb e)))).1,fun b hb=> ?_,w7⟩;obtain⟨o,e,d⟩:=T.obj _ _ st5 b hb;exact(I7.pin (b,o) (List.mem_append_right _ (List.mem_append_right _ (kJ hb e)))).2.1
  cases f with
  | next=>obtain⟨σ7,H7,I7,n7⟩:=q7;exact again I7 n7
  | cont=>obtain⟨σ7,H7,I7,n7⟩:=q7;exact again I7 n7
  | brk=>obtain⟨σ7,H7,I7,q7⟩:=q7;exact⟨σ7,H7,I7.unpinned,q7⟩
  | ret v=>obtain⟨x7,σ7,H7,I7,r7,q7⟩:=q7;exact⟨x7,σ7,H7,I7.unpinned,r7,q7⟩
end
theorem P1 {K:PySem.W.Frag}{a:Addr}{xs:List V}{g:TG}{tb:TS}{D:qS}{σ:St}{H:Hp} (Pv:Nat->St->Hp->Prop) (h0:Pv 0 σ H) (hl:∀i σ H,i<=xs.length->Pv i σ H->SqL K H a xs)
  (hs:∀i x σ H,xs[i]? =some x->Pv i σ H->g x σ H fun σ2 H2=>tb { D with nx:=Pv (i+1),ct:=Pv (i+1),bk:=D.nx } σ2 H2)(hd:∀σ H,Pv xs.length σ H->D.nx σ H) :
  ∃W:Nat->Nat->St->Hp->Prop,(∃m,W 0 m σ H)/\∀i m σ H,W i m σ H →
   ((Itl K a).stop i H/\D.nx σ H)∨((Itl K a).go i H/\∃N:St->Hp->Prop,(∀σ' H',N σ' H'->∃m',m'<m/\W (i+1) m' σ' H')/\∀x H',(Itl K a).yld i H x H'->g x σ H' fun σ2 H2=>tb { D with nx:=N,ct:=N,bk:=D.nx } σ2 H2):=by
 refine⟨fun i m σ H=>m=xs.length - i/\i<=xs.length/\Pv i σ H,⟨xs.length,by simp,Nat.zero_le _,h0⟩,?_⟩;rintro i m σ H ⟨rfl,hi,p⟩;have q:=hl i σ H hi p
 by_cases hlt:i<xs.length
 ·refine .inr ⟨⟨xs,xs[i],q,by simp[hlt]⟩,Pv (i+1),fun σ' H' p'=>⟨xs.length - (i+1),by lia,rfl,hlt,p'⟩,fun x H' y=> ?_⟩;obtain⟨e,y⟩:=y;subst e;exact hs i x σ _ (y xs q) p
 ·have e:i=xs.length:=by lia
  subst e;exact .inl ⟨⟨xs,q,Nat.le_refl _⟩,hd σ H p⟩
theorem N1 {lo:Int}{n:Nat}{g:TG}{tb:TS}{D:qS}{σ:St}{H:Hp} (Pv:Nat->St->Hp->Prop) (h0:Pv 0 σ H)
  (hs:∀i σ H,i<n->Pv i σ H->g (.int (lo+i)) σ H fun σ2 H2=>tb { D with nx:=Pv (i+1),ct:=Pv (i+1),bk:=D.nx } σ2 H2)(hd:∀σ H,Pv n σ H->D.nx σ H) :
  ∃W:Nat->Nat->St->Hp->Prop,(∃m,W 0 m σ H)/\∀i m σ H,W i m σ H →
   ((Itr lo n).stop i H/\D.nx σ H)∨((Itr lo n).go i H/\∃N:St->Hp->Prop,(∀σ' H',N σ' H'->∃m',m'<m/\W (i+1) m' σ' H')/\∀x H',(Itr lo n).yld i H x H'->g x σ H' fun σ2 H2=>tb { D with nx:=N,ct:=N,bk:=D.nx } σ2 H2):=by
 refine⟨fun i m σ H=>m=n - i/\i<=n/\Pv i σ H,⟨n,by simp,Nat.zero_le _,h0⟩,?_⟩;rintro i m σ H ⟨rfl,hi,p⟩
 by_cases hlt:i<n
 ·refine .inr ⟨hlt,Pv (i+1),fun σ' H' p'=>⟨n - (i+1),by lia,rfl,hlt,p'⟩,fun x H' y=> ?_⟩;obtain⟨e,y⟩:=y;subst e y;exact hs i σ _ hlt p
 ·have e:i=n:=by lia
  subst e;exact .inl ⟨Nat.le_refl _,hd σ H p⟩
end L2
namespace L2
open PySem PySem.Spec PyProof.Rows
abbrev R2:=V->V->Hp->VK->Prop
def OpR (X:Cx)(f:Value->Value->Sem Value)(r:R2):Prop :=
 ∀(pins:List (Addr×Obj)) (s:Shared) (σ:St) (H:Hp) (x y:V) (v u:Value) (Q:VK),Inv X pins σ H s->RelV x v->RelV y u->r x y H Q →
  wpAny (model X.prog X.w) X.A (f v u) (EP X pins σ Q) X.xe s
def UnR (X:Cx)(f:Value->Sem Value)(r:V->Hp->VK->Prop):Prop :=
 ∀(pins:List (Addr×Obj)) (s:Shared) (σ:St) (H:Hp) (x:V) (v:Value) (Q:VK),Inv X pins σ H s->RelV x v->r x H Q →
  wpAny (model X.prog X.w) X.A (f v) (EP X pins σ Q) X.xe s
def dL (X:Cx)(f:Value)(r:List V->Hp->VK->Prop):Prop :=
 ∀(pins:List (Addr×Obj)) (s:Shared) (σ:St) (H:Hp) (xs:List V) (us:List Value) (Q:VK),Inv X pins σ H s->Vals xs us->r xs H Q →
  wpAny (model X.prog X.w) X.A (call f us) (EP X pins σ Q) X.xe s
def tOp (r:R2)(ta tb:TE):TE:=fun σ H Q=>ta σ H fun x H1=>tb σ H1 fun y H2=>r x y H2 Q
def tUn (r:V->Hp->VK->Prop)(ta:TE):TE:=fun σ H Q=>ta σ H fun x H1=>r x H1 Q
def rI (C:Int->Int->Prop)(g:Int->Int->V):R2:=fun x y H Q=>∃i j,x= .int i/\y= .int j/\C i j/\Q (g i j) H
def rI0 (g:Int->Int->V):R2:=fun x y H Q=>∃i j,x= .int i/\y= .int j/\Q (g i j) H
def rU (g:Int->V):V->Hp->VK->Prop:=fun x H Q=>∃i,x= .int i/\Q (g i) H
section
variable {X:Cx}{a b c:Expr}{ta tb tc:TE}{pos:Pos}
theorem QO (ha:PE X a ta)(hb:PE X b tb){pins:List (Addr×Obj)}{s:Shared}{σ:St}{H:Hp}{R:V->V->Hp->Prop} (I:Inv X pins σ H s)
  (h:ta σ H fun x H1=>tb σ H1 fun y H2=>R x y H2){Q:Value->Shared->Prop}{f:Value->Value->Sem Value}
  (hf:∀v u s2 x y H2,Inv X pins σ H2 s2->RelV x v->RelV y u->R x y H2->wpAny (model X.prog X.w) X.A (f v u) Q X.xe s2) :
  wpAny (model X.prog X.w) X.A (eval a X.env) (fun v s₁=>wpAny (model X.prog X.w) X.A (eval b X.env) (fun u s₂=>wpAny (model X.prog X.w) X.A (f v u) Q X.xe s₂) X.xe s₁) X.xe s:=by
 refine thn (ha pins s σ H _ I h) fun v s1 ⟨x,H1,I1,r1,q1⟩=> ?_;refine thn (hb pins s1 σ H1 _ I1 q1) fun u s2 ⟨y,H2,I2,r2,q2⟩=> ?_;exact hf v u s2 x y H2 I2 r1 r2 q2
theorem aJ {op:Operator}{r:R2} (ho:OpR X (binaryOp op) r) (ha:PE X a ta) (hb:PE X b tb):PE X (.BinOp a op b pos) (tOp r ta tb):=by
 intro pins s σ H Q I h;exact wpAny_BinOp (QO ha hb I h fun v u s2 x y H2 I2 rx ry q=>ho pins s2 σ H2 x y v u Q I2 rx ry q)
theorem aBd {op:UnaryOp}{r:V->Hp->VK->Prop} (ho:UnR X (unaryOp op) r) (ha:PE X a ta):PE X (.UnaryOp op a pos) (tUn r ta):=by
 intro pins s σ H Q I h;exact UnaryOp_ (thn (ha pins s σ H _ I h) fun v s1 ⟨x,H1,I1,r1,q1⟩=>ho pins s1 σ H1 x v Q I1 r1 q1)
theorem opI {f:Value->Value->Sem Value}{C:Int->Int->Prop}{g:Int->Int->Int}
  (rule:∀(i j:Int) (t u:Tok) (s:Shared) (Q:Value->Shared->Prop) (E:Value->Shared->Prop),C i j->Q (.int (g i j) s.toks) { s with toks:=s.toks+1 }->wpAny (model X.prog X.w) X.A (f (.int i t) (.int j u)) Q E s) :
  OpR X f (rI C fun i j=> .int (g i j)):=by
 intro pins s σ H x y v u Q I rx ry h;obtain⟨i,j,rfl,rfl,hc,q⟩:=h;obtain⟨t,rfl⟩:=rx;obtain⟨t',rfl⟩:=ry;exact rule i j t t' s _ _ hc ⟨.int (g i j),H,I.tok _,⟨_,rfl⟩,q⟩
theorem X3 {f:Value->Value->Sem Value}{g:Int->Int->Int}
  (rule:∀(i j:Int) (t u:Tok) (s:Shared) (Q:Value->Shared->Prop) (E:Value->Shared->Prop),Q (.int (g i j) s.toks) { s with toks:=s.toks+1 }->wpAny (model X.prog X.w) X.A (f (.int i t) (.int j u)) Q E s) :
  OpR X f (rI0 fun i j=> .int (g i j)):=by
 intro pins s σ H x y v u Q I rx ry h;obtain⟨i,j,rfl,rfl,q⟩:=h;obtain⟨t,rfl⟩:=rx;obtain⟨t',rfl⟩:=ry;exact rule i j t t' s _ _ ⟨.int (g i j),H,I.tok _,⟨_,rfl⟩,q⟩
theorem KB {f:Value->Value->Sem Value}{g:Int->Int->Bool}
  (rule:∀(i j:Int) (t u:Tok) (s:Shared) (Q:Value->Shared->Prop) (E:Value->Shared->Prop),Q (.bool (g i j)) s->wpAny (model X.prog X.w) X.A (f (.int i t) (.int j u)) Q E s) :
  OpR X f (rI0 fun i j=> .bl (g i j)):=by
 intro pins s σ H x y v u Q I rx ry h;obtain⟨i,j,rfl,rfl,q⟩:=h;obtain⟨t,rfl⟩:=rx;obtain⟨t',rfl⟩:=ry;exact rule i j t t' s _ _ ⟨.bl (g i j),H,I,rfl,q⟩
def YL (i j:Int):Prop:=0<j/\j<1073741824
def F5 (i j:Int):Prop:=0<=j/\j<=1000000/\i.natAbs<2^64
def CMul (i j:Int):Prop:=(-(2^64)<i/\i<2^64)∨(-(2^64)<j/\j<2^64)
theorem CMul.ok {i j:Int}(h:CMul i j):IntMulOk i j:=by
 rcases h with⟨h1,h2⟩|⟨h1,h2⟩
 ·exact .of_left (intBits_le_64 h1 h2)
 ·exact .of_right (intBits_le_64 h1 h2)
theorem KP (k:Nat):(0:Int)<=2^k:=by
 rw[two_pow_cast];exact Int.natCast_nonneg _
theorem cF:OpR X (binaryOp .Add) (rI0 fun i j=> .int (i+j)):=X3 fun _ _ _ _ _ _ _ q=>add_int q
theorem gH:OpR X (binaryOp .Sub) (rI0 fun i j=> .int (i - j)):=X3 fun _ _ _ _ _ _ _ q=>sub_int q
theorem yE:OpR X (binaryOp .Mult) (rI CMul fun i j=> .int (i * j)):=opI fun _ _ _ _ _ _ _ hc q=>mul_int q hc.ok
theorem dX:OpR X (binaryOp .FloorDiv) (rI YL fun i j=> .int (i/j)):=opI fun i j _ _ _ _ _ hc q=>by
 have h1:(0:Int)<j:=hc.1;have h2:j<1073741824:=hc.2;exact floordiv_int (by lia) (by rw[Int.fdiv_eq_ediv_of_nonneg i (by lia)];exact q) (.inl (PyProof.noPylong_small (by lia)))
theorem cT:OpR X (binaryOp .Mod) (rI (fun _ j=>0<j) fun i j=> .int (i%j)):=opI fun i j _ _ _ _ _ hc q=>by
 have h1:(0:Int)<j:=hc;exact mod_int' (by lia) (by rw[Int.fmod_eq_emod_of_nonneg i (by lia)];exact q)
theorem Z1:OpR X (binaryOp .Pow) (rI F5 fun i j=> .int (i^j.toNat)):=opI fun _ _ _ _ _ _ _ hc q=>pow_int_small hc.1 hc.2.1 hc.2.2 q
theorem YM:OpR X (binaryOp .LShift) (rI F5 fun i j=> .int (i * 2^j.toNat)):=opI fun _ _ _ _ _ _ _ hc q=>lshift_int_small hc.1 hc.2.1 hc.2.2 q
theorem ZR:OpR X (binaryOp .RShift) (rI (fun _ j=>0<=j) fun i j=> .int (i/2^j.toNat)):=opI fun i j _ _ _ _ _ hc q =>
 rshift_int hc (by rw[Int.fdiv_eq_ediv_of_nonneg i (KP _)];exact q)
theorem unI {f:Value->Sem Value}{g:Int->Int}
  (rule:∀(i:Int) (t:Tok) (s:Shared) (Q:Value->Shared->Prop) (E:Value->Shared->Prop),Q (.int (g i) s.toks) { s with toks:=s.toks+1 }->wpAny (model X.prog X.w) X.A (f (.int i t)) Q E s) :
  UnR X f (rU fun i=> .int (g i)):=by
 intro pins s σ H x v Q I rx h;obtain⟨i,rfl,q⟩:=h;obtain⟨t,rfl⟩:=rx;exact rule i t s _ _ ⟨.int (g i),H,I.tok _,⟨_,rfl⟩,q⟩
theorem ZM:UnR X (unaryOp .USub) (rU fun i=> .int (-i)):=unI fun _ _ _ _ _ q=>neg_int q
end
def ZH:V->V->Bool
 | .non,.non=>true| .non,.int _=>true| .int _,.non=>true| .non,.bl _=>true| .bl _,.non=>true| .non,.str _=>true| .str _,.non=>true
 | .int _,.int _=>true| .bl _,.bl _=>true| .str _,.str _=>true| .byt _,.byt _=>true
 | .int _,.str _=>true| .str _,.int _=>true| .bl _,.str _=>true| .str _,.bl _=>true
 | _,_=>false
def rEq:R2:=fun x y H Q=>ZH x y=true/\Q (.bl (decide (x=y))) H
def rNe:R2:=fun x y H Q=>ZH x y=true/\Q (.bl (!decide (x=y))) H
theorem JA {i j:Int}:decide (V.int i=V.int j)=(i==j):=by
 rw[Bool.eq_iff_iff];simp
theorem MI {i j:Bool}:decide (V.bl i=V.bl j)=(i==j):=by
 rw[Bool.eq_iff_iff];simp
theorem IS {i j:Str}:decide (V.str i=V.str j)=(i==j):=by
 rw[Bool.eq_iff_iff];simp
theorem HZ {i j:Array UInt8}:decide (V.byt i=V.byt j)=(i.toList==j.toList):=by
 rw[Bool.eq_iff_iff];cases i;cases j;simp
section
variable {X:Cx}{a b c:Expr}{ta tb tc:TE}{pos:Pos}
theorem bS {pins:List (Addr×Obj)}{σ:St}{H:Hp}{s:Shared}{Q:VK}{k k':Bool} (I:Inv X pins σ H s) (q:Q (.bl k) H) (e:k=k'):EP X pins σ Q (.bool k') s:=by
 subst e;exact⟨.bl k,H,I,rfl,q⟩
theorem vR:OpR X (compareOp .Eq) rEq:=by
 intro pins s σ H x y v u Q I rx ry h;obtain⟨hs,q⟩:=h;cases x with
 | non =>
  cases rx;cases y with
  | non=>cases ry;exact PySem.EqNone.eq_none_none (bS I q (by simp))
  | bl j=>cases ry;exact PySem.EqNone.eq_none_bool (bS I q (by simp))
  | int j=>obtain⟨t',rfl⟩:=ry;exact PySem.EqNone.eq_none_int (bS I q (by simp))
  | str j=>obtain⟨t',rfl⟩:=ry;exact PySem.EqNone.eq_none_str (bS I q (by simp))
  | _=>exact absurd (show false=true from hs) Bool.false_ne_true
 | bl i =>
  cases rx;cases y with
  | non=>cases ry;exact PySem.EqNone.eq_bool_none (bS I q (by simp))
  | bl j=>cases ry;exact eq_bool (bS I q MI)
  | str j=>obtain⟨t',rfl⟩:=ry;exact PySem.EqMixed.eq_bool_str (bS I q (by simp))
  | _=>exact absurd (show false=true from hs) Bool.false_ne_true
 | int i =>
  obtain⟨t,rfl⟩:=rx;cases y with
  | non=>cases ry;exact PySem.EqNone.eq_int_none (bS I q (by simp))
  | int j=>obtain⟨t',rfl⟩:=ry;exact eq_int (bS I q JA)
  | str j=>obtain⟨t',rfl⟩:=ry;exact PySem.EqMixed.eq_int_str (bS I q (by simp))
  | _=>exact absurd (show false=true from hs) Bool.false_ne_true
 | str i =>
  obtain⟨t,rfl⟩:=rx;cases y with
  | non=>cases ry;exact PySem.EqNone.eq_str_none (bS I q (by simp))
  | bl j=>cases ry;exact PySem.EqMixed.eq_str_bool (bS I q (by simp))
  | int j=>obtain⟨t',rfl⟩:=ry;exact PySem.EqMixed.eq_str_int (bS I q (by simp))
  | str j=>obtain⟨t',rfl⟩:=ry;exact eq_str (bS I q IS)
  | _=>exact absurd (show false=true from hs) Bool.false_ne_true
 | byt i =>
  obtain⟨t,rfl⟩:=rx;cases y with
  | byt j=>obtain⟨t',rfl⟩:=ry;exact PySem.W.eq_bytes (bS I q HZ)
  | _=>exact absurd (show false=true from hs) Bool.false_ne_true
 | _=>cases y<;>exact absurd (show false=true from hs) Bool.false_ne_true
theorem K8:OpR X (compareOp .NotEq) rNe:=by
 intro pins s σ H x y v u Q I rx ry h;obtain⟨hs,q⟩:=h;cases x with
 | non =>
  cases rx;cases y with
  | non=>cases ry;exact PySem.EqNone.ne_none_none (bS I q (by simp))
  | bl j=>cases ry;exact PySem.EqNone.ne_none_bool (bS I q (by simp))
  | int j=>obtain⟨t',rfl⟩:=ry;exact PySem.EqNone.ne_none_int (bS I q (by simp))
  | str j=>obtain⟨t',rfl⟩:=ry;exact PySem.EqNone.ne_none_str (bS I q (by simp))
  | _=>exact absurd (show false=true from hs) Bool.false_ne_true
 | bl i =>
  cases rx;cases y with
  | non=>cases ry;exact PySem.EqNone.ne_bool_none (bS I q (by simp))
  | bl j=>cases ry;exact ne_bool (bS I q (congrArg not MI))
  | str j=>obtain⟨t',rfl⟩:=ry;exact PySem.EqMixed.ne_bool_str (bS I q (by simp))
  | _=>exact absurd (show false=true from hs) Bool.false_ne_true
 | int i =>
  obtain⟨t,rfl⟩:=rx;cases y with
  | non=>cases ry;exact PySem.EqNone.ne_int_none (bS I q (by simp))
  | int j=>obtain⟨t',rfl⟩:=ry;exact ne_int (bS I q (congrArg not JA))
  | str j=>obtain⟨t',rfl⟩:=ry;exact PySem.EqMixed.ne_int_str (bS I q (by simp))
  | _=>exact absurd (show false=true from hs) Bool.false_ne_true
 | str i =>
  obtain⟨t,rfl⟩:=rx;cases y with
  | non=>cases ry;exact PySem.EqNone.ne_str_none (bS I q (by simp))
  | bl j=>cases ry;exact PySem.EqMixed.ne_str_bool (bS I q (by simp))
  | int j=>obtain⟨t',rfl⟩:=ry;exact PySem.EqMixed.ne_str_int (bS I q (by simp))
  | str j=>obtain⟨t',rfl⟩:=ry;exact ne_str (bS I q (congrArg not IS))
  | _=>exact absurd (show false=true from hs) Bool.false_ne_true
 | byt i =>
  obtain⟨t,rfl⟩:=rx;cases y with
  | byt j=>obtain⟨t',rfl⟩:=ry;exact PySem.W.ne_bytes (bS I q (congrArg not HZ))
  | _=>exact absurd (show false=true from hs) Bool.false_ne_true
 | _=>cases y<;>exact absurd (show false=true from hs) Bool.false_ne_true
theorem nW:OpR X (compareOp .Lt) (rI0 fun i j=> .bl (decide (i<j))):=KB fun _ _ _ _ _ _ _ q=>lt_int q
theorem K0:OpR X (compareOp .LtE) (rI0 fun i j=> .bl (decide (i<=j))):=KB fun _ _ _ _ _ _ _ q=>le_int q
theorem DW:OpR X (compareOp .Gt) (rI0 fun i j=> .bl (decide (j<i))):=KB fun _ _ _ _ _ _ _ q=>gt_int q
theorem DT:OpR X (compareOp .GtE) (rI0 fun i j=> .bl (decide (j<=i))):=KB fun _ _ _ _ _ _ _ q=>ge_int q
theorem X4:OpR X (compareOp .Is) (fun x y H Q=>y= .non/\Q (.bl (decide (x= .non))) H):=by
 intro pins s σ H x y v u Q I rx ry h;obtain⟨rfl,q⟩:=h;cases ry;refine is_none_gen (bS I q ?_);cases x<;>first
  | (cases rx;rfl)
  | (obtain⟨t,rfl⟩:=rx;rfl)
theorem VF:OpR X (compareOp .IsNot) (fun x y H Q=>y= .non/\Q (.bl (!decide (x= .non))) H):=by
 intro pins s σ H x y v u Q I rx ry h;obtain⟨rfl,q⟩:=h;cases ry;refine isnot_none_gen (bS I q ?_);cases x<;>first
  | (cases rx;rfl)
  | (obtain⟨t,rfl⟩:=rx;rfl)
theorem bO (b:Expr){op:CmpOp}(h:op≠ .In:=by decide)(h2:op≠ .NotIn:=by decide):behindInMarks op b=false:=by
 have e1:(op==CmpOp.In)=false:=by cases op<;>first|rfl|exact absurd rfl h
 have e2:(op==CmpOp.NotIn)=false:=by cases op<;>first|rfl|exact absurd rfl h2
 cases b<;>simp[behindInMarks,e1,e2]
theorem rO {op:CmpOp}{r:R2} (ho:OpR X (compareOp op) r) (ha:PE X a ta) (hb:PE X b tb) (hm:behindInMarks op b=false):PE X (.Compare a [op] [b] pos) (tOp r ta tb):=by
 intro pins s σ H Q I h;exact wpAny_Compare1 (QO ha hb I h fun v u s2 x y H2 I2 rx ry q=>ho pins s2 σ H2 x y v u Q I2 rx ry q) hm
def LX (t:TE):TT:=fun σ H Q=>t σ H fun x H'=>∃k,x= .bl k/\Q k H'
theorem bL {op:CmpOp}{r:R2} (ho:OpR X (compareOp op) r) (ha:PE X a ta) (hb:PE X b tb) (hm:behindInMarks op b=false):PT X (.Compare a [op] [b] pos) (LX (tOp r ta tb)):=by
 intro pins s σ H Q I h;refine wpAny_isTrue_Compare1 (thn (ha pins s σ H _ I h) fun v s1 ⟨x,H1,I1,r1,q1⟩=>thn (hb pins s1 σ H1 _ I1 q1) fun u s2 ⟨y,H2,I2,r2,q2⟩ =>
  thn (ho pins s2 σ H2 x y v u _ I2 r1 r2 q2) fun c s3 ⟨z,H3,I3,r3,k,e,q3⟩=> ?_) hm
 subst e;cases r3;exact wpAny_truthy_bool ⟨H3,I3,q3⟩
def FD (r r':R2)(ta tb tc:TE):TE:=fun σ H Q=>ta σ H fun x H1=>tb σ H1 fun y H2=>r x y H2 fun z H3=>∃k,z= .bl k ∧
 (if k=true then tc σ H3 fun w' H4=>r' y w' H4 Q else Q (.bl false) H3)
theorem ER {op op':CmpOp}{r r':R2} (ho:OpR X (compareOp op) r) (ho':OpR X (compareOp op') r') (ha:PE X a ta) (hb:PE X b tb) (hc:PE X c tc)
  (hm:lastMarks [op,op'] [b,c]=false:=by with_unfolding_all rfl):PE X (.Compare a [op,op'] [b,c] pos) (FD r r' ta tb tc):=by
 intro pins s σ H Q I h;refine Compare_chain (thn (ha pins s σ H _ I h) fun v s1 ⟨x,H1,I1,r1,q1⟩=>chain_link (thn (hb pins s1 σ H1 _ I1 q1) fun u s2 ⟨y,H2,I2,r2,q2⟩ =>
  thn (ho pins s2 σ H2 x y v u _ I2 r1 r2 q2) fun d s3 ⟨z,H3,I3,r3,k,e,q3⟩=> ?_)) hm
 subst e;cases r3;refine wpAny_truthy_bool ?_;cases k with
 | false=>exact ite_ff ⟨.bl false,H3,I3,rfl,q3⟩
 | true=>exact ite_tt (chain_last (thn (hc pins s3 σ H3 _ I3 q3) fun w' s4 ⟨z',H4,I4,r4,q4⟩=>ho' pins s4 σ H4 y z' u w' Q I4 r2 r4 q4))
theorem R4 {op op':CmpOp}{r r':R2} (ho:OpR X (compareOp op) r) (ho':OpR X (compareOp op') r') (ha:PE X a ta) (hb:PE X b tb) (hc:PE X c tc)
  (hm:lastMarks [op,op'] [b,c]=false:=by with_unfolding_all rfl):PT X (.Compare a [op,op'] [b,c] pos) (LX (FD r r' ta tb tc)):=by
 intro pins s σ H Q I h;refine isTrue_chain (thn (ha pins s σ H _ I h) fun v s1 ⟨x,H1,I1,r1,q1⟩=>test_link (thn (hb pins s1 σ H1 _ I1 q1) fun u s2 ⟨y,H2,I2,r2,q2⟩ =>
  thn (ho pins s2 σ H2 x y v u _ I2 r1 r2 q2) fun d s3 ⟨z,H3,I3,r3,k,e,q3⟩=> ?_)) hm
 subst e;cases r3;refine wpAny_truthy_bool ?_;cases k with
 | false =>
  obtain⟨k',e',q'⟩:=q3;cases e';exact ite_ff ⟨H3,I3,q'⟩
 | true =>
  refine ite_tt (test_last (thn (hc pins s3 σ H3 _ I3 q3) fun w' s4 ⟨z',H4,I4,r4,q4⟩=>thn (ho' pins s4 σ H4 y z' u w' _ I4 r2 r4 q4) fun d' s5 ⟨z2,H5,I5,r5,k2,e2,q5⟩=> ?_));subst e2;cases r5;exact wpAny_truthy_bool ⟨H5,I5,q5⟩
theorem rS:(sizeLine:Nat)<2^63:=by rw[sizeLine_eq];decide
theorem kN {x:V}{us:List Value} (r:Vals [x] us):∃u,us=[u]/\RelV x u:=by
 cases r with
 | cons r1 r2=>cases r2;exact⟨_,rfl,r1⟩
theorem LJ {x y:V}{us:List Value} (r:Vals [x,y] us):∃u w',us=[u,w']/\RelV x u/\RelV y w':=by
 cases r with
 | cons r1 r2 =>
  cases r2 with
  | cons r3 r4=>cases r4;exact⟨_,_,rfl,r1,r3⟩
theorem O0 (hc:X.calm=true):dL X (.builtin "max") (fun xs H Q=>∃i j,xs=[.int i,.int j]/\Q (.int (if j>i then j else i)) H):=by
 intro pins s σ H xs us Q I r h;obtain⟨i,j,rfl,q⟩:=h;obtain⟨u,w',rfl,⟨t,rfl⟩,⟨t',rfl⟩⟩:=LJ r;refine max_two_ints (I.ok.hd hc) fun h' tk k=>⟨_,H,I.kept k,?_,q⟩
 by_cases hj:j>i
 ·rw[if_pos hj,if_pos hj];exact⟨_,rfl⟩
 ·rw[if_neg hj,if_neg hj];exact⟨_,rfl⟩
theorem N8 (hc:X.calm=true):dL X (.builtin "min") (fun xs H Q=>∃i j,xs=[.int i,.int j]/\Q (.int (if j<i then j else i)) H):=by
 intro pins s σ H xs us Q I r h;obtain⟨i,j,rfl,q⟩:=h;obtain⟨u,w',rfl,⟨t,rfl⟩,⟨t',rfl⟩⟩:=LJ r;refine min_two_ints (I.ok.hd hc) fun h' tk k=>⟨_,H,I.kept k,?_,q⟩
 by_cases hj:j<i
 ·rw[if_pos hj,if_pos hj];exact⟨_,rfl⟩
 ·rw[if_neg hj,if_neg hj];exact⟨_,rfl⟩
end
end L2
namespace L2
open PySem PySem.Spec PyProof.Rows
structure ObjM (h:Heap)(x dx C:Addr)(mA:Str->Option Value):Prop where
 obj:h.get? x=some (PySem.W.instObj C dx)
 ns:h.Ns1 dx mA
 ne:dx≠x
theorem MR {h:Heap}{dx:Addr}{mA:Str->Option Value} (n:h.Ns1 dx mA):∃od,h.get? dx=some od/\∀name,PySem.W.lookIn name od=some (mA name):=by
 obtain⟨o,es,ep,ho,hd,hk,_,hm⟩:=n;refine⟨o,ho,fun name=> ?_⟩;have e:=hm name;unfold nsFind findBy at e;rw[←Array.find?_toList]at e;unfold PySem.W.lookIn;rw[hd]
 dsimp only
 split
 ·rename_i y q;rw[q]at e;exact congrArg some e
 ·rename_i q;rw[q]at e;have a:es.toList.any (·.refKey)=false:=by
   rw[List.any_eq_false];intro y hy;obtain⟨z,t,hkey⟩:=hk y (Array.mem_toList_iff.mp hy);simp[DictEntry.refKey,hkey]
  have a':¬es.toList.any (·.refKey)=true:=by rw[a];exact Bool.false_ne_true
  rw[if_neg a'];exact congrArg some e
theorem ObjM.look {h:Heap}{x dx C:Addr}{mA:Str->Option Value} (I:ObjM h x dx C mA):∃od,PySem.W.InstAt h x (PySem.W.instObj C dx) C (some od)/\∀name,PySem.W.lookIn name od=some (mA name) :=
 let ⟨od,ho,hl⟩:=MR I.ns
 ⟨od,⟨I.obj,rfl,rfl,ho⟩,hl⟩
section
variable {prog:Program}{w:World}{A:Around}{E:Value->Shared->Prop}{s:Shared}{K:PySem.W.Frag}{x dx C f:Addr}{mA:Str->Option Value}{name:Str}{v:Value}
theorem U8 {expr:Bool}{Q:Value->Shared->Prop} (X:K.In s.heap) (I:ObjM s.heap x dx C mA) (hg:PySem.W.plainGet K C name=true) (hh:PySem.W.hasDictIn K C=true)
  (ha:PySem.W.findIn K (.ref C) name=some none)(hv:mA name=some v)(hv':PySem.W.handedIn v=true)(h:Q v { s with toks:=s.toks+1 }) :
  wpAny (model prog w) A (getAttr (.ref x) name expr) Q E s:=by
 obtain⟨od,J,hl⟩:=I.look;exact PySem.W.get_value X J (PySem.W.plainGet_of hg).1 (PySem.W.findObj_own hh ha rfl (by rw[hl,hv])) hv' h
theorem SD {pl:Sem Bool}{Q:Value×List Value->Shared->Prop} (X:K.In s.heap) (I:ObjM s.heap x dx C mA) (hg:PySem.W.plainGet K C name=true)
  (hf:PySem.W.findIn K (.ref C) name=some (some (.ref f)))(ht:PySem.W.isFn K (.ref f)=true)(hv:mA name=none)(h:Q (.ref f,[.ref x]) s) :
  wpAny (model prog w) A (getMethod (.ref x) name pl) Q E s:=by
 obtain⟨od,J,hl⟩:=I.look;exact PySem.W.method_fn X J (PySem.W.plainGet_of hg).1 (PySem.W.plainGet_of hg).2 hf (beq_iff_eq.mp ht) (by show (PySem.W.lookIn name od).map (·.isSome)=some false;rw[hl,hv];rfl) h
theorem WM {ns:List Str}{Q:Unit->Shared->Prop} (X:K.In s.heap) (I:ObjM s.heap x dx C mA)
  (hs:PySem.W.findIn K (.ref C) "__setattr__" =some (some (.builtin "object.__setattr__")))(hp:PySem.W.plainOver K C=true)(ht:PySem.W.takerIn K C name=some none)(hh:PySem.W.hasDictIn K C=true)
  (hw:PySem.Within mA ns)(hsz:ns.length<=sizeLine)
  (h:∀h',ObjM h' x dx C (fun y=>if y=name then some v else mA y)->Heap.SameBut dx s.heap h'->Q () { s with heap:=h',toks:=s.toks+2 }) :
  wpAny (model prog w) A (setAttr (.ref x) name v) Q E s:=by
 obtain⟨od,J,hl⟩:=I.look;refine PySem.W.set_plain X J hs (PySem.W.osa_open (s:={ s with toks:=s.toks+1 }) (r:=none) X J hp ht fun b=> ?_);obtain⟨cd,hc,hd'⟩:=PySem.W.any_some hh;have hx:s.heap.get? x=some ⟨.ref C,some dx,.plain,#[]⟩:=I.obj;refine wpAny_bind (wpAny_pure (wpAny_bind (wpAny_bind (wpAny_loadPart hx (wpAny_bind (PySem.W.Looks.here (s:={ s with toks:=s.toks+1 }) (PySem.W.looks_clsIn X hc) ?_))))));rw[hd'];refine wpAny_pure (a:=some dx) (wpAny_bind (wpAny_pure (wpAny_bind ?_)));refine wpAny_nsSet1 (s:={ s with toks:=s.toks+1 }) I.ns fun h' hn2 hs2=> ?_;obtain⟨oD,esD,epD,hoD,hdD,hcD⟩:=hn2.count (PySem.Within.cons name v hw);refine wpAny_bind (wpAny_lookBehind hoD (by rw[hdD];exact pastItsLine_dict (Nat.le_trans hcD (by rw[List.length_cons];lia))) ?_);exact wpAny_pure (h _ ⟨(hs2.2 _ (Ne.symm I.ne)).trans I.obj,hn2,I.ne⟩ hs2)
theorem P0 {R:Result->Shared->Prop}{vs:List Value}{kw:List (Str×Value)} (X:K.In s.heap) (hm:PySem.W.makesIn K C=true)
  (hi:PySem.W.findIn K (.ref C) "__init__" =some (some (.ref f)))(hf:PySem.W.typeIn K (.ref f)=some (.type "function"))
  (h:codeAny (model prog w) (A.under (.builtin "type.__call__" ⟨.ref C::vs,kw⟩)) (.call (.ref f) ⟨.ref (s.heap.objs.size+1)::vs,kw⟩) (PySem.W.InitBack (s.heap.objs.size+1) R)
   { s with heap:=(s.heap.push PySem.W.emptyDict).push (PySem.W.instObj C s.heap.objs.size) }) :
  codeAny (model prog w) A (.call (.ref C) ⟨vs,kw⟩) R s:=by
 obtain⟨hh,g,d,t,os⟩:=s;exact PySem.W.make_core (PySem.W.makes_of X hm) (PySem.W.looks_findIn X hi) (fun self=>PySem.W.bind_fn X self hf) (.inl rfl) h
end
def c7 (f:Str)(v:V):List (Str×V)->List (Str×V)
 | []=>[(f,v)]
 | (g,x)::r=>if g=f then (g,v)::r else (g,x)::c7 f v r
theorem mJ (f g:Str)(v:V):∀fs:List (Str×V),(c7 f v fs).lookup g=if g=f then some v else fs.lookup g
 | []=>by
  show List.lookup g [(f,v)]=_
  by_cases h:g=f
  ·have hb:(g==f)=true:=beq_iff_eq.mpr h;simp only[List.lookup,hb,if_pos h]
  ·have hb:(g==f)=false:=beq_eq_false_iff_ne.mpr h;simp only[List.lookup,hb,if_neg h]
 | (k,x)::r=>by
  have ih:=mJ f g v r;rw[show c7 f v ((k,x)::r)=(if k=f then (k,v)::r else (k,x)::c7 f v r) from rfl]
  by_cases hk:k=f
  ·rw[if_pos hk]
   by_cases h:g=k
   ·have hb:(g==k)=true:=beq_iff_eq.mpr h;simp only[List.lookup,hb,if_pos (h.trans hk)]
   ·have hb:(g==k)=false:=beq_eq_false_iff_ne.mpr h;simp only[List.lookup,hb,if_neg (fun e:g=f=>h (e.trans hk.symm))]
  ·rw[if_neg hk]
   by_cases h:g=k
   ·have hb:(g==k)=true:=beq_iff_eq.mpr h;simp only[List.lookup,hb,if_neg (fun e:g=f=>hk (h.symm.trans e))]
   ·have hb:(g==k)=false:=beq_eq_false_iff_ne.mpr h;simp only[List.lookup,hb];exact ih
theorem u3 (f:Str)(v:V):∀fs:List (Str×V),f∈(c7 f v fs).map (·.1)/\∀g,g∈fs.map (·.1)->g∈(c7 f v fs).map (·.1)
 | []=>⟨by simp[c7],fun g h=>by simp at h⟩
 | (k,x)::r=>by
  obtain⟨i1,i2⟩:=u3 f v r;rw[show c7 f v ((k,x)::r)=(if k=f then (k,v)::r else (k,x)::c7 f v r) from rfl]
  by_cases hk:k=f
  ·rw[if_pos hk];subst hk;exact⟨by simp,fun g h=>by simpa using h⟩
  ·rw[if_neg hk];refine⟨?_,fun g h=> ?_⟩
   ·rw[List.map_cons];exact List.mem_cons_of_mem _ i1
   ·rw[List.map_cons]at h ⊢;rcases List.mem_cons.mp h with e|e
    ·exact List.mem_cons.mpr (.inl e)
    ·exact List.mem_cons_of_mem _ (i2 g e)
theorem wZ (f:Str)(v:V):∀fs:List (Str×V),(c7 f v fs).length<=fs.length+1
 | []=>by simp[c7]
 | (k,x)::r=>by
  have ih:=wZ f v r;rw[show c7 f v ((k,x)::r)=(if k=f then (k,v)::r else (k,x)::c7 f v r) from rfl]
  by_cases hk:k=f
  ·rw[if_pos hk,List.length_cons,List.length_cons];lia
  ·rw[if_neg hk,List.length_cons,List.length_cons];lia
theorem RelO.some_of {v:V}{o:Option Value} (r:RelO (some v) o):∃u,o=some u/\RelV v u:=by
 cases o with
 | none=>exact(show False from r).elim
 | some u=>exact⟨u,rfl,r⟩
theorem RelO.none_of {o:Option Value}(r:RelO none o):o=none:=by
 cases o with
 | none=>rfl
 | some u=>exact(show False from r).elim
theorem BD {v:V}{u:Value} (r:RelV v u):PySem.W.handedIn u=true:=by
 cases v with
 | non=>cases (show u=Value.none from r);rfl
 | bl b=>cases (show u=Value.bool b from r);rfl
 | int i=>obtain⟨t,e⟩:=(show ∃t,u=Value.int i t from r);cases e;rfl
 | str x=>obtain⟨t,e⟩:=(show ∃t,u=Value.str x t from r);cases e;rfl
 | byt b=>obtain⟨t,e⟩:=(show ∃t,u=Value.bytes b t from r);cases e;rfl
 | flt b=>obtain⟨t,e⟩:=(show ∃t,u=Value.float b t from r);cases e;rfl
 | ref a=>cases (show u=Value.ref a from r);rfl
 | ty n=>cases (show u=Value.type n from r);rfl
section
variable {P:Program}{w:World}{H H':Hp}{h h':Heap}{a C dx:Addr}{fs fs':List (Str×V)}
theorem v9 (hok:HOk P w H h)(e:H a=some (.ins C dx fs)):∃mA,ObjM h a dx C mA/\(∀f,RelO (fs.lookup f) (mA f))/\PySem.Within mA (fs.map (·.1))/\fs.length<=1000/\H dx=some (.own a):=by
 obtain⟨d,z,ne,ob,mA,n,r,q⟩:=(show ObjOk P w H h a (.ins C dx fs) from hok a _ e)
 exact⟨mA,⟨ob,n,ne⟩,r,q,z,d⟩
end
structure Cls (K:PySem.W.Frag)(C:Addr):Prop where
 pg:PySem.W.plainGet K C Str.empty=true
 hd:PySem.W.hasDictIn K C=true
 po:PySem.W.plainOver K C=true
 sa:PySem.W.findIn K (.ref C) "__setattr__" =some (some (.builtin "object.__setattr__"))
theorem Cls.get {K:PySem.W.Frag}{C:Addr} (c:Cls K C) (f:Str):PySem.W.plainGet K C f=true:=c.pg
def NoAttr (K:PySem.W.Frag)(C:Addr)(f:Str):Prop:=PySem.W.findIn K (.ref C) f=some none
theorem NoAttr.taker {K:PySem.W.Frag}{C:Addr}{f:Str} (n:NoAttr K C f):PySem.W.takerIn K C f=some none:=by
 unfold PySem.W.takerIn;rw[show PySem.W.findIn K (.ref C) f=some none from n];rfl
structure gY (K:PySem.W.Frag)(C:Addr)(m:Str)(f:Addr):Prop where
 at_:PySem.W.findIn K (.ref C) m=some (some (.ref f))
 fn:PySem.W.isFn K (.ref f)=true
 kp:PySem.W.keepIn K (.ref f)=true
section
variable {X:Cx}{pins:List (Addr×Obj)}{σ:St}{H:Hp}{s:Shared}{a C dx:Addr}{fs:List (Str×V)}{f:Str}{v:V}{A:Around}{E:Value->Shared->Prop}
theorem L0 {b:Bool}{Q:Value->Shared->Prop} (I:Inv X pins σ H s) (e:H a=some (.ins C dx fs)) (c:Cls X.K C) (n:NoAttr X.K C f) (l:fs.lookup f=some v)
  (h:∀u s',Inv X pins σ H s'->RelV v u->Q u s'):wpAny (model X.prog X.w) A (getAttr (.ref a) f b) Q E s:=by
 obtain⟨mA,O,r,_,_,_⟩:=v9 I.hok e;obtain⟨u,hu,ru⟩:=RelO.some_of (v:=v) (o:=mA f) (by rw[←l];exact r f);exact U8 I.kIn O (c.get f) c.hd n hu (BD ru) (h u _ (I.tok _) ru)
theorem zD {m:Str}{g:Addr}{pl:Sem Bool}{Q:Value×List Value->Shared->Prop} (I:Inv X pins σ H s) (e:H a=some (.ins C dx fs)) (c:Cls X.K C) (k:gY X.K C m g) (l:fs.lookup m=none)
  (h:Q (.ref g,[.ref a]) s):wpAny (model X.prog X.w) A (getMethod (.ref a) m pl) Q E s:=by
 obtain⟨mA,O,r,_,_,_⟩:=v9 I.hok e;have hn:mA m=none:=RelO.none_of (by rw[←l];exact r m);exact SD I.kIn O (c.get m) k.at_ k.fn hn h
theorem JT {y:V}{u:Value}{Q:Unit->Shared->Prop} (I:Inv X pins σ H s) (e:H a=some (.ins C dx fs)) (c:Cls X.K C) (n:NoAttr X.K C f) (hl:fs.length<1000) (ry:RelV y u)
  (h:∀s',Inv X pins σ (upd H a (.ins C dx (c7 f y fs))) s'->Q () s'):wpAny (model X.prog X.w) A (setAttr (.ref a) f u) Q E s:=by
 obtain⟨mA,O,r,wi,_,ho⟩:=v9 I.hok e;have hz:(fs.map (·.1)).length<=sizeLine:=by rw[List.length_map,sizeLine_eq];lia
 refine WM I.kIn O c.sa c.po n.taker c.hd wi hz fun h' O' sb=>h _ ?_;have hd:∃o,h'.get? dx=some o:=let ⟨o,_,_,e',_⟩:=O'.ns;⟨o,e'⟩;refine I.write (x:=a) (e:=dx) (by rw[e];exact True.intro) (.inr ho) (fun b q hb z=>(sb.2 b hb).trans z) hd ?_;refine⟨by rw[aU O.ne];exact ho,?_,O.ne,O'.obj,_,O'.ns,fun g=> ?_,fun g hg=> ?_⟩
 ·have:=wZ f y fs;lia
 ·show RelO ((c7 f y fs).lookup g) (if g=f then some u else mA g);rw[mJ]
  by_cases q:g=f
  ·rw[if_pos q,if_pos q];exact ry
  ·rw[if_neg q,if_neg q];exact r g
 ·by_cases q:g=f
  ·rw[q];exact(u3 f y fs).1
  ·refine(u3 f y fs).2 g (wi g fun z=>hg ?_);show (if g=f then some u else mA g)=none;rw[if_neg q];exact z
theorem Inv.made (I:Inv X pins σ H s):Inv X pins σ (upd (upd H s.heap.objs.size (.own (s.heap.objs.size+1))) (s.heap.objs.size+1) (.ins C s.heap.objs.size []))
  { s with heap:=(s.heap.push PySem.W.emptyDict).push (PySem.W.instObj C s.heap.objs.size) }:=by
 have e1:(s.heap.push PySem.W.emptyDict).get? s.heap.objs.size=some PySem.W.emptyDict:=Heap.get?_push_size s.heap rfl;have e2:((s.heap.push PySem.W.emptyDict).push (PySem.W.instObj C s.heap.objs.size)).get? (s.heap.objs.size+1)=some (PySem.W.instObj C s.heap.objs.size):=by
  have:=Heap.get?_push_size (s.heap.push PySem.W.emptyDict) (o:=PySem.W.instObj C s.heap.objs.size) rfl
  rwa [Heap.size_push]at this
 have e3:(s.heap.push PySem.W.emptyDict).Ns s.heap.objs.size (fun _=>none):=⟨PySem.W.emptyDict,#[],_,e1,rfl,(fun e he=>absurd he (by simp)),fun _=>rfl⟩
 have I1:=I.laid (a:=s.heap.objs.size) (o:= .own (s.heap.objs.size+1)) (h':=s.heap.push PySem.W.emptyDict) (t':=s.toks) (fun b u q=>Heap.get?_push_of_some _ q) (Nat.le_refl _) ⟨_,e1⟩;refine I1.laid (a:=s.heap.objs.size+1) (o:= .ins C s.heap.objs.size []) (t':=s.toks) (fun b u q=>Heap.get?_push_of_some _ q) (Nat.le_of_eq (Heap.size_push _ _)) ?_;have ne:s.heap.objs.size≠s.heap.objs.size+1:=Nat.ne_of_lt (Nat.lt_succ_self _);refine⟨by rw[aU ne,bM],Nat.zero_le _,ne,e2,fun _=>none,(Heap.Ns1.of_empty e3).at fun o q=>Heap.get?_push_of_some _ q,fun _=>True.intro,fun y hy=>absurd rfl hy⟩
theorem WB {prog:Program}{w:World}{env:Env}{e:Expr}{f:Str}{pos:Pos}{s:Shared}{Q:Value->Shared->Prop} (hb:attributeBase e f env (eval e env)=eval e env)
  (h:wpAny (model prog w) A (eval e env) (fun o s₁=>wpAny (model prog w) A (getAttr o f true) Q E s₁) E s):wpAny (model prog w) A (eval (.Attribute e f pos) env) Q E s :=
 Attribute_any_ h (by rw[arm_eval_Attribute,hb])
end
def SB (K:PySem.W.Frag)(ta:TE)(f:Str):TE:=fun σ H Q=>ta σ H fun x H1=>∃a C dx fs v,x= .ref a/\H1 a=some (.ins C dx fs)/\Cls K C/\NoAttr K C f/\fs.lookup f=some v/\Q v H1
def aAH (K:PySem.W.Frag)(ta tv:TE)(f:Str):TS:=fun D σ H=>tv σ H fun y H1=>ta σ H1 fun x H2=>∃a C dx fs,x= .ref a/\H2 a=some (.ins C dx fs)/\Cls K C/\NoAttr K C f/\fs.length<1000 ∧
 D.nx σ (upd H2 a (.ins C dx (c7 f y fs)))
def Y6 (X:Cx)(op:Operator)(rd:V->V->Hp->VK->Prop):Prop :=
 ∀(pins:List (Addr×Obj)) (s:Shared) (σ:St) (H:Hp) (x y:V) (u v:Value) (Q:VK),Inv X pins σ H s->RelV x u->RelV y v->rd x y H Q->wpAny (model X.prog X.w) X.A (inplaceOp op u v) (EP X pins σ Q) X.xe s
section
variable {X:Cx}{o e value:Expr}{f:Str}{pos pos' tpos:Pos}{ta tv:TE}
theorem bI (he:PE X e ta)(hb:attributeBase e f X.env (eval e X.env)=eval e X.env):PE X (.Attribute e f pos) (SB X.K ta f):=by
 intro pins s σ H Q I h;refine WB hb (thn (he pins s σ H _ I h) fun u s1 ⟨x,H1,I1,rx,a,C,dx,fs,v,ex,ea,c,n,l,q⟩=> ?_);subst ex;obtain rfl:u=Value.ref a:=rx;exact L0 I1 ea c n l fun u' s2 I2 ru=>⟨v,H1,I2,ru,q⟩
theorem jL (ha:PE X o ta)(hv:PE X value tv)(hs:swapsWith value (some (.Attribute o f pos')) pos.line X.env=pure false):PS X (.Assign [.Attribute o f pos'] value pos) (aAH X.K ta tv f):=by
 intro pins s σ H D I h;refine plainObj_wpAny_Assign_Attribute (thn (hv pins s σ H _ I h) fun u s1 ⟨y,H1,I1,ry,q⟩=>thn (ha pins s1 σ H1 _ I1 q) fun ov s2 ⟨x,H2,I2,rx,a,C,dx,fs,ex,ea,c,n,l,q2⟩=> ?_) hs;subst ex;obtain rfl:ov=Value.ref a:=rx;exact JT I2 ea c n l ry fun s3 I3=>⟨σ,_,I3,q2⟩
def YH:V->V->Hp->VK->Prop:=fun x y H Q=>∃i j,x= .int i/\y= .int j/\Q (.int (i+j)) H
theorem aAa:Y6 X .Add YH:=by
 rintro pins s σ H x y u v Q I rx ry ⟨i,j,rfl,rfl,q⟩;obtain⟨t,rfl⟩:=(show ∃t,u=Value.int i t from rx)
 obtain⟨t',rfl⟩:=(show ∃t',v=Value.int j t' from ry)
 exact PyProof.Rows.iadd_int ⟨.int (i+j),H,I.tok _,⟨_,rfl⟩,q⟩
end
section
variable {X:Cx}{pins:List (Addr×Obj)}{σ:St}{H:Hp}{s:Shared}{A:Around}{E:Value->Shared->Prop}{Q:Value->Shared->Prop}{c:Value}{b:Bool}
inductive jY (K:PySem.W.Frag)(H:Hp):V->Value->Prop where
 | non:jY K H .non (.type "NoneType")
 | bl (x:Bool):jY K H (.bl x) (.type "bool")
 | int (i:Int):jY K H (.int i) (.type "int")
 | str (x:Str):jY K H (.str x) (.type "str")
 | flt (x:UInt64):jY K H (.flt x) (.type "float")
 | lst {a:Addr}{xs:List V} (e:H a=some (.lst xs)):jY K H (.ref a) (.type "list")
 | frz {a:Addr}{o:Obj}{xs:List V} (e:H a=some (.frz o (.lst xs))):jY K H (.ref a) (.type "list")
 | tup {a:Addr}{xs:List V} (e:H a=some (.tup xs)):jY K H (.ref a) (.type "tuple")
 | dK {a:Addr}{kvs:List (Key×V)} (e:H a=some (.dK kvs)):jY K H (.ref a) (.type "dict")
 | dT {a:Addr}{kvs:List (List Key×V)} (e:H a=some (.dT kvs)):jY K H (.ref a) (.type "dict")
 | ins {a C dx:Addr}{fs:List (Str×V)} (e:H a=some (.ins C dx fs)) (cl:Cls K C) (ha:PySem.W.findIn K (.ref C) "__class__" =some (some (.builtin "object.__class__")))
   (hn:PySem.W.specialIn K (.builtin "object.__class__") "__get__" =some (some (.builtin "getset_descriptor.__get__")))(htk:PySem.W.takesIn K (.builtin "object.__class__")=some true)
   (hm:PySem.W.mroIn K C (.type "object")=some true):jY K H (.ref a) (.ref C)
theorem MZ {x:V}{u t:Value} (I:Inv X pins σ H s) (rx:RelV x u) (ty:jY X.K H x t) (e:PySem.W.kitOne X.K t c=some b) (h:∀tk,Q (.bool b) { s with toks:=tk }) :
  wpAny (model X.prog X.w) A (call (.builtin "isinstance") [u,c]) Q E s:=by
 cases ty with
 | non=>cases (show u=Value.none from rx);exact PySem.W.kia_one PySem.W.kitx_none I.kIn True.intro e (fun z=>nomatch z) h
 | bl y=>cases (show u=Value.bool y from rx);exact PySem.W.kia_one PySem.W.kitx_bool I.kIn True.intro e (fun z=>nomatch z) h
 | int i=>obtain⟨t,q⟩:=(show ∃t,u=Value.int i t from rx);cases q;exact PySem.W.kia_one PySem.W.kitx_int I.kIn True.intro e (fun z=>nomatch z) h
 | str y=>obtain⟨t,q⟩:=(show ∃t,u=Value.str y t from rx);cases q;exact PySem.W.kia_one PySem.W.kitx_str I.kIn True.intro e (fun z=>nomatch z) h
 | flt y=>obtain⟨t,q⟩:=(show ∃t,u=Value.float y t from rx);cases q;exact PySem.W.kia_one PySem.W.kitx_float I.kIn True.intro e (fun z=>nomatch z) h
 | @lst a xs ea =>
  cases (show u=Value.ref a from rx);obtain⟨_,_,n,_,h1⟩:=(show ObjOk X.prog X.w H s.heap a (.lst xs) from I.hok a _ ea)
  exact PySem.W.kia_one PySem.W.kitx_list I.kIn ⟨_,h1,rfl⟩ e (fun z=>nomatch z) h
 | @frz a ob xs ea =>
  cases (show u=Value.ref a from rx);obtain⟨_,_,_,n,_,h1⟩:=(show ObjOk X.prog X.w H s.heap a (.frz ob (.lst xs)) from I.hok a _ ea)
  exact PySem.W.kia_one PySem.W.kitx_list I.kIn ⟨_,h1,rfl⟩ e (fun z=>nomatch z) h
 | @tup a xs ea =>
  cases (show u=Value.ref a from rx);obtain⟨_,_,_,p⟩:=(show ObjOk X.prog X.w H s.heap a (.tup xs) from I.hok a _ ea)
  obtain⟨o,h1,h2,_⟩:=p;exact PySem.W.kia_one PySem.W.kitx_tuple I.kIn ⟨o,h1,h2⟩ e (fun z=>nomatch z) h
 | @dK a kvs ea =>
  cases (show u=Value.ref a from rx);obtain⟨_,_,vs,_,p⟩:=(show ObjOk X.prog X.w H s.heap a (.dK kvs) from I.hok a _ ea)
  obtain⟨o,es,ep,h1,h2,_⟩:=p;exact PySem.W.kia_one PySem.W.kitx_dict I.kIn ⟨o,h1,h2.1⟩ e (fun z=>nomatch z) h
 | @dT a kvs ea =>
  cases (show u=Value.ref a from rx);obtain⟨_,_,xs,_,o,es,ep,h1,h2,_⟩:=(show ObjOk X.prog X.w H s.heap a (.dT kvs) from I.hok a _ ea)
  exact PySem.W.kia_one PySem.W.kitx_dict I.kIn ⟨o,h1,h2.1⟩ e (fun z=>nomatch z) h
 | @ins a C dx fs ea cl ha hn htk hm =>
  cases (show u=Value.ref a from rx);obtain⟨mA,O,_⟩:=v9 I.hok ea;obtain⟨od,J,_⟩:=O.look;exact PySem.W.kia_one (PySem.W.kitx_own (cl.get _) cl.hd ha hn htk hm) I.kIn J e (fun z=>nomatch z) h
end
end L2
namespace L2
open PySem PySem.Spec PyProof.Rows
structure Room (k:Nat)(A:Around):Prop where
 hd:A.handled=none
 dp:A.depth+3 * k+5<recursionLimit
 un:A.units+16 * k+200<cLine
theorem Room.mono {j k:Nat}{A:Around} (r:Room k A) (h:j<=k):Room j A:=⟨r.hd,by have:=r.dp;lia,by have:=r.un;lia⟩
theorem Room.deeper {k:Nat}{A:Around} (r:Room (k+1) A) (env:Env):Room k (A.deeper env) :=
 ⟨r.hd,by have:=r.dp;show A.depth+1+3 * k+5<_;lia,by have:=r.un;show A.units+3+16 * k+200<_;lia⟩
theorem LG {A:Around}{C:Addr}{us:List Value}{kw:List (Str×Value)}:(A.under (.builtin "type.__call__" ⟨.ref C::us,kw⟩)).depth=A.depth+1:=by
 first|rfl|simp[Around.under,Code.weight,Code.isCreation,Code.isGuard,Code.isCaller,Code.frames,Code.isFrame,guardIds]
theorem LW {A:Around}{C:Addr}{us:List Value}{kw:List (Str×Value)}:(A.under (.builtin "type.__call__" ⟨.ref C::us,kw⟩)).units=A.units+1:=by
 first|rfl|simp[Around.under,Code.cUnits,Code.frames,Code.isFrame]
theorem Room.make {k:Nat}{A:Around} (r:Room (k+1) A) (C:Addr) (us:List Value) (kw:List (Str×Value)):Room k (A.under (.builtin "type.__call__" ⟨.ref C::us,kw⟩)) :=
 ⟨r.hd,by have:=r.dp;rw[LG];lia,by have:=r.un;rw[LW];lia⟩
theorem Room.depth {k:Nat}{A:Around} (r:Room k A):A.depth<recursionLimit:=by have:=r.dp;lia
theorem Room.units0 {k:Nat}{A:Around} (r:Room k A):A.units<cLine:=by have:=r.un;lia
def LM:TA:=fun _ H Q=>Q [] H
def T3 (ta:TE)(tr:TA):TA:=fun σ H Q=>ta σ H fun x H1=>tr σ H1 fun xs H2=>Q (x::xs) H2
section
variable {X:Cx}{e:Expr}{es:List Expr}{te:TE}{t:TA}{pos:Pos}
theorem aB:PA X [] LM:=fun _ _ _ _ H Q I h=>Calls.spliced_nil ⟨[],H,I,.nil,h⟩
theorem aA (ha:PE X e te)(hr:PA X es t)(hs:starEach (e::es) X.env=(false,eval e X.env)::starEach es X.env:=by rfl):PA X (e::es) (T3 te t):=by
 intro pos pins s σ H Q I h;rw[hs];show wpAny _ _ (spliced ((false,eval e X.env)::backTo pos (starEach es X.env))) _ _ s;refine Calls.spliced_cons (thn (ha pins s σ H _ I h) fun u s1 ⟨x,H1,I1,r1,q1⟩=> ?_);exact thn (hr pos pins s1 σ H1 _ I1 q1) fun us s2 ⟨xs,H2,I2,r2,q2⟩=>⟨x::xs,H2,I2,.cons r1 r2,q2⟩
def ZZ (t:TA):TE:=fun σ H Q=>t σ H fun xs H1=>xs.length<=sizeLine/\∀p,H1 p=none->Q (.ref p) (upd H1 p (.tup xs))
def aAQ (t:TA):TE:=fun σ H Q=>t σ H fun xs H1=>xs.length<=sizeLine/\∀p,H1 p=none->Q (.ref p) (upd H1 p (.lst xs))
theorem cB {x1}(h:PA X es t):PE X (.Tuple es x1 pos) (ZZ t):=by
 intro pins s σ H Q I hq;refine wpAny_Tuple_spliced (thn (h pos pins s σ H _ I hq) fun us s1 ⟨xs,H1,I1,r,z,q⟩=>⟨by rw[←r.length];exact z,?_⟩);have hf:H1 s1.heap.objs.size=none:=I1.hok.fresh (Nat.le_refl _);refine⟨.ref s1.heap.objs.size,upd H1 s1.heap.objs.size (.tup xs),I1.laid (t':=s1.toks) (fun b u e=>Heap.get?_push_of_some _ e) (Nat.le_refl _) ?_,rfl,q _ hf⟩;exact⟨z,us,r,⟨_,Heap.get?_push_size _ rfl,rfl,_,rfl⟩⟩
theorem iB (h:PA X es t):PE X (.List es pos) (aAQ t):=by
 intro pins s σ H Q I hq;refine wpAny_List_spliced (thn (h pos pins s σ H _ I hq) fun us s1 ⟨xs,H1,I1,r,z,q⟩=>⟨by rw[←r.length];exact z,?_⟩);have hf:H1 s1.heap.objs.size=none:=I1.hok.fresh (Nat.le_refl _);refine⟨.ref s1.heap.objs.size,upd H1 s1.heap.objs.size (.lst xs),I1.laid (t':=s1.toks) (fun b u e=>Heap.get?_push_of_some _ e) (Nat.le_refl _) ?_,rfl,q _ hf⟩;exact⟨z,us,0,r,Heap.get?_push_size _ rfl⟩
end
abbrev Sp:=List V->Hp->VK->XK->Prop
abbrev CXT:=List Env->Hp->Shared->XK->Value->Shared->Prop
structure Env0 (P:Program)(w:World)(K:PySem.W.Frag)(mg:Str->Option Value)(base:Heap)(A:Around)(outer:List Env)(s:Shared)(H:Hp):Prop where
 frames:A.frames=some outer
 mod:Mod K mg base
 bs:∀b o,base.get? b=some o->s.heap.get? b=some o/\H b=none
 bsz:base.objs.size<=s.heap.objs.size
 funs:s.heap.FunFrames base outer
 frf:∀b∈frs outer,H b=none
 hok:HOk P w H s.heap
 bare:AllBare s.gens
def CE (outer:List Env)(P:Program)(w:World)(H:Hp)(s:Shared)(Q:VK)(u:Value)(s':Shared):Prop :=
 ∃v H',s'.os=s.os/\AllBare s'.gens/\Un (frs outer) [] H H' s.heap s'.heap/\HOk P w H' s'.heap/\RelV v u/\Q v H'
def CR (CX:CXT)(outer:List Env)(P:Program)(w:World)(H:Hp)(s:Shared)(Q:VK)(E:XK)(r:Result)(s':Shared):Prop :=
 match r with
 | .ok (.ret u)=>CE outer P w H s Q u s'
 | .ok _=>False
 | .error e=>CX outer H s E e s'
structure bK (P:Program)(w:World)(K:PySem.W.Frag)(mg:Str->Option Value)(base:Heap)(CX:CXT)(k:Nat)(f:Addr)(fd:FuncData)(ps:List Str)(sp:Sp):Prop where
 len:∀vs H Q E,sp vs H Q E->vs.length=ps.length
 run:∀(A:Around) (outer:List Env) (s:Shared) (H:Hp) (args:Args) (us:List Value) (vs:List V) (Q:VK) (E:XK),Room k A->Env0 P w K mg base A outer s H->BindsTo s fd args (ps.zip us)->Vals vs us->sp vs H Q E →
  codeAny (model P w) A (.call (.ref f) args) (CR CX outer P w H s Q E) s
theorem Env0.make {P:Program}{w:World}{K:PySem.W.Frag}{mg:Str->Option Value}{base:Heap}{A:Around}{outer:List Env}{s:Shared}{H:Hp} (e:Env0 P w K mg base A outer s H) (C:Addr) (us:List Value) (kw:List (Str×Value)) :
  Env0 P w K mg base (A.under (.builtin "type.__call__" ⟨.ref C::us,kw⟩)) outer s H:=⟨by first|exact e.frames|(simpa [Around.under,Code.envs,Code.isFrame,pushEnvs] using e.frames),e.mod,e.bs,e.bsz,e.funs,e.frf,e.hok,e.bare⟩
section
variable {X:Cx}{pins:List (Addr×Obj)}{σ:St}{H:Hp}{s s':Shared}
theorem Inv.env0 (I:Inv X pins σ H s):Env0 X.prog X.w X.K X.mg X.base X.A X.stack s H :=
 ⟨I.ok.frames,I.ok.mod,I.bs,Nat.le_trans I.ok.bsz I.sz,I.stack,I.stkFree,I.hok,I.bare⟩
theorem Inv.after {Q:VK}{u:Value} (I:Inv X pins σ H s) (h:CE X.stack X.prog X.w H s Q u s'):EP X pins σ Q u s':=by
 obtain⟨v,H',os,bare,un,hok,r,q⟩:=h;obtain⟨hh,g,d,t,os'⟩:=s';obtain rfl:os'=s.os:=os;exact⟨v,H',I.call (h':=hh) (g':=g) (d':=d) (t':=t) (ch:=[]) un hok bare (fun b z=>absurd z (by simp)),r,q⟩
end
def zC (sp:Sp)(dvs:List V)(E:XK)(t:TA):TE:=fun σ H Q=>t σ H fun vs H1=>sp (vs++dvs) H1 Q E
def K4 (C:Addr)(sp:Sp)(dvs:List V)(E:XK)(t:TA):TE:=fun σ H Q=>t σ H fun vs H1=>∀x dx,H1 x=none->H1 dx=none->dx≠x →
 sp (.ref x::(vs++dvs)) (upd (upd H1 dx (.own x)) x (.ins C dx [])) (fun v H2=>v= .non/\Q (.ref x) H2) E
def Binds (K:PySem.W.Frag)(fd:FuncData)(ps:List Str)(ds:List Value):Prop :=
 ∀(s:Shared) (us:List Value),K.In s.heap->(us++ds).length=ps.length->BindsTo s fd ⟨us,[]⟩ (ps.zip (us++ds))
theorem Binds.all {K:PySem.W.Frag}{fd:FuncData}{ps:List Str} (h:∀us:List Value,us.length=ps.length->bindArgs fd ⟨us,[]⟩=pure (ps.zip us)):Binds K fd ps []:=fun s us _ hl=>by
 rw[List.append_nil]at hl ⊢;exact .of_eq (h us hl)
def uP (CX:CXT)(X:Cx)(E:XK):Prop:=∀(pins:List (Addr×Obj)) (σ:St) (H:Hp) (s:Shared) (e:Value) (s':Shared),Inv X pins σ H s->CX X.stack H s E e s'->X.xe e s'
section
variable {X:Cx}{CX:CXT}{k:Nat}{f C:Addr}{fd:FuncData}{ps:List Str}{sp:Sp}{dvs:List V}{ds:List Value}{E:XK}{x m:Str}{p pos apos:Pos}{e o:Expr}{es:List Expr}{ta:TE}{t:TA}
theorem yL {pins:List (Addr×Obj)}{σ:St}{H:Hp}{s:Shared}{Q:VK}{us:List Value}{vs:List V} (F:bK X.prog X.w X.K X.mg X.base CX k f fd ps sp) (hr:Room k X.A) (hb:Binds X.K fd ps ds) (hd:Vals dvs ds) (hx:uP CX X E)
  (I:Inv X pins σ H s)(r:Vals vs us)(h:sp (vs++dvs) H Q E):wpAny (model X.prog X.w) X.A (call (.ref f) us) (EP X pins σ Q) X.xe s:=by
 have r2:Vals (vs++dvs) (us++ds):=r.append hd;have hl:(us++ds).length=ps.length:=by rw[←r2.length];exact F.len _ _ _ _ h
 refine wpAny_call (codeAny_mono (F.run X.A X.stack s H ⟨us,[]⟩ (us++ds) (vs++dvs) Q E hr I.env0 (hb s us I.kIn hl) r2 h) fun r s' hq=> ?_);cases r with
 | error e=>exact hx pins σ H s e s' I hq
 | ok fl =>
  cases fl with
  | ret u=>exact I.after hq
  | next=>exact False.elim hq
  | brk=>exact False.elim hq
  | cont=>exact False.elim hq
theorem UZ (F:bK X.prog X.w X.K X.mg X.base CX k f fd ps sp)(hr:Room k X.A)(hg:Gl X x)(hm:X.mg x=some (.ref f))(hk:PySem.W.keepIn X.K (.ref f)=true)(hb:Binds X.K fd ps ds)(hd:Vals dvs ds)(hx:uP CX X E)
  (ha:PA X (e::es) t)(hdb:(x==("__debug__" :Str))=false:=by decide)(he:starEach (e::es) X.env=(false,eval e X.env)::starEach es X.env:=by rfl)(hpl:(backTo pos (starEach es X.env)).any (·.1)=false:=by rfl) :
  PE X (.Call (.Name x p) (e::es) [] pos) (zC sp dvs E t):=by
 intro pins s σ H Q I h;refine wpAny_Call_Name_kw (wG I hg hm ?_ hdb);refine PySem.W.callWith_K (h₀:=X.base) I.ok.mod.kin hk (thn (ha pos pins s σ H _ I h) fun us s1 ⟨vs,H1,I1,r,q⟩=>⟨I1.kIn,?_⟩) he hpl;exact yL F hr hb hd hx I1 r q
structure Mk (K:PySem.W.Frag)(C f:Addr):Prop where
 makes:PySem.W.makesIn K C=true
 init:PySem.W.findIn K (.ref C) "__init__" =some (some (.ref f))
 fn:PySem.W.isFn K (.ref f)=true
 kp:PySem.W.keepIn K (.ref C)=true
theorem QS {pins:List (Addr×Obj)}{σ:St}{H:Hp}{s:Shared}{Q:VK}{us:List Value}{vs:List V} (M:Mk X.K C f) (F:bK X.prog X.w X.K X.mg X.base CX k f fd ps sp) (hr:Room (k+1) X.A) (hb:Binds X.K fd ps ds) (hd:Vals dvs ds)
  (hx:uP CX X E)(I:Inv X pins σ H s)(r:Vals vs us)
  (h:∀x dx,H x=none->H dx=none->dx≠x->sp (.ref x::(vs++dvs)) (upd (upd H dx (.own x)) x (.ins C dx [])) (fun v H2=>v= .non/\Q (.ref x) H2) E) :
  wpAny (model X.prog X.w) X.A (call (.ref C) us) (EP X pins σ Q) X.xe s:=by
 have hq:=h (s.heap.objs.size+1) s.heap.objs.size (I.hok.fresh (Nat.le_succ _)) (I.hok.fresh (Nat.le_refl _)) (Nat.ne_of_lt (Nat.lt_succ_self _));have I2:=Inv.made (C:=C) I;have r2:Vals (V.ref (s.heap.objs.size+1)::(vs++dvs)) (Value.ref (s.heap.objs.size+1)::(us++ds)):= .cons rfl (r.append hd);have hl:(Value.ref (s.heap.objs.size+1)::us++ds).length=ps.length:=by
  have e:=r2.length;rw[F.len _ _ _ _ hq]at e;exact e.symm
 refine wpAny_call (P0 (f:=f) I.kIn M.makes M.init (beq_iff_eq.mp M.fn) (codeAny_mono (F.run _ X.stack _ _ ⟨Value.ref (s.heap.objs.size+1)::us,[]⟩ (Value.ref (s.heap.objs.size+1)::(us++ds)) _ _ E (hr.make C us [])
  (I2.env0.make C us []) (hb _ (Value.ref (s.heap.objs.size+1)::us) I2.kIn hl) r2 hq) fun r s' hq'=> ?_))
 cases r with
 | error e=>exact hx pins σ _ _ e s' I2 hq'
 | ok fl =>
  cases fl with
  | ret u =>
   obtain⟨v,H',I3,rv,ev,q3⟩:=I2.after hq';subst ev;exact⟨rv,⟨V.ref (s.heap.objs.size+1),H',I3,rfl,q3⟩⟩
  | next=>exact False.elim hq'
  | brk=>exact False.elim hq'
  | cont=>exact False.elim hq'
theorem WQ (M:Mk X.K C f)(F:bK X.prog X.w X.K X.mg X.base CX k f fd ps sp)(hr:Room (k+1) X.A)(hg:Gl X x)(hm:X.mg x=some (.ref C))(hb:Binds X.K fd ps ds)(hd:Vals dvs ds)(hx:uP CX X E)
  (ha:PA X (e::es) t)(hdb:(x==("__debug__" :Str))=false:=by decide)(he:starEach (e::es) X.env=(false,eval e X.env)::starEach es X.env:=by rfl)(hpl:(backTo pos (starEach es X.env)).any (·.1)=false:=by rfl) :
  PE X (.Call (.Name x p) (e::es) [] pos) (K4 C sp dvs E t):=by
 intro pins s σ H Q I h;refine wpAny_Call_Name_kw (wG I hg hm ?_ hdb);refine PySem.W.callWith_K (h₀:=X.base) I.ok.mod.kin M.kp (thn (ha pos pins s σ H _ I h) fun us s1 ⟨vs,H1,I1,r,q⟩=>⟨I1.kIn,?_⟩) he hpl;exact QS M F hr hb hd hx I1 r q
end
section
variable {X:Cx}{CX:CXT}{k:Nat}{f C:Addr}{fd:FuncData}{ps ks:List Str}{sp:Sp}{E:XK}{x m:Str}{p pos apos kpos:Pos}{e o:Expr}{es:List Expr}{kws:List Keyword}{te ta:TE}{t tk:TA}{nm:Option Str}
variable {g:List Value->List Value->List Value}{gV:List V->List V->List V}
end
structure aX (N P:List Str)(sc:Scope):Prop where
 kind:sc.kind= .function
 co:sc.isCoroutine=false
 gen:sc.isGenerator=false
 nd:N.Nodup
 pre:N.take P.length=P
 par:∀x∈P,sc.names.lookup x=some .local∨sc.names.lookup x=some .cell
 nofree:∀y∈sc.names,y.2≠ .free
theorem BQ {kindOf:Str->Option NameKind}{x:Str}:∀{binds:List (Str×Value)}{m:Str->Option Value},(∀v,(x,v)∉binds)->bindL kindOf binds m x=m x
 | [],_,_=>rfl
 | (n,v)::r,m,h=>by
  unfold bindL;rw[BQ fun w hw=>h w (List.mem_cons_of_mem _ hw)]
  split
  ·have:x≠n:=by rintro rfl;exact h v List.mem_cons_self
   simp[this]
  ·rfl
theorem CA {kindOf:Str->Option NameKind}{x:Str}:∀{binds:List (Str×Value)}{m:Str->Option Value},(∀v,(x,v)∉binds)->bindC kindOf binds m x=m x
 | [],_,_=>rfl
 | (n,v)::r,m,h=>by
  unfold bindC;rw[CA fun w hw=>h w (List.mem_cons_of_mem _ hw)]
  split
  ·rfl
  ·have:x≠n:=by rintro rfl;exact h v List.mem_cons_self
   simp[this]
theorem BM {kindOf:Str->Option NameKind}{x:Str}{v:Value}:∀{P:List Str}{vs:List Value}{i:Nat}{m:Str->Option Value},P.Nodup->P[i]? =some x->vs[i]? =some v->kindOf x=some .local →
  bindL kindOf (P.zip vs) m x=some v
 | [],_,_,_,_,h,_,_=>by simp at h
 | _::_,[],_,_,_,_,h,_=>by simp at h
 | p::P,w::vs,0,m,nd,h1,h2,hk=>by
  simp at h1 h2;subst h1;subst h2;show bindL kindOf ((p,w)::P.zip vs) m p=_;unfold bindL;rw[BQ fun v hv=>(List.nodup_cons.mp nd).1 (List.of_mem_zip hv).1,if_pos hk];simp
 | p::P,w::vs,i+1,m,nd,h1,h2,hk=>by
  show bindL kindOf ((p,w)::P.zip vs) m x=_;unfold bindL;exact BM (i:=i) (List.nodup_cons.mp nd).2 (by simpa using h1) (by simpa using h2) hk
theorem A8 {kindOf:Str->Option NameKind}{x:Str}{v:Value}:∀{P:List Str}{vs:List Value}{i:Nat}{m:Str->Option Value},P.Nodup->P[i]? =some x->vs[i]? =some v->kindOf x≠some .local →
  bindC kindOf (P.zip vs) m x=some v
 | [],_,_,_,_,h,_,_=>by simp at h
 | _::_,[],_,_,_,_,h,_=>by simp at h
 | p::P,w::vs,0,m,nd,h1,h2,hk=>by
  simp at h1 h2;subst h1;subst h2;show bindC kindOf ((p,w)::P.zip vs) m p=_;unfold bindC;rw[CA fun v hv=>(List.nodup_cons.mp nd).1 (List.of_mem_zip hv).1,if_neg hk];simp
 | p::P,w::vs,i+1,m,nd,h1,h2,hk=>by
  show bindC kindOf ((p,w)::P.zip vs) m x=_;unfold bindC;exact A8 (i:=i) (List.nodup_cons.mp nd).2 (by simpa using h1) (by simpa using h2) hk
def start (N:List Str)(vs:List V):St:=vs.map some++List.replicate (N.length - vs.length) none
def zZ (CX:CXT)(P:Program)(w:World)(K:PySem.W.Frag)(mg:Str->Option Value)(base:Heap)(N:List Str)(qual:Str)(scope:Scope)(f:Addr)(cd:Value)(A:Around)(outer:List Env)(s:Shared)(H:Hp)(E:XK):Cx where
 prog:=P
 w:=w
 K:=K
 mg:=mg
 base:=base
 A:=A.deeper (envOfC qual scope s.heap.objs.size f cd)
 N:=N
 s₀:=s
 H₀:=H
 env:=envOfC qual scope s.heap.objs.size f cd
 outer:=outer
 stack:=envOfC qual scope s.heap.objs.size f cd::outer
 ex:=[]
 calm:=true
 fn:=fun _=>true
 pn:=[]
 xe:=fun e s'=>wpAny (model P w) (A.deeper (envOfC qual scope s.heap.objs.size f cd)) (leaving (envOfC qual scope s.heap.objs.size f cd) e) (fun _ s''=>CX outer H s E e s'') (fun e' s''=>CX outer H s E e' s'') s'
theorem xR {sc:Scope}{n:Nat}{x:Str} (h:sc.names.lookup x=some .cell):∃c,(cellsFrom n sc.names []).lookup x=some c:=by
 have q:=PySem.W.cellsFrom_some sc.names n [] (.inl h);exact Option.isSome_iff_exists.mp q
theorem ND {CX:CXT}{P:Program}{w:World}{K:PySem.W.Frag}{mg:Str->Option Value}{base:Heap}{N ps:List Str}{qual:Str}{scope:Scope}{f:Addr}{cd:Value}{A:Around}{outer:List Env}{s s1:Shared}{H:Hp}{E:XK}{us:List Value}{vs:List V}
  (S:aX N ps scope)(hd:A.handled=none)(e0:Env0 P w K mg base A outer s H)(hl:vs.length=ps.length)(r:Vals vs us)
  (x:InCallC s s.heap.objs.size (bindL (envOfC qual scope s.heap.objs.size f cd).kindOf (ps.zip us) fun _=>none) (cellsFrom (s.heap.objs.size+1) scope.names []) (bindC (envOfC qual scope s.heap.objs.size f cd).kindOf (ps.zip us) fun _=>none) s1) :
  Inv (zZ CX P w K mg base N qual scope f cd A outer s H E) [] (start N vs) H s1:=by
 have hpl:ps.length<=N.length:=by have:=congrArg List.length S.pre;rw[List.length_take]at this;lia
 obtain⟨h1,tk,rfl,hk⟩:=x.done;have noA:∀b:Addr,b∉(zZ CX P w K mg base N qual scope f cd A outer s H E).ex:=fun b z=>absurd (show b∈([]:List Addr) from z) (by simp);refine⟨⟨e0.mod,S.kind,rfl,rfl,Nat.le_refl _,fun y z c h1 h2=> ?_,fun y hy=> ?_,fun y c _ h=> ?_,fun _=>hd,Around.frames_deeper e0.frames,.inr ⟨rfl,rfl⟩,fun b z=>absurd z (noA b),e0.bs,e0.bsz,fun b _ _=>noA b,fun b z=>absurd z (noA b),e0.funs,e0.frf⟩,
  rfl,e0.bare,Un.kept hk,⟨_,x.toInCall.ns,fun i y v h1 h2 h3=> ?_⟩,fun y c h=>⟨_,x.cell y c h⟩,e0.hok.fresh (Nat.le_refl _),fun y c h=> ?_,fun p hp=>absurd (show p∈([]:List (Addr×Obj)) from hp) (by simp),e0.hok.kept hk,?_⟩
 ·exact name_of_addr x.apart (PySem.mem_of_lookup h1) (PySem.mem_of_lookup h2)
 ·have hy:scope.names.lookup y=some .cell∨scope.names.lookup y=some .free:=hy;rcases hy with hy|hy
  ·exact xR hy
  ·exact absurd rfl (S.nofree _ (PySem.mem_of_lookup hy))
 ·exact Nat.le_of_lt (x.above y c (PySem.mem_of_lookup h))
 ·have hi:i<vs.length:=by
   unfold start at h2
   by_cases hi:i<vs.length
   ·exact hi
   ·rw[List.getElem?_append_right (by simpa using hi)]at h2;rw[List.getElem?_replicate]at h2
    split at h2<;>cases h2
  have ha:vs[i]? =some v:=by
   unfold start at h2;rw[List.getElem?_append_left (by simpa using hi),List.getElem?_map]at h2;cases e:vs[i]? with
   | none=>rw[e]at h2;cases h2
   | some a=>rw[e]at h2;cases h2;rfl
  obtain⟨u,hu,rv⟩:=r.get ha;have hp:ps[i]? =some y:=by
   rw[←S.pre,List.getElem?_take_of_lt (by lia)];exact h1
  have ndP:ps.Nodup:=by rw[←S.pre];exact S.nd.sublist (List.take_sublist _ _)
  refine⟨u,rv,?_⟩;rcases S.par y (List.mem_of_getElem? hp) with k|k
  ·exact .inl ⟨k,BM ndP hp hu k⟩
  ·obtain⟨c,e⟩:=xR (n:=s.heap.objs.size+1) k;refine .inr ⟨.inl k,c,e,?_⟩;have q:=x.cell y c e;rw[A8 ndP hp hu (by show scope.names.lookup y≠_;rw[k];decide)]at q;exact q
 ·exact e0.hok.fresh (Nat.le_of_lt (x.above y c (PySem.mem_of_lookup h)))
 ·unfold start;show _=N.length;rw[List.length_append,List.length_map,List.length_replicate]
  lia
theorem aAZ {CX:CXT}{P:Program}{w:World}{K:PySem.W.Frag}{mg:Str->Option Value}{base:Heap}{k:Nat}{f:Addr}{name qual:Str}{params:Arguments}{body:List Stmt}{scope:Scope}{dV kV doc pm cdv ct oc:Value}{an od:Option Addr}
  {osl:Array (Option Value)}{N ps:List Str}{sp:Sp} (lk:K.lookup f=some ⟨oc,od,.func (PySem.W.fnOf name qual params body scope dV kV doc pm an cdv ct),osl⟩) (hcd:PySem.W.codeIn K cdv qual=true) (S:aX N ps scope)
  (len:∀vs H Q E,sp vs H Q E->vs.length=ps.length)
  (hbody:∀(A:Around) (outer:List Env) (s:Shared) (H:Hp) (vs:List V) (Q:VK) (E:XK),Room k (A.deeper (envOfC qual scope s.heap.objs.size f cdv))->sp vs H Q E →
   ∃t,PSs (zZ CX P w K mg base N qual scope f cdv A outer s H E) body t/\t { nx:=fun _ H'=>Q .non H',rt:=Q } (start N vs) H) :
  bK P w K mg base CX (k+1) f (PySem.W.fnOf name qual params body scope dV kV doc pm an cdv ct) ps sp:=by
 refine⟨len,fun A outer s H args us vs Q E hr e0 hb r hsp=> ?_⟩;have hl:=len _ _ _ _ hsp;have KX:K.In s.heap:=e0.mod.kin.keeps fun b o e=>(e0.bs b o e).1;have lim:s.heap.NoLimit:=e0.mod.nolimit.keeps fun b o e=>(e0.bs b o e).1;have hkind:∀y∈ps.zip us,scope.names.lookup y.1=some .local∨(scope.names.lookup y.1=some .cell/\((cellsFrom (s.heap.objs.size+1) scope.names []).lookup y.1).isSome=true):=fun⟨n,v⟩ hy=>by
  rcases S.par n (List.of_mem_zip hy).1 with q|q
  ·exact .inl q
  ·exact .inr ⟨q,PySem.W.cellsFrom_some _ _ _ (.inl q)⟩
 refine codeAny_call_function hr.depth (KX _ _ lk) rfl S.co S.gen rfl (PySem.W.codeRec_of KX hcd) (hb _ _ _ _ ?_);refine wpAny_newFunctionEnv_cells S.kind hkind fun env he s1 x=> ?_;subst he;refine⟨lim.keeps x.toInCall.keep,codeAny_func ?_⟩;obtain⟨t,ht,hq⟩:=hbody A outer s H vs Q E (hr.deeper _) hsp;have I:Inv (zZ CX P w K mg base N qual scope f cdv A outer s H E) [] (start N vs) H s1:=ND S hr.hd e0 hl r x;refine wpAny_mono (ht [] s1 (start N vs) H _ I hq) (fun fl s' hs=> ?_) fun e s' hs=>hs;have fin:∀{σ':St}{H':Hp}{v:V}{u:Value},Inv (zZ CX P w K mg base N qual scope f cdv A outer s H E) [] σ' H' s'->RelV v u->Q v H'->CE outer P w H s Q u s' :=
  fun {σ' H' v u} J rv q=>⟨v,H',J.os,J.bare,J.base,J.hok,rv,q⟩
 cases fl with
 | ret u =>
  obtain⟨v,σ',H',J,rv,q⟩:=hs;exact fin J rv q
 | next =>
  obtain⟨σ',H',J,q⟩:=hs;exact fin (v:=V.non) (u:=Value.none) J rfl q
 | brk =>
  obtain⟨_,_,_,q⟩:=hs;exact False.elim q
 | cont =>
  obtain⟨_,_,_,q⟩:=hs;exact False.elim q
end L2
namespace L2
open PySem PySem.Spec PyProof.Rows
section
variable {X:Cx}{x:Str}{p pos:Pos}{e:Expr}{es:List Expr}{t:TA}{id T:String}{r:List V->Hp->VK->Prop}
def tCB (r:List V->Hp->VK->Prop)(t:TA):TE:=fun σ H Q=>t σ H fun vs H1=>r vs H1 Q
theorem bJ (hc:dL X (.builtin id) r)(hg:Gl X x)(hm:X.mg x=none)(hv:bootBuiltins x=some (.builtin id))(ha:PA X (e::es) t)(hn:x≠ "__name__" :=by decide)(hdb:(x==("__debug__" :Str))=false:=by decide)
  (he:starEach (e::es) X.env=(false,eval e X.env)::starEach es X.env:=by rfl)(hpl:(backTo pos (starEach es X.env)).any (·.1)=false:=by rfl):PE X (.Call (.Name x p) (e::es) [] pos) (tCB r t):=by
 intro pins s σ H Q I h;refine wpAny_Call_Name_kw (uI I hg hm hv ?_ hn hdb);exact PyProof.Rows.callWith_builtin1 (thn (ha pos pins s σ H _ I h) fun us s1 ⟨vs,H1,I1,r1,q1⟩=>hc pins s1 σ H1 vs us Q I1 r1 q1) he hpl
theorem mR (hc:dL X (.type T) r)(hg:Gl X x)(hm:X.mg x=none)(hv:bootBuiltins x=some (.type T))(ha:PA X (e::es) t)(hn:x≠ "__name__" :=by decide)(hdb:(x==("__debug__" :Str))=false:=by decide)
  (he:starEach (e::es) X.env=(false,eval e X.env)::starEach es X.env:=by rfl)(hpl:(backTo pos (starEach es X.env)).any (·.1)=false:=by rfl):PE X (.Call (.Name x p) (e::es) [] pos) (tCB r t):=by
 intro pins s σ H Q I h;refine wpAny_Call_Name_kw (uI I hg hm hv ?_ hn hdb);exact PyProof.Rows.callWith_type1 (thn (ha pos pins s σ H _ I h) fun us s1 ⟨vs,H1,I1,r1,q1⟩=>hc pins s1 σ H1 vs us Q I1 r1 q1) he hpl
end
end L2
namespace HT
open PySem PyProof.Rows
section
open PySem.SeqAt
open PySem.AutoSeq1 (wpAny_loadPart')
open PySem.MeetsSeq PySem.MeetsSeq2 PySem.MeetsSeq3
end
section
variable {prog:Program}{w:World}{A:Around}{E:Value->Shared->Prop}{s:Shared}
theorem cat_tup {t b:Addr}{vs ws:List Value}{Q:Value->Shared->Prop} (ht:IsTup s.heap t vs.toArray) (hb:IsTup s.heap b ws.toArray) (hv:vs≠[])
  (h1:ws=[]->Q (.ref t) s)(h2:ws≠[]->Q (.ref s.heap.objs.size) { s with heap:=s.heap.push { cls:= .type "tuple",data:= .seq (vs++ws).toArray } })
  (hsz:vs.length+ws.length<=sizeLine):wpAny (model prog w) A (binaryOp .Add (.ref t) (.ref b)) Q E s:=by
 obtain⟨⟨cls,dd,data,sl⟩,ho,hc,n,hd⟩:=id ht;obtain⟨⟨cls2,dd2,data2,sl2⟩,ho2,hc2,n2,hd2⟩:=id hb;simp only at hc hd hc2 hd2;subst hc hd hc2 hd2;have e:vs.toArray++ws.toArray=(vs++ws).toArray:=by simp
 by_cases hw:ws=[]
 ·exact concat_meets ⟨_,ho,rfl⟩ ⟨_,ho2,rfl⟩ noFill_tuple_add seq_tuple_add PySem.F.slot_tuple_add PySem.F.entry_tuple_add (PySem.F.args_tuple_add_2 _ _)
   (tuple_addW1 t b vs.toArray ws.toArray n n2 dd dd2 sl sl2 (by simpa using hv) (by simp[hw])) ⟨ho,ho2,h1 hw⟩
 ·refine concat_meets ⟨_,ho,rfl⟩ ⟨_,ho2,rfl⟩ noFill_tuple_add seq_tuple_add PySem.F.slot_tuple_add PySem.F.entry_tuple_add (PySem.F.args_tuple_add_2 _ _)
   (tuple_addW2 t b vs.toArray ws.toArray n n2 dd dd2 sl sl2 (by simpa using hv) (by simpa using hw) (by rw[List.size_toArray,List.size_toArray];exact hsz)) ⟨ho,ho2,?_⟩
  rw[e];exact h2 hw
def sIx (n d:Nat):Option Int->Nat
 | none=>d
 | some v=>if v<0 then (v+(n:Int)).toNat else min v.toNat n
end
end HT
namespace L2
open PySem PySem.Spec PyProof.Rows
abbrev TO:=St->Hp->(Option Int->Hp->Prop)->Prop
def PO (X:Cx)(e:Option Expr)(t:TO):Prop :=
 ∀(pins:List (Addr×Obj)) (s:Shared) (σ:St) (H:Hp) (Q:Option Int->Hp->Prop),Inv X pins σ H s->t σ H Q →
  wpAny (model X.prog X.w) X.A (evalPart e X.env) (fun u s'=>∃o H',Inv X pins σ H' s'/\IsPart u o/\Q o H') X.xe s
def JG:TO:=fun _ H Q=>Q none H
def UE (t:TE):TO:=fun σ H Q=>t σ H fun x H1=>∃i,x= .int i/\Q (some i) H1
section
variable {X:Cx}{e:Expr}{te:TE}{lo hi:Option Expr}{tl th:TO}{pos p2:Pos}
theorem XH:PO X none JG:=by
 intro pins s σ H Q I h;rw[evalPart_none];exact wpAny_pure ⟨none,H,I,.none,h⟩
theorem WT (h:PE X e te):PO X (some e) (UE te):=by
 intro pins s σ H Q I hw;rw[evalPart_some];refine thn (h pins s σ H _ I hw) fun u s1 ⟨x,H1,I1,r1,q1⟩=> ?_;obtain⟨i,rfl,q⟩:=q1;obtain⟨t,rfl⟩:=r1;exact⟨some i,H1,I1,.int i t,q⟩
def SlR (X:Cx)(r:V->Option Int->Option Int->Hp->VK->Prop):Prop :=
 ∀(pins:List (Addr×Obj)) (s:Shared) (σ:St) (H:Hp) (x:V) (v vl vu:Value) (lo hi:Option Int) (sl:Addr) (Q:VK),Inv X pins σ H s->RelV x v->s.heap.IsSliceOf sl vl vu .none->IsPart vl lo->IsPart vu hi->r x lo hi H Q →
  ∃T id,typeLookup (.type T) "__getitem__" =pure (some (.builtin id))/\s.TypeIs v T/\wpAny (model X.prog X.w) X.A (getItem v (.ref sl)) (EP X pins σ Q) X.xe s
def tSl (r:V->Option Int->Option Int->Hp->VK->Prop)(te:TE)(tl th:TO):TE:=fun σ H Q=>te σ H fun x H1=>tl σ H1 fun l H2=>th σ H2 fun u H3=>r x l u H3 Q
theorem P6 {r:V->Option Int->Option Int->Hp->VK->Prop}(hr:SlR X r)(he:PE X e te)(hl:PO X lo tl)(hu:PO X hi th):PE X (.Subscript e (.Slice lo hi none p2) pos) (tSl r te tl th):=by
 intro pins s σ H Q I h;refine Subscript_ (thn (he pins s σ H _ I h) fun v s1 ⟨x,H1,I1,r1,q1⟩=> ?_);refine wpAny_Slice (thn (hl pins s1 σ H1 _ I1 q1) fun vl s2 ⟨l,H2,I2,pl,q2⟩=>thn (hu pins s2 σ H2 _ I2 q2) fun vu s3 ⟨u,H3,I3,pu,q3⟩=> ?_);rw[evalPart_none];refine wpAny_pure ?_;have I4:Inv X pins σ H3 { s3 with heap:=s3.heap.push { cls:= .type "slice",data:= .fields #[vl,vu,.none] } }:=I3.kept (t':=s3.toks) fun b ob q=>Heap.get?_push_of_some _ q;obtain⟨T,id,hT,ht,hg⟩:=hr pins { s3 with heap:=s3.heap.push { cls:= .type "slice",data:= .fields #[vl,vu,.none] } } σ H3 x v vl vu l u s3.heap.objs.size Q I4 r1 (Heap.IsSliceOf.new ..) pl pu q3;show wpAny (model X.prog X.w) X.A (subscriptTail e (.Slice lo hi none p2) v (.ref s3.heap.objs.size)) (EP X pins σ Q) X.xe { s3 with heap:=s3.heap.push { cls:= .type "slice",data:= .fields #[vl,vu,.none] } };exact tail_any (ops:=[.ref s3.heap.objs.size,v]) ht hT hg (by with_unfolding_all rfl)
def xM (xs:List V)(lo hi:Option Int):List V:=(xs.drop (HT.sIx xs.length 0 lo)).take (HT.sIx xs.length xs.length hi - HT.sIx xs.length 0 lo)
theorem HL (xs:List V)(lo hi:Option Int):(xM xs lo hi).length<=xs.length:=by
 unfold xM;rw[List.length_take,List.length_drop]
 lia
def JS (K:PySem.W.Frag):R2:=fun x y H Q=>∃a b xs ys,x= .ref a/\y= .ref b/\SqT K H a xs/\SqT K H b ys/\xs≠[]/\xs.length+ys.length<=sizeLine ∧
 (ys=[]->Q (.ref a) H)/\(ys≠[]->∀p,H p=none->Q (.ref p) (upd H p (.tup (xs++ys))))
theorem Vals.nil_iff {xs:List V}{us:List Value} (r:Vals xs us):us=[]↔xs=[]:=by
 cases r with
 | nil=>simp
 | cons _ _=>simp
theorem VQ:OpR X (binaryOp .Add) (JS X.K):=by
 intro pins s σ H x y v u Q I rx ry h;obtain⟨a,b,xs,ys,rfl,rfl,ha,hb,hx,hz,q1,q2⟩:=h;cases rx;cases ry;obtain⟨its,r1,p1,_⟩:=I.tuple ha;obtain⟨its2,r2,p2,_⟩:=I.tuple hb;refine HT.cat_tup p1 p2 (fun z=>hx (r1.nil_iff.mp z)) (fun z=>⟨.ref a,H,I,rfl,q1 (r2.nil_iff.mp z)⟩) (fun z=> ?_) (by rw[←r1.length,←r2.length];exact hz);refine⟨.ref s.heap.objs.size,_,I.laid (t':=s.toks) (o:= .tup (xs++ys)) (fun b ob q=>Heap.get?_push_of_some _ q) (Nat.le_refl _) ?_,rfl,q2 (fun w=>z (r2.nil_iff.mpr w)) _ (I.hok.fresh (Nat.le_refl _))⟩;exact⟨by rw[List.length_append];exact hz,_,r1.append r2,IsTup.new _ _⟩
end
end L2
namespace L2
open PySem PySem.Spec PyProof.Rows
def ixN (n:Nat)(i:Int):Option Nat:=if 0<=i then (if i<n then some i.toNat else none) else if -(n:Int)<=i then some (i+n).toNat else none
def atI {α:Type}(xs:List α)(i:Int):Option α:=(ixN xs.length i).bind fun j=>xs[j]?
theorem IR {n:Nat}{i:Int}{j:Nat} (h:ixN n i=some j):seqIndex? i n=some j/\j<n/\ -(n:Int)<=i/\i<n:=by
 unfold ixN at h
 by_cases h0:0<=i
 ·rw[if_pos h0]at h
  by_cases h1:i<n
  ·rw[if_pos h1]at h;have e:i.toNat=j:=Option.some.inj h;exact⟨by rw[seqIndex_of h0 h1,e],by lia,by lia,h1⟩
  ·rw[if_neg h1]at h;cases h
 ·rw[if_neg h0]at h
  by_cases h1: -(n:Int)<=i
  ·rw[if_pos h1]at h;have e:(i+n).toNat=j:=Option.some.inj h;exact⟨by rw[seqIndex_neg (by lia) h1,e],by lia,h1,by lia⟩
  ·rw[if_neg h1]at h;cases h
theorem AA {α:Type}{xs:List α}{i:Int}{v:α} (h:atI xs i=some v):∃j,seqIndex? i xs.length=some j/\xs[j]? =some v/\j<xs.length/\ -(xs.length:Int)<=i/\i<xs.length:=by
 unfold atI at h;cases e:ixN xs.length i with
 | none=>rw[e]at h;cases h
 | some j =>
  rw[e]at h;obtain⟨h1,h2,h3,h4⟩:=IR e;exact⟨j,h1,h,h2,h3,h4⟩
theorem wH {α:Type}{xs:List α}{j:Nat}{v:α} (h:xs[j]? =some v):atI xs (j:Int)=some v:=by
 have hj:j<xs.length:=(List.getElem?_eq_some_iff.mp h).1;have e:ixN xs.length (j:Int)=some j:=by
  unfold ixN;rw[if_pos (by lia),if_pos (by lia)];simp
 unfold atI;rw[e];exact h
def WV (b:Expr):Prop:=∀o i,subscripted b false o i=operate [o,i] (getItem o i)
def IxR (X:Cx)(r:R2):Prop :=
 ∀(value slice:Expr) (pins:List (Addr×Obj)) (s:Shared) (σ:St) (H:Hp) (x y:V) (v u:Value) (Q:VK),Inv X pins σ H s->RelV x v->RelV y u->r x y H Q →
  subscripted slice false v u=operate [v,u] (getItem v u)->wpAny (model X.prog X.w) X.A (subscriptTail value slice v u) (EP X pins σ Q) X.xe s
def MtR (X:Cx)(id:String)(r:V->List V->Hp->VK->Prop):Prop :=
 ∀(pins:List (Addr×Obj)) (s:Shared) (σ:St) (H:Hp) (x:V) (xs:List V) (v:Value) (us:List Value) (Q:VK),Inv X pins σ H s->RelV x v->Vals xs us->r x xs H Q →
  wpAny (model X.prog X.w) X.A (call (.builtin id) (v::us)) (EP X pins σ Q) X.xe s
section
variable {X:Cx}{a b:Expr}{ta tb:TE}{pos:Pos}
theorem cH {r:R2}(hr:IxR X r)(ha:PE X a ta)(hb:PE X b tb)(hs:WV b):PE X (.Subscript a b pos) (tOp r ta tb):=by
 intro pins s σ H Q I h;exact Subscript_ (QO ha hb I h fun v u s2 x y H2 I2 rx ry q=>hr a b pins s2 σ H2 x y v u Q I2 rx ry q (hs _ _))
def F7 (K:PySem.W.Frag):R2:=fun x y H Q=>∃p xs i v,x= .ref p/\y= .int i/\SqL K H p xs/\atI xs i=some v/\Q v H
def aAF (K:PySem.W.Frag):R2:=fun x y H Q=>∃p xs i v,x= .ref p/\y= .int i/\SqT K H p xs/\atI xs i=some v/\Q v H
def aBS:R2:=fun x y H Q=>∃z i c,x= .str z/\y= .int i/\z.length<=sizeLine/\atI z.cps.toList i=some c/\Q (.str ⟨#[c]⟩) H
theorem cZ:IxR X (F7 X.K):=by
 intro value slice pins s σ H x y v u Q I rx ry h hs;obtain⟨p,xs,i,z,rfl,rfl,hq,he,q⟩:=h;cases rx;obtain⟨t,rfl⟩:=ry;obtain⟨its,r,pl,hz⟩:=I.list hq;obtain⟨j,h1,h2,h3,h4,h5⟩:=AA he;obtain⟨w,ew,rw'⟩:=r.get h2;have hl:=r.length;have hn:=rS;have fin:EP X pins σ Q w s:=⟨z,H,I,rw',q⟩
 by_cases h0:0<=i
 ·have hj:i.toNat=j:=by
   rw[seqIndex_of h0 h5]at h1;exact Option.some.inj h1
  exact item_listR pl.isList h0 (by lia) (by rw[hj];simpa using ew) fin hs
 ·have hj:(i+(its.toArray.size:Int)).toNat=j:=by
   rw[seqIndex_neg (by lia) h4]at h1;rw[List.size_toArray,←hl];exact Option.some.inj h1
  exact subscriptTail_builtinR (x:=w) pl.isList.typeIs slot_list_getitem.lookup
   (wpAny_getItem_list_neg (Q:=fun r s'=>r=w/\EP X pins σ Q r s') pl.isList (by lia) (by rw[List.size_toArray]<;>lia) (by lia) (by rw[hj];simpa using ew) ⟨rfl,fin⟩) hs
theorem yZ:IxR X (aAF X.K):=by
 intro value slice pins s σ H x y v u Q I rx ry h hs;obtain⟨p,xs,i,z,rfl,rfl,hq,he,q⟩:=h;cases rx;obtain⟨t,rfl⟩:=ry;obtain⟨its,r,pl,hz⟩:=I.tuple hq;obtain⟨j,h1,h2,h3,h4,h5⟩:=AA he;obtain⟨w,ew,rw'⟩:=r.get h2;have hl:=r.length;have hn:=rS;have fin:EP X pins σ Q w s:=⟨z,H,I,rw',q⟩
 exact subscriptTail_builtinR (x:=w) pl.typeIs slot_tuple_getitem.lookup
  (getItem_tuple (j:=j) (Q:=fun r s'=>r=w/\EP X pins σ Q r s') pl (by lia) (by lia) (by rw[List.size_toArray,←hl];exact h1) (by simpa using ew) ⟨rfl,fin⟩) hs
theorem ET:IxR X aBS:=by
 intro value slice pins s σ H x y v u Q I rx ry h hs;obtain⟨z,i,c,rfl,rfl,hz,he,q⟩:=h;obtain⟨t,rfl⟩:=rx;obtain⟨t',rfl⟩:=ry;obtain⟨j,h1,h2,h3,h4,h5⟩:=AA he;have hl:z.cps.toList.length=z.length:=by simp[Str.length]
 rw[hl]at h1 h4 h5;have hn:=rS;exact tail_any (typeIs_str s z t) slot_str_getitem.lookup (getItem_str (c:=c) (by
  have e1:decide (i< -(2^63:Int))=false:=decide_eq_false (by lia);have e2:decide (i≥2^63)=false:=decide_eq_false (by lia);rw[e1,e2,Bool.or_false]) (by rw[h1];simpa using h2) ⟨.str ⟨#[c]⟩,H,I.tok _,⟨_,rfl⟩,q⟩) hs
theorem LO (its:List Value)(n j:Nat)(u:Value):Obj.mapSeq (·.setIfInBounds j u) { cls:= .type "list",data:= .seq its.toArray n }={ cls:= .type "list",data:= .seq (its.set j u).toArray n }:=by
 simp[Obj.mapSeq]
theorem Inv.lst {pins:List (Addr×Obj)}{σ:St}{H:Hp}{s:Shared}{p:Addr}{xs:List V} (I:Inv X pins σ H s) (h:H p=some (.lst xs)) :
  ∃(its:List Value) (n:Nat),Vals xs its/\s.heap.get? p=some { cls:= .type "list",data:= .seq its.toArray n }/\xs.length<=sizeLine:=by
 obtain⟨z,its,n,r,e⟩:=I.hok p _ h;exact⟨its,n,r,e,z⟩
theorem Inv.lstUpd {pins:List (Addr×Obj)}{σ:St}{H:Hp}{s:Shared}{p:Addr}{xs ys:List V}{its its':List Value}{n n':Nat}{f:Obj->Obj} (I:Inv X pins σ H s) (h:H p=some (.lst xs))
  (ho:s.heap.get? p=some { cls:= .type "list",data:= .seq its.toArray n })(hf:f { cls:= .type "list",data:= .seq its.toArray n }={ cls:= .type "list",data:= .seq its'.toArray n' })(r:Vals ys its')(hz:ys.length<=sizeLine)(t:Nat) :
  Inv X pins σ (upd H p (.lst ys)) { s with heap:=s.heap.update p f,toks:=t }:=by
 have e:(s.heap.update p f).get? p=some { cls:= .type "list",data:= .seq its'.toArray n' }:=by
  rw[Heap.get?_update_self f ho (by rw[hf]<;>rfl),hf]
 refine I.write (x:=p) (e:=p) (by rw[h];trivial) (.inl rfl) (fun b u hb q=>(Heap.get?_update_other _ _ (Ne.symm hb)).trans q) ⟨_,e⟩ ?_;exact⟨hz,its',n',r,e⟩
def SZ:V->V->V->Hp->(Hp->Prop)->Prop:=fun o i v H Q=>∃p xs k j,o= .ref p/\i= .int k/\H p=some (.lst xs)/\ixN xs.length k=some j/\Q (upd H p (.lst (xs.set j v)))
theorem Q3:ZQ X SZ:=by
 intro pins s σ H o i v ov iv u Q I ro ri rv h;obtain⟨p,xs,k,j,rfl,rfl,hp,hj,q⟩:=h;cases ro;obtain⟨t,rfl⟩:=ri;obtain⟨its,n,r,ho,hz⟩:=I.lst hp;obtain⟨h1,h2,h3,h4⟩:=IR hj;have hl:=r.length;have hn:=rS;have I':Inv X pins σ (upd H p (.lst (xs.set j v))) { s with heap:=s.heap.update p (Obj.mapSeq (·.setIfInBounds j u)) } :=
  I.lstUpd hp ho (LO its n j u) (r.set rv j) (by rw[List.length_set];exact hz) s.toks
 by_cases h0:0<=k
 ·have hk:k.toNat=j:=by
   rw[seqIndex_of h0 h4]at h1;exact Option.some.inj h1
  exact PySem.W.ki_setAt ho h0 (by lia) (by rw[List.size_toArray,←hl];exact h4) (by rw[hk];exact⟨_,I',q⟩)
 ·have hk:(k+(its.toArray.size:Int)).toNat=j:=by
   rw[seqIndex_neg (by lia) h3]at h1;rw[List.size_toArray,←hl];exact Option.some.inj h1
  exact PySem.W.ki_setBack ho (by lia) (by rw[List.size_toArray,←hl];exact h3) (by lia) (by rw[hk];exact⟨_,I',q⟩)
theorem E8 (lo hi:Option Int)(n:Nat):(sliceBounds lo hi none n).1=((HT.sIx n 0 lo:Nat):Int)/\(sliceBounds lo hi none n).2.1=((HT.sIx n n hi:Nat):Int)/\(sliceBounds lo hi none n).2.2=1:=by
 refine⟨?_,?_,rfl⟩
 ·cases lo with
  | none=>simp[sliceBounds,HT.sIx]
  | some i =>
   simp only[sliceBounds,HT.sIx,Option.getD_none,show (1:Int)>0 by decide,if_true]
   by_cases h:i<0
   ·simp only[h,if_true]<;>lia
   ·simp only[h,if_false]<;>lia
 ·cases hi with
  | none=>simp[sliceBounds,HT.sIx]
  | some i =>
   simp only[sliceBounds,HT.sIx,Option.getD_none,show (1:Int)>0 by decide,if_true]
   by_cases h:i<0
   ·simp only[h,if_true]<;>lia
   ·simp only[h,if_false]<;>lia
theorem C0 (its:List Value)(lo hi:Option Int):slicePick its.toArray lo hi none=((its.drop (HT.sIx its.length 0 lo)).take (HT.sIx its.length its.length hi - HT.sIx its.length 0 lo)).toArray:=by
 obtain⟨h1,h2,h3⟩:=E8 lo hi its.toArray.size;unfold slicePick;rw[h1,h2,h3];simp only[sliceRange_one,pick_run,List.size_toArray]<;>rfl
def ZL (K:PySem.W.Frag):V->Option Int->Option Int->Hp->VK->Prop:=fun x lo hi H Q=>∃a xs,x= .ref a/\SqL K H a xs/\∀p,H p=none->Q (.ref p) (upd H p (.lst (xM xs lo hi)))
theorem VJ:SlR X (ZL X.K):=by
 intro pins s σ H x v vl vu lo hi sl Q I rx hs pl pu h;obtain⟨a,xs,rfl,hx,q⟩:=h;cases rx;obtain⟨its,r,ht,hz⟩:=I.list hx;have hlen:=r.length;refine⟨"list",_,slot_list_getitem.lookup,ht.isList.typeIs,?_⟩;refine wpAny_getItem_list_slice ht.isList hs pl pu .none (by simp) ?_ (by rw[List.size_toArray]<;>lia);rw[C0,←hlen];refine⟨.ref s.heap.objs.size,_,I.laid (t':=s.toks) (o:= .lst (xM xs lo hi)) (fun b ob q=>Heap.get?_push_of_some _ q) (Nat.le_refl _) ?_,rfl,q _ (I.hok.fresh (Nat.le_refl _))⟩;exact⟨Nat.le_trans (HL xs lo hi) hz,_,0,(r.drop (HT.sIx xs.length 0 lo)).take (HT.sIx xs.length xs.length hi - HT.sIx xs.length 0 lo),Heap.get?_push_size _ rfl⟩
def i5:V->Bool
 | .non=>true
 | .bl _=>true
 | .int _=>true
 | .str _=>true
 | _=>false
def eqV:V->V->Bool
 | .non,.non=>true
 | .bl a,.bl b=>a==b
 | .bl a,.int b=>(if a then 1 else 0)==b
 | .int a,.bl b=>a==(if b then 1 else 0)
 | .int a,.int b=>a==b
 | .str a,.str b=>a==b
 | _,_=>false
theorem N6 {A:Around}{s:Shared}{y x:V}{u v:Value} (ry:RelV y u) (rx:RelV x v) (fy:i5 y=true) (fx:i5 x=true):SeqAt.EqAt A s u v (eqV y x):=by
 cases y with
 | non =>
  cases ry;cases x with
  | non=>cases rx;exact SeqAt.EqAt.same _
  | bl b=>cases rx;exact SeqAt.EqAt.none_bool b
  | int b=>obtain⟨t,rfl⟩:=rx;exact SeqAt.EqAt.none_int b t
  | str b=>obtain⟨t,rfl⟩:=rx;exact SeqAt.EqAt.none_str b t
  | _=>exact absurd (show false=true from fx) Bool.false_ne_true
 | bl a =>
  cases ry;cases x with
  | non=>cases rx;exact SeqAt.EqAt.bool_none a
  | bl b=>cases rx;exact SeqAt.EqAt.bool_bool a b
  | int b=>obtain⟨t,rfl⟩:=rx;exact SeqAt.EqAt.bool_int a b t
  | str b=>obtain⟨t,rfl⟩:=rx;exact SeqAt.EqAt.bool_str a b t
  | _=>exact absurd (show false=true from fx) Bool.false_ne_true
 | int a =>
  obtain⟨t',rfl⟩:=ry;cases x with
  | non=>cases rx;exact SeqAt.EqAt.int_none a t'
  | bl b=>cases rx;exact SeqAt.EqAt.int_bool a t' b
  | int b=>obtain⟨t,rfl⟩:=rx;exact SeqAt.EqAt.int_int a t' b t
  | str b=>obtain⟨t,rfl⟩:=rx;exact SeqAt.EqAt.int_str a t' b t
  | _=>exact absurd (show false=true from fx) Bool.false_ne_true
 | str a =>
  obtain⟨t',rfl⟩:=ry;cases x with
  | non=>cases rx;exact SeqAt.EqAt.str_none a t'
  | bl b=>cases rx;exact SeqAt.EqAt.str_bool a t' b
  | int b=>obtain⟨t,rfl⟩:=rx;exact SeqAt.EqAt.str_int a t' b t
  | str b=>obtain⟨t,rfl⟩:=rx;exact SeqAt.EqAt.str_str a t' b t
  | _=>exact absurd (show false=true from fx) Bool.false_ne_true
 | _=>exact absurd (show false=true from fy) Bool.false_ne_true
def eqU (x:V)(u:Value):Bool:=match u with
 | .none=>eqV .non x
 | .bool b=>eqV (.bl b) x
 | .int i _=>eqV (.int i) x
 | .str z _=>eqV (.str z) x
 | _=>false
theorem OR {x y:V}{u:Value} (r:RelV y u) (f:i5 y=true):eqU x u=eqV y x:=by
 cases y with
 | non=>cases r;rfl
 | bl b=>cases r;rfl
 | int i=>obtain⟨t,rfl⟩:=r;rfl
 | str z=>obtain⟨t,rfl⟩:=r;rfl
 | _=>exact absurd (show false=true from f) Bool.false_ne_true
theorem rX {x:V}:∀{xs:List V}{us:List Value},Vals xs us->xs.all i5=true->us.any (eqU x)=xs.any fun y=>eqV y x
 | _,_,.nil,_=>rfl
 | y::xs,u::us,.cons r t,f=>by
  rw[List.all_cons,Bool.and_eq_true]at f;rw[List.any_cons,List.any_cons,OR r f.1,rX t f.2]
theorem oZ {A:Around}{s:Shared}{x:V}{v:Value} (rx:RelV x v) (fx:i5 x=true):∀{xs:List V}{us:List Value},Vals xs us->xs.all i5=true->∀u∈us,SeqAt.EqAt A s u v (eqU x u)
 | _,_,.nil,_=>fun u hu=>by cases hu
 | y::xs,u::us,.cons r t,f=>fun u' hu=>by
  rw[List.all_cons,Bool.and_eq_true]at f;rcases List.mem_cons.mp hu with rfl|hu
  ·rw[OR r f.1];exact N6 r rx f.1 fx
  ·exact oZ rx fx t f.2 u' hu
def inV (x:V)(xs:List V):Bool:=xs.any fun y=>eqV y x
def rIn (K:PySem.W.Frag)(neg:Bool):R2:=fun x y H Q=>∃p xs,y= .ref p/\(SqL K H p xs∨SqT K H p xs)/\i5 x=true/\xs.all i5=true/\Q (.bl (if neg then !inV x xs else inV x xs)) H
theorem M6:OpR X (compareOp .In) (rIn X.K false):=by
 intro pins s σ H x y v u Q I rx ry h;obtain⟨p,xs,rfl,hq,fx,fs,q⟩:=h;cases ry;rcases hq with hq|hq
 ·obtain⟨its,r,pl,hz⟩:=I.list hq;refine SeqAt.in_listAt (eqU x) pl.isList (fun w hw=>oZ rx fx r fs w (by simpa using hw)) ⟨.bl _,H,I,rfl,?_⟩;rw[show its.toArray.any (eqU x)=its.any (eqU x) by simp,rX r fs];exact q
 ·obtain⟨its,r,pl,hz⟩:=I.tuple hq;refine SeqAt.in_tupleAt (eqU x) pl (fun w hw=>oZ rx fx r fs w (by simpa using hw)) ⟨.bl _,H,I,rfl,?_⟩;rw[show its.toArray.any (eqU x)=its.any (eqU x) by simp,rX r fs];exact q
theorem FN:OpR X (compareOp .NotIn) (rIn X.K true):=by
 intro pins s σ H x y v u Q I rx ry h;obtain⟨p,xs,rfl,hq,fx,fs,q⟩:=h;cases ry;rcases hq with hq|hq
 ·obtain⟨its,r,pl,hz⟩:=I.list hq;refine SeqAt.notIn_listAt (eqU x) pl.isList (fun w hw=>oZ rx fx r fs w (by simpa using hw)) ⟨.bl _,H,I,rfl,?_⟩;rw[show its.toArray.any (eqU x)=its.any (eqU x) by simp,rX r fs];exact q
 ·obtain⟨its,r,pl,hz⟩:=I.tuple hq;refine SeqAt.notIn_tupleAt (eqU x) pl (fun w hw=>oZ rx fx r fs w (by simpa using hw)) ⟨.bl _,H,I,rfl,?_⟩;rw[show its.toArray.any (eqU x)=its.any (eqU x) by simp,rX r fs];exact q
theorem D7:dL X (.builtin "len") (fun xs H Q=>∃p ys,xs=[.ref p]/\(SqL X.K H p ys∨SqT X.K H p ys)/\Q (.int ys.length) H):=by
 intro pins s σ H xs us Q I r h;obtain⟨p,ys,rfl,hq,q⟩:=h;obtain⟨u,rfl,rx⟩:=kN r;cases rx;have hn:=rS;rcases hq with hq|hq
 ·obtain⟨its,r',pl,hz⟩:=I.list hq;have hlen:=r'.length;exact Calls.call_len_list pl.isList (by simp only[List.size_toArray]<;>lia) ⟨.int ys.length,H,I.tok _,⟨s.toks+1,by rw[List.size_toArray,hlen]⟩,q⟩
 ·obtain⟨its,r',pl,hz⟩:=I.tuple hq;have hlen:=r'.length;exact len_tuple pl (by simp only[List.size_toArray]<;>lia) ⟨.int ys.length,H,I.tok _,⟨s.toks+1,by rw[List.size_toArray,hlen]⟩,q⟩
theorem D2:dL X (.builtin "len") (fun xs H Q=>∃z,xs=[.str z]/\z.length<=sizeLine/\Q (.int z.length) H):=by
 intro pins s σ H xs us Q I r h;obtain⟨z,rfl,hz,q⟩:=h;obtain⟨u,rfl,t,rfl⟩:=kN r;have hn:=rS;exact len_str (by lia) ⟨.int z.length,H,I.tok _,⟨_,rfl⟩,q⟩
theorem EY:dL X (.type "list") (fun xs H Q=>∃p ys,xs=[.ref p]/\(SqL X.K H p ys∨SqT X.K H p ys)/\∀l,H l=none->Q (.ref l) (upd H l (.lst ys))):=by
 intro pins s σ H xs us Q I r h;obtain⟨p,ys,rfl,hq,q⟩:=h;obtain⟨u,rfl,rx⟩:=kN r;cases rx;have fin:∀(its:List Value),Vals ys its->ys.length<=sizeLine->∀(h':Heap) (c':Nat),(∀b o',s.heap.get? b=some o'->h'.get? b=some o') →
   h'.get? s.heap.objs.size=some { cls:= .type "list",dict:=none,data:= .seq its.toArray c',slots:= #[] }->EP X pins σ Q (.ref s.heap.objs.size) { s with heap:=h' }:=fun its r' hz h' c' kp e =>
  ⟨.ref s.heap.objs.size,_,I.laid (t':=s.toks) kp (Nat.le_refl _) (show ObjOk X.prog X.w _ h' _ (.lst ys) from⟨hz,its,c',r',e⟩),rfl,q _ (I.hok.fresh (Nat.le_refl _))⟩
 rcases hq with hq|hq
 ·obtain⟨its,r',pl,hz⟩:=I.list hq;have hlen:=r'.length;obtain⟨o,ho,hc,n,hd⟩:=pl.isList;exact call_list_seq p (.inl rfl) ho hc hd (fun h' c' kp e=>fin its r' hz h' c' kp e) (by simp only[List.size_toArray]<;>lia)
 ·obtain⟨its,r',pl,hz⟩:=I.tuple hq;have hlen:=r'.length;obtain⟨o,ho,hc,n,hd⟩:=pl;exact call_list_seq p (.inr rfl) ho hc hd (fun h' c' kp e=>fin its r' hz h' c' kp e) (by simp only[List.size_toArray]<;>lia)
def tyV (K:PySem.W.Frag)(T:String)(x:V)(H:Hp):Prop:=match x with
 | .str _=>T= "str"
 | .int _=>T= "int"
 | .ref p=>(T= "list" /\∃xs,SqL K H p xs)∨(T= "tuple" /\∃o,K.lookup p=some o/\o.cls= .type "tuple" /\o.dict=none) ∨
   (T= "dict" /\((∃kvs,H p=some (.dK kvs))∨∃kvs,H p=some (.dT kvs)))∨(T= "set" /\∃S n,H p=some (.set S n))
 | _=>False
theorem NR {pins:List (Addr×Obj)}{σ:St}{H:Hp}{s:Shared}{T:String}{x:V}{v:Value} (I:Inv X pins σ H s) (r:RelV x v) (ty:tyV X.K T x H) :
  s.TypeIs v T/\∀a,v= .ref a->∃ob,s.heap.get? a=some ob/\ob.dict=none:=by
 cases x with
 | str z =>
  obtain⟨t,rfl⟩:=r;cases (show T= "str" from ty);exact⟨typeIs_str s z t,fun _ e=>nomatch e⟩
 | int i =>
  obtain⟨t,rfl⟩:=r;cases (show T= "int" from ty);exact⟨typeIs_int s i t,fun _ e=>nomatch e⟩
 | ref p =>
  cases r;rcases ty with⟨rfl,xs,hq⟩|⟨rfl,o,hk,hc,hd⟩|⟨rfl,hk⟩|⟨rfl,S,n,hk⟩
  ·obtain⟨its,_,pl,_⟩:=I.list hq;refine⟨pl.isList.typeIs,fun a e=> ?_⟩;cases e;obtain⟨o,n,e,c,hd,_⟩:=pl;exact⟨o,e,hd⟩
  ·refine⟨⟨o,I.kIn p o hk,hc⟩,fun a e=> ?_⟩;cases e;exact⟨o,I.kIn _ o hk,hd⟩
  ·have z:∃o,s.heap.get? p=some o/\o.ExactDict:=by
    rcases hk with⟨kvs,hk⟩|⟨kvs,hk⟩
    ·obtain⟨_,_,_,_,o,_,_,e,ex,_⟩:=I.hok p _ hk;exact⟨o,e,ex⟩
    ·obtain⟨_,_,_,_,o,_,_,e,ex,_⟩:=I.hok p _ hk;exact⟨o,e,ex⟩
   obtain⟨o,e,ex⟩:=z;refine⟨⟨o,e,ex.1⟩,fun a e2=> ?_⟩;cases e2;exact⟨o,e,ex.2.1⟩
  ·obtain⟨o,_,_,_,e,ex,_⟩:=I.hok p _ hk;refine⟨⟨o,e,ex.1⟩,fun a e2=> ?_⟩;cases e2;exact⟨o,e,ex.2.1⟩
 | _=>exact False.elim ty
def aAR (K:PySem.W.Frag)(T:String)(r:V->List V->Hp->VK->Prop)(to:TE):TE:=fun σ H Q=>to σ H fun x H1=>tyV K T x H1/\r x [] H1 Q
def tBM (K:PySem.W.Frag)(T:String)(r:V->List V->Hp->VK->Prop)(to:TE)(t:TA):TE:=fun σ H Q=>to σ H fun x H1=>tyV K T x H1/\t σ H1 fun xs H2=>r x xs H2 Q
variable {o e:Expr}{es:List Expr}{to:TE}{t:TA}{name:Str}{apos cpos:Pos}{T id:String}{r:V->List V->Hp->VK->Prop}
theorem aAt (pa:PlainAttrs T)(slot:Slot T name id)(hty:typeOf (.builtin id)=pure (.type "method_descriptor"))(hm:MtR X id r)(ho:PE X o to)
  (hbase:attributeBase o name X.env (eval o X.env)=eval o X.env:=by rfl)(hline:(apos.endLine==cpos.line)=true:=by rfl):PE X (.Call (.Attribute o name apos) [] [] cpos) (aAR X.K T r to):=by
 intro pins s σ H Q I h;refine wpAny_Call_method0_late hbase hline (thn (ho pins s σ H _ I h) fun v s1 ⟨x,H1,I1,r1,ty,q1⟩=> ?_);obtain⟨h1,h2⟩:=NR I1 r1 ty;exact⟨T,id,pa,slot,hty,h1,h2,Calls.callWith_builtin rfl (PySem.evalArgs_none (hm pins s1 σ H1 x [] v [] Q I1 r1 .nil q1))⟩
theorem mK (pa:PlainAttrs T)(slot:Slot T name id)(hty:typeOf (.builtin id)=pure (.type "method_descriptor"))(hm:MtR X id r)(ho:PE X o to)(ha:PA X (e::es) t)
  (hbase:attributeBase o name X.env (eval o X.env)=eval o X.env:=by rfl)
  (hfew:((backTo cpos (starEach (e::es) X.env)).all (fun x=> !x.1)&&(backToKw cpos (keywordEach [] X.env)).all (fun x=>x.1.isSome)
   && decide ((e::es).length+([]:List Keyword).length+(if ([]:List Keyword).isEmpty then 0 else 1)<30))=true:=by rfl)
  (hline:(apos.endLine==cpos.line)=true:=by rfl)(hs:starEach (e::es) X.env=(false,eval e X.env)::starEach es X.env:=by rfl)(hplain:(backTo cpos (starEach es X.env)).any (·.1)=false:=by rfl) :
  PE X (.Call (.Attribute o name apos) (e::es) [] cpos) (tBM X.K T r to t):=by
 intro pins s σ H Q I h;refine wpAny_Call_method_late hbase hfew hline rfl (thn (ho pins s σ H _ I h) fun v s1 ⟨x,H1,I1,r1,ty,q1⟩=> ?_);obtain⟨h1,h2⟩:=NR I1 r1 ty;refine⟨T,id,pa,slot,hty,h1,h2,?_⟩;have hA:=ha cpos pins s1 σ H1 _ I1 q1;rw[hs]at hA ⊢;refine Calls.callWith_builtin (by show (false||(backTo cpos (starEach es X.env)).any (·.1))=false;rw[hplain]<;>rfl) (Calls.evalArgs_plain ?_);exact thn hA fun us s2 ⟨vs,H2,I2,r2,q2⟩=>hm pins s2 σ H2 x vs v us Q I2 r1 r2 q2
end
end L2
namespace L2
open PySem PySem.Spec PyProof.Rows
def MtM (X:Cx)(id:String)(r:V->List V->Hp->VK->Prop):Prop :=
 ∀(pins:List (Addr×Obj)) (s:Shared) (σ:St) (H:Hp) (x:V) (xs:List V) (v:Value) (us:List Value) (Q:VK),Inv X pins σ H s->RelV x v->Vals xs us->r x xs H Q →
  wpAny (model X.prog X.w) X.A (call (.builtin id) (v::us)) (EP X pins σ Q) X.xe s
theorem Vals.one:∀{x:V}{us:List Value},Vals [x] us->∃u,us=[u]/\RelV x u
 | _,_,.cons r .nil=>⟨_,rfl,r⟩
theorem Vals.rep {xs:List V}{us:List Value} (h:Vals xs us):∀k:Nat,Vals (List.replicate k xs).flatten (List.replicate k us).flatten
 | 0=> .nil
 | k+1=>by
  rw[List.replicate_succ,List.replicate_succ,List.flatten_cons,List.flatten_cons];exact Vals.append h (Vals.rep h k)
theorem BC (its:List Value):∀(k:Nat) (acc:List Value),
  List.foldl (fun x1 x2=>x1++x2) acc.toArray (List.replicate k its.toArray)=(acc++(List.replicate k its).flatten).toArray
 | 0,acc=>by simp
 | k+1,acc=>by
  have e:acc.toArray++its.toArray=(acc++its).toArray:=by simp
  have e2:(acc++its)++(List.replicate k its).flatten=acc++(List.replicate (k+1) its).flatten:=by
   rw[List.replicate_succ,List.flatten_cons,List.append_assoc]
  rw[←e2,←BC its k (acc++its),←e,List.replicate_succ,List.foldl_cons]
section
variable {X:Cx}{pins:List (Addr×Obj)}{σ:St}{H:Hp}{s:Shared}{l b:Addr}{xs ys zs:List V}
theorem Inv.lset {its its':List Value}{n:Nat}{f:Array Value->Array Value}{t':Nat} (I:Inv X pins σ H s) (hH:H l=some (.lst xs))
  (e:s.heap.get? l=some { cls:= .type "list",data:= .seq its.toArray n })(hf:f its.toArray=its'.toArray)(hv:Vals ys its')(hz:ys.length<=sizeLine) :
  Inv X pins σ (upd H l (.lst ys)) { s with heap:=s.heap.update l (Obj.mapSeq f),toks:=t' }:=by
 have q:=PySem.IsL.update e f;rw[hf]at q;refine I.write (x:=l) (e:=l) (by rw[hH];exact trivial) (.inl rfl) (fun b' u hb hu=>(Heap.get?_update_other s.heap (Obj.mapSeq f) (Ne.symm hb)).trans hu) ⟨_,q⟩ ?_;exact⟨hz,its',_,hv,q⟩
theorem Inv.lnew {its:List Value}{t':Nat} (I:Inv X pins σ H s) (hv:Vals ys its) (hz:ys.length<=sizeLine) :
  Inv X pins σ (upd H s.heap.objs.size (.lst ys)) { s with heap:=s.heap.push { cls:= .type "list",data:= .seq its.toArray },toks:=t' } :=
 I.laid (fun _ _ q=>Heap.get?_push_of_some _ q) (Nat.le_refl _) ⟨hz,its,0,hv,Heap.get?_push_size _ rfl⟩
theorem Inv.fresh (I:Inv X pins σ H s):H s.heap.objs.size=none:=I.hok.fresh (Nat.le_refl _)
theorem Inv.lstM (I:Inv X pins σ H s)(hH:H l=some (.lst xs)):xs.length<=sizeLine/\∃(its:List Value) (n:Nat),Vals xs its/\xs.length=its.length/\s.heap.get? l=some { cls:= .type "list",data:= .seq its.toArray n }:=by
 obtain⟨z,its,n,r,e⟩:=I.hok l _ hH;exact⟨z,its,n,r,r.length,e⟩
theorem D4 {n:Nat}(h:n<=sizeLine):Builtin.List.listTooLong n=false:=by
 unfold Builtin.List.listTooLong;exact decide_eq_false (by lia)
end
section
variable {X:Cx}
def JK:V->List V->Hp->VK->Prop:=fun x vs H Q=>∃l xs y,x= .ref l/\vs=[y]/\H l=some (.lst xs)/\xs.length<sizeLine/\Q .non (upd H l (.lst (xs++[y])))
theorem iS:MtM X "list.append" JK:=by
 intro pins s σ H x vs v us Q I rx rv h;obtain⟨l,xs,y,rfl,rfl,hH,hz,q⟩:=h;cases rx;obtain⟨u,rfl,ru⟩:=rv.one;obtain⟨z,its,n,r,hl,e⟩:=I.lstM hH;refine call_meets F.slot_list_append ⟨_,e,rfl⟩ F.entry_list_append (F.args_list_append_2 _ _) (PySem.list_append l its.toArray n u (by rw[List.size_toArray];lia)) ⟨e,?_⟩;refine⟨.non,_,I.lset (its':=its++[u]) hH e (by simp) (r.append (.cons ru .nil)) ?_,rfl,q⟩;rw[List.length_append,List.length_singleton]
 lia
def IK:V->List V->Hp->VK->Prop:=fun x vs H Q=>∃l b xs zs,x= .ref l/\vs=[.ref b]/\H l=some (.lst xs)/\H b=some (.lst zs)/\xs.length+zs.length<=sizeLine/\Q .non (upd H l (.lst (xs++zs)))
theorem NG:MtM X "list.extend" IK:=by
 intro pins s σ H x vs v us Q I rx rv h;obtain⟨l,b,xs,zs,rfl,rfl,hH,hB,hz,q⟩:=h;cases rx;obtain⟨u,rfl,ru⟩:=rv.one;cases ru;obtain⟨z,its,n,r,hl,e⟩:=I.lstM hH;obtain⟨z2,its2,n2,r2,hl2,e2⟩:=I.lstM hB;have hsz:its.toArray.size+its2.toArray.size<=sizeLine:=by rw[List.size_toArray,List.size_toArray];lia
 have hlong:¬(!its.toArray.isEmpty&&Builtin.List.listTooLong (its.toArray.size+its2.toArray.size))=true:=by
  rw[D4 hsz,Bool.and_false];exact Bool.false_ne_true
 refine call_meets F.slot_list_extend ⟨_,e,rfl⟩ F.entry_list_extend (F.args_list_extend_2 _ _)
  (AutoSeq1.list_extend_list_list_0 l its.toArray n b its2.toArray n2 hlong (by rw[List.size_toArray];lia) (by lia)) ⟨e,e2,?_⟩
 refine⟨.non,_,I.lset (its':=its++its2) hH e (by simp) (r.append r2) ?_,rfl,q⟩;rw[List.length_append]
 lia
def YD:R2:=fun x y H Q=>∃l b xs zs,x= .ref l/\y= .ref b/\H l=some (.lst xs)/\H b=some (.lst zs)/\xs.length+zs.length<=sizeLine/\∀p,H p=none->Q (.ref p) (upd H p (.lst (xs++zs)))
theorem uL:OpR X (binaryOp .Add) YD:=by
 intro pins s σ H x y v u Q I rx ry h;obtain⟨l,b,xs,zs,rfl,rfl,hH,hB,hz,q⟩:=h;cases rx;cases ry;obtain⟨z,its,n,r,hl,e⟩:=I.lstM hH;obtain⟨z2,its2,n2,r2,hl2,e2⟩:=I.lstM hB;refine PySem.P.add_list e e2 ?_ (by rw[List.size_toArray,List.size_toArray];lia);have ea:its.toArray++its2.toArray=(its++its2).toArray:=by simp
 rw[ea];exact⟨.ref _,_,I.lnew (t':=s.toks) (r.append r2) (by rw[List.length_append];lia),rfl,q _ I.fresh⟩
def Y2:R2:=fun x y H Q=>∃l k xs,x= .ref l/\y= .int k/\H l=some (.lst xs)/\ -(2^63)<=k/\k<2^63/\xs.length * k.toNat<=sizeLine ∧
 ∀p,H p=none->Q (.ref p) (upd H p (.lst (List.replicate k.toNat xs).flatten))
theorem WC {α:Type}(xs:List α)(k:Nat):(List.replicate k xs).flatten.length=k * xs.length:=by
 induction k with
 | zero=>simp
 | succ k ih=>rw[List.replicate_succ,List.flatten_cons,List.length_append,ih,Nat.succ_mul,Nat.add_comm]
theorem aAn:OpR X (binaryOp .Mult) Y2:=by
 intro pins s σ H x y v u Q I rx ry h;obtain⟨l,k,xs,rfl,rfl,hH,h1,h2,hz,q⟩:=h;cases rx;obtain⟨t,rfl⟩:=ry;obtain⟨z,its,n,r,hl,e⟩:=I.lstM hH;have hlen:its.toArray.size * k.toNat<=sizeLine:=by rw[List.size_toArray,←hl];exact hz
 have hcap:¬its.toArray.size * k.toNat>(2^63 - 1)/8:=by
  have:(sizeLine:Nat)<=(2^63 - 1)/8:=by decide
  lia
 have hfit:¬(!Builtin.List.listFitsIndex k)=true:=by
  rw[fitsIndex_both h1 h2];exact Bool.false_ne_true
 have hlong:¬Builtin.List.listTooLong (its.toArray.size * k.toNat)=true:=by
  rw[D4 hlen];exact Bool.false_ne_true
 have hnew:List.foldl (fun x1 x2=>x1++x2) #[] (List.replicate (if its.toArray.isEmpty=true then 0 else k.toNat) its.toArray)=(List.replicate k.toNat its).flatten.toArray:=by
  have f0:∀m:Nat,List.foldl (fun x1 x2=>x1++x2) #[] (List.replicate m its.toArray)=(List.replicate m its).flatten.toArray:=fun m=>by
   have:=BC its m [];rw[List.nil_append]at this;exact this
  rw[f0];cases its with
  | nil=>simp
  | cons a r'=>rw[if_neg (by simp)]
 refine wpAny_binaryOp_repeat_ref (T:= "list") (U:= "int") (by decide) ⟨_,e,rfl⟩ (fun s'=>typeIs_int s' k t) noFill_list_mul F.fills_int_mul F.slot_int_rmul repeat_list F.slot_int_index.lookup
  (call_meets F.slot_int_rmul (typeIs_int s k t) F.entry_int_rmul (F.args_int_rmul_2 _ _) (int___rmul___int_list k t l its.toArray n)
   ⟨e,rfl,⟨_,e,rfl⟩,call_meets F.slot_list_mul ⟨_,e,rfl⟩ F.entry_list_mul (F.args_list_mul_2 _ _) (AutoListH.list___mul___list_int_3 l its.toArray n k t hfit hcap hlong) ⟨e,?_⟩⟩)
 rw[hnew];exact⟨.ref _,_,I.lnew (t':=s.toks) (r.rep k.toNat) (by rw[WC,Nat.mul_comm];exact hz),rfl,q _ I.fresh⟩
end
section
variable {prog:Program}{w:World}{A:Around}{E:Value->Shared->Prop}{s:Shared}
set_option maxRecDepth 100000 in
end
section
variable {X:Cx}
end
end L2
namespace Att
open PySem PySem.W PySem.Calls PyProof.Rows
theorem yQ {P:Params}{h:Heap}:∀(ns:List Int) (vs:List Value),WellAll P h vs (ns.map WData.int)->IntsAre vs ns:=by
 intro ns
 induction ns with
 | nil =>
  intro vs w;rw[List.map_nil]at w;cases w;exact .nil
 | cons n ns ih =>
  intro vs w;rw[List.map_cons]at w;cases w with
  | cons a b =>
   cases a;exact .cons _ _ (ih _ b)
theorem MY {l:OpenLaw}{n:Nat} (hn:l.most=some n) {P:Params}{h:Heap}{args:List WData}{vals:List Value}
  (hpre:l.row.toRowW.claim.pre args=true)(hwl:WellAll P h vals args) :
  ∃a vs ns,vals=[Value.ref a]/\args=[WData.list (ns.map WData.int)]/\h.get? a=some { cls:= .type "list",data:= .seq vs.toArray }/\IntsAre vs ns/\ns.length<=n:=by
 have hsh:WShape.hasAll [] args [.list .int]=true:=(pre_splitW hpre).1;have hc:l.pre.holds [] { args:=args }=true:=(pre_splitW hpre).2;obtain⟨d,r,rfl,h1,h2⟩:=hasAllW_cons hsh;obtain rfl:=hasAllW_nil h2;obtain⟨xs,rfl,h3⟩:=hasW_list h1;obtain⟨ns,rfl⟩:=items_int h3;have hlen:ns.length<=n:=by
  unfold OpenLaw.pre at hc;have h4:(WTm.not (.lt (.lit (.int (n:Int))) (.len (.arg 0)))).holds [] { args:=[.list (ns.map .int)] }=true:=by
   have h4:=(holds_andW hc).1;rw[hn]at h4;exact h4
  have h5:=condW_of h4 (w_not (w_lt w_lit (w_len_list (w_arg rfl))));rw[List.length_map]at h5;refine Nat.le_of_not_lt fun q=> ?_;have q':(n:Int)<((ns.length:Nat):Int):=by lia
  first
   | (rw[decide_eq_true q']at h5;exact absurd h5 (by decide))
   | (simp at h5;lia)
 cases hwl with
 | cons w1 w2 =>
  cases w2;cases w1 with
  | list ho hall=>exact⟨_,_,ns,rfl,rfl,ho,yQ ns _ hall,hlen⟩
theorem NC (l:OpenLaw)(args:List WData):l.row.toRowW.claim.post args (.bool true) args=true :=
 postW_of (r:=l.row.toRowW) (X:=(true==true))
  (show WShape.has [] (.bool true) .bool=true by first|rfl|decide|simp[WShape.has,WShape.arms,WShape.armsAll])
  (show (WTm.eq .res (.lit (.bool true))).value [] { args:=args,res:=some (.bool true),after:=args }=some (.bool (true==true)) from w_eq_bool (w_res rfl) w_lit) rfl
theorem attach_call {l:OpenLaw}{n:Nat}{q:Program}{loose:List Str}{XP:(Str->Option Value)->Heap->Prop}{YP:World->Heap->Prop}{d:DefRec}
  (hn:l.most=some n)(hdf:d.params.defaults=[])
  (call:∀(w:World) (s₀ s₁:Shared) (mg mb:Str->Option Value) (fa:Addr) (o:Obj) (pm cd doc:Value) (a:Addr) (vs:List Value) (ns:List Int),
   Ground q loose [] XP w s₀ mg mb s₁.heap->YP w s₁.heap →
   s₁.heap.get? fa=some o->o.data= .func (docDef d.name d.params d.body d.scope pm cd doc)->s₁.heap.CodeRec cd d.name->mg d.name=some (.ref fa) →
   s₁.heap.get? a=some { cls:= .type "list",data:= .seq vs.toArray }->IntsAre vs ns->ns.length<=n->s₁.gens= #[] →
   codeAny (model l.prog w) callerA (.call (.ref fa) ⟨[.ref a],[]⟩) (fun r s'=>r= .ok (.ret (.bool true))/\OldK s₁.heap s'.heap/\s'.os=s₁.os/\AllBare s'.gens) s₁) :
  WalkO q loose XP YP l.row.toRowW d [] (fun f vs=>PySem.call f vs):=by
 intro w s₀ s₁ mg mb G Y fa o pm cd doc dV kV ho hd hcd hD hmg hg args vals as hpre hlay hrd hwl hlo;obtain rfl:dV= .none:=Dflts.none hD hdf;obtain rfl:kV= .none:=Dflts.noKw hD;obtain⟨a,vs,ns,rfl,rfl,hobj,hints,hlen⟩:=MY hn hpre hwl;refine enter_call (codeAny_mono (call w s₀ s₁ mg mb fa o pm cd doc a vs ns G Y ho (fd_plain hd) hcd hmg hobj hints hlen hg) fun r s' hq=> ?_);obtain⟨rfl,h2,h3,h4⟩:=hq;exact⟨.inl ⟨.bool true,.bool true,[],rfl,fun _=>rfl,.bool true,NC l _,fun _=>⟨List.Pairwise.nil,fun _ hm=>(nomatch hm)⟩⟩,h2,h3,h4⟩
section
variable {prog:Program}{w:World}{A:Around}{E:Value->Shared->Prop}{s:Shared}{K:Frag}
end
end Att
namespace L2
open PySem PySem.Spec PyProof.Rows
theorem A9:∀{vs:List Value}{ns:List Int},IntsAre vs ns->Vals (ns.map V.int) vs
 | _,_,.nil=> .nil
 | _,_,.cons n t h=> .cons ⟨t,rfl⟩ (A9 h)
def SF (H:Hp):Prop:=∀b,H b=none∨∃o xs,H b=some (.frz o (.lst xs))
theorem PZ {P:Program}{w:World}{K:PySem.W.Frag}{mg mb:Str->Option Value}{CX:CXT}{k:Nat}{fa a:Addr}{fd:FuncData}{x:Str}{sp:Sp}{s₁:Shared}{vs:List Value}{ns:List Int}
  (KX:K.In s₁.heap)(hns:s₁.heap.Ns mainGlobals mg)(hb:s₁.heap.Ns builtinsNs mb)(hbb:∀x:Str,x≠ "__name__" ->mb x=bootBuiltins x)(hlim:s₁.heap.NoLimit)(hg:s₁.gens= #[])
  (ha:s₁.heap.get? a=some { cls:= .type "list",data:= .seq vs.toArray })(hi:IntsAre vs ns)(hl:ns.length<=sizeLine)(hr:Room k callerA)
  (F:∀base:Heap,K.In base->base.Ns mainGlobals mg->bK P w K mg base CX k fa fd [x] sp)(hbind:∀(s:Shared) (u:Value),BindsTo s fd ⟨[u],[]⟩ [(x,u)])
  (hsp:∀H:Hp,SF H->SqL K H a (ns.map V.int)->sp [.ref a] H (fun v _=>v= .bl true) fun _ _ _=>False)
  (hCX:∀H e s',CX [] H s₁ (fun _ _ _=>False) e s'->False) :
  codeAny (model P w) callerA (.call (.ref fa) ⟨[.ref a],[]⟩) (fun r s'=>r= .ok (.ret (.bool true))/\OldK s₁.heap s'.heap/\s'.os=s₁.os/\AllBare s'.gens) s₁:=by
 have rv:=A9 hi;have lenV:=hi.length;have core:∀H:Hp,SF H->SqL K H a (ns.map V.int)->HOk P w H s₁.heap->(∀b,H b≠none->b=a)->(H a≠none->K.lookup a=none) →
   codeAny (model P w) callerA (.call (.ref fa) ⟨[.ref a],[]⟩) (fun r s'=>r= .ok (.ret (.bool true))/\OldK s₁.heap s'.heap/\s'.os=s₁.os/\AllBare s'.gens) s₁:=by
  intro H hO hS hok hA hK;have base_of:∀{b:Addr}{o:Obj},s₁.heap.get? b=some o->H b=none->(sM s₁.heap H).get? b=some o:=fun e n=>QX e n;have noA:∀{b:Addr}{o:Obj}{es:Array DictEntry}{ep:Nat},s₁.heap.get? b=some o->o.data= .dict es ep->H b=none:=fun {b o es ep} e d=>by
   cases q:H b with
   | none=>rfl
   | some u =>
    have e':b=a:=hA b (by rw[q];simp);subst e';rw[ha]at e;cases e;have d':Data.seq vs.toArray _=Data.dict es ep:=d;cases d'
  have nsK:∀{b:Addr}{m:Str->Option Value},s₁.heap.Ns b m->(sM s₁.heap H).Ns b m:=fun {b m} ⟨o,es,ep,e,d,r⟩=>⟨o,es,ep,base_of e (noA e d),d,r⟩
  have hKb:K.In (sM s₁.heap H):=fun b o e=>base_of (KX b o e) (by
   cases q:H b with
   | none=>rfl
   | some u =>
    have e':b=a:=hA b (by rw[q];simp);subst e';rw[hK (by rw[q];simp)]at e;cases e)
  have hM:Mod K mg (sM s₁.heap H):=⟨hKb,nsK hns,⟨mb,nsK hb,hbb⟩,let ⟨mc,h1,h2⟩:=hlim;⟨mc,nsK h1,h2⟩⟩
  have e0:Env0 P w K mg (sM s₁.heap H) callerA [] s₁ H:=⟨rfl,hM,fun b o e=>VR e,Nat.le_of_eq (M5 _ _),trivial,fun b hb=>absurd (show b∈([]:List Addr) from hb) (by simp),hok,.of_eq hg⟩
  refine codeAny_mono ((F _ hKb (nsK hns)).run callerA [] s₁ H ⟨[.ref a],[]⟩ [.ref a] [.ref a] _ _ hr e0 (hbind s₁ (.ref a)) (.cons rfl .nil) (hsp H hO hS)) fun r s' h=> ?_;cases r with
  | error e=>exact(hCX H e s' h).elim
  | ok fl =>
   cases fl with
   | next=>exact False.elim h
   | brk=>exact False.elim h
   | cont=>exact False.elim h
   | ret u =>
    obtain⟨v,H',os,bare,un,hok',r',q⟩:=h;have q':v= .bl true:=q;subst q';obtain rfl:u=Value.bool true:=r';refine⟨rfl,OldK.of_keep fun b o e=> ?_,os,bare⟩;cases q:H b with
    | none=>exact un.keep b o e q (by intro z;exact absurd (show b∈([]:List Addr) from z) (by simp)) (by simp)
    | some u =>
     rcases hO b with z|⟨ob,xs,z⟩
     ·rw[q]at z;cases z
     ·have z2:=un.frzs b ob _ z;obtain⟨e1,_⟩:=hok b _ z;obtain⟨e2,_⟩:=hok' b _ z2;rw[e]at e1;cases e1;exact e2
 cases hk:K.lookup a with
 | some o =>
  have e:=KX a o hk;rw[ha]at e;cases e;refine core (fun _=>none) (fun _=> .inl rfl) (.inr ⟨_,vs.toArray,_,hk,rfl,rfl,rfl,by rw[List.size_toArray,lenV];exact hl,by simpa using rv⟩) (fun b u z=>by have z':(none:Option HO)=some u:=z;cases z') (fun b z=>absurd rfl z) fun z=>absurd rfl z
 | none =>
  refine core (fun b=>if b=a then some (.frz { cls:= .type "list",data:= .seq vs.toArray } (.lst (ns.map V.int))) else none) (fun b=> ?_) (.inl (.inr ⟨{ cls:= .type "list",data:= .seq vs.toArray },if_pos rfl⟩)) (fun b u z=> ?_) (fun b z=> ?_) fun _=>hk
  ·by_cases hb:b=a
   ·exact .inr ⟨_,_,if_pos hb⟩
   ·exact .inl (if_neg hb)
  ·by_cases hb:b=a
   ·have z':=(if_pos hb).symm.trans z;cases z';subst hb;exact⟨ha,by rw[List.length_map];exact hl,vs,_,rv,ha⟩
   ·have z':=(if_neg hb).symm.trans z;cases z'
  ·by_cases hb:b=a
   ·exact hb
   ·exact absurd (if_neg hb) z
end L2
namespace L2
open PySem PySem.Spec PyProof.Rows
theorem walk_of {l:PySem.W.OpenLaw}{n k:Nat}{q:Program}{loose:List Str}{XP:(Str->Option Value)->Heap->Prop}{YP:World->Heap->Prop}{d:DefRec}{K:Params->PySem.W.Frag}{CX:World->CXT}{sp:World->Sp}{x:Str}
  (hn:l.most=some n)(hn2:n<=sizeLine)(hdf:d.params.defaults=[])(hr:Room k callerA)
  (hY:∀(w:World) (h:Heap),YP w h->(K w.params).In h)
  (F:∀(w:World) (mg:Str->Option Value) (fa:Addr) (h:Heap),(K w.params).In h->h.Ns mainGlobals mg->mg d.name=some (.ref fa) →
   ∃fd:FuncData,(∀(s:Shared) (u:Value),BindsTo s fd ⟨[u],[]⟩ [(x,u)]) ∧
    ∀base:Heap,(K w.params).In base->base.Ns mainGlobals mg->bK l.prog w (K w.params) mg base (CX w) k fa fd [x] (sp w))
  (hsp:∀(w:World) (H:Hp) (a:Addr) (ns:List Int),ns.length<=n->SF H->SqL (K w.params) H a (ns.map V.int)->sp w [.ref a] H (fun v _=>v= .bl true) fun _ _ _=>False)
  (hCX:∀(w:World) (H:Hp) (s:Shared) (e:Value) (s':Shared),CX w [] H s (fun _ _ _=>False) e s'->False) :
  PySem.W.WalkO q loose XP YP l.row.toRowW d [] (fun f vs=>PySem.call f vs):=by
 refine Att.attach_call hn hdf fun w s₀ s₁ mg mb fa o pm cd doc a vs ns G Y ho hd hcd hmg hobj hints hlen hg=> ?_;have KX:=hY w _ Y;obtain⟨fd,hb,hF⟩:=F w mg fa _ KX G.T.g hmg;exact PZ KX G.T.g G.T.b G.T.builtins G.T.nolimit hg hobj hints (Nat.le_trans hlen hn2) hr hF hb (fun H hO hS=>hsp w H a ns hlen hO hS) fun H e s'=>hCX w H s₁ e s'
end L2
namespace L2
open PySem PySem.Spec PyProof.Rows
def cS (s:Stmt)(j:Nat):Stmt:=match s with
 | .ClassDef _ _ _ body _ _ _ _ _ _ _=>body.getD j (.Pass ⟨0,0,0,0⟩)
 | _=> .Pass ⟨0,0,0,0⟩
def aM (s:Stmt):Arguments:=match s with
 | .FunctionDef _ a _ _ _ _ _ _ _ _=>a
 | _=>{ posonlyargs:=[],args:=[],vararg:=none,kwonlyargs:=[],kw_defaults:=[],kwarg:=none,defaults:=[] }
def aK (s:Stmt):List Stmt:=match s with
 | .FunctionDef _ _ b _ _ _ _ _ _ _=>b
 | _=>[]
def aD (s:Stmt):Scope:=match s with
 | .FunctionDef _ _ _ _ _ _ sc _ _ _=>sc
 | _=>{ kind:= .function,names:=[],isGenerator:=false,isCoroutine:=false }
abbrev CX0:CXT:=fun _ _ _ _ _ _=>False
abbrev E0:XK:=fun _ _ _=>False
theorem zI {X:Cx}:uP CX0 X E0:=fun _ _ _ _ _ _ _ h=>h.elim
section
variable {P:Program}{w:World}{K:PySem.W.Frag}{mg:Str->Option Value}{base:Heap}
end
theorem MF {n:Nat}(h:n<=1000):n<sizeLine:=Nat.lt_of_le_of_lt h (by decide)
section
variable {X:Cx}
theorem pv (i:Nat){x:Str}{pos:Pos} (hN:X.N[i]? =some x:=by rfl) (hv:Vis X.env.scope x:=by first|exact Or.inl rfl|exact Or.inr (Or.inl rfl)|exact Or.inr (Or.inr rfl)) (hd:(x==("__debug__" :Str))=false:=by decide)
  (hcd:(x==("__classdict__" :Str))=false:=by decide):PE X (.Name x pos) (lH i):=ZF hN hv hd hcd
end
theorem AI {c A B:Prop}[Decidable c](h1:c->A)(h2:¬c->B):if c then A else B:=by
 by_cases h:c
 ·rw[if_pos h];exact h1 h
 ·rw[if_neg h];exact h2 h
def Same (H H':Hp):Prop:=∀b o,H b=some o->H' b=some o
theorem Same.refl (H:Hp):Same H H:=fun _ _ h=>h
theorem Same.trans {H H1 H2:Hp}(a:Same H H1)(b:Same H1 H2):Same H H2:=fun c o h=>b c o (a c o h)
theorem Same.seq {K:PySem.W.Frag}{H H':Hp}{a:Addr}{xs:List V} (e:Same H H') (h:SqL K H a xs):SqL K H' a xs:=by
 rcases h with (h|⟨o,h⟩)|h
 ·exact .inl (.inl (e _ _ h))
 ·exact .inl (.inr ⟨o,e _ _ h⟩)
 ·exact .inr h
end L2
namespace L2
open PySem PySem.Spec PyProof.Rows
section
variable {X:Cx}{pins:List (Addr×Obj)}{σ:St}{H:Hp}{s:Shared}{D:Addr}{ys:List V}
theorem HOk.adds {P:Program}{w:World}{h:Heap}{o:HO} (x:HOk P w H h) (hn:H D=none) (new:ObjOk P w (upd H D o) h D o):HOk P w (upd H D o) h:=fun b u e=>by
 by_cases hb:b=D
 ·subst hb;rw[bM]at e;cases e;exact new
 ·rw[aU hb]at e;exact(x b u e).stay (fun c v _ q=>q) (fun c q=>by rw[aU (bN q hn)];exact q) fun c xs q=>by rw[aU (bN q hn)];exact q
theorem HOk.drops {P:Program}{w:World}{h:Heap} (x:HOk P w (upd H D (.lst ys)) h) (hn:H D=none):HOk P w H h:=fun b u e=>by
 have hb:b≠D:=bN e hn;refine(x b u (by rw[aU hb];exact e)).stay (fun c v _ q=>q) (fun c q=> ?_) fun c xs q=> ?_
 ·by_cases hc:c=D
  ·subst hc;rw[bM]at q;cases q
  ·rw[aU hc]at q;exact q
 ·by_cases hc:c=D
  ·subst hc;rw[bM]at q;cases q
  ·rw[aU hc]at q;exact q
theorem Inv.track {its:List Value}{n:Nat} (I:Inv X pins σ H s) (hn:H D=none) (e:s.heap.get? D=some { cls:= .type "list",data:= .seq its.toArray n }) (r:Vals ys its) (hz:ys.length<=sizeLine)
  (h0:X.s₀.heap.objs.size<=D)(h1:D≠X.env.locals)(h2:∀x c,X.env.cells.lookup x=some c->c≠D)(h3:∀p∈X.pn++pins,p.1≠D):Inv X pins σ (upd H D (.lst ys)) s where
 ok:=I.ok
 os:=I.os
 bare:=I.bare
 base:=by
  have lt:∀b o,X.s₀.heap.get? b=some o->b≠D:=fun b o q=>Nat.ne_of_lt (Nat.lt_of_lt_of_le (Heap.lt_size q) h0);refine⟨I.base.keep,I.base.slot,fun b o q n' hx=> ?_,I.base.there,fun b xs q=> ?_,fun b o u q=> ?_,fun b ps q=> ?_⟩
  ·rw[aU (lt b o q)];exact I.base.free b o q n' hx
  ·have z:=I.base.tups b xs q;rw[aU (bN z hn)];exact z
  ·have z:=I.base.frzs b o u q;rw[aU (bN z hn)];exact z
  ·obtain⟨more,z⟩:=I.base.tbls b ps q;exact⟨more,by rw[aU (bN z hn)];exact z⟩
 loc:=I.loc
 cell:=I.cell
 free:=by rw[aU (Ne.symm h1)];exact I.free
 freeC:=fun x c q=>by rw[aU (h2 x c q)];exact I.freeC x c q
 pin:=fun p hp=>by
  obtain⟨a,b,c⟩:=I.pin p hp;exact⟨a,by rw[aU (h3 p hp)];exact b,c⟩
 hok:=I.hok.adds hn ⟨hz,its,n,r,e⟩
 len:=I.len
theorem Inv.untrack (I:Inv X pins σ (upd H D (.lst ys)) s)(hn:H D=none):Inv X pins σ H s where
 ok:=I.ok
 os:=I.os
 bare:=I.bare
 base:=by
  have low:∀b u,upd H D (.lst ys) b=some u->(∀xs,u≠ .lst xs)->H b=some u:=fun b u q nl=>by
   by_cases hb:b=D
   ·subst hb;rw[bM]at q;cases q;exact absurd rfl (nl ys)
   ·rw[aU hb]at q;exact q
  refine⟨I.base.keep,I.base.slot,fun b o q n' hx=> ?_,I.base.there,fun b xs q=> ?_,fun b o u q=> ?_,fun b ps q=> ?_⟩
  ·have z:=I.base.free b o q n' hx
   by_cases hb:b=D
   ·subst hb;exact hn
   ·rw[aU hb]at z;exact z
  ·exact low _ _ (I.base.tups b xs q) (fun _ z=>by cases z)
  ·exact low _ _ (I.base.frzs b o u q) (fun _ z=>by cases z)
  ·obtain⟨more,z⟩:=I.base.tbls b ps q;exact⟨more,low _ _ z (fun _ z=>by cases z)⟩
 loc:=I.loc
 cell:=I.cell
 free:=by
  have z:=I.free
  by_cases hb:X.env.locals=D
  ·rw[hb];exact hn
  ·rw[aU hb]at z;exact z
 freeC:=fun x c q=>by
  have z:=I.freeC x c q
  by_cases hb:c=D
  ·rw[hb];exact hn
  ·rw[aU hb]at z;exact z
 pin:=fun p hp=>by
  obtain⟨a,b,c⟩:=I.pin p hp;refine⟨a,?_,c⟩
  by_cases hb:p.1=D
  ·rw[hb];exact hn
  ·rw[aU hb]at b;exact b
 hok:=I.hok.drops hn
 len:=I.len
end
def bQ (X:Cx)(scope:Scope)(cl:List (Str×Addr))(N:List Str)(C:Addr)(s0:Shared)(H0:Hp)(fp:List Addr):Cx where
 prog:=X.prog
 w:=X.w
 K:=X.K
 mg:=X.mg
 base:=X.base
 A:=X.A
 N:=N
 s₀:=s0
 H₀:=H0
 env:=compEnvC scope cl C X.env
 outer:=X.stack
 stack:=X.stack
 ex:=fp
 fn:=fun _=>false
 calm:=X.calm
 pn:=[]
 xe:=fun _ _=>False
structure Blk (X:Cx)(scope:Scope)(cl:List (Str×Addr))(N:List Str)(nl:Nat)(ci:List Nat):Prop where
 kind:scope.kind= .function
 names:∀y∈scope.names,y.2= .local->scope.names.lookup y.1=some .local
 nocell:∀y∈scope.names,y.2≠ .cell
 clos:closureFor scope X.env=pure cl
 sub:∀n c,cl.lookup n=some c->X.env.cells.lookup n=some c
 has:∀n,((relabel scope X.env).names.lookup n=some .cell∨(relabel scope X.env).names.lookup n=some .free)->∃c,cl.lookup n=some c
 len:N.length=nl+ci.length
 cap:∀(j i:Nat),ci[j]? =some i->∃n,N[nl+j]? =some n/\X.N[i]? =some n/\(X.env.scope.names.lookup n=some .cell∨X.env.scope.names.lookup n=some .free) ∧
  ((relabel scope X.env).names.lookup n=some .cell∨(relabel scope X.env).names.lookup n=some .free)/\cl.lookup n=X.env.cells.lookup n
def bY (nl:Nat)(ci:List Nat)(σ:St):St:=List.replicate nl none++ci.map fun i=>(σ[i]?).join
theorem NQ {nl:Nat}{ci:List Nat}{σ:St}{k:Nat}{v:V} (h:(bY nl ci σ)[k]? =some (some v)):∃j i,k=nl+j/\ci[j]? =some i/\σ[i]? =some (some v):=by
 unfold bY at h
 by_cases hk:k<nl
 ·rw[List.getElem?_append_left (by simpa using hk),List.getElem?_replicate]at h
  split at h<;>cases h
 ·rw[List.getElem?_append_right (by simpa using hk),List.length_replicate,List.getElem?_map]at h;cases e:ci[k - nl]? with
  | none=>rw[e]at h;cases h
  | some i =>
   rw[e]at h;have h':(σ[i]?).join=some v:=by simpa using h
   refine⟨k - nl,i,by lia,e,?_⟩;cases q:σ[i]? with
   | none=>rw[q]at h';cases h'
   | some o=>rw[q]at h';simp at h';rw[h']
theorem ED {nl:Nat}{ci:List Nat}{σ:St}:(bY nl ci σ).length=nl+ci.length:=by unfold bY;simp
section
variable {X:Cx}{scope:Scope}{cl:List (Str×Addr)}{N:List Str}{nl:Nat}{ci:List Nat}{pins:List (Addr×Obj)}{σ:St}{H2:Hp}{s2:Shared}{fp:List Addr}
theorem HE (B:Blk X scope cl N nl ci)(I:Inv X pins σ H2 s2)(f2:∀b∈fp,oT X pins H2 b)(fo:∀b∈fp,∃o,s2.heap.get? b=some o){C:Addr}{h4:Heap}{t4:Nat}{m4:Str->Option Value} (hC:s2.heap.objs.size<=C) (hns:h4.Ns C m4)
  (hk:∀b o,s2.heap.get? b=some o->h4.get? b=some o):Inv (bQ X scope cl N C s2 H2 fp) [] (bY nl ci σ) H2 { s2 with heap:=h4,toks:=t4 }:=by
 have lt2:∀b∈fp,b<s2.heap.objs.size:=fun b hb=>by obtain⟨o,e⟩:=fo b hb;exact Heap.lt_size e
 have ok:(bQ X scope cl N C s2 H2 fp).Ok:=by
  refine⟨I.ok.mod,B.kind,I.ok.glob,I.ok.blt,hC,fun x y c h1 h2=>I.ok.inj x y c (B.sub x c h1) (B.sub y c h2),fun x hx=>B.has x hx,fun x c hf _=>(by cases hf),I.ok.hd,I.ok.frames,.inl rfl,fun b hb=>⟨?_,?_⟩,I.bs,?_,fun b o e hb=> ?_,fun b hb z=> ?_,I.stack,I.stkFree⟩
  ·exact Nat.ne_of_lt (Nat.lt_of_lt_of_le (lt2 b hb) hC)
  ·exact fun x c h=>(f2 b hb).2.2.2.2.1 x c (B.sub x c h)
  ·exact Nat.le_trans I.ok.bsz I.sz
  ·rcases (f2 b hb).2.2.2.1 with z|z
   ·exact I.ok.noex b o e z
   ·exact absurd (Nat.lt_of_lt_of_le (Heap.lt_size e) (Nat.le_trans I.ok.bsz z)) (Nat.lt_irrefl _)
  ·rcases List.mem_cons.mp (I.stkSub b z) with q|q
   ·exact(f2 b hb).2.1 q
   ·exact(f2 b hb).2.2.1 q
 refine⟨ok,rfl,I.bare,Un.kept hk,⟨m4,hns,fun k x v e1 e2 e3=> ?_⟩,fun x c e=> ?_,I.hok.fresh hC,fun x c e=>I.freeC x c (B.sub x c e),fun p hp=>(by cases hp),I.hok.kept hk,?_⟩
 ·obtain⟨j,i,rfl,hj,hσ⟩:=NQ e2;obtain⟨n,hn1,hn2,hk1,hk2,hl⟩:=B.cap j i hj;have en:x=n:=by
   have e1':N[nl+j]? =some x:=e1;rw[hn1]at e1';exact(Option.some.inj e1').symm
  subst en;obtain⟨m,hm,hloc⟩:=I.loc;have vis:Vis X.env.scope x:= .inr hk1;obtain⟨u,ru,lk⟩:=hloc i x v hn2 hσ vis;refine⟨u,ru,.inr ⟨hk2,?_⟩⟩;rcases lk with⟨kl,_⟩|⟨_,c,ec,hc⟩
  ·have kl':X.env.scope.names.lookup x=some .local:=kl;rcases hk1 with z|z<;>· rw[z]at kl';cases kl'
  ·refine⟨c,hl.trans ec,?_⟩;obtain⟨o,ho,hd⟩:=hc;exact⟨o,hk _ _ ho,hd⟩
 ·obtain⟨v,o,ho,hd⟩:=I.cell x c (B.sub x c e);exact⟨v,o,hk _ _ ho,hd⟩
 ·show (bY nl ci σ).length=N.length;rw[ED,B.len]
theorem OJ {C:Addr}{σ':St}{H':Hp}{s':Shared}{pb:List (Addr×Obj)} (I:Inv X pins σ H2 s2) (f2:∀b∈fp,oT X pins H2 b) (J:Inv (bQ X scope cl N C s2 H2 fp) pb σ' H' s'):Inv X pins σ H' s' :=
 I.call' J.os J.base J.hok J.bare fun b hb=>⟨(f2 b hb).2.2.2.1,(f2 b hb).2.1,(f2 b hb).2.2.2.2.1,(f2 b hb).2.2.2.2.2⟩
end
section
variable {prog:Program}{w:World}{A:Around}{R:Result->Shared->Prop}{s:Shared}
theorem GZ {elt target iter:Expr}{ifs:List Expr}{scope:Scope}{pos:Pos}{it acc:Value}{env:Env} (I:Nat->Shared->Prop)
  (turn:∀n s,I n s->wpAny (model prog w) A (pyNext it) (fun r s₁=>match r with
   | none=>R (.ok .next) s₁
   | some v=>wpAny (model prog w) A (letOwnedTupleGo target it v) (fun _ s₁'=>wpAny (model prog w) A (assign target env v) (fun _ s₂ =>
     wpAny (model prog w) A (forIn ifs true fun c r=>if r=true then do let ok ←isTrue c env (eval c env);pure (ForInStep.yield ok) else pure (ForInStep.yield r)) (fun ok s₃ =>
      if ok=true then wpAny (model prog w) A (eval elt env) (fun x s₄ =>
       wpAny (model prog w) A (call (.builtin "list.append") [acc,x]) (fun _ s₅=>∃m,m<n/\I m s₅) (notedBy (model prog w) A env fun e s'=>R (.error e) s') s₄) (notedBy (model prog w) A env fun e s'=>R (.error e) s') s₃
      else ∃m,m<n/\I m s₃) (notedBy (model prog w) A env fun e s'=>R (.error e) s') s₂) (notedBy (model prog w) A env fun e s'=>R (.error e) s') s₁') (notedBy (model prog w) A env fun e s'=>R (.error e) s') s₁) (notedBy (model prog w) A env fun e s'=>R (.error e) s') s)
  (n:Nat)(h:I n s) :
  codeAny (model prog w) A (.compLoop (.ListComp elt [⟨target,iter,ifs,0⟩] scope pos) 0 it acc env) R s:=by
 refine codeAny_loop rfl I (fun n s hI=> ?_) n h;show wpAny _ A ((compTurn (.ListComp elt [⟨target,iter,ifs,0⟩] scope pos) 0 it acc env).onRaise (fun x=>do noteFrame x env;theTreesLotGoes x)) _ _ s;refine wpAny_noted ?_;rw[compTurn_list];refine wpAny_bind (wpAny_standAt (wpAny_bind (wpAny_mono (turn n s hI) (fun r s₁ h₁=> ?_) fun _ _ h'=>h')));cases r with
 | none=>exact wpAny_pure h₁
 | some v =>
  refine wpAny_bind (wpAny_mono h₁ (fun _ s₁' h₁'=> ?_) fun _ _ h'=>h');refine wpAny_bind (wpAny_mono h₁' (fun _ s₂ h₂=>wpAny_bind (wpAny_mono h₂ (fun ok s₃ h₃=> ?_) fun _ _ h'=>h')) fun _ _ h'=>h');cases ok with
  | false=>exact wpAny_pure ⟨rfl,h₃⟩
  | true =>
   exact wpAny_bind (wpAny_bind (wpAny_mono h₃ (fun x s₄ h₄=>wpAny_bind (wpAny_mono h₄ (fun _ s₅ h₅=>wpAny_pure (wpAny_pure ⟨rfl,h₅⟩)) fun _ _ h'=>h')) fun _ _ h'=>h'))
end
def PF (X:Cx)(ifs:List Expr)(t:TT):Prop :=
 ∀(pins:List (Addr×Obj)) (s:Shared) (σ:St) (H:Hp) (Q:Bool->Hp->Prop),Inv X pins σ H s->t σ H Q →
  wpAny (model X.prog X.w) X.A (forIn ifs true fun c r=>if r=true then do let ok ←isTrue c X.env (eval c X.env);pure (ForInStep.yield ok) else pure (ForInStep.yield r)) (TP X pins σ Q) X.xe s
def xO:TT:=fun _ H Q=>Q true H
theorem iN {X:Cx}:PF X [] xO:=fun _ _ _ H _ I h=>wpAny_tests_nil ⟨H,I,h⟩
theorem mP {X:Cx}{c:Expr}{t:TT} (h:PT X c t):PF X [c] t:=fun pins s σ H Q I q=>wpAny_tests_one (h pins s σ H Q I q)
def eU (J:It)(g:TG)(ti:TT)(te:TE)(σ0:St)(fin:List V->Hp->Prop)(H1:Hp):Prop :=
 ∃W:Nat->Nat->List V->Hp->Prop,(∃m,W 0 m [] H1)/\∀i m ys H,W i m ys H →
  (J.stop i H/\fin ys H) ∨
  (J.go i H/\∀x H',J.yld i H x H'->g x σ0 H' fun σ2 H2=>(σ2.length=σ0.length/\∀(j:Nat) v,σ0[j]? =some (some v)->σ2[j]? =some (some v)) ∧
   ti σ2 H2 fun b H3=>if b=true then te σ2 H3 fun y H4=>ys.length<sizeLine/\∃m',m'<m/\W (i+1) m' (ys++[y]) H4 else ∃m',m'<m/\W (i+1) m' ys H3)
def LA (wi:TI)(nl:Nat)(ci:List Nat)(g:TG)(ti:TT)(te:TE):TE:=fun σ H Q =>
 wi σ H fun J H1=>eU J g ti te (bY nl ci σ) (fun ys H'=>∀p,H' p=none->Q (.ref p) (upd H' p (.lst ys))) H1
section
variable {X:Cx}{scope:Scope}{cl:List (Str×Addr)}{N:List Str}{nl:Nat}{ci:List Nat}{tg elt iter:Expr}{ifs:List Expr}{pos:Pos}{wi:TI}{g:TG}{ti:TT}{te:TE}
theorem BN {pins:List (Addr×Obj)}{σ:St}{H2:Hp}{s2:Shared}{fp:List Addr}{it:Addr}{J:It}{tn:Nat->Heap->Prop}{E:Value->Shared->Prop}{RR:Value->Addr->Result->Shared->Prop}{fin:List V->Hp->Prop}
  (hc:X.calm=true)(B:Blk X scope cl N nl ci)(hg:∀C s0 H0 fp,PG (bQ X scope cl N C s0 H0 fp) tg g)(hi:∀C s0 H0 fp,PF (bQ X scope cl N C s0 H0 fp) ifs ti)(he:∀C s0 H0 fp,PE (bQ X scope cl N C s0 H0 fp) elt te)
  (I2:Inv X pins σ H2 s2)(T:u9 X.prog X.w X.K tg J fp it tn)(st2:tn 0 s2.heap)(f2:∀b∈fp,oT X pins H2 b)(hW:eU J g ti te (bY nl ci σ) fin H2)
  (hfin:∀(D C:Addr) (s':Shared) (H':Hp) (ys:List V) (oC:Obj) (m:Str->Option Value),H' D=none->Inv X (pins++[(C,oC)]) σ (upd H' D (.lst ys)) s'->s'.heap.Ns C m->s2.heap.objs.size<=C->fin ys H'->RR (.ref D) C (.ok .next) s') :
  wpAny (model X.prog X.w) X.A (newList []) (fun acc s₃=>wpAny (model X.prog X.w) X.A (newFunctionEnv scope X.env.globals cl [] X.env.qual none .none (some X.env)) (fun cenv s₄ =>
   codeAny (model X.prog X.w) X.A (.compStart (.ListComp elt [⟨tg,iter,ifs,0⟩] scope pos) 0 (.ref it) acc { cenv with scope:=relabel scope X.env }) (RR acc cenv.locals) s₄) E s₃) E s2:=by
 obtain⟨W,⟨m0,w0⟩,turn⟩:=hW;refine wpAny_newObj_type (wpAny_newFunctionEnv B.nocell (by intro y hy;simp at hy) (fun h1 hns1 hsb1=> ?_) B.kind)
 dsimp only at hns1 hsb1 ⊢
 generalize hH2:s2.heap.push { cls:= .type "list",dict:=none,data:= .seq ([]:List Value).toArray }=G2 at hns1 hsb1 ⊢;have hCs:G2.objs.size=s2.heap.objs.size+1:=by rw[←hH2,Heap.size_push]
 generalize hCe:G2.objs.size=C at hns1 hsb1 hCs ⊢;have hDC:s2.heap.objs.size≠C:=by rw[hCs];exact Nat.ne_of_lt (Nat.lt_succ_self _)
 have hCle:s2.heap.objs.size<=C:=by rw[hCs];exact Nat.le_succ _
 have old:∀b o,s2.heap.get? b=some o->h1.get? b=some o:=fun b o e=>hsb1.extBut b o (by rw[hCs];exact Nat.ne_of_lt (Nat.lt_succ_of_lt (Heap.lt_size e))) (Heap.get?_push_of_some _ (hH2▸Heap.get?_push_of_some _ e));have hacc:h1.get? s2.heap.objs.size=some { cls:= .type "list",data:= .seq ([]:List Value).toArray 0 }:=hsb1.extBut _ _ hDC (Heap.get?_push_of_some _ (hH2▸Heap.get?_push_size _ rfl));have fo:∀b∈fp,∃o,s2.heap.get? b=some o:=fun b hb=>let ⟨o,e,_⟩:=T.obj 0 _ st2 b hb;⟨o,e⟩;have lt2:∀b∈fp,b<s2.heap.objs.size:=fun b hb=>let ⟨o,e⟩:=fo b hb;Heap.lt_size e;have hDfp:s2.heap.objs.size∉fp:=fun z=>Nat.lt_irrefl _ (lt2 _ z);have hCfp:C∉fp:=fun z=>Nat.lt_irrefl _ (Nat.lt_of_lt_of_le (lt2 _ z) hCle);generalize hDe:s2.heap.objs.size=D at hCs hDC hCle hacc hDfp lt2;have loop:∀s3:Shared,s3={ s2 with heap:=h1,toks:=s2.toks+([]:List (Str×Value)).length } →
   codeAny (model X.prog X.w) X.A (.compLoop (.ListComp elt [⟨tg,iter,ifs,0⟩] scope pos) 0 (.ref it) (.ref D) (compEnvC scope cl C X.env)) (RR (.ref D) C) s3:=by
  rintro s3 rfl;have I4:Inv (bQ X scope cl N C s2 H2 fp) [] (bY nl ci σ) H2 { s2 with heap:=h1,toks:=s2.toks+([]:List (Str×Value)).length }:=HE B I2 f2 fo (by rw[hDe];exact hCle) hns1 old;have fpk:∀{H':Hp},(∀b∈fp,H' b=none)->∀b∈fp,oT (bQ X scope cl N C s2 H2 fp) [] H' b:=fun hn b hb =>
   ⟨hn b hb,(I4.ok.exf b hb).1,I4.ok.exfs b hb,.inl hb,(I4.ok.exf b hb).2,fun p hp=>by cases hp⟩
  have hDX:∀x c,(bQ X scope cl N C s2 H2 fp).env.cells.lookup x=some c->c≠D:=fun x c e=>by
   obtain⟨v,o,ho,_⟩:=I2.cell x c (B.sub x c e);rw[←hDe];exact Nat.ne_of_lt (Heap.lt_size ho)
  have hDL:D≠(bQ X scope cl N C s2 H2 fp).env.locals:=hDC;have hDf:D∉(bQ X scope cl N C s2 H2 fp).fs:=fun z=>by
   rcases List.mem_cons.mp (I2.stkSub D z) with q|q
   ·exact Nat.lt_irrefl _ (by have:=I2.lt;rw[hDe,←q]at this;exact this)
   ·exact I2.nofs (by rw[hDe];exact Nat.le_refl _) q
  refine GZ (fun n s'=>∃i ys its k H',W i n ys H'/\Inv (bQ X scope cl N C s2 H2 fp) [] (bY nl ci σ) H' s'/\tn i s'.heap/\(∀b∈fp,H' b=none)/\H' D=none ∧
   s'.heap.get? D=some { cls:= .type "list",data:= .seq its.toArray k }/\Vals ys its/\ys.length<=sizeLine) ?_ m0 ?_
  ·rintro n s' ⟨i,ys,its,k,H',w',I',st',fr',hD',eD,rv,hz⟩;have IP:Inv (bQ X scope cl N C s2 H2 fp) [(D,{ cls:= .type "list",data:= .seq its.toArray k })] (bY nl ci σ) H' s':=I'.pins_of fun p hp=>by
    obtain rfl:p=_:=by simpa using hp
    exact⟨eD,hD',hDL,hDf,fun v z=>by cases z⟩
   have fpD:∀{H'':Hp},(∀b∈fp,H'' b=none)->∀b∈fp,oT (bQ X scope cl N C s2 H2 fp) [(D,{ cls:= .type "list",data:= .seq its.toArray k })] H'' b:=fun hn b hb =>
    ⟨hn b hb,(I4.ok.exf b hb).1,I4.ok.exfs b hb,.inl hb,(I4.ok.exf b hb).2,fun p hp=>by
     obtain rfl:p=_:=by simpa [bQ] using hp
     exact fun z=>hDfp ((show D=b from z)▸hb)⟩
   rcases turn i n ys H' w' with⟨stop,q⟩|⟨go,step⟩
   ·refine thn (T.done (bQ X scope cl N C s2 H2 fp) rfl rfl rfl hc i _ s' (bY nl ci σ) H' _ IP (fpD fr') st' stop) fun r s'' ⟨hr,I''⟩=> ?_;subst hr;have eD2:=(I''.pin (D,_) (List.mem_append_right _ List.mem_cons_self)).1;have J1:Inv (bQ X scope cl N C s2 H2 fp) [] (bY nl ci σ) (upd H' D (.lst ys)) s'' :=
     (I''.pins_of (pins':=[]) fun p hp=>by cases hp).track hD' eD2 rv hz (by show s2.heap.objs.size<=D;rw[hDe];exact Nat.le_refl _) hDL hDX fun p hp=>by cases hp
    have K1:Inv X pins σ (upd H' D (.lst ys)) s'':=OJ I2 f2 J1;obtain⟨mC,nsC,_⟩:=J1.loc;obtain⟨oC,es,ep,hoC,hdC,rC⟩:=id nsC;refine hfin D C s'' H' ys oC mC hD' (K1.pins_of fun p hp=> ?_) nsC (by rw[hDe];exact hCle) q;rcases List.mem_append.mp hp with hp|hp
    ·exact K1.pin p (List.mem_append_right _ hp)
    ·obtain rfl:p=(C,oC):=by simpa using hp
     refine⟨hoC,J1.free,Nat.ne_of_gt (Nat.lt_of_lt_of_le I2.lt (by rw[hDe];exact hCle)),I2.nofs (by rw[hDe];exact hCle),fun v z=> ?_⟩;rw[hdC]at z;cases z
   ·refine thn (T.item (bQ X scope cl N C s2 H2 fp) rfl rfl rfl hc i _ s' (bY nl ci σ) H' _ IP (fpD fr') st' go) fun r s4 ⟨u,hr,h4⟩=> ?_;subst hr;refine thn h4 fun _ s5 ⟨x,H5,I5,r5,y5,st5,fr5⟩=> ?_;have I5':=I5.pinned (fpD fr5) (T.obj _ _ st5);refine wpAny_mono (hg C s2 H2 fp _ s5 (bY nl ci σ) H5 x u _ I5' r5 (step x H5 y5)) (fun _ s6 ⟨σ6,H6,I6,⟨hl6,hk6⟩,q6⟩=> ?_) fun _ _ f=>f.elim;refine wpAny_mono (hi C s2 H2 fp _ s6 σ6 H6 _ I6 q6) (fun b s7 ⟨H7,I7,q7⟩=> ?_) fun _ _ f=>f.elim;have pinD:∀{pp:List (Addr×Obj)}{σx:St}{Hx:Hp}{sx:Shared},Inv (bQ X scope cl N C s2 H2 fp) ([(D,({ cls:= .type "list",data:= .seq its.toArray k }:Obj))]++mS fp s5.heap) σx Hx sx →
      sx.heap.get? D=some { cls:= .type "list",data:= .seq its.toArray k }/\Hx D=none/\tn (i+1) sx.heap/\(∀b∈fp,Hx b=none):=fun {pp σx Hx sx} Ix=>by
     refine⟨(Ix.pin (D,_) (List.mem_append_right _ (List.mem_append_left _ List.mem_cons_self))).1,(Ix.pin (D,_) (List.mem_append_right _ (List.mem_append_left _ List.mem_cons_self))).2.1,T.keep _ _ _ st5 fun b hb o e=>(Ix.pin (b,o) (List.mem_append_right _ (List.mem_append_right _ (kJ hb e)))).1,fun b hb=> ?_⟩;obtain⟨o,e,d⟩:=T.obj _ _ st5 b hb;exact(Ix.pin (b,o) (List.mem_append_right _ (List.mem_append_right _ (kJ hb e)))).2.1
    cases b with
    | false =>
     rw[if_neg Bool.false_ne_true]at q7 ⊢;obtain⟨m',hm',w7⟩:=q7;obtain⟨e7,n7,st7,fr7⟩:=pinD (pp:=[]) I7;exact⟨m',hm',i+1,ys,its,k,H7,w7,(I7.pins_of (pins':=[]) fun p hp=>by cases hp).weak hl6.symm hk6,st7,fr7,n7,e7,rv,hz⟩
    | true =>
     rw[if_pos rfl]at q7 ⊢;refine wpAny_mono (he C s2 H2 fp _ s7 σ6 H7 _ I7 q7) (fun y' s8 ⟨y,H8,I8,r8,hlt,m',hm',w8⟩=> ?_) fun _ _ f=>f.elim;obtain⟨e8,n8,st8,fr8⟩:=pinD (pp:=[]) I8;have I8f:Inv (bQ X scope cl N C s2 H2 fp) (mS fp s5.heap) σ6 H8 s8:=I8.pins_of fun p hp=>I8.pin p (List.mem_append_right _ (List.mem_append_right _ hp));have I8t:=I8f.track n8 e8 rv hz (by show s2.heap.objs.size<=D;rw[hDe];exact Nat.le_refl _) hDL hDX fun p hp=>by
      have hp':p∈mS fp s5.heap:=by simpa [bQ] using hp
      exact fun z=>hDfp (z▸(BB hp').1)
     refine wpAny_mono (iS (X:=bQ X scope cl N C s2 H2 fp) (mS fp s5.heap) s8 σ6 _ (.ref D) [y] (.ref D) [y'] (fun _ H9=>H9=upd H8 D (.lst (ys++[y]))) I8t rfl (.cons r8 .nil)
      ⟨D,ys,y,rfl,rfl,bM,hlt,UO⟩) (fun _ s9 ⟨_,H9,I9,_,e9⟩=> ?_) fun _ _ f=>f.elim
     subst e9;obtain⟨hz9,its9,k9,rv9,e9⟩:=I9.hok D _ bM;have I9u:=I9.untrack n8;refine⟨m',hm',i+1,ys++[y],its9,k9,H8,w8,(I9u.pins_of (pins':=[]) fun p hp=>by cases hp).weak hl6.symm hk6,?_,fr8,n8,e9,rv9,hz9⟩;exact T.keep _ _ _ st5 fun b hb o e=>(I9u.pin (b,o) (List.mem_append_right _ (kJ hb e))).1
  ·exact⟨0,[],[],0,H2,w0,I4,T.keep _ _ _ st2 fun b hb o e=>old b o e,fun b hb=>(f2 b hb).1,I2.hok.fresh (by rw[hDe];exact Nat.le_refl _),hacc,.nil,Nat.zero_le _⟩
 exact codeAny_compStart_list (loop _ rfl) (T.self _ 0 _ _ _ (T.keep _ _ _ st2 fun b hb o e=>old b o e) (loop _ rfl))
theorem dI (hc:X.calm=true)(B:Blk X scope cl N nl ci)(hp:PI X tg iter wi)(hg:∀C s0 H0 fp,PG (bQ X scope cl N C s0 H0 fp) tg g)(hi:∀C s0 H0 fp,PF (bQ X scope cl N C s0 H0 fp) ifs ti)
  (he:∀C s0 H0 fp,PE (bQ X scope cl N C s0 H0 fp) elt te)(hs:∀x,foldedSetIterable iter X.env x=pure x:=by intro _;rfl):PE X (.ListComp elt [⟨tg,iter,ifs,0⟩] scope pos) (LA wi nl ci g ti te):=by
 intro pins s σ H Q I h;rw[eval_ListComp];refine wpAny_comprehension_free (use:=none) rfl hs B.clos B.kind B.names (thn (hp pins s σ H _ I h) fun v s1 h1=>thn h1 fun itv s2 h2=> ?_);obtain⟨it,fp,tn,J,H2,e,I2,T,st2,f2,hW⟩:=h2;subst e;refine BN (RR:=fun acc C=>compPost (model X.prog X.w) X.A X.xe none (EP X pins σ Q) acc C) hc B hg hi he I2 T st2 f2 hW ?_;intro D C s' H' ys oC m hD K1 hn hC q;refine⟨m,hn,fun h' hs'=> ?_⟩;have hL:C≠X.env.locals:=(K1.pin (C,oC) (by simp)).2.2.1;have I9:Inv X pins σ (upd H' D (.lst ys)) { s' with heap:=h',toks:=s'.toks }:=K1.unpinned.turned (t':=s'.toks) (it:=C) (fun b o hb e=>hs'.extBut b o hb e) (K1.pin (C,oC) (by simp)).2.1 hL (.inr (Nat.le_trans I2.sz hC)) (fun x c e z=> ?_) fun p hp z=> ?_
 ·exact⟨.ref D,_,I9,rfl,q D hD⟩
 ·obtain⟨v,o,ho,_⟩:=I2.cell x c e;exact absurd (Nat.lt_of_lt_of_le (Heap.lt_size ho) (z▸hC)) (Nat.lt_irrefl _)
 ·exact absurd (Nat.lt_of_lt_of_le (Heap.lt_size (I2.pin p hp).1) (z▸hC)) (Nat.lt_irrefl _)
theorem tQ {i:Nat}{x:Str}{pos' spos:Pos} (hN:X.N.Nodup) (hix:X.N[i]? =some x) (hx:Loc X.env.scope x) (hc:X.calm=true) (B:Blk X scope cl N nl ci) (hp:PI X tg iter wi) (hg:∀C s0 H0 fp,PG (bQ X scope cl N C s0 H0 fp) tg g)
  (hi:∀C s0 H0 fp,PF (bQ X scope cl N C s0 H0 fp) ifs ti)(he:∀C s0 H0 fp,PE (bQ X scope cl N C s0 H0 fp) elt te)
  (hsw:swapsWith (.ListComp elt [⟨tg,iter,ifs,0⟩] scope pos) (some (.Name x pos')) spos.line X.env=pure true:=by rfl)(hs:∀x,foldedSetIterable iter X.env x=pure x:=by intro _;rfl)
  (hf:X.fn x=true∨X.env.scope.names.lookup x=some .local:=by first|exact .inl rfl|exact .inr rfl|assumption) :
  PS X (.Assign [.Name x pos'] (.ListComp elt [⟨tg,iter,ifs,0⟩] scope pos) spos) (LE (LA wi nl ci g ti te) (cM i)):=by
 intro pins s σ H D I h;rw[exec_Assign_Name_used _ _ _ _ hsw];refine wpAny_bind (wpAny_standAt (wpAny_bind ?_));show wpAny _ X.A (do let _ ←comprehension (.ListComp elt [⟨tg,iter,ifs,0⟩] scope pos) scope X.env _ (newList []) false (eval iter X.env) (some (assign (.Name x pos') X.env))) _ _ s;refine wpAny_bind (wpAny_mono (wpAny_comprehension_free (use:=some (assign (.Name x pos') X.env)) (Q:=fun _ s'=>SP X pins D .next s') rfl hs B.clos B.kind B.names
  (thn (hp pins s σ H _ I h) fun v s1 h1=>thn h1 fun itv s2 h2=> ?_)) (fun _ s' hq=>wpAny_pure (wpAny_pure hq)) fun _ _ e=>e)
 obtain⟨it,fp,tn,J,H2,e,I2,T,st2,f2,hW⟩:=h2;subst e;refine BN (RR:=fun acc C=>compPost (model X.prog X.w) X.A X.xe (some (assign (.Name x pos') X.env)) (fun _ s'=>SP X pins D .next s') acc C) hc B hg hi he I2 T st2 f2 hW ?_;intro Dd C s' H' ys oC m hD K1 hn hC q;show wpAny _ X.A (assign (.Name x pos') X.env (.ref Dd)) _ _ _;refine thn (aL (i:=i) hN hix hx hf (pins++[(C,oC)]) s' σ (upd H' Dd (.lst ys)) (.ref Dd) (.ref Dd) (fun σ' H''=>D.nx σ' H'') K1 rfl (q Dd hD)) fun _ s'' ⟨σ',H'',K2,q2⟩=> ?_;have eC:=K2.pin (C,oC) (by simp);obtain⟨oC',es,ep,hoC,hdC,rC⟩:=id hn;have eo:oC'=oC:=by
  have:=(K1.pin (C,oC) (by simp)).1;rw[hoC]at this;exact Option.some.inj this
 subst eo;refine⟨m,⟨oC',es,ep,eC.1,hdC,rC⟩,fun h' hs'=> ?_⟩;have hL:C≠X.env.locals:=eC.2.2.1;have I9:Inv X pins σ' H'' { s'' with heap:=h',toks:=s''.toks }:=K2.unpinned.turned (t':=s''.toks) (it:=C) (fun b o hb e=>hs'.extBut b o hb e) eC.2.1 hL (.inr (Nat.le_trans I2.sz hC)) (fun x c e z=> ?_) fun p hp z=> ?_
 ·exact⟨σ',H'',I9,q2⟩
 ·obtain⟨v,o,ho,_⟩:=I2.cell x c e;exact absurd (Nat.lt_of_lt_of_le (Heap.lt_size ho) (z▸hC)) (Nat.lt_irrefl _)
 ·exact absurd (Nat.lt_of_lt_of_le (Heap.lt_size (I2.pin p hp).1) (z▸hC)) (Nat.lt_irrefl _)
end
end L2
namespace L2
open PySem PySem.Spec PyProof.Rows
def Its (x:Str):It:=⟨fun i _=>i<x.cps.size,fun i H v H'=>H'=H/\∃c,x.cps[i]? =some c/\v= .str ⟨#[c]⟩,fun i _=>i=x.cps.size⟩
theorem FK {P:Program}{w:World}{K:PySem.W.Frag}{tg:Expr} (it:Addr) (x:Str) (t:Tok) (ty:String)
  (hty:["enumerate","zip","dict_itemiterator","dict_reverseitemiterator","odict_iterator","itertools.zip_longest","itertools.pairwise"].contains ty=false)
  (W:∀A':Around,A'.handled=none->Walks P w A' it [it] [it] x.cps.size (SignAt x) (fun i h=>h.IsStrIter it ty x t i))
  (hself:∀(A:Around) (i:Nat) (s:Shared) (Q:Value->Shared->Prop) (E:Value->Shared->Prop),s.heap.IsStrIter it ty x t i->Q (.ref it) s->wpAny (model P w) A (pyIter (.ref it)) Q E s) :
  u9 P w K tg (Its x) [it] it (fun i h=>h.IsStrIter it ty x t i) where
 mem:=by simp
 obj:=fun i h st b hb=>by
  have e:b=it:=by simpa using hb
  subst e;obtain⟨o,e,c,d⟩:=st;exact⟨o,e,fun v z=>by rw[d]at z;cases z⟩
 keep:=fun i h h' st k=>let ⟨o,ho,r⟩:=st;⟨o,k it (by simp) o ho,r⟩
 item:=by
  intro X hP hw hK hc i pins s σ H E I hf st hg;subst hP hw hK;obtain⟨f0,f1,f2,f3,f4,f5⟩:=hf it (by simp);refine(W X.A (I.ok.hd hc)).item i s _ _ hg st fun v h' tk hv st' kk=> ?_;obtain⟨c,u,hc',rfl⟩:=hv;have I1:Inv X pins σ H { s with heap:=h',toks:=tk }:=I.turned (fun b o hb e=>kk b o (by simpa using hb) e) f0 f1 f3 f4 f5;obtain⟨o,e,c1,d⟩:=id st';exact⟨_,rfl,JX (s:={ s with heap:=h',toks:=tk }) e c1 d hty ⟨.str ⟨#[c]⟩,H,I1,⟨u,rfl⟩,⟨rfl,c,hc',rfl⟩,st',fun b hb=>(hf b hb).1⟩⟩
 done:=by
  intro X hP hw hK hc i pins s σ H E I hf st hg;subst hP hw hK;obtain⟨f0,f1,f2,f3,f4,f5⟩:=hf it (by simp);have e:i=x.cps.size:=hg;subst e;exact(W X.A (I.ok.hd hc)).done s _ _ st fun h' tk kk=>⟨rfl,I.turned (fun b o hb e=>kk b o (by simpa using hb) e) f0 f1 f3 f4 f5⟩
 self:=hself
def aBZ (tl:TE):TI:=fun σ H R=>tl σ H fun x H1=>∃z,x= .str z/\R (Its z) H1
theorem aAj {X:Cx}{tg l:Expr}{tl:TE} (hl:PE X l tl):PI X tg l (aBZ tl):=by
 intro pins s σ H R I h;refine thn (hl pins s σ H _ I h) fun v s1 ⟨x,H1,I1,rx,z,ez,q⟩=> ?_;subst ez;obtain⟨t,rfl⟩:=rx;cases ha:z.cps.all (·<128)
 ·refine wpAny_pyIter_wide ha ⟨s1.heap.objs.size,[s1.heap.objs.size],_,Its z,H1,rfl,I1.kept (t':=s1.toks) fun b u e=>Heap.get?_push_of_some _ e,FK _ z t "str_iterator" (by decide) (fun A' hA=>Walks.strWide hA _ z t) (fun _ _ _ _ _ st h=>wpAny_pyIter_striter_wide st h),⟨_,Heap.get?_push_size _ rfl,rfl,rfl⟩,fun b hb=> ?_,q⟩;have e:b=s1.heap.objs.size:=by simpa using hb
  subst e;exact I1.fpOk (Nat.le_refl _) (I1.hok.fresh (Nat.le_refl _))
 ·refine wpAny_pyIter_ascii ha ⟨s1.heap.objs.size,[s1.heap.objs.size],_,Its z,H1,rfl,I1.kept (t':=s1.toks) fun b u e=>Heap.get?_push_of_some _ e,FK _ z t "str_ascii_iterator" (by decide) (fun A' hA=>Walks.strAscii hA _ z t) (fun _ _ _ _ _ st h=>wpAny_pyIter_striter_ascii st h),⟨_,Heap.get?_push_size _ rfl,rfl,rfl⟩,fun b hb=> ?_,q⟩;have e:b=s1.heap.objs.size:=by simpa using hb
  subst e;exact I1.fpOk (Nat.le_refl _) (I1.hok.fresh (Nat.le_refl _))
theorem VY {J:It}{g:TG}{ti:TT}{te:TE}{σ0:St}{fin:List V->Hp->Prop}{H1:Hp} (n:Nat) (f:Nat->V) (hn:n<=sizeLine) (Ok:Hp->Prop) (h0:Ok H1)
  (hst:∀H,Ok H->J.stop n H)(hgo:∀i H,i<n->Ok H->J.go i H)
  (hstep:∀i H x H',i<n->Ok H->J.yld i H x H'->g x σ0 H' fun σ2 H2=>(σ2.length=σ0.length/\∀(j:Nat) v,σ0[j]? =some (some v)->σ2[j]? =some (some v))/\ti σ2 H2 fun b H3=>b=true/\te σ2 H3 fun y H4=>y=f i/\Ok H4)
  (mono:∀σ H (Q Q':Bool->Hp->Prop),(∀b H',Q b H'->Q' b H')->ti σ H Q->ti σ H Q')(mono2:∀σ H (Q Q':VK),(∀b H',Q b H'->Q' b H')->te σ H Q->te σ H Q')(mono3:∀x σ H (Q Q':St->Hp->Prop),(∀σ' H',Q σ' H'->Q' σ' H')->g x σ H Q->g x σ H Q')
  (hfin:∀H,Ok H->fin ((List.range n).map f) H):eU J g ti te σ0 fin H1:=by
 refine⟨fun i m ys H=>m=n - i/\i<=n/\ys=(List.range i).map f/\Ok H,⟨n,by simp,Nat.zero_le _,rfl,h0⟩,?_⟩;rintro i m ys H ⟨rfl,hi,rfl,ok⟩
 by_cases hlt:i<n
 ·refine .inr ⟨hgo i H hlt ok,fun x H' y=> ?_⟩;refine mono3 _ _ _ _ _ (fun σ' H'' q=>⟨q.1,mono _ _ _ _ (fun b H3 q=> ?_) q.2⟩) (hstep i H x H' hlt ok y);obtain⟨rfl,q⟩:=q;rw[if_pos rfl];refine mono2 _ _ _ _ (fun v H4 q=> ?_) q;obtain⟨rfl,ok4⟩:=q;refine⟨by rw[List.length_map,List.length_range];lia,n - (i+1),by lia,rfl,hlt,?_,ok4⟩;rw[List.range_succ,List.map_append];rfl
 ·have e:i=n:=by lia
  subst e;exact .inl ⟨hst H ok,hfin H ok⟩
section
variable {X:Cx}
theorem D9:∀bs:List Bool,(List.range bs.length).all (fun i=>bs.getD i true)=bs.all id
 | []=>rfl
 | b::bs=>by
  rw[List.length_cons,List.range_succ_eq_map,List.all_cons,List.all_map,List.all_cons,←D9 bs];rfl
theorem z5 (hc:X.calm=true):dL X (.builtin "all") (fun xs H Q=>∃(p:Addr) (bs:List Bool),xs=[.ref p]/\SqL X.K H p (bs.map V.bl)/\Q (.bl (bs.all id)) H):=by
 intro pins s σ H xs us Q I r h;obtain⟨p,bs,rfl,hq,q⟩:=h;obtain⟨u,rfl,rx⟩:=kN r;cases rx;obtain⟨its,r',pl,hz⟩:=I.list hq;have hl:=pl.isList;have hlt:p<s.heap.objs.size:=by obtain⟨_,e,_⟩:=hl;exact Heap.lt_size e
 have hlen:bs.length=its.length:=by have:=r'.length;rw[List.length_map]at this;exact this
 refine call_all_walk (wpAny_pyIter_list hl ?_);refine⟨s.heap.objs.size,_,_,its.toArray.size,_,_,fun i=>bs.getD i true,rfl,Walks.list (show X.A.in1.handled=none from I.ok.hd hc) s.heap.objs.size p (Nat.ne_of_lt hlt) its.toArray,⟨⟨_,Heap.get?_push_size _ rfl,rfl,rfl⟩,hl.push _⟩,?_,?_⟩
 ·intro i v s' Q' E' hi hQ;have hi':its[i]? =some v:=by simpa using hi
  have hib:i<bs.length:=by rw[hlen];exact(List.getElem?_eq_some_iff.mp hi').1
  obtain⟨u,hu,ru⟩:=r'.get (i:=i) (x:=V.bl bs[i]) (by rw[List.getElem?_map,List.getElem?_eq_getElem hib];rfl);rw[hi']at hu;cases hu;have:v=Value.bool bs[i]:=ru;subst this;refine wpAny_truthy_bool ?_;have eb:bs.getD i true=bs[i]:=by rw[List.getD_eq_getElem?_getD,List.getElem?_eq_getElem hib];rfl
  have hQ':Q' (bs.getD i true) s':=hQ;rw[eb]at hQ';exact hQ'
 ·intro h' tk hk;have eall:(List.range its.toArray.size).all (fun i=>bs.getD i true)=bs.all id:=by
   rw[List.size_toArray,←hlen];exact D9 bs
  rw[eall];refine⟨.bl (bs.all id),H,?_,rfl,q⟩;have I1:Inv X pins σ H { s with heap:=s.heap.push { cls:= .type "list_iterator",data:= .fields #[.ref p,.int 0 0] },toks:=s.toks }:=I.kept fun b u e=>Heap.get?_push_of_some _ e;obtain⟨f0,f1,f2,f3,f4,f5⟩:=I.fpOk (Nat.le_refl _) (I.hok.fresh (Nat.le_refl _));exact I1.turned (fun b o hb e=>hk b o (by simpa using hb) e) f0 f1 f3 f4 f5
theorem HB:dL X (.builtin "isinstance") (fun xs H Q=>∃x c t u b,xs=[x,c]/\jY X.K H x t/\RelV c u/\PySem.W.kitOne X.K t u=some b/\Q (.bl b) H):=by
 intro pins s σ H xs us Q I r h;obtain⟨x,c,t,u,b,rfl,ty,rc,e,q⟩:=h;obtain⟨v1,v2,rfl,r1,r2⟩:=LJ r;have e2:v2=u:=by
  cases c with
  | non=>exact(show v2=_ from r2).trans (show u=_ from rc).symm
  | bl b=>exact(show v2=_ from r2).trans (show u=_ from rc).symm
  | ref b=>exact(show v2=_ from r2).trans (show u=_ from rc).symm
  | ty b=>exact(show v2=_ from r2).trans (show u=_ from rc).symm
  | int i =>
   obtain⟨t1,rfl⟩:=(show ∃t,u=_ from rc)
   cases ty<;>simp[PySem.W.kitOne,PySem.W.kitCls]at e
  | str i =>
   obtain⟨t1,rfl⟩:=(show ∃t,u=_ from rc)
   cases ty<;>simp[PySem.W.kitOne,PySem.W.kitCls]at e
  | byt i =>
   obtain⟨t1,rfl⟩:=(show ∃t,u=_ from rc)
   cases ty<;>simp[PySem.W.kitOne,PySem.W.kitCls]at e
  | flt i =>
   obtain⟨t1,rfl⟩:=(show ∃t,u=_ from rc)
   cases ty<;>simp[PySem.W.kitOne,PySem.W.kitCls]at e
 subst e2;exact MZ I r1 ty e fun tk=>⟨.bl b,H,I.tok tk,rfl,q⟩
theorem ME:OpR X (compareOp .LtE) (fun x y H Q=>∃i j,x= .str i/\y= .str j/\Q (.bl (!decide (j.cps.toList<i.cps.toList))) H):=by
 intro pins s σ H x y v u Q I rx ry h;obtain⟨i,j,rfl,rfl,q⟩:=h;obtain⟨t,rfl⟩:=rx;obtain⟨t',rfl⟩:=ry;exact P.le_str ⟨.bl _,H,I,rfl,q⟩
end
end L2
namespace L2
open PySem PySem.Spec PyProof.Rows
def T0 (xs:List (Str×NameKind))(XN:List Str)(ns:List (Str×NameKind))(N:List Str)(nl:Nat)(ci:List Nat):Bool :=
 (ns.all fun y=>y.2 != .cell&&(y.2 != .local||ns.lookup y.1==some .local)&&(y.2 != .free||(xs.lookup y.1==some .cell&&ns.lookup y.1==some .free))) &&
 (N.length==nl+ci.length) &&
 (List.range ci.length).all fun j=>match ci[j]?,N[nl+j]? with
  | some i,some n=>XN[i]? ==some n&&xs.lookup n==some .cell&&ns.lookup n==some .free
  | _,_=>false
def sU (ns:List (Str×NameKind))(cs:List (Str×Addr)):List (Str×Addr)->List (Str×Addr)
 | acc=>ns.foldl (fun acc y=>if y.2== .free then (y.1,(cs.lookup y.1).getD 0)::acc else acc) acc
theorem uC {env:Env}:∀(ns:List (Str×NameKind)) (acc:List (Str×Addr)),(∀y∈ns,y.2= .free->∃c,env.cells.lookup y.1=some c) →
  (forIn ns acc fun x r=>(do
   let (name,kind):=x
   if (kind==NameKind.free)=true then do
     let c ←cellOf env name
     pure (ForInStep.yield ((name,c)::r))
    else pure (ForInStep.yield r)):Sem (List (Str×Addr)))=pure (sU ns env.cells acc)
 | [],acc,_=>rfl
 | (n,k)::r,acc,h=>by
  have ih:=fun acc=>uC r acc fun y hy=>h y (List.mem_cons_of_mem _ hy);rw[List.forIn_cons]
  by_cases hk:k= .free
  ·subst hk;obtain⟨c,e⟩:=h (n,.free) List.mem_cons_self rfl;have e1:cellOf env n=pure c:=by unfold cellOf;rw[e]
   simp only[beq_self_eq_true,if_true,e1];show (forIn r ((n,c)::acc) _:Sem (List (Str×Addr)))=_;rw[ih];show _=pure (sU ((n,NameKind.free)::r) env.cells acc);simp only[sU,List.foldl_cons,beq_self_eq_true,if_true,e,Option.getD_some]
  ·have hb:(k==NameKind.free)=false:=by simpa using hk
   simp only[hb,Bool.false_eq_true,if_false];show (forIn r acc _:Sem (List (Str×Addr)))=_;rw[ih];simp only[sU,List.foldl_cons,hb,Bool.false_eq_true,if_false]
theorem jM {cs:List (Str×Addr)}:∀(ns:List (Str×NameKind)) (acc:List (Str×Addr)) (n:Str),(∀y∈ns,y.2= .free->∃c,cs.lookup y.1=some c) →
  ((n,NameKind.free)∈ns∨acc.lookup n=cs.lookup n)->(∀c,acc.lookup n=some c->cs.lookup n=some c)->(sU ns cs acc).lookup n=cs.lookup n
 | [],acc,n,_,h,_=>by
  rcases h with h|h
  ·cases h
  ·exact h
 | (m,k)::r,acc,n,hc,h,hs=>by
  have hc':∀y∈r,y.2= .free->∃c,cs.lookup y.1=some c:=fun y hy=>hc y (List.mem_cons_of_mem _ hy);show (sU r cs (if k== .free then (m,(cs.lookup m).getD 0)::acc else acc)).lookup n=cs.lookup n
  by_cases hk:k= .free
  ·subst hk;obtain⟨c,e⟩:=hc (m,.free) List.mem_cons_self rfl;simp only[beq_self_eq_true,if_true,e,Option.getD_some]
   by_cases hm:n=m
   ·subst hm;have q:List.lookup n ((n,c)::acc)=some c:=by simp[List.lookup_cons]
    exact jM r _ n hc' (.inr (q.trans e.symm)) fun c' z=>by rw[q]at z;cases z;exact e
   ·have hb:(n==m)=false:=by simpa using hm
    have q:List.lookup n ((m,c)::acc)=acc.lookup n:=by simp[List.lookup_cons,hb]
    refine jM r _ n hc' ?_ fun c' z=>hs c' (q▸z);rcases h with h|h
    ·rcases List.mem_cons.mp h with z|z
     ·cases z;exact absurd rfl hm
     ·exact .inl z
    ·exact .inr (q.trans h)
  ·have hb:(k==NameKind.free)=false:=by simpa using hk
   simp only[hb,Bool.false_eq_true,if_false];refine jM r _ n hc' ?_ hs;rcases h with h|h
   ·rcases List.mem_cons.mp h with z|z
    ·cases z;exact absurd rfl hk
    ·exact .inl z
   ·exact .inr h
theorem E5 {cs:List (Str×Addr)}:∀(ns:List (Str×NameKind)) (acc:List (Str×Addr)),(∀y∈ns,y.2= .free->∃c,cs.lookup y.1=some c) →
  (∀n c,acc.lookup n=some c->cs.lookup n=some c)->∀n c,(sU ns cs acc).lookup n=some c->cs.lookup n=some c
 | [],acc,_,hs,n,c,h=>hs n c h
 | (m,k)::r,acc,hc,hs,n,c,h=>by
  have hc':∀y∈r,y.2= .free->∃c,cs.lookup y.1=some c:=fun y hy=>hc y (List.mem_cons_of_mem _ hy);have h':(sU r cs (if k== .free then (m,(cs.lookup m).getD 0)::acc else acc)).lookup n=some c:=h;refine E5 r _ hc' ?_ n c h';intro n' c' z
  by_cases hk:k= .free
  ·subst hk;obtain⟨d,e⟩:=hc (m,.free) List.mem_cons_self rfl;simp only[beq_self_eq_true,if_true,e,Option.getD_some]at z
   by_cases hm:n'=m
   ·subst hm;simp[List.lookup_cons]at z;subst z;exact e
   ·have hb:(n'==m)=false:=by simpa using hm
    simp[List.lookup_cons,hb]at z;exact hs n' c' z
  ·have hb:(k==NameKind.free)=false:=by simpa using hk
   simp only[hb,Bool.false_eq_true,if_false]at z;exact hs n' c' z
theorem lA {env:Env}(hkf:env.scope.kind= .function):∀{names:List (Str×NameKind)}{x:Str},names.lookup x=some .free->env.kindOf x=some .cell →
  (names.map fun (n,k)=>if (k==NameKind.free&&env.scope.kind== .function&&env.kindOf n==some .cell) then (n,NameKind.cell) else (n,k)).lookup x=some .cell
 | [],_,h,_=>by simp at h
 | (n,k)::r,x,h,hc=>by
  show List.lookup x ((if (k==NameKind.free&&env.scope.kind== .function&&env.kindOf n==some .cell)=true then (n,NameKind.cell) else (n,k))::_)=_;cases hx:x==n with
  | true =>
   simp only[List.lookup_cons,hx]at h;cases h;have e:x=n:=by simpa using hx
   subst e;rw[hkf,hc];simp[List.lookup_cons]
  | false =>
   simp only[List.lookup_cons,hx]at h;have ih:=lA hkf h hc
   split
   ·simp only[List.lookup_cons,hx];exact ih
   ·simp only[List.lookup_cons,hx];exact ih
theorem iE {env:Env}:∀{names:List (Str×NameKind)}{x:Str}{k':NameKind},(∀y∈names,y.2≠ .cell)->(k'= .cell∨k'= .free) →
  (names.map fun (n,k)=>if (k==NameKind.free&&env.scope.kind== .function&&env.kindOf n==some .cell) then (n,NameKind.cell) else (n,k)).lookup x=some k'->(x,NameKind.free)∈names
 | [],_,_,_,_,h=>by simp at h
 | (n,k)::r,x,k',hn,hk',h=>by
  have h':List.lookup x ((if (k==NameKind.free&&env.scope.kind== .function&&env.kindOf n==some .cell)=true then (n,NameKind.cell) else (n,k))::r.map _)=some k':=h;cases hx:x==n with
  | true =>
   have e:x=n:=by simpa using hx
   subst e
   by_cases hf:k= .free
   ·subst hf;exact List.mem_cons_self
   ·have hb:(k==NameKind.free)=false:=by simpa using hf
    simp only[hb,Bool.false_and,Bool.false_eq_true,if_false,List.lookup_cons,hx]at h';cases h';rcases hk' with z|z
    ·exact absurd z (hn (x,k) List.mem_cons_self)
    ·exact absurd z hf
  | false =>
   have h2:List.lookup x (r.map fun (n,k)=>if (k==NameKind.free&&env.scope.kind== .function&&env.kindOf n==some .cell) then (n,NameKind.cell) else (n,k))=some k':=by
    split at h'
    ·simp only[List.lookup_cons,hx]at h';exact h'
    ·simp only[List.lookup_cons,hx]at h';exact h'
   exact List.mem_cons_of_mem _ (iE (fun y hy=>hn y (List.mem_cons_of_mem _ hy)) hk' h2)
theorem blk {X:Cx}{scope:Scope}{N:List Str}{nl:Nat}{ci:List Nat} (n0:Nat) (hX:X.env.cells=cellsFrom n0 X.env.scope.names []) (hkf:X.env.scope.kind= .function) (hk:scope.kind= .function)
  (h:T0 X.env.scope.names X.N scope.names N nl ci=true):Blk X scope (sU scope.names X.env.cells []) N nl ci:=by
 unfold T0 at h;rw[Bool.and_eq_true,Bool.and_eq_true]at h;obtain⟨⟨h1,h2⟩,h3⟩:=h;rw[List.all_eq_true]at h1;have h1':∀y∈scope.names,y.2≠ .cell/\(y.2= .local->scope.names.lookup y.1=some .local)/\(y.2= .free->X.env.scope.names.lookup y.1=some .cell/\scope.names.lookup y.1=some .free):=fun y hy=>by
  have q:=h1 y hy;simp only[Bool.and_eq_true,Bool.or_eq_true,bne_iff_ne,ne_eq,beq_iff_eq]at q;obtain⟨⟨q1,q2⟩,q3⟩:=q;exact⟨q1,fun e=>q2.resolve_left fun z=>z e,fun e=>q3.resolve_left fun z=>z e⟩
 have hcs:∀y∈scope.names,y.2= .free->∃c,X.env.cells.lookup y.1=some c:=fun y hy e=>by
  rw[hX];exact xR ((h1' y hy).2.2 e).1
 refine⟨hk,fun y hy=>(h1' y hy).2.1,fun y hy=>(h1' y hy).1,?_,?_,?_,by simpa using h2,?_⟩
 ·unfold closureFor;refine(congrArg (fun m:Sem (List (Str×Addr))=>m >>= fun cs=>pure cs) (uC scope.names [] hcs)).trans ?_;rfl
 ·exact E5 scope.names [] hcs fun n c z=>by cases z
 ·intro n hn;have hm:(n,NameKind.free)∈scope.names:=by
   rcases hn with z|z
   ·exact iE (fun y hy=>(h1' y hy).1) (.inl rfl) z
   ·exact iE (fun y hy=>(h1' y hy).1) (.inr rfl) z
  obtain⟨c,e⟩:=hcs _ hm rfl;exact⟨c,(jM scope.names [] n hcs (.inl hm) fun c z=>by cases z).trans e⟩
 ·intro j i hj;have hjl:j<ci.length:=(List.getElem?_eq_some_iff.mp hj).1;rw[List.all_eq_true]at h3;have q:=h3 j (List.mem_range.mpr hjl);rw[hj]at q;cases e:N[nl+j]? with
  | none=>rw[e]at q;cases q
  | some n =>
   rw[e]at q;simp only[Bool.and_eq_true,beq_iff_eq]at q;obtain⟨⟨q1,q2⟩,q3⟩:=q;refine⟨n,rfl,q1,.inl q2,.inl (lA hkf q3 q2),?_⟩;exact jM scope.names [] n hcs (.inl (PySem.mem_of_lookup q3)) fun c z=>by cases z
structure Fc (P:Program)(w:World)(K:PySem.W.Frag)(mg:Str->Option Value)(base:Heap)(x:Str)(k:Nat)(ps:List Str)(sp:Sp):Prop where
 ex:∃f fd,mg x=some (.ref f)/\PySem.W.keepIn K (.ref f)=true/\Binds K fd ps []/\bK P w K mg base CX0 k f fd ps sp
theorem bR {X:Cx}{x:Str}{k k':Nat}{ps:List Str}{sp:Sp}{e:Expr}{es:List Expr}{t:TA}{p pos:Pos} (F:Fc X.prog X.w X.K X.mg X.base x k ps sp) (hr:Room k' X.A) (ha:PA X (e::es) t) (hk:k<=k':=by decide) (hg:Gl X x:=by rfl)
  (hdb:(x==("__debug__" :Str))=false:=by decide)(he:starEach (e::es) X.env=(false,eval e X.env)::starEach es X.env:=by rfl)(hpl:(backTo pos (starEach es X.env)).any (·.1)=false:=by rfl) :
  PE X (.Call (.Name x p) (e::es) [] pos) (zC sp [] E0 t):=by
 obtain⟨f,fd,hm,kp,b,G⟩:=F.ex;exact UZ G (hr.mono hk) hg hm kp b .nil zI ha hdb he hpl
theorem yG {X:Cx}{x:Str}{n:String}{pos:Pos} (hg:Gl X x) (hm:X.mg x=none) (hv:bootBuiltins x=some (.type n)) (hn:x≠ "__name__" :=by decide) (hd:(x==("__debug__" :Str))=false:=by decide):PE X (.Name x pos) (tC (.ty n)):=VB hg hm hv rfl hn hd
theorem VX {X:Cx}{x:Str}{i:Int}{t:Tok}{pos:Pos} (hg:Gl X x) (hm:X.mg x=some (.int i t)) (hd:(x==("__debug__" :Str))=false:=by decide):PE X (.Name x pos) (tC (.int i)):=U6 hg hm ⟨t,rfl⟩ hd
theorem hV:bootBuiltins "isinstance" =some (.builtin "isinstance"):=by decide +kernel
theorem ZI:bootBuiltins "all" =some (.builtin "all"):=by decide +kernel
theorem iA:bootBuiltins "len" =some (.builtin "len"):=by decide +kernel
theorem FL:bootBuiltins "max" =some (.builtin "max"):=by decide +kernel
theorem MS:bootBuiltins "min" =some (.builtin "min"):=by decide +kernel
theorem NY:bootBuiltins "int" =some (.type "int"):=by decide +kernel
theorem aAp:bootBuiltins "str" =some (.type "str"):=by decide +kernel
theorem JB:bootBuiltins "bool" =some (.type "bool"):=by decide +kernel
theorem v8:bootBuiltins "list" =some (.type "list"):=by decide +kernel
theorem UR:bootBuiltins "dict" =some (.type "dict"):=by decide +kernel
inductive BTy (K:PySem.W.Frag)(H:Hp):V->String->Prop where
 | non:BTy K H .non "NoneType"
 | bl (x:Bool):BTy K H (.bl x) "bool"
 | int (i:Int):BTy K H (.int i) "int"
 | str (x:Str):BTy K H (.str x) "str"
 | lst {a:Addr}{xs:List V} (e:H a=some (.lst xs)):BTy K H (.ref a) "list"
 | tup {a:Addr}{xs:List V} (e:H a=some (.tup xs)):BTy K H (.ref a) "tuple"
 | dK {a:Addr}{kvs:List (Key×V)} (e:H a=some (.dK kvs)):BTy K H (.ref a) "dict"
theorem BTy.ty {K:PySem.W.Frag}{H:Hp}{x:V}{n:String} (b:BTy K H x n):jY K H x (.type n):=by
 cases b with
 | non=>exact .non
 | bl=>exact .bl _
 | int=>exact .int _
 | str=>exact .str _
 | lst e=>exact .lst e
 | tup e=>exact .tup e
 | dK e=>exact .dK e
def isB (n c:String):Bool:=n==c||(n== "bool" &&c== "int")
theorem DU {K:PySem.W.Frag}{H:Hp}{x:V}{n:String} (b:BTy K H x n) (c:String) (hc:c= "int" ∨c= "bool" ∨c= "str"):PySem.W.kitOne K (.type n) (.type c)=some (isB n c):=by
 cases b<;>rcases hc with rfl|rfl|rfl<;>kernel_rfl
end L2
namespace L2
open PySem PySem.Spec PyProof.Rows
theorem OD {J:It}{te:TE}{σ0:St}{fin:List V->Hp->Prop}{H1:Hp} (n:Nat) (Ok:Nat->List V->Hp->Prop) (hn:n<=sizeLine) (h00:σ0[0]? =some none) (h0:Ok 0 [] H1) (hlen:∀i ys H,Ok i ys H->ys.length<=i)
  (hst:∀ys H,Ok n ys H->J.stop n H/\fin ys H)(hstep:∀i ys H,i<n->Ok i ys H->J.go i H/\∀x H',J.yld i H x H'->∀R:VK,(∀y H4,Ok (i+1) (ys++[y]) H4->R y H4)->te (σ0.set 0 (some x)) H' R):eU J (cM 0) xO te σ0 fin H1:=by
 refine⟨fun i m ys H=>m=n - i/\i<=n/\Ok i ys H,⟨n,by simp,Nat.zero_le _,h0⟩,?_⟩;rintro i m ys H ⟨rfl,hi,ok⟩
 by_cases hlt:i<n
 ·obtain⟨go,st⟩:=hstep i ys H hlt ok;refine .inr ⟨go,fun x H' y=>⟨⟨by simp,fun j v hv=> ?_⟩,?_⟩⟩
  ·cases j with
   | zero=>rw[h00]at hv;cases hv
   | succ j=>rw[List.getElem?_set_ne (by lia)];exact hv
  ·unfold xO
   dsimp only
   rw[if_pos rfl];exact st x H' y _ fun z H4 ok4=>⟨by have:=hlen i ys H ok;lia,n - (i+1),by lia,rfl,hlt,ok4⟩
 ·have e:i=n:=by lia
  subst e;exact .inl (hst ys H ok)
theorem KW {lo:Int}{n:Nat}{te:TE}{σ0:St}{fin:List V->Hp->Prop}{H1:Hp} (Ok:Nat->List V->Hp->Prop) (hn:n<=sizeLine) (h00:σ0[0]? =some none) (h0:Ok 0 [] H1) (hlen:∀i ys H,Ok i ys H->ys.length<=i) (hfin:∀ys H,Ok n ys H->fin ys H)
  (hstep:∀i ys H,i<n->Ok i ys H->∀R:VK,(∀y H4,Ok (i+1) (ys++[y]) H4->R y H4)->te (σ0.set 0 (some (.int (lo+i)))) H R):eU (Itr lo n) (cM 0) xO te σ0 fin H1 :=
 OD n Ok hn h00 h0 hlen (fun ys H ok=>⟨Nat.le_refl _,hfin ys H ok⟩) fun i ys H hi ok=>⟨hi,fun x H' y=>by
  obtain⟨e1,e2⟩:=y;subst e1 e2;exact hstep i ys _ hi ok⟩
section
variable {X:Cx}
end
structure FunV (K:PySem.W.Frag)(x qual:Str)(st:Stmt)(f:Addr)(fd:FuncData):Prop where
 ex:∃(oc:Value) (od:Option Addr) (dV kV doc pm:Value) (an:Option Addr) (cdv ct:Value) (osl:Array (Option Value)),
  fd=PySem.W.fnOf x qual (aM st) (aK st) (aD st) dV kV doc pm an cdv ct/\K.lookup f=some ⟨oc,od,.func fd,osl⟩/\PySem.W.codeIn K cdv qual=true
 kp:PySem.W.keepIn K (.ref f)=true
section
variable {P:Program}{w:World}{K:PySem.W.Frag}{mg:Str->Option Value}{base:Heap}
theorem FunV.ok {x qual:Str}{st:Stmt}{f:Addr}{fd:FuncData}{N ps:List Str}{k:Nat}{sp:Sp} (F:FunV K x qual st f fd) (S:aX N ps (aD st)) (len:∀vs H Q E,sp vs H Q E->vs.length=ps.length)
  (hbody:∀(cdv:Value) (A:Around) (outer:List Env) (s:Shared) (H:Hp) (vs:List V) (Q:VK) (E:XK),Room k (A.deeper (envOfC qual (aD st) s.heap.objs.size f cdv))->sp vs H Q E →
   ∃t,PSs (zZ CX0 P w K mg base N qual (aD st) f cdv A outer s H E).nox (aK st) t/\t { nx:=fun _ H'=>Q .non H',rt:=Q } (start N vs) H):bK P w K mg base CX0 (k+1) f fd ps sp:=by
 obtain⟨oc,od,dV,kV,doc,pm,an,cdv,ct,osl,rfl,lk,hcd⟩:=F.ex;refine aAZ lk hcd S len fun A outer s H vs Q E hr h=> ?_;obtain⟨t,h1,h2⟩:=hbody cdv A outer s H vs Q E hr h;exact⟨t,PSs.nox h1,h2⟩
theorem aT {x qual:Str}{st:Stmt}{f:Addr}{oc:Value}{od an:Option Addr}{osl:Array (Option Value)}{dV kV doc pm cdv ct:Value} (l:K.lookup f=some ⟨oc,od,.func (PySem.W.fnOf x qual (aM st) (aK st) (aD st) dV kV doc pm an cdv ct),osl⟩) (c:PySem.W.codeIn K cdv qual=true)
  (k:PySem.W.keepIn K (.ref f)=true):FunV K x qual st f (PySem.W.fnOf x qual (aM st) (aK st) (aD st) dV kV doc pm an cdv ct):=⟨⟨oc,od,dV,kV,doc,pm,an,cdv,ct,osl,rfl,l,c⟩,k⟩
structure Mc (P:Program)(w:World)(K:PySem.W.Frag)(mg:Str->Option Value)(base:Heap)(C:Addr)(nm:Str)(k:Nat)(sp:Sp):Prop where
 ex:∃f fd ps,Cls K C/\gY K C nm f/\Binds K fd ps []/\bK P w K mg base CX0 k f fd ps sp
structure Kc (P:Program)(w:World)(K:PySem.W.Frag)(mg:Str->Option Value)(base:Heap)(x:Str)(C:Addr)(k:Nat)(dvs:List V)(sp:Sp):Prop where
 ex:∃f fd ps ds,mg x=some (.ref C)/\Mk K C f/\Vals dvs ds/\Binds K fd ps ds/\bK P w K mg base CX0 k f fd ps sp
end
section
variable {X:Cx}{k k':Nat}{sp:Sp}{x m:Str}{p pos apos:Pos}{e o:Expr}{es:List Expr}{ta:TE}{t:TA}{C:Addr}{dvs:List V}
def tMD (M:Addr->Sp->Prop)(m:Str)(ta:TE)(t:TA):TE:=fun σ H Q=>ta σ H fun x H1=>∃a C dx fs sp,x= .ref a/\H1 a=some (.ins C dx fs)/\fs.lookup m=none/\M C sp/\t σ H1 fun vs H2=>sp (x::vs) H2 Q E0
theorem gE (k:Nat){pl:Sem Bool}(hr:Room k' X.A)(ho:PE X o ta)(ha:PA X (e::es) t)(hk:k<=k':=by decide)
  (hst:starEach (e::es) X.env=(false,eval e X.env)::starEach es X.env:=by rfl)(hpl:(backTo pos (starEach es X.env)).any (·.1)=false:=by rfl)
  (ht:eval (.Call (.Attribute o m apos) (e::es) [] pos) X.env=(do
   let ov ←eval o X.env
   standAt apos.atName
   let (f,first) ←holding [ov] (getMethod ov m pl)
   callWith pos f first (backTo pos (starEach (e::es) X.env)) (backToKw pos (keywordEach [] X.env))):=by rfl) :
  PE X (.Call (.Attribute o m apos) (e::es) [] pos) (tMD (fun C sp=>Mc X.prog X.w X.K X.mg X.base C m k sp) m ta t):=by
 intro pins s σ H Q I h;refine PySem.W.methodCall_KW (pl:=pl) (thn (ho pins s σ H _ I h) fun u s1 ⟨x,H1,I1,rx,a,C,dx,fs,sp,ex,ea,l,M,q⟩=> ?_) ht;subst ex;obtain rfl:u=Value.ref a:=rx;obtain⟨f,fd,ps,c,hm,hb,F⟩:=M.ex;refine zD I1 ea c hm l ?_;refine PySem.W.callWith_K (first:=[.ref a]) (h₀:=X.base) I.ok.mod.kin hm.kp (thn (ha pos pins s1 σ H1 _ I1 q) fun us s2 ⟨vs,H2,I2,r,q2⟩=>⟨I2.kIn,?_⟩) hst hpl;exact yL (us:= .ref a::us) (vs:= .ref a::vs) (dvs:=[]) F (hr.mono hk) hb .nil zI I2 (.cons rfl r) (by rw[List.append_nil];exact q2)
theorem fV (k:Nat){pl:Sem Bool}(hr:Room k' X.A)(ho:PE X o ta)(hk:k<=k':=by decide)
  (ht:eval (.Call (.Attribute o m apos) [] [] pos) X.env=(do
   let ov ←eval o X.env
   standAt apos.atName
   let (f,first) ←holding [ov] (getMethod ov m pl)
   callWith pos f first (backTo pos (starEach [] X.env)) (backToKw pos (keywordEach [] X.env))):=by rfl) :
  PE X (.Call (.Attribute o m apos) [] [] pos) (tMD (fun C sp=>Mc X.prog X.w X.K X.mg X.base C m k sp) m ta LM):=by
 intro pins s σ H Q I h;refine PySem.W.methodCall_KW (pl:=pl) (thn (ho pins s σ H _ I h) fun u s1 ⟨x,H1,I1,rx,a,C,dx,fs,sp,ex,ea,l,M,q⟩=> ?_) ht;subst ex;obtain rfl:u=Value.ref a:=rx;obtain⟨f,fd,ps,c,hm,hb,F⟩:=M.ex;refine zD I1 ea c hm l ?_;exact PySem.W.callWith_K0 (first:=[.ref a]) I1.kIn hm.kp (yL (us:=[.ref a]) (vs:=[.ref a]) (dvs:=[]) F (hr.mono hk) hb .nil zI I1 (.cons rfl .nil) q)
theorem LB (F:Kc X.prog X.w X.K X.mg X.base x C k dvs sp)(hr:Room k' X.A)(ha:PA X (e::es) t)(hk:k+1<=k':=by decide)(hg:Gl X x:=by rfl)
  (hdb:(x==("__debug__" :Str))=false:=by decide)(he:starEach (e::es) X.env=(false,eval e X.env)::starEach es X.env:=by rfl)(hpl:(backTo pos (starEach es X.env)).any (·.1)=false:=by rfl) :
  PE X (.Call (.Name x p) (e::es) [] pos) (K4 C sp dvs E0 t):=by
 obtain⟨f,fd,ps,ds,hm,M,hd,hb,G⟩:=F.ex;exact WQ M G (hr.mono hk) hg hm hb hd zI ha hdb he hpl
structure Dc (P:Program)(w:World)(K:PySem.W.Frag)(mg:Str->Option Value)(base:Heap)(x m:Str)(k:Nat)(sp:Sp):Prop where
 ex:∃C f fd ps,mg x=some (.ref C)/\PySem.W.specialIn K (.ref C) "__getattribute__" =some (some (.builtin "type.__getattribute__"))/\PySem.W.readsIn K C (.type "type")=true/\PySem.W.findCls K (.ref C) (.type "type") m=some (.val (.ref f)) ∧
  PySem.W.keepIn K (.ref f)=true/\Binds K fd ps []/\bK P w K mg base CX0 k f fd ps sp
theorem aBE {pl:Sem Bool}(F:Dc X.prog X.w X.K X.mg X.base x m k sp)(hr:Room k' X.A)(ha:PA X (e::es) t)(hk:k<=k':=by decide)(hg:Gl X x:=by rfl)(hdb:(x==("__debug__" :Str))=false:=by decide)
  (hst:starEach (e::es) X.env=(false,eval e X.env)::starEach es X.env:=by rfl)(hpl:(backTo pos (starEach es X.env)).any (·.1)=false:=by rfl)
  (ht:eval (.Call (.Attribute (.Name x p) m apos) (e::es) [] pos) X.env=(do
   let ov ←eval (.Name x p) X.env
   standAt apos.atName
   let (f,first) ←holding [ov] (getMethod ov m pl)
   callWith pos f first (backTo pos (starEach (e::es) X.env)) (backToKw pos (keywordEach [] X.env))):=by rfl) :
  PE X (.Call (.Attribute (.Name x p) m apos) (e::es) [] pos) (zC sp [] E0 t):=by
 intro pins s σ H Q I h;obtain⟨C,f,fd,ps,hm,hga,hrd,hfc,kp,hb,G⟩:=F.ex;refine PySem.W.methodCall_KW (pl:=pl) (wG I hg hm ?_ hdb) ht;refine PySem.W.method_cls I.kIn hga (PySem.W.cls_value I.kIn hrd hfc (BD (v:= .ref f) rfl) ?_);have I1:=I.tok (s.toks+1);refine PySem.W.callWith_K (first:=[]) (h₀:=X.base) I.ok.mod.kin kp (thn (ha pos pins _ σ H _ I1 h) fun us s2 ⟨vs,H2,I2,r,q2⟩=>⟨I2.kIn,?_⟩) hst hpl;exact yL G (hr.mono hk) hb .nil zI I2 r q2
end
end L2
namespace L2
open PySem PySem.Spec PyProof.Rows
def Y4:R2:=fun x y H Q=>y= .non/\Q (.bl (decide (x= .non))) H
def DV:R2:=fun x y H Q=>y= .non/\Q (.bl (!decide (x= .non))) H
def aBU:R2:=fun x y H Q=>∃i j,x= .str i/\y= .str j/\Q (.bl (!decide (j.cps.toList<i.cps.toList))) H
def J8 (K:PySem.W.Frag):List V->Hp->VK->Prop:=fun xs H Q=>∃x c t u b,xs=[x,c]/\jY K H x t/\RelV c u/\PySem.W.kitOne K t u=some b/\Q (.bl b) H
def aBQ (K:PySem.W.Frag):List V->Hp->VK->Prop:=fun xs H Q=>∃(p:Addr) (bs:List Bool),xs=[.ref p]/\SqL K H p (bs.map V.bl)/\Q (.bl (bs.all id)) H
def aBm:List V->Hp->VK->Prop:=fun xs H Q=>∃z,xs=[.str z]/\z.length<=sizeLine/\Q (.int z.length) H
def T7 (K:PySem.W.Frag):List V->Hp->VK->Prop:=fun xs H Q=>∃p ys,xs=[.ref p]/\(SqL K H p ys∨SqT K H p ys)/\Q (.int ys.length) H
def UD:List V->Hp->VK->Prop:=fun xs H Q=>∃i j,xs=[.int i,.int j]/\Q (.int (if j>i then j else i)) H
def UA:List V->Hp->VK->Prop:=fun xs H Q=>∃i j,xs=[.int i,.int j]/\Q (.int (if j<i then j else i)) H
def I0 (K:PySem.W.Frag):List V->Hp->VK->Prop:=fun xs H Q=>∃p ys,xs=[.ref p]/\(SqL K H p ys∨SqT K H p ys)/\∀l,H l=none->Q (.ref l) (upd H l (.lst ys))
section
variable {X:Cx}
theorem YO:OpR X (compareOp .Is) Y4:=X4
theorem oJ:OpR X (compareOp .IsNot) DV:=VF
theorem MU:OpR X (compareOp .LtE) aBU:=ME
theorem oQ:dL X (.builtin "isinstance") (J8 X.K):=HB
theorem P4 (hc:X.calm=true):dL X (.builtin "all") (aBQ X.K):=z5 hc
theorem MN:dL X (.builtin "len") aBm:=D2
theorem dZ:dL X (.builtin "len") (T7 X.K):=D7
theorem uV (hc:X.calm=true):dL X (.builtin "max") UD:=O0 hc
theorem BA (hc:X.calm=true):dL X (.builtin "min") UA:=N8 hc
theorem yW:dL X (.type "list") (I0 X.K):=EY
theorem WN {i j:Int}(n:Int){k1 k2 p1 p2 pos}(h:i^j.toNat=n)(c:F5 i j):PE X (.BinOp (.Constant (.int i) k1 p1) .Pow (.Constant (.int j) k2 p2) pos) (tC (.int n)):=by
 subst h;intro pins s σ H Q I q;exact aJ Z1 aG aG pins s σ H Q I ⟨i,j,rfl,rfl,c,q⟩
end
def vO (P:Bool->Hp->Prop):VK:=fun x H=>∃k,x= .bl k/\P k H
def Y3 (O:Option Int->Hp->Prop):VK:=fun x H=>∃i,x= .int i/\O (some i) H
def aAJ (Q:VK):List V->Hp->Prop:=fun xs H=>xs.length<=sizeLine/\∀p,H p=none->Q (.ref p) (upd H p (.lst xs))
def aAC (Q:VK):List V->Hp->Prop:=fun xs H=>xs.length<=sizeLine/\∀p,H p=none->Q (.ref p) (upd H p (.tup xs))
def aAs (Q:VK):List V->Hp->Prop:=fun ys H=>∀p,H p=none->Q (.ref p) (upd H p (.lst ys))
def YK (K:PySem.W.Frag)(f:Str)(Q:VK):VK:=fun x H=>∃a C dx fs v,x= .ref a/\H a=some (.ins C dx fs)/\Cls K C/\NoAttr K C f/\fs.lookup f=some v/\Q v H
def TX (K:PySem.W.Frag)(f:Str)(y:V)(q:Hp->Prop):VK:=fun x H=>∃a C dx fs,x= .ref a/\H a=some (.ins C dx fs)/\Cls K C/\NoAttr K C f/\fs.length<1000/\q (upd H a (.ins C dx (c7 f y fs)))
def MdP (M:Addr->Sp->Prop)(m:Str)(t:TA)(σ:St)(Q:VK):VK:=fun x H=>∃a C dx fs sp,x= .ref a/\H a=some (.ins C dx fs)/\fs.lookup m=none/\M C sp/\t σ H fun vs H2=>sp (x::vs) H2 Q E0
def yO (C:Addr)(sp:Sp)(dvs:List V)(E:XK)(Q:VK):List V->Hp->Prop:=fun vs H1=>∀x dx,H1 x=none->H1 dx=none->dx≠x →
 sp (.ref x::(vs++dvs)) (upd (upd H1 dx (.own x)) x (.ins C dx [])) (fun v H2=>v= .non/\Q (.ref x) H2) E
def BmP (K:PySem.W.Frag)(T:String)(r:V->List V->Hp->VK->Prop)(t:TA)(σ:St)(Q:VK):VK:=fun x H1=>tyV K T x H1/\t σ H1 fun xs H2=>r x xs H2 Q
def aAD (K:PySem.W.Frag)(T:String)(r:V->List V->Hp->VK->Prop)(Q:VK):VK:=fun x H1=>tyV K T x H1/\r x [] H1 Q
def Y8 (K:PySem.W.Frag)(R:It->Hp->Prop):VK:=fun x H1=>∃a,x= .ref a/\(∃xs,SqL K H1 a xs)/\R (Itl K a) H1
def ZB (R:It->Hp->Prop):List V->Hp->Prop:=fun vs H1=>∃j:Int,vs=[.int j]/\ -(2^62)<=j/\j<2^62/\R (Itr 0 j.toNat) H1
def Z3 (R:It->Hp->Prop):List V->Hp->Prop:=fun vs H1=>∃i j:Int,vs=[.int i,.int j]/\(-(2^62)<=i/\i<2^62/\ -(2^62)<=j/\j<2^62)/\R (Itr i (j - i).toNat) H1
section
variable {nx bk ct:St->Hp->Prop}{rt:VK}{σ:St}{H:Hp}{Q:VK}{t u:TS}{te ta tb tc:TE}{g:TG}{c d:TT}{v:V}{K:PySem.W.Frag}{E:XK}
theorem ZO (h:t ⟨u ⟨nx,rt,bk,ct⟩,rt,bk,ct⟩ σ H):KQ t u ⟨nx,rt,bk,ct⟩ σ H:=h
theorem RV {v:TS}(h:KQ (KR c t u) v ⟨nx,rt,bk,ct⟩ σ H):KQ (KR c t u) v ⟨nx,rt,bk,ct⟩ σ H:=h
theorem XQ (h:nx σ H):TM ⟨nx,rt,bk,ct⟩ σ H:=h
theorem ZY (h:te σ H fun x H1=>g x σ H1 nx):LE te g ⟨nx,rt,bk,ct⟩ σ H:=h
theorem Y7 (h:te σ H rt):X6 te ⟨nx,rt,bk,ct⟩ σ H:=h
theorem WY (h:te σ H fun _ H1=>nx σ H1):UG te ⟨nx,rt,bk,ct⟩ σ H:=h
theorem aBc (h:c σ H fun b H1=>if b=true then t ⟨nx,rt,bk,ct⟩ σ H1 else u ⟨nx,rt,bk,ct⟩ σ H1):KR c t u ⟨nx,rt,bk,ct⟩ σ H:=h
def LZ (J:It)(g:TG)(tb:TS)(D:qS)(σ:St)(H:Hp):Prop :=
 ∃W:Nat->Nat->St->Hp->Prop,(∃m,W 0 m σ H)/\∀i m σ H,W i m σ H →
  (J.stop i H/\D.nx σ H)∨(J.go i H/\∃N:St->Hp->Prop,(∀σ' H',N σ' H'->∃m',m'<m/\W (i+1) m' σ' H')/\∀x H',J.yld i H x H'->g x σ H' fun σ2 H2=>tb { D with nx:=N,ct:=N,bk:=D.nx } σ2 H2)
theorem X8 {wi:TI}{tb:TS} (h:wi σ H fun J H1=>LZ J g tb ⟨nx,rt,bk,ct⟩ σ H1):aAI wi g tb ⟨nx,rt,bk,ct⟩ σ H:=h
theorem aBe {l:St}(h:Q v H):lH 0 (some v::l) H Q:=⟨v,rfl,h⟩
theorem aA6 {a0}{l:St} (h:Q v H):lH 1 (a0::some v::l) H Q:=⟨v,rfl,h⟩
theorem aBn {a0 a1}{l:St} (h:Q v H):lH 2 (a0::a1::some v::l) H Q:=⟨v,rfl,h⟩
theorem aA5 {a0 a1 a2}{l:St} (h:Q v H):lH 3 (a0::a1::a2::some v::l) H Q:=⟨v,rfl,h⟩
theorem aBG {a0 a1 a2 a3}{l:St} (h:Q v H):lH 4 (a0::a1::a2::a3::some v::l) H Q:=⟨v,rfl,h⟩
theorem aBi {a0 a1 a2 a3 a4}{l:St} (h:Q v H):lH 5 (a0::a1::a2::a3::a4::some v::l) H Q:=⟨v,rfl,h⟩
theorem aA8 {a0 a1 a2 a3 a4 a5}{l:St} (h:Q v H):lH 6 (a0::a1::a2::a3::a4::a5::some v::l) H Q:=⟨v,rfl,h⟩
theorem aBh {a0 a1 a2 a3 a4 a5 a6}{l:St} (h:Q v H):lH 7 (a0::a1::a2::a3::a4::a5::a6::some v::l) H Q:=⟨v,rfl,h⟩
theorem aBH {a0 a1 a2 a3 a4 a5 a6 a7}{l:St} (h:Q v H):lH 8 (a0::a1::a2::a3::a4::a5::a6::a7::some v::l) H Q:=⟨v,rfl,h⟩
theorem aA1 {a0 a1 a2 a3 a4 a5 a6 a7 a8}{l:St} (h:Q v H):lH 9 (a0::a1::a2::a3::a4::a5::a6::a7::a8::some v::l) H Q:=⟨v,rfl,h⟩
theorem Z0 {a0 a1 a2 a3 a4 a5 a6 a7 a8 a9}{l:St} (h:Q v H):lH 10 (a0::a1::a2::a3::a4::a5::a6::a7::a8::a9::some v::l) H Q:=⟨v,rfl,h⟩
variable {q:St->Hp->Prop}
theorem aBk {a0 a}{l:St} (h:q (a0::some v::l) H):cM 1 v (a0::a::l) H q:=h
theorem aBs {a0 a1 a}{l:St} (h:q (a0::a1::some v::l) H):cM 2 v (a0::a1::a::l) H q:=h
theorem aBt {a0 a1 a2 a}{l:St} (h:q (a0::a1::a2::some v::l) H):cM 3 v (a0::a1::a2::a::l) H q:=h
theorem aBJ {a0 a1 a2 a3 a}{l:St} (h:q (a0::a1::a2::a3::some v::l) H):cM 4 v (a0::a1::a2::a3::a::l) H q:=h
theorem aBw {a0 a1 a2 a3 a4 a}{l:St} (h:q (a0::a1::a2::a3::a4::some v::l) H):cM 5 v (a0::a1::a2::a3::a4::a::l) H q:=h
theorem aBp {a0 a1 a2 a3 a4 a5 a}{l:St} (h:q (a0::a1::a2::a3::a4::a5::some v::l) H):cM 6 v (a0::a1::a2::a3::a4::a5::a::l) H q:=h
theorem aBC {a0 a1 a2 a3 a4 a5 a6 a}{l:St} (h:q (a0::a1::a2::a3::a4::a5::a6::some v::l) H):cM 7 v (a0::a1::a2::a3::a4::a5::a6::a::l) H q:=h
theorem aBF {a0 a1 a2 a3 a4 a5 a6 a7 a}{l:St} (h:q (a0::a1::a2::a3::a4::a5::a6::a7::some v::l) H):cM 8 v (a0::a1::a2::a3::a4::a5::a6::a7::a::l) H q:=h
theorem aA7 {a0 a1 a2 a3 a4 a5 a6 a7 a8 a}{l:St} (h:q (a0::a1::a2::a3::a4::a5::a6::a7::a8::some v::l) H):cM 9 v (a0::a1::a2::a3::a4::a5::a6::a7::a8::a::l) H q:=h
theorem ZU {a0 a1 a2 a3 a4 a5 a6 a7 a8 a9 a}{l:St} (h:q (a0::a1::a2::a3::a4::a5::a6::a7::a8::a9::some v::l) H):cM 10 v (a0::a1::a2::a3::a4::a5::a6::a7::a8::a9::a::l) H q:=h
theorem aBT (h:Q v H):tC v σ H Q:=h
theorem aBI {r:R2}(h:ta σ H fun x H1=>tb σ H1 fun y H2=>r x y H2 Q):tOp r ta tb σ H Q:=h
theorem aAY {r:V->Hp->VK->Prop}(h:ta σ H fun x H1=>r x H1 Q):tUn r ta σ H Q:=h
theorem aBq {f:Int->Int->V}{i j:Int} (h:Q (f i j) H):rI0 f (.int i) (.int j) H Q:=⟨i,j,rfl,rfl,h⟩
theorem aBW {f:Int->V}{i:Int} (h:Q (f i) H):rU f (.int i) H Q:=⟨i,rfl,h⟩
theorem YQ {f:Int->Int->V}{i j:Int} (h0:0<j) (h1:j<1073741824) (h:Q (f i j) H):rI YL f (.int i) (.int j) H Q:=⟨i,j,rfl,rfl,⟨h0,h1⟩,h⟩
theorem Y9 {f:Int->Int->V}{i j:Int} (h0:0<j) (h:Q (f i j) H):rI (fun _ j=>0<j) f (.int i) (.int j) H Q:=⟨i,j,rfl,rfl,h0,h⟩
theorem WJ {f:Int->Int->V}{i j:Int} (h0: -18446744073709551616<i) (h1:i<18446744073709551616) (h:Q (f i j) H):rI CMul f (.int i) (.int j) H Q:=⟨i,j,rfl,rfl,.inl ⟨by lia,by lia⟩,h⟩
theorem W9 {f:Int->Int->V}{i j:Int} (h0: -18446744073709551616<j) (h1:j<18446744073709551616) (h:Q (f i j) H):rI CMul f (.int i) (.int j) H Q:=⟨i,j,rfl,rfl,.inr ⟨by lia,by lia⟩,h⟩
theorem MX {f:Int->Int->V}{i j:Int} (h0:0<=j) (h:Q (f i j) H):rI (fun _ j=>0<=j) f (.int i) (.int j) H Q:=⟨i,j,rfl,rfl,h0,h⟩
theorem S0 {i j:Int}:decide (V.int i=V.int j)=decide (i=j):=by simp
theorem TY {i j:Str}:decide (V.str i=V.str j)=decide (i=j):=by simp
theorem YA {i j:Int}(h:Q (.bl (decide (i=j))) H):rEq (.int i) (.int j) H Q:=⟨rfl,by rw[S0];exact h⟩
theorem ZP {i j:Str}(h:Q (.bl (decide (i=j))) H):rEq (.str i) (.str j) H Q:=⟨rfl,by rw[TY];exact h⟩
theorem aAl {i j:Int}(h:Q (.bl (!decide (i=j))) H):rNe (.int i) (.int j) H Q:=⟨rfl,by rw[S0];exact h⟩
theorem Z9 {i j:Str}(h:Q (.bl (!decide (i=j))) H):rNe (.str i) (.str j) H Q:=⟨rfl,by rw[TY];exact h⟩
theorem VO (h:Q (.bl (decide (v= .non))) H):Y4 v .non H Q:=⟨rfl,h⟩
theorem V4 (h:Q (.bl false) H):DV .non .non H Q:=⟨rfl,h⟩
theorem XG {i:Str}(h:Q (.bl true) H):DV (.str i) .non H Q:=⟨rfl,by rw[decide_eq_false (fun z=>by cases z)];exact h⟩
theorem US (h:Q (.bl (!decide (v= .non))) H):DV v .non H Q:=⟨rfl,h⟩
theorem VU (h:ta σ H (vO fun c H1=>if c=true then tb σ H1 Q else Q (.bl false) H1)):TL ta tb σ H Q:=h
theorem VM (h:ta σ H (vO fun c H1=>Q (.bl (!c)) H1)):UI ta σ H Q:=h
theorem aAy (h:c σ H fun k H1=>if k=true then ta σ H1 Q else tb σ H1 Q):tIf c ta tb σ H Q:=h
theorem RH {r r':R2}(h:ta σ H fun x H1=>tb σ H1 fun y H2=>r x y H2 (vO fun k H3=>if k=true then tc σ H3 fun w' H4=>r' y w' H4 Q else Q (.bl false) H3)):FD r r' ta tb tc σ H Q:=h
theorem XA {sp:Sp}{t:TA} (h:t σ H fun vs H1=>sp vs H1 Q E):zC sp [] E t σ H Q:=by
 unfold zC;simp only[List.append_nil];exact h
theorem aBu {r:List V->Hp->VK->Prop}{t:TA} (h:t σ H fun vs H1=>r vs H1 Q):tCB r t σ H Q:=h
theorem aAr {t:TA}(h:t σ H (aAJ Q)):aAQ t σ H Q:=h
theorem aAd {t:TA}(h:t σ H (aAC Q)):ZZ t σ H Q:=h
theorem fB {o:HO}{R:V->Hp->Prop} (h:∀p H',H p=none->Same H H'->H' p=some o->R (.ref p) H'):∀p,H p=none->R (.ref p) (upd H p o) :=
 fun p hp=>h p _ hp (fun b u e=>by rw[aU (bN e hp)];exact e) bM
theorem VD {xs:List V}(hn:xs.length<=sizeLine)(h:∀p H',H p=none->Same H H'->H' p=some (.lst xs)->Q (.ref p) H'):aAJ Q xs H:=⟨hn,fB h⟩
theorem WG {xs:List V}(hn:xs.length<=sizeLine)(h:∀p H',H p=none->Same H H'->H' p=some (.tup xs)->Q (.ref p) H'):aAC Q xs H:=⟨hn,fB h⟩
theorem W3 {xs:List V}(h:∀p H',H p=none->Same H H'->H' p=some (.lst xs)->Q (.ref p) H'):aAs Q xs H:=fB h
theorem aAg {f:Str}(h:ta σ H (YK K f Q)):SB K ta f σ H Q:=h
theorem U0 {a C dx:Addr}{fs:List (Str×V)}{f:Str} (e:H a=some (.ins C dx fs)) (cl:Cls K C) (na:NoAttr K C f) (l:fs.lookup f=some v) (h:Q v H):YK K f Q (.ref a) H:=⟨a,C,dx,fs,v,rfl,e,cl,na,l,h⟩
theorem XD {f:Str}(h:ta σ H fun y H1=>tb σ H1 (TX K f y (nx σ))):aAH K tb ta f ⟨nx,rt,bk,ct⟩ σ H:=h
theorem SJ {a C dx:Addr}{fs:List (Str×V)}{f:Str}{y:V}{w:Hp->Prop} (e:H a=some (.ins C dx fs)) (cl:Cls K C) (na:NoAttr K C f) (l:decide (fs.length<1000)=true)
  (h:∀H',(∀b o,H b=some o->b≠a->H' b=some o)->H' a=some (.ins C dx (c7 f y fs))->w H'):TX K f y w (.ref a) H :=
 ⟨a,C,dx,fs,rfl,e,cl,na,of_decide_eq_true l,h _ (fun b o q hb=>by rw[aU hb];exact q) bM⟩
theorem aA4 {M:Addr->Sp->Prop}{m:Str}{t:TA} (h:ta σ H (MdP M m t σ Q)):tMD M m ta t σ H Q:=h
theorem aAA {M:Addr->Sp->Prop}{m:Str}{t:TA}{a C dx:Addr}{fs:List (Str×V)}{sp:Sp} (e:H a=some (.ins C dx fs)) (l:fs.lookup m=none) (F:M C sp) (h:t σ H fun vs H2=>sp (.ref a::vs) H2 Q E0):MdP M m t σ Q (.ref a) H :=
 ⟨a,C,dx,fs,sp,rfl,e,l,F,h⟩
theorem UW {C:Addr}{sp:Sp}{dvs:List V}{t:TA} (h:t σ H (yO C sp dvs E Q)):K4 C sp dvs E t σ H Q:=h
theorem FY {C:Addr}{sp:Sp}{dvs vs:List V}{fs:List (Str×V)}
  (hsp:∀p dx H0 (Q':VK),H0 p=some (.ins C dx [])->(∀H',(∀b o,H0 b=some o->b≠p->H' b=some o)->H' p=some (.ins C dx fs)->Q' .non H')->Same H H0->sp (.ref p::(vs++dvs)) H0 Q' E)
  (k:∀p dx H',H p=none->Same H H'->H' p=some (.ins C dx fs)->Q (.ref p) H'):yO C sp dvs E Q vs H:=by
 intro x dx nx nd ne;have s0:Same H (upd (upd H dx (.own x)) x (.ins C dx [])):=fun b o e=>by
  rw[aU (bN e nx),aU (bN e nd)];exact e
 exact hsp x dx _ _ bM (fun H' sb e=>⟨rfl,k x dx H' nx (fun b o q=>sb b o (s0 b o q) (bN q nx)) e⟩) s0
theorem VN {wi:TI}{nl:Nat}{ci:List Nat}{ti:TT} (h:wi σ H fun J H1=>eU J g ti te (bY nl ci σ) (aAs Q) H1):LA wi nl ci g ti te σ H Q:=h
theorem aA9 {r:V->Option Int->Option Int->Hp->VK->Prop}{tl th:TO} (h:te σ H fun x H1=>tl σ H1 fun l H2=>th σ H2 fun u H3=>r x l u H3 Q):tSl r te tl th σ H Q:=h
theorem aAE {a:Addr}{xs:List V}{lo hi:Option Int} (e:SqL K H a xs) (h:∀p H',H p=none->Same H H'->H' p=some (.lst (xM xs lo hi))->Q (.ref p) H'):ZL K (.ref a) lo hi H Q:=⟨a,xs,rfl,e,fB h⟩
theorem VC {p:Addr}{a b c i:Int} (e:SqL K H p [.int a,.int b,.int c]) (h0:0<=i) (h1:i<3) (h:∀v,(i=0/\v=a)∨(i=1/\v=b)∨(i=2/\v=c)->Q (.int v) H):F7 K (.ref p) (.int i) H Q:=by
 have:i=0∨i=1∨i=2:=by lia
 rcases this with rfl|rfl|rfl
 ·exact⟨p,_,0,_,rfl,rfl,e,rfl,h a (.inl ⟨rfl,rfl⟩)⟩
 ·exact⟨p,_,1,_,rfl,rfl,e,rfl,h b (.inr (.inl ⟨rfl,rfl⟩))⟩
 ·exact⟨p,_,2,_,rfl,rfl,e,rfl,h c (.inr (.inr ⟨rfl,rfl⟩))⟩
theorem EC {p:Addr}{xs:List V}{k:Int}{j:Nat}{R:Hp->Prop} (e:H p=some (.lst xs)) (l:ixN xs.length k=some j) (h:∀H',(∀b o,H b=some o->b≠p->H' b=some o)->H' p=some (.lst (xs.set j v))->R H'):SZ (.ref p) (.int k) v H R :=
 ⟨p,xs,k,j,rfl,rfl,e,l,h _ (fun b o q hb=>by rw[aU hb];exact q) bM⟩
theorem vQ {l b:Addr}{xs zs:List V} (e:H l=some (.lst xs)) (e2:H b=some (.lst zs)) (hn:xs.length+zs.length<=sizeLine) (h:∀p H',H p=none->Same H H'->H' p=some (.lst (xs++zs))->Q (.ref p) H'):YD (.ref l) (.ref b) H Q :=
 ⟨l,b,xs,zs,rfl,rfl,e,e2,hn,fB h⟩
theorem JD {l:Addr}{xs:List V}{k:Int} (e:H l=some (.lst xs)) (h0: -(2^63)<=k) (h1:k<2^63) (hn:xs.length * k.toNat<=sizeLine) (h:∀p H',H p=none->Same H H'->H' p=some (.lst (List.replicate k.toNat xs).flatten)->Q (.ref p) H'):Y2 (.ref l) (.int k) H Q :=
 ⟨l,k,xs,rfl,rfl,e,h0,h1,hn,fB h⟩
theorem aBj {T:String}{r:V->List V->Hp->VK->Prop}{to:TE}{t:TA} (h:to σ H (BmP K T r t σ Q)):tBM K T r to t σ H Q:=h
theorem aAL {T:String}{r:V->List V->Hp->VK->Prop}{to:TE} (h:to σ H (aAD K T r Q)):aAR K T r to σ H Q:=h
theorem aAe {r:V->List V->Hp->VK->Prop}{t:TA}{p:Addr}{xs:List V} (e:SqL K H p xs) (h:t σ H fun xs H2=>r (.ref p) xs H2 Q):BmP K "list" r t σ Q (.ref p) H:=⟨.inl ⟨rfl,xs,e⟩,h⟩
theorem WH {r:V->List V->Hp->VK->Prop}{i:Int} (h:r (.int i) [] H Q):aAD K "int" r Q (.int i) H:=⟨rfl,h⟩
theorem HY {x:V}{n cn:String} (b:BTy K H x n) (hc:cn= "int" ∨cn= "bool" ∨cn= "str") (h:Q (.bl (isB n cn)) H):J8 K [x,.ty cn] H Q:=⟨x,.ty cn,_,_,_,rfl,b.ty,rfl,DU b cn hc,h⟩
theorem QY {i:Int}(h:Q (.bl true) H):J8 K [.int i,.ty "int"] H Q:=HY (.int i) (.inl rfl) h
theorem QR {i:Int}(h:Q (.bl false) H):J8 K [.int i,.ty "bool"] H Q:=HY (.int i) (.inr (.inl rfl)) h
structure ICls (K:PySem.W.Frag)(C:Addr):Prop where
 cl:Cls K C
 ha:PySem.W.findIn K (.ref C) "__class__" =some (some (.builtin "object.__class__"))
 hn:PySem.W.specialIn K (.builtin "object.__class__") "__get__" =some (some (.builtin "getset_descriptor.__get__"))
 tk:PySem.W.takesIn K (.builtin "object.__class__")=some true
 hm:PySem.W.mroIn K C (.type "object")=some true
theorem V0 {p:Addr}{ys:List V} (e:SqL K H p ys) (h:Q (.int ys.length) H):T7 K [.ref p] H Q:=⟨p,ys,rfl,.inl e,h⟩
theorem XJ {i j:Int}(h:Q (.int (max i j)) H):UD [.int i,.int j] H Q:=⟨i,j,rfl,by
 have e:(if j>i then j else i)=max i j:=by lia
 rw[e];exact h⟩
theorem XI {i j:Int}(h:Q (.int (min i j)) H):UA [.int i,.int j] H Q:=⟨i,j,rfl,by
 have e:(if j<i then j else i)=min i j:=by lia
 rw[e];exact h⟩
theorem OL {p:Addr}{ys:List V} (e:SqL K H p ys) (h:∀l H',H l=none->Same H H'->H' l=some (.lst ys)->Q (.ref l) H'):I0 K [.ref p] H Q:=⟨p,ys,rfl,.inl e,fB h⟩
variable {B:Bool->Hp->Prop}
theorem VA (h:te σ H (vO B)):LX te σ H B:=h
theorem aBB (h:te σ H (vO B)):tB te σ H B:=h
theorem YZ (h:c σ H fun k H1=>if k=true then d σ H1 B else B false H1):X9 c d σ H B:=h
theorem aBy (h:c σ H fun k H1=>if k=true then B true H1 else d σ H1 B):tOr c d σ H B:=h
theorem aAP (h:c σ H fun k H1=>B (!k) H1):YS c σ H B:=h
theorem aAz {b:Bool}{P:Bool->Hp->Prop} (h:P b H):vO P (.bl b) H:=⟨b,rfl,h⟩
theorem EM {A B:Prop}(h:A):if true=true then A else B:=by rw[if_pos rfl];exact h
theorem F9 {A B:Prop}(h:B):if false=true then A else B:=by rw[if_neg Bool.false_ne_true];exact h
theorem XB {A B:Prop}(h:B):if (!true)=true then A else B:=F9 h
theorem VH {A B:Prop}(h:A):if (!false)=true then A else B:=EM h
theorem X2 {p A B:Prop}[Decidable p](hp:¬p)(h:B):if decide p=true then A else B:=by rw[if_neg (by rw[decide_eq_false hp];exact Bool.false_ne_true)];exact h
theorem IL {p A B:Prop}[Decidable p](hp:p)(h:B):if (!decide p)=true then A else B:=by rw[decide_eq_true hp];exact F9 h
theorem IE {p A B:Prop}[Decidable p](hp:¬p)(h:A):if (!decide p)=true then A else B:=by rw[decide_eq_false hp];exact EM h
theorem gO {p A B:Prop}[Decidable p](h1:p->A)(h2:¬p->B):if decide p=true then A else B:=AI (fun h=>h1 (of_decide_eq_true h)) fun h=>h2 fun z=>h (decide_eq_true z)
theorem VL {p A B:Prop}[Decidable p](h1:¬p->A)(h2:p->B):if (!decide p)=true then A else B:=by
 by_cases hp:p
 ·exact IL hp (h2 hp)
 ·exact IE hp (h1 hp)
variable {L:List V->Hp->Prop}{O:Option Int->Hp->Prop}{tr:TA}
theorem X7 (h:L [] H):LM σ H L:=h
theorem WZ (h:te σ H fun x H1=>tr σ H1 fun xs H2=>L (x::xs) H2):T3 te tr σ H L:=h
theorem NK (h:O none H):JG σ H O:=h
theorem VW (h:te σ H (Y3 O)):UE te σ H O:=h
theorem ZJ {i:Int}(h:O (some i) H):Y3 O (.int i) H:=⟨i,rfl,h⟩
variable {vs:List V}{gs:TGs}
theorem U9 {to ti:TE}{ts:KI} (h:to σ H fun o H1=>ti σ H1 fun i H2=>ts o i v H2 fun H3=>q σ H3):YU to ti ts v σ H q:=h
theorem V5 (h:q σ H):zW [] σ H q:=⟨rfl,h⟩
theorem P2 (h:g v σ H fun σ' H'=>gs vs σ' H' q):kO g gs (v::vs) σ H q:=⟨v,vs,rfl,h⟩
theorem WO {a:Addr}{n:Nat} (e:SqT K H a vs) (hl:vs.length=n) (h:gs vs σ H q):xD K n gs (.ref a) σ H q:=⟨a,vs,rfl,e,hl,h⟩
variable {R:It->Hp->Prop}
theorem QN (h:te σ H (Y8 K R)):TH K te σ H R:=h
theorem BJ {a:Addr}{xs:List V} (e:SqL K H a xs) (h:R (Itl K a) H):Y8 K R (.ref a) H:=⟨a,rfl,⟨xs,e⟩,h⟩
theorem RA (h:tr σ H (ZB R)):TB tr σ H R:=h
theorem MM {j:Int}(h0: -4611686018427387904<=j)(h1:j<4611686018427387904)(h:R (Itr 0 j.toNat) H):ZB R [.int j] H:=⟨j,rfl,by lia,by lia,h⟩
theorem QT (h:tr σ H (Z3 R)):UC tr σ H R:=h
theorem M7 {i j:Int}(h0: -4611686018427387904<=i)(h1:i<4611686018427387904)(h2: -4611686018427387904<=j)(h3:j<4611686018427387904)(h:R (Itr i (j - i).toNat) H):Z3 R [.int i,.int j] H:=⟨i,j,rfl,⟨by lia,by lia,by lia,by lia⟩,h⟩
theorem eZ {a:Addr}{tb:TS} (xs:List V) (Pv:Nat->St->Hp->Prop) (h0:Pv 0 σ H) (hl:∀i σ H,i<=xs.length->Pv i σ H->SqL K H a xs)
  (hs:∀i x σ H,xs[i]? =some x->Pv i σ H->g x σ H fun σ2 H2=>tb ⟨Pv (i+1),rt,nx,Pv (i+1)⟩ σ2 H2)(hd:∀σ H,Pv xs.length σ H->nx σ H):LZ (Itl K a) g tb ⟨nx,rt,bk,ct⟩ σ H :=
 P1 (D:=⟨nx,rt,bk,ct⟩) Pv h0 hl hs hd
theorem rE {lo:Int}{n:Nat}{tb:TS} (Pv:Nat->St->Hp->Prop) (h0:Pv 0 σ H)
  (hs:∀i σ H,i<n->Pv i σ H->g (.int (lo+i)) σ H fun σ2 H2=>tb ⟨Pv (i+1),rt,nx,Pv (i+1)⟩ σ2 H2)(hd:∀σ H,Pv n σ H->nx σ H):LZ (Itr lo n) g tb ⟨nx,rt,bk,ct⟩ σ H :=
 N1 (D:=⟨nx,rt,bk,ct⟩) Pv h0 hs hd
end
section
variable {K:PySem.W.Frag}{te:TE}{σ:St}{ci:List Nat}{rest:St}{fin:List V->Hp->Prop}{H:Hp}{a:Addr}
theorem yC (hr:ci.map (fun i=>(σ[i]?).join)=rest):bY 1 ci σ=none::rest:=by
 unfold bY;rw[hr];rfl
theorem HQ {lo:Int}{n:Nat} (P:Nat->V->Prop) (hn:n<=sizeLine) (hr:ci.map (fun i=>(σ[i]?).join)=rest)
  (hs:∀i H1,i<n->Same H H1->∀R:VK,(∀y H2,P i y->Same H1 H2->R y H2)->te (some (.int (lo+i))::rest) H1 R)
  (hf:∀ys H1,Same H H1->ys.length=n->(∀i y,ys[i]? =some y->P i y)->fin ys H1):eU (Itr lo n) (cM 0) xO te (bY 1 ci σ) fin H:=by
 rw[yC hr];refine KW (fun i ys H1=>Same H H1/\ys.length=i/\∀j y,ys[j]? =some y->P j y) hn rfl ⟨Same.refl _,rfl,fun j y h=>by simp at h⟩ (fun i ys H1 ok=>Nat.le_of_eq ok.2.1) (fun ys H1 ok=>hf ys H1 ok.1 ok.2.1 ok.2.2) ?_;intro i ys H1 hi ⟨s1,hl,hp⟩ R hR;refine hs i H1 hi s1 R fun y H2 hy s2=>hR y H2 ⟨s1.trans s2,by simp[hl],fun j z hz=> ?_⟩
 by_cases hj:j<ys.length
 ·rw[List.getElem?_append_left hj]at hz;exact hp j z hz
 ·rw[List.getElem?_append_right (by lia)]at hz;have hj0:j - ys.length=0:=by
   cases e:j - ys.length with
   | zero=>rfl
   | succ k=>rw[e]at hz;simp at hz
  rw[hj0]at hz;have:z=y:=by simpa using hz.symm
  subst this;have:j=i:=by lia
  subst this;exact hy
end
section
variable {K:PySem.W.Frag}{te:TE}{σ:St}{ci:List Nat}{rest:St}{fin:List V->Hp->Prop}{H:Hp}{a:Addr}
theorem KD {α β:Type}{xs:List α}{ys:List β}{f:α->β} (hl:ys.length=xs.length) (h:∀(i:Nat) y,ys[i]? =some y->∃x,xs[i]? =some x/\y=f x):ys=xs.map f:=by
 apply List.ext_getElem?
 intro i;rw[List.getElem?_map];cases e:ys[i]? with
 | none =>
  have:xs[i]? =none:=by
   rw[List.getElem?_eq_none_iff]at e ⊢
   lia
  rw[this];rfl
 | some y =>
  obtain⟨x,hx,rfl⟩:=h i y e;rw[hx];rfl
theorem R1 {lo:Int}{n:Nat} (f:Nat->V) (hn:n<=sizeLine) (hr:ci.map (fun i=>(σ[i]?).join)=rest)
  (hs:∀i H1,i<n->Same H H1->∀R:VK,(∀H2,Same H1 H2->R (f i) H2)->te (some (.int (lo+i))::rest) H1 R)
  (hf:∀H1,Same H H1->fin ((List.range n).map f) H1):eU (Itr lo n) (cM 0) xO te (bY 1 ci σ) fin H:=by
 refine HQ (fun i y=>y=f i) hn hr (fun i H1 hi s1 R hR=>hs i H1 hi s1 R fun H2 s2=>hR _ H2 rfl s2) ?_;intro ys H1 s1 hl hp;have e:ys=(List.range n).map f:=by
  refine KD (by rw[hl,List.length_range]) fun i y hy=> ?_;have hi:i<n:=by
   rw[←hl];exact(List.getElem?_eq_some_iff.mp hy).1
  exact⟨i,by simp[hi],hp i y hy⟩
 rw[e];exact hf H1 s1
end
theorem Same.at {H H':Hp}{b:Addr}{o:HO} (s:Same H H') (h:H b=some o):H' b=some o:=s b o h
def SameBut (p:Addr)(H H':Hp):Prop:=∀b o,H b=some o->b≠p->H' b=some o
theorem SameBut.upd {p:Addr}{H:Hp}{o:HO}:SameBut p H (upd H p o):=fun b u e hb=>by rw[aU hb];exact e
theorem SameBut.trans {p:Addr}{H H1 H2:Hp} (a:SameBut p H H1) (b:SameBut p H1 H2):SameBut p H H2:=fun c o h hc=>b c o (a c o h hc) hc
theorem Same.but {p:Addr}{H H':Hp} (s:Same H H'):SameBut p H H':=fun b o e _=>s b o e
theorem SameBut.same {p:Addr}{H H0 H':Hp} (n:H0 p=none) (s:Same H0 H) (b:SameBut p H H'):Same H0 H':=fun c o e=>b c o (s c o e) (bN e n)
theorem aP {t:TS}{D:qS}{N:List Str}{vs:List V}{σ:St}{H:Hp} (e:start N vs=σ) (h:t D σ H):t D (start N vs) H:=e▸h
theorem SameBut.refl {p:Addr}{H:Hp}:SameBut p H H:=fun _ _ e _=>e
theorem SameBut.snoc {p:Addr}{H H1 H2:Hp} (b:∀c o,H1 c=some o->c≠p->H2 c=some o) (a:SameBut p H H1):SameBut p H H2:=fun c o h hc=>b c o (a c o h hc) hc
theorem SameBut.snocS {p:Addr}{H H1 H2:Hp} (b:Same H1 H2) (a:SameBut p H H1):SameBut p H H2:=fun c o h hc=>b c o (a c o h hc)
theorem Same.snoc {H H1 H2:Hp}(b:Same H1 H2)(a:Same H H1):Same H H2:=a.trans b
theorem UX {f:Str}{v:V}{fs:List (Str×V)}:(c7 f v fs).lookup f=some v:=by rw[mJ,if_pos rfl]
theorem aBz {f g:Str}{v:V}{o:Option V}{fs:List (Str×V)} (h:decide (g=f)=false) (l:fs.lookup g=o):(c7 f v fs).lookup g=o:=by rw[mJ,if_neg (of_decide_eq_false h)];exact l
theorem Z7 {f:Str}:([]:List (Str×V)).lookup f=none:=rfl
section
variable {K:PySem.W.Frag}{x qual:Str}{st:Stmt}{kV doc pm cdv ct:Value}{an:Option Addr}{ps:List Str}
theorem aW (h:∀us:List Value,us.length=ps.length->bindArgs (PySem.W.fnOf x qual (aM st) (aK st) (aD st) .none kV doc pm an cdv ct) ⟨us,[]⟩=pure (ps.zip us)) :
  Binds K (PySem.W.fnOf x qual (aM st) (aK st) (aD st) .none kV doc pm an cdv ct) ps []:= .all h
theorem rJ (k:Nat){T:Addr}{ds:List Value}{oc:Value}{od:Option Addr}{sl:Array (Option Value)}{items:Array Value}{n:Nat} (lt:K.lookup T=some ⟨oc,od,.seq items n,sl⟩)
  (h:∀us:List Value,us.length=k->∃k,bindArgs (PySem.W.fnOf x qual (aM st) (aK st) (aD st) (.ref T) kV doc pm an cdv ct) ⟨us,[]⟩=seqItems? (.ref T) >>= k/\k (some items)=pure (ps.zip (us++ds)))(hk:k+ds.length=ps.length:=by rfl) :
  Binds K (PySem.W.fnOf x qual (aM st) (aK st) (aD st) (.ref T) kV doc pm an cdv ct) ps ds:=fun s us hK hl=>by
 obtain⟨k,h1,h2⟩:=h us (by rw[List.length_append]at hl;lia);exact .of_defaults (T:=T) (items:=items) (n:=n) rfl (hK T _ lt) rfl h1 h2
end
theorem cJ (s:String):(Str.ofString s).length=s.length:=by
 rw[Str.ofString_eq_toList];show (s.toList.map Char.toNat).toArray.size=_;rw[List.size_toArray,List.length_map,String.length_toList]
def sgB (c:Nat):Bool:=decide (97<=c)&&decide (c<=122)
def u4 (z:Str):Bool:=z.cps.toList.all sgB
def b5 (z:Str):Bool:=decide (1<=(z.length:Int))&&decide ((z.length:Int)<=8)&&u4 z
theorem M1 {z:Str}(h:b5 z=true):z.length<=8:=by
 unfold b5 at h;simp only[Bool.and_eq_true,decide_eq_true_eq]at h
 lia
theorem QL {z:Str}(h0:1<=z.length)(h1:z.length<=8)(h2:u4 z=true):b5 z=true:=by
 unfold b5;simp only[Bool.and_eq_true,decide_eq_true_eq];exact⟨⟨by lia,by lia⟩,h2⟩
theorem SG {c:Nat}{z:Str} (h:u4 z=true) (hc:c∈z.cps.toList):u4 ⟨#[c]⟩=true:=by
 unfold u4 at h ⊢;rw[List.all_eq_true]at h;show [c].all sgB=true;rw[List.all_cons,h c hc];rfl
theorem qR (x y:Str):(x++y).length=x.length+y.length:=by
 show (x.cps++y.cps).size=_;rw[Array.size_append];rfl
theorem AJ (c:Nat):(⟨#[c]⟩:Str).length=1:=rfl
end L2
namespace L2
open PySem PySem.Spec PyProof.Rows
section
variable {prog:Program}{w:World}{A:Around}{E:Value->Shared->Prop}{s:Shared}
end
section
variable {X:Cx}{pos:Pos}
end
section
variable {nx bk ct:St->Hp->Prop}{rt:VK}{σ:St}{H:Hp}{g:TG}{K:PySem.W.Frag}{a:Addr}{tb:TS}{xs:List V}
end
theorem VE {H:Hp}{Q:VK}{i j:Int} (h0:0<j) (h:0<=i%j->i%j<j->Q (.int (i%j)) H):rI (fun _ j=>0<j) (fun i j=> .int (i%j)) (.int i) (.int j) H Q:=⟨i,j,rfl,rfl,h0,h (Int.emod_nonneg _ (by lia)) (Int.emod_lt_of_pos _ h0)⟩
end L2
namespace L2
open PySem PySem.Spec PyProof.Rows PySem.W
section
variable {prog:Program}{w:World}{A:Around}{E:Value->Shared->Prop}{h:Heap}{g:Array GenState}{d:Drawn}{t:Nat}{os:OsState}{a C:Addr}{o:Obj}{vs:Array Value}{K:Frag}
end
end L2
namespace L2
open PySem PySem.Spec PyProof.Rows PySem.W
section
variable {M:Model}{A:Around}{E:Value->Shared->Prop}{s:Shared}{base:Heap}{env:Env}{outer:List Env}{L ea:Addr}{Q:Unit->Shared->Prop}
end
end L2
namespace L2
open PySem PySem.Spec PyProof.Rows PySem.W
section
variable {P:Program}{w:World}{H H':Hp}{h h':Heap}{a:Addr}{o:HO}
end
section
variable {X:Cx}{pins:List (Addr×Obj)}{σ:St}{H H1:Hp}{s s1:Shared}{h2 B:Heap}
end
end L2
namespace L2
open PySem PySem.Spec PyProof.Rows PySem.W
section
variable {X:Cx}{E:XK}{x:Str}{C:Addr}{np cpos pos:Pos}{e:Expr}{es:List Expr}{t:TA}
end
section
variable {X:Cx}{k k':Nat}{sp:Sp}{x m:Str}{p pos apos:Pos}{e o:Expr}{es:List Expr}{ta:TE}{t:TA}{C:Addr}{dvs:List V}{E:XK}{ps:List Str}
end
section
variable {P:Program}{w:World}{K:PySem.W.Frag}{mg:Str->Option Value}{base:Heap}
end
end L2
namespace L2
open PySem PySem.Spec PyProof.Rows PySem.W
section
variable {M:Model}{A:Around}{E:Value->Shared->Prop}{s:Shared}{base:Heap}{env:Env}{outer:List Env}{L ea:Addr}{Q:Unit->Shared->Prop}
end
end L2
namespace L2
open PySem PySem.Spec PyProof.Rows PySem.W
section
variable {X:Cx}{pins:List (Addr×Obj)}{σ:St}{H:Hp}{s:Shared}{ea:Addr}
end
section
variable {X:Cx}{k k':Nat}{sp:Sp}{x m:Str}{p pos apos:Pos}{e o:Expr}{es:List Expr}{ta:TE}{t:TA}{C f:Addr}{dvs:List V}{ds:List Value}{R:XK}{ps:List Str}{fd:FuncData}
end
section
variable {X:Cx}{k k':Nat}{sp:Sp}{x m:Str}{p pos apos:Pos}{e o:Expr}{es:List Expr}{ta:TE}{t:TA}{C:Addr}{dvs:List V}{R:XK}
end
section
variable {X:Cx}{i:Nat}{n x:Str}{T:Addr}{np hpos pos epos:Pos}{e:Expr}{tc:XK->TE}{b₀:Stmt}{suite:List Stmt}{ts:TS}
end
end L2
namespace L2
open PySem PySem.Spec PyProof.Rows PySem.W
section
variable {X:Cx}{x:Str}{j:Nat}{p pos:Pos}{e v1 v2:Expr}{es:List Expr}{te:TE}{t:TJ}
end
end L2
namespace L2
open PySem PySem.W
section
variable {K:Frag}{C D:Addr}{cd:ClassData}{b:Bool}
end
variable {K:Frag}{H:Hp}{Q:VK}
end L2
namespace L2
open PySem PySem.W
end L2
set_option maxHeartbeats 4000000
namespace L2
open PySem PySem.Spec PyProof.Rows
section
variable {X:Cx}{pins:List (Addr×Obj)}{σ:St}{H:Hp}{s:Shared}
end
section
variable {X:Cx}{CX:CXT}{k k':Nat}{sp:Sp}{E:XK}{x y:Str}{p pos:Pos}{e:Expr}{es:List Expr}{t:TA}{i:Nat}{c:Addr}
end
section
variable {P:Program}{w:World}{K:PySem.W.Frag}{mg:Str->Option Value}{base:Heap}
end
section
variable {X:Cx}{k k':Nat}{x:Str}{p pos:Pos}{e:Expr}{es:List Expr}{t:TA}
end
section
variable {X:Cx}{args:Arguments}{body:Expr}{lsc:Scope}{pos:Pos}{y:Str}{c cL PL:Addr}
end
end L2
namespace L2
open PySem PySem.Spec PyProof.Rows
section
variable {P:Program}{w:World}{K:PySem.W.Frag}{mg:Str->Option Value}{base:Heap}
end
section
variable {X:Cx}{o:Expr}{to:TE}{ap pos:Pos}
def rBL:V->List V->Hp->VK->Prop:=fun x xs H Q=>∃i,x= .int i/\xs=[]/\Q (.int (Builtin.Int.intBits i)) H
theorem OX:MtR X "int.bit_length" rBL:=by
 intro pins s σ H x xs v us Q I rx rs h;obtain⟨i,rfl,rfl,q⟩:=h;obtain⟨t,rfl⟩:=rx;cases rs;exact call_int_bit_length ⟨.int (Builtin.Int.intBits i),H,I.tok _,⟨_,rfl⟩,q⟩
theorem M4 {b t:Int}(hb:0<=b)(h:(Builtin.Int.intBits b:Int)<=t):b/2^t.toNat%2=0:=by
 have ht:Builtin.Int.intBits b<=t.toNat:=by lia
 have hlt:b<2^t.toNat:=by
  unfold Builtin.Int.intBits at ht
  by_cases h0:b=0
  ·subst h0;exact Int.pow_pos (by decide)
  ·rw[if_neg (by simpa using h0)]at ht;have h1:b.natAbs<2^(b.natAbs.log2+1):=Nat.lt_log2_self;have h2:2^(b.natAbs.log2+1)<=2^t.toNat:=Nat.pow_le_pow_right (by decide) ht;have h3:((2^t.toNat:Nat):Int)=(2:Int)^t.toNat:=by simp
   lia
 rw[Int.ediv_eq_zero_of_lt hb hlt];rfl
theorem NZ {H:Hp}{Q:VK}{i:Int} (h:Q (.int (Builtin.Int.intBits i)) H):rBL (.int i) [] H Q:=⟨i,rfl,rfl,h⟩
theorem F0:∀{xs:List V}{us:List Value},xs.length=us.length->(∀(i:Nat) x u,xs[i]? =some x->us[i]? =some u->RelV x u)->Vals xs us
 | [],[],_,_=> .nil
 | [],_::_,h,_=>by simp at h
 | _::_,[],h,_=>by simp at h
 | x::xs,u::us,h,k=> .cons (k 0 x u rfl rfl) (F0 (by simpa using h) fun i y w e1 e2=>k (i+1) y w (by simpa using e1) (by simpa using e2))
end
section
variable {X:Cx}{k k':Nat}{sp:Sp}{x m:Str}{p pos apos:Pos}{e:Expr}{es:List Expr}{t:TA}{dvs:List V}
end
end L2
namespace L2
open PySem PySem.Spec PyProof.Rows
section
variable {P:Program}{w:World}
end
section
variable {P:Program}{w:World}{K:PySem.W.Frag}{mg:Str->Option Value}{base:Heap}
end
section
variable {X:Cx}{st:Stmt}{rest:List Stmt}{t:TS}{u:qS->(St->V->Hp->Prop)->St->Hp->Prop}{e:Expr}{te:TE}{pos:Pos}
end
section
variable {P:Program}{w:World}{K:PySem.W.Frag}{mg:Str->Option Value}{base:Heap}
end
section
open PySem.W
variable {X:Cx}{i j:Nat}{n x y:Str}{T:Addr}{np yp hpos pos epos:Pos}{e:Expr}{tc:XK->TE}{b₀:Stmt}{suite:List Stmt}{ts:TS}
end
end L2
namespace L2
open PySem PySem.Spec PyProof.Rows
end L2
namespace L2
open PySem PySem.Spec PyProof.Rows
section
variable {X:Cx}
def ZX (K:PySem.W.Frag):R2:=fun x y H Q=>∃a b xs,x= .ref a/\y= .ref b/\SqL K H a xs/\SqL K H b []/\Q (.bl (!xs.isEmpty)) H
theorem ZV (hu:X.A.units<cLine):OpR X (compareOp .NotEq) (ZX X.K):=by
 intro pins s σ H x y v u Q I rx ry h;obtain⟨a,b,xs,rfl,rfl,ha,hb,q⟩:=h;cases rx;cases ry;obtain⟨its,r,pl,hz⟩:=I.list ha;obtain⟨its2,r2,pl2,_⟩:=I.list hb;cases r2;cases xs with
 | nil =>
  cases r;refine SeqAt.RcNeAt.lists (e:=fun _=>true) pl.isList pl2.isList rfl hu (fun j h1=>absurd h1 (Nat.not_lt_zero _)) X.prog X.w X.xe _ ⟨.bl false,H,I,rfl,q⟩
 | cons x xs =>
  cases r with
  | cons r1 r2 =>
   exact SeqAt.RcNeAt.lists_lengths pl.isList pl2.isList (by simp) hu X.prog X.w X.xe _ ⟨.bl true,H,I,rfl,q⟩
theorem YE {K:PySem.W.Frag}{H:Hp}{Q:VK}{a b:Addr}{xs:List V} (ha:SqL K H a xs) (hb:SqL K H b []) (h:Q (.bl (!xs.isEmpty)) H):ZX K (.ref a) (.ref b) H Q:=⟨a,b,xs,rfl,rfl,ha,hb,h⟩
end
end L2
namespace L2
open PySem PySem.Spec PyProof.Rows
section
variable {κ:Type}[DecidableEq κ]
def aY (kvs:List (κ×V))(k:κ):Option V:=(kvs.find? fun kv=>decide (kv.1=k)).map (·.2)
def b9 (kvs:List (κ×V))(k:κ)(v:V):List (κ×V) :=
 if (kvs.any fun kv=>decide (kv.1=k))=true then kvs.map (fun kv=>if kv.1=k then (kv.1,v) else kv) else kvs++[(k,v)]
theorem dU {p:κ×V}{r:List (κ×V)}{k:κ} (e:p.1=k):aY (p::r) k=some p.2:=by simp[aY,List.find?_cons,e]
theorem c6 {p:κ×V}{r:List (κ×V)}{k:κ} (e:¬p.1=k):aY (p::r) k=aY r k:=by simp[aY,List.find?_cons,e]
theorem lN (k:κ):∀kvs:List (κ×V),(kvs.any fun kv=>decide (kv.1=k))=(aY kvs k).isSome
 | []=>rfl
 | p::r=>by
  rw[List.any_cons]
  by_cases e:p.1=k
  ·simp only[dU e,decide_eq_true e,Bool.true_or,Option.isSome_some]
  ·rw[c6 e,decide_eq_false e,Bool.false_or];exact lN k r
theorem EH (k j:κ)(y:V):∀kvs:List (κ×V),aY (kvs.map fun kv=>if kv.1=k then (kv.1,y) else kv) j=(aY kvs j).map fun x=>if j=k then y else x
 | []=>rfl
 | p::r=>by
  have ih:=EH k j y r;rw[List.map_cons]
  by_cases h:p.1=k
  ·rw[if_pos h]
   by_cases e:p.1=j
   ·rw[dU (p:=(p.1,y)) e,dU e,Option.map_some,if_pos (e.symm.trans h)]
   ·rw[c6 (p:=(p.1,y)) e,c6 e,ih]
  ·rw[if_neg h]
   by_cases e:p.1=j
   ·rw[dU (p:=p) e,dU e,Option.map_some,if_neg (fun z=>h (e.trans z))]
   ·rw[c6 (p:=p) e,c6 e,ih]
theorem CG (k j:κ)(y:V):∀kvs:List (κ×V),aY kvs k=none->aY (kvs++[(k,y)]) j=if j=k then some y else aY kvs j
 | [],_=>by
  by_cases e:k=j
  ·rw[if_pos e.symm];exact dU (p:=(k,y)) e
  ·rw[if_neg (fun z=>e z.symm)];exact c6 (p:=(k,y)) e
 | p::r,hn=>by
  rw[List.cons_append];have hk:¬p.1=k:=fun z=>by rw[dU z]at hn;cases hn
  rw[c6 hk]at hn;have ih:=CG k j y r hn
  by_cases e:p.1=j
  ·rw[dU e,dU e,if_neg (fun z=>hk (e.trans z))]
  ·rw[c6 e,c6 e,ih]
theorem gX (kvs:List (κ×V))(k j:κ)(y:V):aY (b9 kvs k y) j=if j=k then some y else aY kvs j:=by
 unfold b9
 by_cases a:(kvs.any fun kv=>decide (kv.1=k))=true
 ·rw[if_pos a,EH];rw[lN]at a
  by_cases e:j=k
  ·obtain⟨x,hx⟩:=Option.isSome_iff_exists.mp a;rw[if_pos e,e,hx,Option.map_some,if_pos rfl]
  ·rw[if_neg e];cases aY kvs j with
   | none=>rfl
   | some x=>rw[Option.map_some,if_neg e]
 ·rw[if_neg a];refine CG k j y kvs ?_;rw[lN]at a;cases q:aY kvs k with
  | none=>rfl
  | some x=>rw[q]at a;exact(a rfl).elim
theorem c8 (kvs:List (κ×V))(k:κ)(v:V):(b9 kvs k v).length<=kvs.length+1:=by
 unfold b9
 split
 ·rw[List.length_map];lia
 ·rw[List.length_append,List.length_cons,List.length_nil];lia
theorem o0 {kvs:List (κ×V)}{k:κ} (v:V) (h:aY kvs k=none):b9 kvs k v=kvs++[(k,v)]:=by
 unfold b9;rw[lN,h];exact if_neg (by decide)
theorem RelO.isSome_eq {o:Option V}{u:Option Value} (r:RelO o u):o.isSome=u.isSome:=by
 cases o with
 | none=>cases u with
  | none=>rfl
  | some _=>exact(show False from r).elim
 | some _=>cases u with
  | none=>exact(show False from r).elim
  | some _=>rfl
theorem RelO.getD {o:Option V}{u:Option Value}{d:V}{d':Value} (r:RelO o u) (rd:RelV d d'):RelV (o.getD d) (u.getD d'):=by
 cases o with
 | none=>cases u with
  | none=>exact rd
  | some _=>exact(show False from r).elim
 | some _=>cases u with
  | none=>exact(show False from r).elim
  | some _=>exact r
theorem KV.val {kvs:List (κ×V)}{vs:List (κ×Value)} (r:KV kvs vs) (k:κ):RelO (aY kvs k) (valueAt vs k):=by
 unfold KV at r
 induction r with
 | nil=>exact True.intro
 | @cons p q ps qs h t ih =>
  obtain⟨h1,h2⟩:=h
  by_cases e:p.1=k
  ·have e':q.1=k:=h1.symm.trans e;have b:valueAt (q::qs) k=some q.2:=by simp[valueAt,List.find?_cons,e']
   rw[dU e,b];exact h2
  ·have e':¬q.1=k:=fun z=>e (h1.trans z);have b:valueAt (q::qs) k=valueAt qs k:=by simp[valueAt,List.find?_cons,e']
   rw[c6 e,b];exact ih
theorem KV.any {kvs:List (κ×V)}{vs:List (κ×Value)} (r:KV kvs vs) (k:κ):(kvs.any fun kv=>decide (kv.1=k))=vs.any fun kv=>decide (kv.1=k):=by
 unfold KV at r
 induction r with
 | nil=>rfl
 | cons h t ih=>rw[List.any_cons,List.any_cons,ih,h.1]
theorem KV.repl {kvs:List (κ×V)}{vs:List (κ×Value)} (r:KV kvs vs) (k:κ) {y:V}{u:Value} (ry:RelV y u) :
  KV (kvs.map fun kv=>if kv.1=k then (kv.1,y) else kv) (vs.map fun kv=>if kv.1=k then (kv.1,u) else kv):=by
 unfold KV at r ⊢
 induction r with
 | nil=>exact .nil
 | @cons p q ps qs h t ih =>
  rw[List.map_cons,List.map_cons];refine .cons ?_ ih;obtain⟨h1,h2⟩:=h
  by_cases e:p.1=k
  ·rw[if_pos e,if_pos (h1.symm.trans e)];exact⟨h1,ry⟩
  ·rw[if_neg e,if_neg (fun z=>e (h1.trans z))];exact⟨h1,h2⟩
theorem KV.put {kvs:List (κ×V)}{vs:List (κ×Value)} (r:KV kvs vs) (k:κ) {y:V}{u:Value} (ry:RelV y u):KV (b9 kvs k y) (stored vs k u):=by
 unfold b9 stored;rw[r.any k]
 by_cases e:(vs.any fun kv=>decide (kv.1=k))=true
 ·rw[if_pos e,if_pos e];exact r.repl k ry
 ·rw[if_neg e,if_neg e];exact Paired.snoc r ⟨rfl,ry⟩
theorem KV.length {kvs:List (κ×V)}{vs:List (κ×Value)} (r:KV kvs vs):kvs.length=vs.length:=Paired.length r
end
theorem tK {P:Program}{w:World}{k:Key}{u:Value} (r:RelV (kV k) u):(bV P w).is k u=true:=by
 cases k with
 | inl i=>obtain⟨t,e⟩:=(show ∃t,u=Value.int i t from r);subst e;exact HA P w i t
 | inr x=>obtain⟨t,e⟩:=(show ∃t,u=Value.str x t from r);subst e;exact HP P w x t
theorem YJ {a b:Key}(e:kV a=kV b):a=b:=by
 cases a with
 | inl i=>cases b with
  | inl j=>have e':V.int i=V.int j:=e;injection e' with e';rw[e']
  | inr y=>exact nomatch (show V.int i=V.str y from e)
 | inr x=>cases b with
  | inl j=>exact nomatch (show V.str x=V.int j from e)
  | inr y=>have e':V.str x=V.str y:=e;injection e' with e';rw[e']
theorem vZ:∀{a b:List Key},a.map kV=b.map kV->a=b
 | [],[],_=>rfl
 | [],_::_,e=>by simp at e
 | _::_,[],e=>by simp at e
 | x::xs,y::ys,e=>by
  rw[List.map_cons,List.map_cons]at e;injection e with e1 e2;rw[YJ e1,vZ e2]
theorem BV {P:Program}{w:World}:∀{ks:List Key}{us:List Value},Vals (ks.map kV) us->ItemsAre (bV P w) ks us
 | [],_,r=>by rw[List.map_nil]at r;cases r;exact .nil
 | k::ks,_,r=>by
  rw[List.map_cons]at r;cases r with
  | cons h t=>exact .cons (tK h) (BV t)
abbrev KT (H:Hp):List (List Key×V)->List (List Key×Addr×Value)->Prop:=Paired fun p q=>p.1=q.1/\H q.2.1=some (.tup (p.1.map kV))/\RelV p.2 q.2.2
theorem KT.val {H:Hp}{kvs:List (List Key×V)}{xs:List (List Key×Addr×Value)} (r:KT H kvs xs) (k:List Key):RelO (aY kvs k) ((atKey xs k).map (·.2)):=by
 induction r with
 | nil=>exact True.intro
 | @cons p q ps qs h t ih =>
  obtain⟨h1,_,h2⟩:=h
  by_cases e:p.1=k
  ·have e':q.1=k:=h1.symm.trans e;have b:atKey (q::qs) k=some q.2:=by simp[atKey,List.find?_cons,e']
   rw[dU e,b];exact h2
  ·have e':¬q.1=k:=fun z=>e (h1.trans z);have b:atKey (q::qs) k=atKey qs k:=by simp[atKey,List.find?_cons,e']
   rw[c6 e,b];exact ih
theorem KT.repl {H:Hp}{kvs:List (List Key×V)}{xs:List (List Key×Addr×Value)} (r:KT H kvs xs) (k:List Key) {y:V}{u:Value} (ry:RelV y u) :
  KT H (kvs.map fun kv=>if kv.1=k then (kv.1,y) else kv) (xs.map (putAt k u)):=by
 induction r with
 | nil=>exact .nil
 | @cons p q ps qs h t ih =>
  rw[List.map_cons,List.map_cons];refine .cons ?_ ih;obtain⟨h1,h2,h3⟩:=h;unfold putAt
  by_cases e:p.1=k
  ·rw[if_pos e,if_pos (h1.symm.trans e)];exact⟨h1,h2,ry⟩
  ·rw[if_neg e,if_neg (fun z=>e (h1.trans z))];exact⟨h1,h2,h3⟩
theorem KT.put {H:Hp}{kvs:List (List Key×V)}{xs:List (List Key×Addr×Value)} (r:KT H kvs xs) (k:List Key) {b:Addr}{y:V}{u:Value} (hb:H b=some (.tup (k.map kV))) (ry:RelV y u) :
  KT H (b9 kvs k y) (storedH xs k b u):=by
 have e:(kvs.any fun kv=>decide (kv.1=k))=(atKey xs k).isSome:=by
  rw[lN,(r.val k).isSome_eq,Option.isSome_map]
 unfold b9 storedH;rw[e]
 by_cases q:(atKey xs k).isSome=true
 ·rw[if_pos q,if_pos q];exact r.repl k ry
 ·rw[if_neg q,if_neg q];exact Paired.snoc r ⟨rfl,hb,ry⟩
theorem KT.keeps {H H':Hp}{kvs:List (List Key×V)}{xs:List (List Key×Addr×Value)} (r:KT H kvs xs) (ht:∀b ys,H b=some (.tup ys)->H' b=some (.tup ys)):KT H' kvs xs :=
 Paired.mapP r fun _ _ z=>⟨z.1,ht _ _ z.2.1,z.2.2⟩
section
variable {P:Program}{w:World}{H:Hp}{h:Heap}{a:Addr}
theorem TN {u:HO}(ok:HOk P w H h)(e:Rd H a u):ObjOk P w H h a u:=e.ok ok
theorem mI {kvs:List (Key×V)}(ok:HOk P w H h)(e:Rd H a (.dK kvs)):kvs.length<=sizeLine/\(a==sysModules)=false/\∃vs,KV kvs vs/\h.DictOf (bV P w) a vs :=
 show ObjOk P w H h a (.dK kvs) from TN ok e
theorem aBg {kvs:List (Key×V)}(ok:HOk P w H h)(e:H a=some (.dK kvs)):kvs.length<=sizeLine/\(a==sysModules)=false/\∃vs,KV kvs vs/\h.DictOf (bV P w) a vs:=mI ok (.inl e)
theorem q0 {ks:List Key}(ok:HOk P w H h)(e:H a=some (.tup (ks.map kV))):(tupleKind (bV P w)).is h ks a:=by
 obtain⟨_,its,r,o,h1,h2,n,h3⟩:=(show ObjOk P w H h a (.tup (ks.map kV)) from ok a _ e)
 exact⟨o,its.toArray,n,h1,h2,h3,by simpa using BV r⟩
theorem tT {kvs:List (List Key×V)}(ok:HOk P w H h)(e:Rd H a (.dT kvs)):kvs.length<=sizeLine/\(a==sysModules)=false ∧
  ∃xs,KT H kvs xs/\h.DictOfH (tupleKind (bV P w)) a xs:=by
 obtain⟨z,y,xs,r,o,es,ep,h1,h2,h3,h4,h5⟩:=(show ObjOk P w H h a (.dT kvs) from TN ok e)
 refine⟨z,y,xs,r,o,es,ep,h1,h2,h3,h4,fun x hx=> ?_,h5⟩;have all:∀{l:List (List Key×V)}{m:List (List Key×Addr×Value)},KT H l m->∀x∈m,(tupleKind (bV P w)).is h x.1 x.2.1:=by
  intro l m q
  induction q with
  | nil=>intro x hx;exact nomatch hx
  | @cons p q ps qs hq t ih =>
   intro x hx;rcases List.mem_cons.mp hx with e|hx
   ·subst e;exact q0 ok (by rw[←hq.1];exact hq.2.1)
   ·exact ih x hx
 exact all r x hx
theorem aBo {kvs:List (List Key×V)}(ok:HOk P w H h)(e:H a=some (.dT kvs)):kvs.length<=sizeLine/\(a==sysModules)=false ∧
  ∃xs,KT H kvs xs/\h.DictOfH (tupleKind (bV P w)) a xs:=tT ok (.inl e)
end
def DGet (H:Hp)(a:Addr)(y:V)(r:Option V):Prop :=
 (∃kvs k,Rd H a (.dK kvs)/\y=kV k/\r=aY kvs k)∨∃kvs k b,Rd H a (.dT kvs)/\y= .ref b/\H b=some (.tup (k.map kV))/\r=aY kvs k
def DPut (H:Hp)(a:Addr)(y v:V)(H':Hp):Prop :=
 (∃kvs k,H a=some (.dK kvs)/\y=kV k/\kvs.length<sizeLine/\H'=upd H a (.dK (b9 kvs k v))) ∨
 ∃kvs k b,H a=some (.dT kvs)/\y= .ref b/\H b=some (.tup (k.map kV))/\kvs.length<sizeLine/\H'=upd H a (.dT (b9 kvs k v))
theorem DGet.t {H:Hp}{a b:Addr}{kvs:List (List Key×V)}{k:List Key} (e:H a=some (.dT kvs)) (eb:H b=some (.tup (k.map kV))):DGet H a (.ref b) (aY kvs k):= .inr ⟨kvs,k,b,.inl e,rfl,eb,rfl⟩
theorem DPut.k {H:Hp}{a:Addr}{kvs:List (Key×V)}{k:Key}{v:V} (e:H a=some (.dK kvs)) (hl:kvs.length<sizeLine):DPut H a (kV k) v (upd H a (.dK (b9 kvs k v))):= .inl ⟨kvs,k,e,rfl,hl,rfl⟩
theorem DPut.t {H:Hp}{a b:Addr}{kvs:List (List Key×V)}{k:List Key}{v:V} (e:H a=some (.dT kvs)) (eb:H b=some (.tup (k.map kV))) (hl:kvs.length<sizeLine) :
  DPut H a (.ref b) v (upd H a (.dT (b9 kvs k v))):= .inr ⟨kvs,k,b,e,rfl,eb,hl,rfl⟩
section
variable {X:Cx}{pins:List (Addr×Obj)}{σ:St}{H:Hp}{s:Shared}{a:Addr}{y v:V}{u r:Value}{o:Option V}{A:Around}{E:Value->Shared->Prop}
theorem Inv.big (I:Inv X pins σ H s):sysModules<s.heap.objs.size:=by
 have h:mainGlobals<s.heap.objs.size:=(I.mod.glob.keeps I.bk).lt;exact Nat.lt_trans (by decide) h
theorem CF {Q:Value->Shared->Prop}(hu:A.units+1<cLine)(I:Inv X pins σ H s)(g:DGet H a y (some v))(ry:RelV y u)(h:∀w' s',Inv X pins σ H s'->RelV v w'->Q w' s') :
  wpAny (model X.prog X.w) A (getItem (.ref a) u) Q E s:=by
 rcases g with⟨kvs,k,e,ey,l⟩|⟨kvs,k,b,e,ey,eb,l⟩
 ·subst ey;obtain⟨z,hd,vs,rel,dd⟩:=mI I.hok e;obtain⟨w',hw,rw'⟩:=RelO.some_of (v:=v) (o:=valueAt vs k) (by rw[l];exact rel.val k);exact wpAny_getItem_of (tK ry) dd.mapOf hw (h w' _ (I.tok _) rw')
 ·subst ey;cases (show u=Value.ref b from ry);obtain⟨z,hd,xs,rel,dd⟩:=tT I.hok e;obtain⟨w',hw,rw'⟩:=RelO.some_of (v:=v) (o:=(atKey xs k).map (·.2)) (by rw[l];exact rel.val k);obtain⟨p,hp,hp2⟩:=Option.map_eq_some_iff.mp hw;refine wpAny_getItem_heap (tupleKind_room_in1 hu) (q0 I.hok eb) dd hp ?_;rw[hp2];exact h w' _ (I.tok _) rw'
theorem aBR {Q:Value->Shared->Prop}(hu:A.units+1<cLine)(I:Inv X pins σ H s)(g:DGet H a y o)(ry:RelV y u)(h:∀s',Inv X pins σ H s'->Q (.bool o.isSome) s') :
  wpAny (model X.prog X.w) A (compareOp .In u (.ref a)) Q E s:=by
 rcases g with⟨kvs,k,e,ey,l⟩|⟨kvs,k,b,e,ey,eb,l⟩
 ·subst ey;obtain⟨z,hd,vs,rel,dd⟩:=mI I.hok e;refine wpAny_in_of (tK ry) hd dd.mapOf ?_;rw[←(rel.val k).isSome_eq,←l];exact h _ (I.tok _)
 ·subst ey;cases (show u=Value.ref b from ry);obtain⟨z,hd,xs,rel,dd⟩:=tT I.hok e;refine wpAny_in_heap (tupleKind_room_in1 hu) (q0 I.hok eb) hd dd ?_;have q:=(rel.val k).isSome_eq;rw[Option.isSome_map]at q;rw[←q,←l];exact h _ (I.tok _)
theorem V8 {Q:Value->Shared->Prop}(hu:A.units+1<cLine)(I:Inv X pins σ H s)(g:DGet H a y o)(ry:RelV y u)(h:∀s',Inv X pins σ H s'->Q (.bool (!o.isSome)) s') :
  wpAny (model X.prog X.w) A (compareOp .NotIn u (.ref a)) Q E s:=by
 rcases g with⟨kvs,k,e,ey,l⟩|⟨kvs,k,b,e,ey,eb,l⟩
 ·subst ey;obtain⟨z,hd,vs,rel,dd⟩:=mI I.hok e;refine wpAny_notIn_of (tK ry) hd dd.mapOf ?_;rw[←(rel.val k).isSome_eq,←l];exact h _ (I.tok _)
 ·subst ey;cases (show u=Value.ref b from ry);obtain⟨z,hd,xs,rel,dd⟩:=tT I.hok e;refine wpAny_notIn_heap (tupleKind_room_in1 hu) (q0 I.hok eb) hd dd ?_;have q:=(rel.val k).isSome_eq;rw[Option.isSome_map]at q;rw[←q,←l];exact h _ (I.tok _)
theorem IG {h':Heap}{t':Nat}{ob:HO} (I:Inv X pins σ H s) (mu:Mut (H a)) (hs:Heap.SameBut a s.heap h') (he:∃q,h'.get? a=some q) (new:ObjOk X.prog X.w (upd H a ob) h' a ob) :
  Inv X pins σ (upd H a ob) { s with heap:=h',toks:=t' } :=
 I.write (x:=a) (e:=a) mu (.inl rfl) (fun b q hb z=>(hs.2 b hb).trans z) he new
theorem MK {P:Program}{w:World}{H':Hp}{h':Heap}{kvs:List (Key×V)}{vs:List (Key×Value)} (z:kvs.length<=sizeLine) (hd:(a==sysModules)=false) (rel:KV kvs vs) (dd:h'.DictOf (bV P w) a vs) :
  ObjOk P w H' h' a (.dK kvs):=⟨z,hd,vs,rel,dd⟩
theorem BR {H':Hp}{Q:Unit->Shared->Prop} (hu:A.units+1<cLine) (I:Inv X pins σ H s) (g:DPut H a y v H') (ry:RelV y u) (rv:RelV v r) (h:∀s',Inv X pins σ H' s'->Q () s') :
  wpAny (model X.prog X.w) A (setItem (.ref a) u r) Q E s:=by
 rcases g with⟨kvs,k,e,ey,l,eH⟩|⟨kvs,k,b,e,ey,eb,l,eH⟩
 ·subst ey eH;obtain⟨z,hd,vs,rel,dd⟩:=aBg I.hok e;have hz:vs.length<=sizeLine:=by rw[←rel.length];exact z
  have hl:(b9 kvs k v).length<=sizeLine:=by have:=c8 kvs k v;lia
  refine wpAny_setItem_pairs (hsz:=hz) (tK ry) dd fun h' dd' hs=>h _ ?_;have he:∃q,h'.get? a=some q:=let ⟨q,_,_,hq,_⟩:=dd';⟨q,hq⟩;exact IG I (by rw[e];exact True.intro) hs he (MK hl hd (rel.put k rv) dd')
 ·subst ey eH;cases (show u=Value.ref b from ry);obtain⟨z,hd,xs,rel,dd⟩:=aBo I.hok e;have hz:xs.length<=sizeLine:=by rw[←Paired.length rel];exact z
  have hl:(b9 kvs k v).length<=sizeLine:=by have:=c8 kvs k v;lia
  refine wpAny_setItem_heap (hsz:=hz) (tupleKind_room_in1 hu) (q0 I.hok eb) dd fun h' dd' hs=>h _ ?_;obtain⟨q,es,ep,hq,h2,h3,h4,_,h5⟩:=dd';refine IG I (by rw[e];exact True.intro) hs ⟨q,hq⟩ ⟨hl,hd,_,(rel.put k eb rv).keeps fun c ys ec=> ?_,q,es,ep,hq,h2,h3,h4,h5⟩;rw[aU (aBl ec e (fun z=>nomatch z))];exact ec
end
section
variable {X:Cx}{pins:List (Addr×Obj)}{σ:St}{H:Hp}{s:Shared}{a:Addr}{kvs:List (Key×V)}{k:Key}{u:Value}{A:Around}{E:Value->Shared->Prop}
end
def YX (i:Expr):Prop:=∀ov iv,subscripted i false ov iv=operate [ov,iv] (getItem ov iv)
theorem VV {prog:Program}{w:World}{A:Around}{E:Value->Shared->Prop}{s:Shared}{env:Env}{value slice:Expr}{pos:Pos}{T id:String}{Q:Value->Shared->Prop}
  (hl:typeLookup (.type T) "__getitem__" =pure (some (.builtin id)))(hs:YX slice)
  (h:wpAny (model prog w) A (eval value env) (fun o s₁=>wpAny (model prog w) A (eval slice env) (fun i s₂=>s₂.TypeIs o T/\wpAny (model prog w) A (getItem o i) Q E s₂) E s₁) E s) :
  wpAny (model prog w) A (eval (.Subscript value slice pos) env) Q E s:=by
 refine Subscript_ (wpAny_mono h (fun o s₁ h₁=>wpAny_mono h₁ (fun i s₂ h₂=> ?_) fun _ _ x=>x) fun _ _ x=>x);obtain⟨hT,h₂⟩:=h₂;unfold subscriptTail;refine wpAny_bind ?_;rw[getitemInPython_of_ne hT.not_modules];refine wpAny_bind (wpAny_specialOf hT hl ?_);have fin:wpAny (model prog w) A (subscripted slice false o i) (fun r s₃=>wpAny (model prog w) A (letTemporaryGo value o r >>= fun _=>pure r) Q E s₃) E s₂:=by
  rw[hs o i];exact wpAny_operating (wpAny_mono h₂ (fun r s₃ h₃=>wpAny_bind (wpAny_letTemporaryGo (wpAny_pure h₃))) fun _ _ x=>x)
 first
  | exact wpAny_pure (wpAny_bind fin)
  | exact wpAny_bind (wpAny_pure (wpAny_bind fin))
  | exact wpAny_bind fin
theorem G0 {X:Cx}{pins:List (Addr×Obj)}{σ:St}{H:Hp}{s:Shared}{a:Addr}{y:V}{o:Option V} (I:Inv X pins σ H s) (g:DGet H a y o):s.TypeIs (.ref a) "dict" :=by
 rcases g with⟨kvs,k,e,_,_⟩|⟨kvs,k,b,e,_,_,_⟩
 ·obtain⟨_,_,vs,_,dd⟩:=mI I.hok e;exact dd.typeIs
 ·obtain⟨_,_,xs,_,dd⟩:=tT I.hok e;exact dd.typeIs
def TW (td ty:TE):TE:=fun σ H Q=>td σ H fun x H1=>ty σ H1 fun y H2=>∃a v,x= .ref a/\DGet H2 a y (some v)/\Q v H2
def aAx (ty td:TE):TE:=fun σ H Q=>ty σ H fun y H1=>td σ H1 fun x H2=>∃a o,x= .ref a/\DGet H2 a y o/\Q (.bl o.isSome) H2
def IC (ty td:TE):TE:=fun σ H Q=>ty σ H fun y H1=>td σ H1 fun x H2=>∃a o,x= .ref a/\DGet H2 a y o/\Q (.bl (!o.isSome)) H2
def TU (td ty tv:TE):TS:=fun D σ H=>tv σ H fun v H1=>td σ H1 fun x H2=>ty σ H2 fun y H3=>∃a H4,x= .ref a/\DPut H3 a y v H4/\D.nx σ H4
def TF (td ty tv:TE)(rd:V->V->Hp->VK->Prop):TS:=fun D σ H=>td σ H fun x H1=>ty σ H1 fun y H2=>∃a v,x= .ref a/\DGet H2 a y (some v) ∧
 tv σ H2 fun y2 H3=>rd v y2 H3 fun z H4=>∃H5,DPut H4 a y z H5/\D.nx σ H5
section
variable {X:Cx}{o i e value:Expr}{pos pos' tpos:Pos}{td ty tv:TE}
theorem fA (hu:X.A.units+1<cLine)(ho:PE X o td)(hi:PE X i ty)(hs:YX i):PE X (.Subscript o i pos) (TW td ty):=by
 intro pins s σ H Q I h;refine VV PySem.F.slot_dict_getitem.lookup hs (thn (ho pins s σ H _ I h) fun u s1 ⟨x,H1,I1,rx,q1⟩=>thn (hi pins s1 σ H1 _ I1 q1) fun iv s2 ⟨y,H2,I2,ry,a,v,ex,g,q2⟩=> ?_);subst ex;obtain rfl:u=Value.ref a:=rx;exact⟨G0 I2 g,CF hu I2 g ry fun w' s3 I3 rw'=>⟨v,H2,I3,rw',q2⟩⟩
theorem aAk (hu:X.A.units+1<cLine)(hi:PE X i ty)(ho:PE X o td):PC X .In i o (aAx ty td):=by
 intro pins s σ H Q I h;refine thn (hi pins s σ H _ I h) fun iv s1 ⟨y,H1,I1,ry,q1⟩=>thn (ho pins s1 σ H1 _ I1 q1) fun u s2 ⟨x,H2,I2,rx,a,ov,ex,g,q2⟩=> ?_;subst ex;obtain rfl:u=Value.ref a:=rx;exact aBR hu I2 g ry fun s3 I3=>⟨.bl ov.isSome,H2,I3,rfl,q2⟩
theorem BF (hu:X.A.units+1<cLine)(hi:PE X i ty)(ho:PE X o td):PC X .NotIn i o (IC ty td):=by
 intro pins s σ H Q I h;refine thn (hi pins s σ H _ I h) fun iv s1 ⟨y,H1,I1,ry,q1⟩=>thn (ho pins s1 σ H1 _ I1 q1) fun u s2 ⟨x,H2,I2,rx,a,ov,ex,g,q2⟩=> ?_;subst ex;obtain rfl:u=Value.ref a:=rx;exact V8 hu I2 g ry fun s3 I3=>⟨.bl (!ov.isSome),H2,I3,rfl,q2⟩
theorem fQ (hu:X.A.units+1<cLine)(ho:PE X o td)(hi:PE X i ty)(hv:PE X value tv)(hs:swapsWith value (some (.Subscript o i pos')) pos.line X.env=pure false) :
  PS X (.Assign [.Subscript o i pos'] value pos) (TU td ty tv):=by
 intro pins s σ H D I h;refine wpAny_Assign_Subscript (thn (hv pins s σ H _ I h) fun r s1 ⟨v,H1,I1,rv,q1⟩=>thn (ho pins s1 σ H1 _ I1 q1) fun u s2 ⟨x,H2,I2,rx,q2⟩=>thn (hi pins s2 σ H2 _ I2 q2) fun iv s3 ⟨y,H3,I3,ry,a,H4,ex,g,q3⟩=> ?_) hs;subst ex;obtain rfl:u=Value.ref a:=rx;exact BR hu I3 g ry rv fun s4 I4=>⟨σ,H4,I4,q3⟩
theorem VP {op:Operator}{rd:V->V->Hp->VK->Prop} (hu:X.A.units+1<cLine) (ho:PE X o td) (hi:PE X i ty) (hv:PE X value tv) (hop:Y6 X op rd)
  (ha:∀ov iv new,augStore i ov iv new=(do holding [new,ov,iv] (setItem ov iv new);release [new,ov,iv] [];pure .next)):PS X (.AugAssign (.Subscript o i tpos) op value pos) (TF td ty tv rd):=by
 intro pins s σ H D I h;refine wpAny_AugAssign_SubscriptAny (thn (ho pins s σ H _ I h) fun u s1 ⟨x,H1,I1,rx,q1⟩=>thn (hi pins s1 σ H1 _ I1 q1) fun iv s2 ⟨y,H2,I2,ry,a,v,ex,g,q2⟩=> ?_) ha;subst ex;obtain rfl:u=Value.ref a:=rx;refine CF hu I2 g ry fun w' s3 I3 rw'=>thn (hv pins s3 σ H2 _ I3 q2) fun w2 s4 ⟨y2,H3,I4,ry2,q3⟩=>thn (hop pins s4 σ H3 v y2 w' w2 _ I4 rw' ry2 q3) fun w3 s5 ⟨z,H4,I5,rz,H5,g5,q4⟩=> ?_;exact BR hu I5 g5 ry rz fun s6 I6=>⟨σ,H5,I6,q4⟩
end
theorem QE {P:Program}{w:World}{H:Hp} (h:Heap) (hb:sysModules<h.objs.size):ObjOk P w H (h.push { cls:= .type "dict",data:= .dict #[] }) h.objs.size (.dK []) :=
 ⟨Nat.zero_le _,beq_eq_false_iff_ne.mpr (Ne.symm (Nat.ne_of_lt hb)),[],.nil,Heap.DictOf.new h⟩
theorem QH {P:Program}{w:World}{H:Hp} (h:Heap) (hb:sysModules<h.objs.size):ObjOk P w H (h.push { cls:= .type "dict",data:= .dict #[] }) h.objs.size (.dT []) :=
 ⟨Nat.zero_le _,beq_eq_false_iff_ne.mpr (Ne.symm (Nat.ne_of_lt hb)),[],.nil,_,#[],0,Heap.get?_push_size _ rfl,⟨rfl,rfl,rfl⟩,rfl,rfl,List.nodup_nil⟩
def NJ:TE:=fun _ H Q=>∀p,H p=none->Q (.ref p) (upd H p (.dK []))
def NE:TE:=fun _ H Q=>∀p,H p=none->Q (.ref p) (upd H p (.dT []))
section
variable {X:Cx}{pos:Pos}
theorem tP:PE X (.Dict [] [] pos) NJ:=fun pins s σ H Q I h =>
 wpAny_Dict_empty ⟨.ref s.heap.objs.size,_,I.laid (a:=s.heap.objs.size) (o:= .dK []) (t':=s.toks) (fun _ _ q=>Heap.get?_push_of_some _ q) (Nat.le_refl _) (QE s.heap I.big),rfl,h _ (I.hok.fresh (Nat.le_refl _))⟩
theorem oP:PE X (.Dict [] [] pos) NE:=fun pins s σ H Q I h =>
 wpAny_Dict_empty ⟨.ref s.heap.objs.size,_,I.laid (a:=s.heap.objs.size) (o:= .dT []) (t':=s.toks) (fun _ _ q=>Heap.get?_push_of_some _ q) (Nat.le_refl _) (QH s.heap I.big),rfl,h _ (I.hok.fresh (Nat.le_refl _))⟩
end
def kU (kvs more:List (Key×V)):List (Key×V):=more.foldl (fun acc kv=>b9 acc kv.1 kv.2) kvs
theorem KV.merge:∀{more:List (Key×V)}{rs:List (Key×Value)}{kvs:List (Key×V)}{vs:List (Key×Value)},KV more rs->KV kvs vs->KV (kU kvs more) (merged vs rs):=by
 intro more rs kvs vs r;unfold KV at r
 induction r generalizing kvs vs with
 | nil=>intro q;exact q
 | @cons p q ps qs h t ih =>
  intro r0;have e:KV (b9 kvs p.1 p.2) (stored vs q.1 q.2):=by
   have:=r0.put p.1 h.2;rw[←h.1];exact this
  exact ih e
theorem t9:∀(more kvs:List (Key×V)),(kU kvs more).length<=kvs.length+more.length
 | [],kvs=>by show kvs.length<=kvs.length+0;lia
 | p::r,kvs=>by
  have h1:=t9 r (b9 kvs p.1 p.2);have h2:=c8 kvs p.1 p.2;show (kU (b9 kvs p.1 p.2) r).length<=_;rw[List.length_cons];lia
structure M2 (X:Cx)(o:Expr)(m:Str)(apos:Pos)(e f:Expr)(cpos:Pos):Prop where
 base:attributeBase o m X.env (eval o X.env)=eval o X.env
 few:((backTo cpos (starEach [e,f] X.env)).all (fun x=> !x.1)&&(backToKw cpos (keywordEach [] X.env)).all (fun x=>x.1.isSome)
  && decide (([e,f]:List Expr).length+([]:List Keyword).length+(if ([]:List Keyword).isEmpty then 0 else 1)<30))=true
 line:(apos.endLine==cpos.line)=true
 trees:backTo cpos (starEach [e,f] X.env)=[(false,eval e X.env),(false,eval f X.env)]
def IsD (H:Hp)(a:Addr):Prop:=(∃kvs,Rd H a (.dK kvs))∨∃kvs,Rd H a (.dT kvs)
theorem EK {X:Cx}{pins:List (Addr×Obj)}{σ:St}{H:Hp}{s:Shared}{a:Addr} (I:Inv X pins σ H s) (d:IsD H a) :
  s.TypeIs (.ref a) "dict" /\(∀b,Value.ref a= .ref b->∃ob,s.heap.get? b=some ob/\ob.dict=none)/\(a==sysModules)=false:=by
 rcases d with⟨kvs,e⟩|⟨kvs,e⟩
 ·obtain⟨_,hd,vs,_,dd⟩:=mI I.hok e;refine⟨dd.typeIs,fun b q=> ?_,hd⟩;cases q;obtain⟨ob,_,_,h1,h2,_⟩:=dd;exact⟨ob,h1,h2.2.1⟩
 ·obtain⟨_,hd,xs,_,dd⟩:=tT I.hok e;refine⟨dd.typeIs,fun b q=> ?_,hd⟩;cases q;obtain⟨ob,_,_,h1,h2,_⟩:=dd;exact⟨ob,h1,h2.2.1⟩
section
variable {X:Cx}{pins:List (Addr×Obj)}{σ:St}{H:Hp}{s:Shared}{a:Addr}{y d:V}{u r:Value}{o:Option V}{A:Around}{E:Value->Shared->Prop}
theorem ZS {Q:Value->Shared->Prop}(hu:A.units+1<cLine)(I:Inv X pins σ H s)(g:DGet H a y o)(ry:RelV y u)(rd:RelV d r)(h:∀w' s',Inv X pins σ H s'->RelV (o.getD d) w'->Q w' s') :
  wpAny (model X.prog X.w) A (call (.builtin "dict.get") [.ref a,u,r]) Q E s:=by
 rcases g with⟨kvs,k,e,ey,l⟩|⟨kvs,k,b,e,ey,eb,l⟩
 ·subst ey;obtain⟨z,hd,vs,rel,dd⟩:=mI I.hok e;refine call_meetsIn PySem.F.slot_dict_get dd.typeIs PySem.F.entry_dict_get (PySem.F.args_dict_get_3 _ _ _) (meets_dict_get_default (bV X.prog X.w) a (tK ry) hd r) ⟨_,dd.mapOf,h _ _ (I.tok _) ?_⟩;rw[l];exact(rel.val k).getD rd
 ·subst ey;cases (show u=Value.ref b from ry);obtain⟨z,hd,xs,rel,dd⟩:=tT I.hok e;refine call_meetsIn PySem.F.slot_dict_get dd.typeIs PySem.F.entry_dict_get (PySem.F.args_dict_get_3 _ _ _) (meetsH_dict_get_default (tupleKind (bV X.prog X.w)) a b hd r) ⟨tupleKind_room_in1 hu,k,xs,q0 I.hok eb,dd,h _ _ (I.tok _) ?_⟩;rw[l];exact(rel.val k).getD rd
end
def M0 (td ty tx:TE):TE:=fun σ H Q=>td σ H fun x H1=>∃a,x= .ref a/\IsD H1 a/\ty σ H1 fun y H2=>tx σ H2 fun z H3=>∃o,DGet H3 a y o/\Q (o.getD z) H3
section
variable {X:Cx}{o e f:Expr}{apos cpos:Pos}{td ty tx:TE}
theorem g6 (hu:X.A.units+1<cLine)(ho:PE X o td)(he:PE X e ty)(hf:PE X f tx)(m:M2 X o "get" apos e f cpos):PE X (.Call (.Attribute o "get" apos) [e,f] [] cpos) (M0 td ty tx):=by
 intro pins s σ H Q I h;refine wpAny_Call_method m.base m.few m.line PySem.F.plainAttrs_dict PySem.F.slot_dict_get PySem.F.type_dict_get (thn (ho pins s σ H _ I h) fun u s1 ⟨x,H1,I1,rx,a,ex,d,q1⟩=> ?_);subst ex;obtain rfl:u=Value.ref a:=rx;obtain⟨t1,t2,_⟩:=EK I1 d;refine⟨t1,t2,?_⟩;rw[m.trees];refine Calls.callWith_builtin rfl (Calls.evalArgs_plain (Calls.spliced_cons (thn (he pins s1 σ H1 _ I1 q1) fun iv s2 ⟨y,H2,I2,ry,q2⟩ =>
  Calls.spliced_cons (thn (hf pins s2 σ H2 _ I2 q2) fun fv s3 ⟨z,H3,I3,rz,ov,g,q3⟩=>Calls.spliced_nil ?_))))
 exact ZS hu I3 g ry rz fun w' s4 I4 rw'=>⟨_,H3,I4,rw',q3⟩
end
section
variable {X:Cx}{pins:List (Addr×Obj)}{σ:St}{H:Hp}{s:Shared}{a:Addr}{kvs:List (Key×V)}{A:Around}{E:Value->Shared->Prop}
end
section
variable {X:Cx}{pins:List (Addr×Obj)}{σ:St}{H:Hp}{s:Shared}{a:Addr}{y:V}{u:Value}{A:Around}{E:Value->Shared->Prop}
end
end L2
namespace L2
open PySem PySem.Spec PyProof.Rows
section
variable {κ:Type}[DecidableEq κ]
theorem JO:∀{l:List κ}{k:κ},l.Nodup->¬k∈l->(l++[k]).Nodup
 | [],k,_,_=>by simp
 | a::r,k,h,hk=>by
  obtain⟨h1,h2⟩:=List.nodup_cons.mp h;show (a::(r++[k])).Nodup;refine List.nodup_cons.mpr ⟨fun m=> ?_,JO h2 fun m=>hk (List.mem_cons.mpr (Or.inr m))⟩;rcases List.mem_append.mp m with q|q
  ·exact h1 q
  ·exact hk (List.mem_cons.mpr (Or.inl (List.mem_singleton.mp q).symm))
end
end L2
namespace L2
open PySem PySem.W PyProof.Rows
def bF {α:Type}(c:Nat->Nat->Bool):KasT α->α
 | .ret a=>a
 | .ask i j k=>bF c (k (c i j))
def KasIn {α:Type}(n:Nat)(R:α->Prop):KasT α->Prop
 | .ret a=>R a
 | .ask i j k=>i<n/\j<n/\∀b,KasIn n R (k b)
theorem KasIn.bind {α β:Type}{n:Nat}{R:α->Prop}{S:β->Prop}{f:α->KasT β} (hf:∀a,R a->KasIn n S (f a)):∀{t:KasT α},KasIn n R t->KasIn n S (t.bind f)
 | .ret _,h=>hf _ h
 | .ask _ _ _,h=>⟨h.1,h.2.1,fun b=>KasIn.bind hf (h.2.2 b)⟩
theorem KasIn.val {α:Type}{n:Nat}{R:α->Prop} (c:Nat->Nat->Bool):∀{t:KasT α},KasIn n R t->R (bF c t)
 | .ret _,h=>h
 | .ask i j k,h=>KasIn.val c (t:=k (c i j)) (h.2.2 (c i j))
abbrev Places (n:Nat)(p:Array Nat):Prop:=p.Perm (List.range n).toArray
theorem Places.lt {n:Nat}{p:Array Nat} (h:Places n p) (h0:0<n) (i:Nat):p.getD i 0<n:=by
 by_cases hi:i<p.size
 ·have e:p.getD i 0=p[i]:=by simp[Array.getD,hi]
  rw[e];have:=h.mem_iff.mp (Array.getElem_mem hi)
  simpa using this
 ·have e:p.getD i 0=0:=by simp[Array.getD,hi]
  rw[e];exact h0
theorem kM {n:Nat}{p:Array Nat} (h:Places n p) (i j:Nat):Places n (kas_rev p i j):=(mirror_perm _ _ _ _).trans h
theorem FF {n:Nat}{p:Array Nat} (h0:0<n) (hp:Places n p):∀(f k:Nat),KasIn n (fun _=>True) (kas_asc p f k)
 | 0,_=>trivial
 | f+1,k=>⟨hp.lt h0 _,hp.lt h0 _,fun b=>by cases b with|true=>exact trivial|false=>exact FF h0 hp f (k+1)⟩
theorem wB {n:Nat}(h0:0<n):∀(f:Nat) {p:Array Nat},Places n p->∀k q,KasIn n (fun r:Array Nat×Nat×Nat=>Places n r.1) (kas_desc f p k q)
 | 0,_,hp,_,_=>hp
 | f+1,p,hp,k,q=>by
  refine⟨hp.lt h0 _,hp.lt h0 _,fun b=> ?_⟩;cases b with
  | true =>
   show KasIn n _ (if q>0 then _ else _)
   split
   ·exact wB h0 f (kM hp _ _) _ _
   ·exact wB h0 f hp _ _
  | false =>
   refine⟨hp.lt h0 _,hp.lt h0 _,fun b=> ?_⟩;cases b with
   | true=>exact hp
   | false=>exact wB h0 f hp _ _
theorem EF {n k m:Nat}{p:Array Nat} (h0:0<n) (hp:Places n p):KasIn n (fun r:Nat×Array Nat=>Places n r.2) (kas_tail3 k m p) :=
 KasIn.bind (R:=fun _=>True) (S:=fun r:Nat×Array Nat=>Places n r.2) (f:=fun j=> .ret (j,kas_rev p 0 k)) (fun _ _=>kM hp 0 k) (FF h0 (kM hp 0 k) (m - k) k)
theorem xA {n k m:Nat}{p:Array Nat} (h0:0<n) (hp:Places n p):KasIn n (fun r:Nat×Array Nat=>Places n r.2) (kas_descPart k m p) :=
 KasIn.bind (fun r hr=>by
  split
  ·exact EF h0 (kM hr _ _)
  ·exact EF h0 hr) (wB h0 _ hp _ _)
theorem QW {n m:Nat}{p:Array Nat} (h0:0<n) (hp:Places n p):KasIn n (fun r:Nat×Array Nat=>Places n r.2) (kas_count m p) :=
 KasIn.bind (fun k _=>by
  split
  ·exact hp
  ·split
   ·refine⟨hp.lt h0 _,hp.lt h0 _,fun b=> ?_⟩;cases b with
    | true=>exact hp
    | false=>exact xA h0 (kM hp _ _)
   ·exact xA h0 hp) (FF h0 hp _ _)
theorem xE {n k:Nat}{p:Array Nat} (h0:0<n) (hp:Places n p):∀(f l r:Nat),KasIn n (fun _=>True) (kas_place p k f l r)
 | 0,_,_=>trivial
 | f+1,l,r=>by
  unfold kas_place
  split
  ·exact trivial
  ·refine⟨hp.lt h0 _,hp.lt h0 _,fun b=> ?_⟩;cases b with
   | true=>exact xE h0 hp f _ _
   | false=>exact xE h0 hp f _ _
theorem OP {n:Nat}(h0:0<n):∀(f:Nat) {p:Array Nat} (k:Nat),Places n p->KasIn n (Places n) (kas_bin f p k)
 | 0,_,_,hp=>hp
 | f+1,_,k,hp=>KasIn.bind (fun _ _=>OP h0 f (k+1) ((bubble_perm _ _ _).trans hp)) (xE h0 hp _ _ _)
theorem JF {n:Nat}(h0:0<n):KasIn n (Places n) (kas_sort n) :=
 KasIn.bind (fun r hr=>by
  split
  ·exact OP h0 _ _ hr
  ·exact hr) (QW h0 (Array.Perm.refl _))
def bX {α:Type}(d:α)(c:Nat->Nat->Bool)(l:List α):List α:=if l.length<2 then l else (bF c (kas_sort l.length)).toList.map fun i=>l.getD i d
theorem fZ {n:Nat}(c:Nat->Nat->Bool)(h:0<n):Places n (bF c (kas_sort n)):=(JF h).val c
theorem AK {α:Type}(d:α)(c:Nat->Nat->Bool)(l:List α):(bX d c l).length=l.length:=by
 unfold bX
 split
 ·rfl
 ·have h:=(fZ (n:=l.length) c (by lia)).size_eq;rw[List.length_map,Array.length_toList,h];simp
end L2
namespace L2
open PySem PySem.W PyProof.Rows PySem.Calls
section
variable {prog:Program}{w:World}{A:Around}{E:Value->Shared->Prop}{s:Shared}
abbrev rF (a:Addr)(h h':Heap):Prop:=∀b o,b≠a->h.get? b=some o->h'.get? b=some o
end
end L2
namespace L2
open PySem PySem.W PyProof.Rows
def d7:Key->Bool
 | .inl _=>true
 | .inr _=>false
def g9:Key->Key->Bool
 | .inl i,.inl j=>decide (i<j)
 | .inr x,.inr y=>decide (x.cps.toList<y.cps.toList)
 | _,_=>false
def f9:List Key->List Key->Bool
 | a::as,b::bs=>if a=b then f9 as bs else g9 a b
 | _,_=>false
section
variable {prog:Program}{w:World}{A:Around}{s:Shared}
theorem YT {a b:Key}{u v:Value}{Q:Bool->Shared->Prop}{E:Value->Shared->Prop} (k:d7 a=d7 b) (ru:RelV (kV a) u) (rv:RelV (kV b) v) (q:Q (decide (a=b)) s):wpAny (model prog w) A (eqBool u v) Q E s:=by
 cases a<;>cases b<;>first|(cases k;done)|skip
 ·obtain⟨t,rfl⟩:=ru;obtain⟨t',rfl⟩:=rv;refine wpAny_eqBool_int ?_;rename_i i j;have e:(i==j)=decide ((Sum.inl i:Key)=Sum.inl j):=by
   by_cases z:i=j
   ·subst z;simp
   ·rw[beq_false_of_ne z,decide_eq_false (fun y=>z (Sum.inl.inj y))]
  rw[e];exact q
 ·obtain⟨t,rfl⟩:=ru;obtain⟨t',rfl⟩:=rv;refine wpAny_eqBool_str ?_;rename_i i j;have e:decide (i=j)=decide ((Sum.inr i:Key)=Sum.inr j):=by
   by_cases z:i=j
   ·subst z;simp
   ·rw[decide_eq_false z,decide_eq_false (fun y=>z (Sum.inr.inj y))]
  rw[e];exact q
theorem aAo {a b:Key}{u v:Value}{Q:Bool->Shared->Prop}{E:Value->Shared->Prop} (k:d7 a=d7 b) (ru:RelV (kV a) u) (rv:RelV (kV b) v) (q:Q (g9 a b) s) (t:Bool):wpAny (model prog w) A (oneLt' t u v) Q E s:=by
 cases a<;>cases b<;>first|(cases k;done)|skip
 ·obtain⟨t1,rfl⟩:=ru;obtain⟨t2,rfl⟩:=rv;cases t with
  | true=>exact oneLt_int q
  | false=>exact kat_one _ _ (lt_int q)
 ·obtain⟨t1,rfl⟩:=ru;obtain⟨t2,rfl⟩:=rv;cases t with
  | true=>exact oneLt_str q
  | false=>exact kat_one _ _ (lt_str q)
theorem NW {Q:Bool->Shared->Prop}:∀{as bs:List Key}{us vs:List Value} (i:Nat),as.map d7=bs.map d7->Vals (as.map kV) us->Vals (bs.map kV) vs->Q (f9 as bs) s->KatLex prog w A true false Q (us.zip vs) i s
 | [],[],_,_,_,_,.nil,.nil,q=>kat_nil q
 | [],_::_,_,_,_,k,_,_,_=>by cases k
 | _::_,[],_,_,_,k,_,_,_=>by cases k
 | a::as,b::bs,_,_,i,k,.cons ra rs,.cons rb rt,q=>by
  have k1:d7 a=d7 b:=(List.cons.inj k).1;refine kat_cons (YT k1 ra rb ?_);have q':Q (if a=b then f9 as bs else g9 a b) s:=q
  by_cases z:a=b
  ·rw[if_pos z]at q';rw[decide_eq_true z];exact kat_yes (NW (i+1) (List.cons.inj k).2 rs rt q')
  ·rw[if_neg z]at q';rw[decide_eq_false z];exact kat_no (aAo k1 ra rb q' _)
end
abbrev KRows (H:Hp):List V->List (List Key)->Prop:=Paired fun v r=>∃p,v= .ref p/\H p=some (.tup (r.map kV))
theorem KRows.map {H H':Hp}(f:∀p xs,H p=some (.tup xs)->H' p=some (.tup xs)):∀{vs:List V}{rs:List (List Key)},KRows H vs rs->KRows H' vs rs
 | _,_,.nil=> .nil
 | _,_,.cons ⟨p,e,h⟩ r=> .cons ⟨p,e,f _ _ h⟩ (KRows.map f r)
theorem KRows.same {H H':Hp}{vs:List V}{rs:List (List Key)} (x:KRows H vs rs) (s:Same H H'):KRows H' vs rs:=x.map fun p xs h=>s _ _ h
theorem KRows.get {H:Hp}:∀{vs:List V}{rs:List (List Key)}{i:Nat}{v:V},KRows H vs rs->vs[i]? =some v->∃p r,v= .ref p/\rs[i]? =some r/\H p=some (.tup (r.map kV))
 | _,_,0,_,.cons ⟨p,e,h⟩ _,z=>by cases z;exact⟨p,_,e,rfl,h⟩
 | _,_,i+1,_,.cons _ t,z=>KRows.get (i:=i) t (by simpa using z)
 | _,_,_,_,.nil,z=>by simp at z
def sI (rs:List (List Key))(i j:Nat):Bool:=f9 (rs.getD i []) (rs.getD j [])
def KK (rs:List (List Key))(vs:List V):List V:=bX .non (sI rs) vs
section
variable {X:Cx}{pins:List (Addr×Obj)}{σ:St}{H:Hp}{s:Shared}
theorem rN (I:Inv X pins σ H s){p:Addr}{r:List Key} (e:H p=some (.tup (r.map kV))):∃(o:Obj) (us:List Value) (n:Nat),s.heap.get? p=some o/\o.cls= .type "tuple" /\o.data= .seq us.toArray n/\Vals (r.map kV) us:=by
 obtain⟨_,its,r',o,h1,h2,n,h3⟩:=(show ObjOk X.prog X.w H s.heap p (.tup (r.map kV)) from I.hok p _ e)
 exact⟨o,its,n,h1,h2,h3,r'⟩
theorem CH (I:Inv X pins σ H s){sh:List Bool}{T:Value}{h':Heap} (kp:∀b o,s.heap.get? b=some o->h'.get? b=some o) (hT:∀(k:Key) (u:Value),sh.head? =some (d7 k)->RelV (kV k) u->Looks (model X.prog X.w) h' (typeOf u) T) :
  ∀{vs:List V}{rs:List (List Key)}{us:List Value},KRows H vs rs->Vals vs us->(∀r∈rs,r.map d7=sh)->sh≠[]->∃fs,KatTups h' us fs/\fs.length=us.length/\∀v∈fs,Looks (model X.prog X.w) h' (typeOf v) T
 | _,_,_,.nil,.nil,_,_=>⟨[],trivial,rfl,fun _ z=>nomatch z⟩
 | _::_,r::_,_::_,.cons ⟨p,hv,e⟩ q,.cons rv rt,hs,hn=>by
  obtain⟨fs,f1,f2,f3⟩:=CH I kp hT q rt (fun r hr=>hs r (List.mem_cons_of_mem _ hr)) hn;subst hv;cases rv;have hr:=hs r (.head _);cases r with
  | nil=>exact absurd hr.symm hn
  | cons k ks =>
   obtain⟨o,us,n,o1,o2,o3,o4⟩:=rN I e;cases o4 with
   | cons r1 r2 =>
    rename_i u us;refine⟨u::fs,KatTups.cons (kp _ _ o1) o2 o3 (by simp) f1,by simp[f2],fun v hv=> ?_⟩;rcases List.mem_cons.mp hv with rfl|hv
    ·exact hT k _ (by rw[←hr];rfl) r1
    ·exact f3 v hv
theorem E4 {xs:List V}{us:List Value} (c:Nat->Nat->Bool) (r:Vals xs us):Vals (bX .non c xs) (bX Value.none c us):=by
 have hl:=r.length;unfold bX;rw[hl]
 split
 ·exact r
 ·have hp:=fZ (n:=us.length) c (by lia);have hm:∀i∈(bF c (kas_sort us.length)).toList,i<us.length:=fun i hi=>by
   have h:=hp.mem_iff.mp (Array.mem_toList_iff.mp hi)
   simpa using h
  revert hm;generalize (bF c (kas_sort us.length)).toList=l;intro hm
  induction l with
  | nil=>exact .nil
  | cons i l ih =>
   refine .cons ?_ (ih fun j hj=>hm j (List.mem_cons_of_mem _ hj));have hi:=hm i (.head _);have hx:xs[i]? =some (xs[i]'(by lia)):=List.getElem?_eq_getElem _;obtain⟨u,hu,ru⟩:=r.get hx;show RelV (xs.getD i .non) (us.getD i Value.none);rw[List.getD_eq_getElem?_getD,List.getD_eq_getElem?_getD,hx,hu];exact ru
end
end L2
namespace L2
open PySem PySem.W PyProof.Rows
section
variable {prog:Program}{w:World}{A:Around}{E:Value->Shared->Prop}{s:Shared}{d it:Addr}{o:Obj}{es:Array DictEntry}{ep i:Nat}
theorem xQ {Q:Value->Shared->Prop}(hd:(d==sysModules)=false)(ho:s.heap.get? d=some o)(hc:o.ExactDict)(hq:o.data= .dict es ep)
  (k:Q (.ref s.heap.objs.size) { s with heap:=s.heap.push { cls:= .type "dict_keyiterator",data:= .fields #[.ref d,.int 0 0,.int es.size 0,.int ep 0] } }):wpAny (model prog w) A (pyIter (.ref d)) Q E s:=by
 have T:s.TypeIs (.ref d) "dict" :=⟨o,ho,hc.1⟩
 refine wpAny_pyIter_slot T F.slot_dict_iter (wpAny_call_entry F.slot_dict_iter T F.entry_dict_iter ?_ (F.args_dict_iter_1 _));unfold Builtin.«dict.__iter__» Builtin.Dict.dictSlotNone;refine wpAny_bind (wpAny_bind (wpAny_notOrdered_dict T (wpAny_pure ?_)));show wpAny _ A.in1 (Builtin.Dict.showsAll d >>= _) _ _ s;unfold Builtin.Dict.showsAll;rw[if_neg (fun z=>by rw[hd]at z;cases z)];refine wpAny_bind (wpAny_pure (wpAny_bind (wpAny_dictEntries ho hq (wpAny_bind (wpAny_dictEpoch ho hq ?_)))));exact wpAny_bind (wpAny_newObj_type (wpAny_pure ⟨_,rfl,"dict_keyiterator",_,⟨_,Heap.get?_push_size _ rfl,rfl⟩,F.slot_dict_keyiterator_next.lookup,k⟩))
theorem FH {Q:Option Value->Shared->Prop}{e:DictEntry} (hit:s.heap.IsKeyIter it d i es.size ep) (ho:s.heap.get? d=some o) (hq:o.data= .dict es ep) (hx:es[i]? =some e)
  (k:∀h',h'.IsKeyIter it d (i+1) es.size ep->Heap.SameBut it s.heap h'->Q (some e.key) { s with heap:=h' }):wpAny (model prog w) A (pyNext (.ref it)) Q E s:=by
 obtain⟨oi,hi,ci,di⟩:=id hit;have T:=hit.typeIs;unfold pyNext;refine wpAny_bind (wpAny_attempt (wpAny_callSpecial?_slot (name:=Str.ofString "__next__") T F.slot_dict_keyiterator_next (wpAny_call_entry F.slot_dict_keyiterator_next T F.entry_dict_keyiterator_next ?_ (F.args_dict_keyiterator_next_1 _))));refine wpAny_bind (wpAny_pure (wpAny_bind (wpAny_bind ?_)))
 first|refine wpAny_bind (wpAny_typeNameOfWhole_keyiter T (wpAny_pure (wpAny_bind (wpAny_fieldsOf hi di ?_))))|refine wpAny_bind (wpAny_typeNameOf_keyiter T (wpAny_pure (wpAny_bind (wpAny_fieldsOf hi di ?_))))
 simp only[show Builtin.Dict_items.ownsTuple "dict_keyiterator" =false by decide,Bool.false_eq_true,if_false];show wpAny _ A.in1 (if (Value.ref d==Value.none)=true then _ else _) _ _ s;rw[if_neg (show ¬(Value.ref d==Value.none)=true from Bool.false_ne_true)];refine wpAny_bind (wpAny_pure (wpAny_bind (wpAny_dictEntries ho hq ?_)));rw[if_neg (by simp)];refine wpAny_bind (wpAny_pure (wpAny_bind (wpAny_dictEpoch ho hq ?_)));rw[if_neg (by simp)];refine wpAny_pure ?_;simp only[show ¬((i:Int)<0) from by lia,if_false,Int.toNat_natCast,hx];refine wpAny_bind ?_
 first|refine wpAny_bind (wpAny_typeNameOfWhole_keyiter T (wpAny_pure (wpAny_bind (wpAny_isOneOf_keyiter T ?_))))|refine wpAny_bind (wpAny_typeNameOf_keyiter T (wpAny_pure (wpAny_bind (wpAny_isOneOf_keyiter T ?_))))
 show wpAny _ A.in1 (setField (.ref it) 1 (rawInt ((i:Int)+1)) >>= _) _ _ s;refine wpAny_bind (wpAny_setField hi di (by simp) ?_);have H2:(s.heap.update it (Obj.mapFields (·.setIfInBounds 1 (rawInt ((i:Int)+1))))).IsKeyIter it d (i+1) es.size ep :=
  ⟨_,Heap.get?_update_self _ hi (Obj.isFreed_of_fields (Obj.data_mapFields di _)),(Obj.cls_mapFields ..).trans ci,(Obj.data_mapFields di _).trans (by simp[rawInt])⟩
 refine wpAny_bind (wpAny_holding (wpAny_bind (wpAny_isOneOf_keyiter (s:={ s with heap:=s.heap.update it (Obj.mapFields (·.setIfInBounds 1 (rawInt ((i:Int)+1)))) }) H2.typeIs ?_)));show wpAny _ A.in1 (pure e.key) _ _ _;exact wpAny_pure (wpAny_pure ⟨_,rfl,wpAny_pure (k _ H2 (Heap.SameBut.update ..))⟩)
theorem JM {Q:Option Value->Shared->Prop}(hh:A.handled=none)(hit:s.heap.IsKeyIter it d i es.size ep)(ho:s.heap.get? d=some o)(hq:o.data= .dict es ep)(hx:es.size<=i)
  (k:∀h',Heap.ExtBut it s.heap h'->Q none { s with heap:=h' }):wpAny (model prog w) A (pyNext (.ref it)) Q E s:=by
 obtain⟨oi,hi,ci,di⟩:=id hit;have T:=hit.typeIs;unfold pyNext;refine wpAny_bind (wpAny_attempt (wpAny_callSpecial?_slot (name:=Str.ofString "__next__") T F.slot_dict_keyiterator_next (wpAny_call_entry F.slot_dict_keyiterator_next T F.entry_dict_keyiterator_next ?_ (F.args_dict_keyiterator_next_1 _))));refine wpAny_bind (wpAny_pure (wpAny_bind (wpAny_bind ?_)))
 first|refine wpAny_bind (wpAny_typeNameOfWhole_keyiter T (wpAny_pure (wpAny_bind (wpAny_fieldsOf hi di ?_))))|refine wpAny_bind (wpAny_typeNameOf_keyiter T (wpAny_pure (wpAny_bind (wpAny_fieldsOf hi di ?_))))
 simp only[show Builtin.Dict_items.ownsTuple "dict_keyiterator" =false by decide,Bool.false_eq_true,if_false];show wpAny _ A.in1 (if (Value.ref d==Value.none)=true then _ else _) _ _ s;rw[if_neg (show ¬(Value.ref d==Value.none)=true from Bool.false_ne_true)];refine wpAny_bind (wpAny_pure (wpAny_bind (wpAny_dictEntries ho hq ?_)));rw[if_neg (by simp)];refine wpAny_bind (wpAny_pure (wpAny_bind (wpAny_dictEpoch ho hq ?_)));rw[if_neg (by simp)];refine wpAny_pure ?_;simp only[show ¬((i:Int)<0) from by lia,if_false,Int.toNat_natCast,Array.getElem?_eq_none hx];refine wpAny_bind ?_
 first|refine wpAny_bind (wpAny_typeNameOfWhole_keyiter T (wpAny_pure ?_))|refine wpAny_bind (wpAny_typeNameOf_keyiter T (wpAny_pure ?_))
 show wpAny _ A.in1 (setField (.ref it) 0 .none >>= _) _ _ s;refine wpAny_bind (wpAny_setField hi di (by simp) ?_);show wpAny _ A.in1 (newExc (.type "StopIteration") [] >>= _) _ _ _;refine wpAny_bind ?_;simp only[newExc,newTuple];refine wpAny_bind (wpAny_newObj_type (wpAny_bind (m:=firstArgMember _ _) (wpAny_of_eq (a:=Value.none) (by first|rfl|(simp only[firstArgMember];rfl)) (wpAny_newObj_type ?_ (by size_fits)))) (by size_fits));simp only[raiseNew];refine wpAny_bind (wpAny_handled ?_);rw[show A.in1.handled=none from hh];refine wpAny_bind (wpAny_pure (wpAny_throw ?_));refine wpAny_bind (wpAny_isInstance (b:=true) (T:= "StopIteration") ⟨_,Heap.get?_push_size _ rfl,rfl⟩ isSubtype_stop ?_);exact wpAny_pure (k _ (((Heap.SameBut.update ..).extBut.push _).push _))
end
end L2
namespace L2
open PySem PySem.W PyProof.Rows
def Itk (a:Addr)(o:Obj)(kvs:List (Key×V)):It :=
 ⟨fun i H=>H a=some (.frz o (.dK kvs))/\i<kvs.length,fun i H x H'=>H'=H/\∃k v,kvs[i]? =some (k,v)/\x=kV k,fun i H=>H a=some (.frz o (.dK kvs))/\kvs.length<=i⟩
def Itq (a:Addr)(o:Obj)(kvs:List (List Key×V)):It :=
 ⟨fun i H=>H a=some (.frz o (.dT kvs))/\i<kvs.length,fun i H x H'=>H'=H/\∃k v q,kvs[i]? =some (k,v)/\x= .ref q/\H q=some (.tup (k.map kV)),fun i H=>H a=some (.frz o (.dT kvs))/\kvs.length<=i⟩
theorem KT.get {H:Hp}:∀{kvs:List (List Key×V)}{xs:List (List Key×Addr×Value)}{i:Nat},KT H kvs xs->i<kvs.length->∃k v b u,kvs[i]? =some (k,v)/\xs[i]? =some (k,b,u)/\H b=some (.tup (k.map kV))
 | _,_,0,.cons h _,_=>⟨_,_,_,_,rfl,by rw[h.1];rfl,h.2.1⟩
 | _,_,i+1,.cons _ t,hi=>by
  obtain⟨k,v,b,u,e1,e2,e3⟩:=KT.get (i:=i) t (by simpa using hi);exact⟨k,v,b,u,by simpa using e1,by simpa using e2,e3⟩
 | _,_,_,.nil,hi=>by simp at hi
theorem KT.len {H:Hp}{kvs:List (List Key×V)}{xs:List (List Key×Addr×Value)} (r:KT H kvs xs):kvs.length=xs.length:=Paired.length r
theorem LD {P:Program}{w:World}{K:PySem.W.Frag}{tg:Expr} (a it:Addr) {o:Obj}{es:Array DictEntry}{ep:Nat} (kvs:List (List Key×V)) (hd:o.data= .dict es ep) (hz:es.size=kvs.length) :
  u9 P w K tg (Itq a o kvs) [it] it (fun i h=>h.IsKeyIter it a i es.size ep) where
 mem:=by simp
 obj:=fun i h st b hb=>by
  have e:b=it:=by simpa using hb
  subst e;obtain⟨ob,e,c,d⟩:=st;exact⟨ob,e,fun v z=>by rw[d]at z;cases z⟩
 keep:=fun i h h' st k=>st.at fun ob e=>k it (by simp) ob e
 item:=by
  intro X hP hw hK hc i pins s σ H E I hf st hg;subst hP hw hK;obtain⟨ha,hi⟩:=hg;obtain⟨ho,hok⟩:=(show ObjOk X.prog X.w H s.heap a (.frz o (.dT kvs)) from I.hok a _ ha)
  obtain⟨z,y,xs,r,o',es',ep',h1,h2,h3,h4,h5⟩:=hok;rw[ho]at h1;cases h1;rw[hd]at h3;cases h3;obtain⟨k,v,b,u,e1,e2,e3⟩:=KT.get r hi;have e4:=entry_at h4 i;rw[e2]at e4;obtain⟨f0,f1,f2,f3,f4,f5⟩:=hf it (by simp);refine FH st ho hd e4 fun h' st' sb=> ?_;have I1:Inv X pins σ H { s with heap:=h' }:=I.turned (t':=s.toks) (fun b o hb e=>(sb.2 b hb).trans e) f0 f1 f3 f4 f5;exact⟨_,rfl,letGo_keyiter (s':={ s with heap:=h' }) st' ⟨.ref b,H,I1,rfl,⟨rfl,k,v,b,e1,rfl,e3⟩,st',fun b hb=>(hf b hb).1⟩⟩
 done:=by
  intro X hP hw hK hc i pins s σ H E I hf st hg;subst hP hw hK;obtain⟨ha,hi⟩:=hg;obtain⟨ho,hok⟩:=(show ObjOk X.prog X.w H s.heap a (.frz o (.dT kvs)) from I.hok a _ ha)
  obtain⟨f0,f1,f2,f3,f4,f5⟩:=hf it (by simp);exact JM (I.ok.hd hc) st ho hd (by lia) fun h' eb=>⟨rfl,I.turned (t':=s.toks) (fun b o hb e=>eb b o hb e) f0 f1 f3 f4 f5⟩
 self:=fun _ _ _ _ _ st h=>wpAny_pyIter_keyiter st h
def MO (td:TE):TI:=fun σ H R=>td σ H fun x H1=>∃a kvs,x= .ref a/\H1 a=some (.dT kvs)/\∀o,R (Itq a o kvs) (upd H1 a (.frz o (.dT kvs)))
section
variable {X:Cx}{tg:Expr}
theorem Inv.freeze {pins:List (Addr×Obj)}{σ:St}{H:Hp}{s:Shared}{a:Addr}{u:HO}{o:Obj} (I:Inv X pins σ H s) (mu:Mut (some u)) (e:H a=some u) (ho:s.heap.get? a=some o) (new:ObjOk X.prog X.w (upd H a (.frz o u)) s.heap a (.frz o u)):Inv X pins σ (upd H a (.frz o u)) s :=
 I.write (t':=s.toks) (h':=s.heap) (by rw[e];exact mu) (.inl rfl) (fun b u _ z=>z) ⟨_,ho⟩ new
theorem QB {l:Expr}{td:TE} (hl:PE X l td):PI X tg l (MO td):=by
 intro pins s σ H R I h;refine thn (hl pins s σ H _ I h) fun v s1 ⟨x,H1,I1,r1,q1⟩=> ?_;obtain⟨a,kvs,rfl,hq,q⟩:=q1;cases r1;obtain⟨z,y,xs,r,o,es,ep,h1,h2,h3,h4,h5⟩:=(show ObjOk X.prog X.w H1 s1.heap a (.dT kvs) from I1.hok a _ hq)
 have hz:es.size=kvs.length:=by rw[size_of_entries h4,KT.len r]
 have hne:∀b ys,H1 b=some (.tup ys)->upd H1 a (.frz o (.dT kvs)) b=some (.tup ys):=fun b ys e=>by
  have hb:b≠a:=fun z=>by rw[z,hq]at e;cases e
  rw[aU hb];exact e
 have new:ObjOk X.prog X.w (upd H1 a (.frz o (.dT kvs))) s1.heap a (.frz o (.dT kvs)):=⟨h1,z,y,xs,KT.keeps r hne,o,es,ep,h1,h2,h3,h4,h5⟩
 have I2:Inv X pins σ (upd H1 a (.frz o (.dT kvs))) s1:=I1.freeze trivial hq h1 new;refine xQ y h1 h2 h3 ?_;refine⟨s1.heap.objs.size,[s1.heap.objs.size],_,_,upd H1 a (.frz o (.dT kvs)),rfl,I2.kept (t':=s1.toks) fun b o e=>Heap.get?_push_of_some _ e,LD a _ kvs h3 hz,⟨_,Heap.get?_push_size _ rfl,rfl,rfl⟩,fun b hb=> ?_,q o⟩;have e:b=s1.heap.objs.size:=by simpa using hb
 subst e;exact I2.fpOk (Nat.le_refl _) (I2.hok.fresh (Nat.le_refl _))
end
end L2
namespace L2
open PySem PySem.W PyProof.Rows
section
variable {X:Cx}{e c:Expr}{te:TE}{lo hi:Option Expr}{tl th ts:TO}{pos p2:Pos}
end
section
variable {X:Cx}
end
section
variable {X:Cx}{pins:List (Addr×Obj)}{σ:St}{H:Hp}{s:Shared}
end
section
variable {X:Cx}
end
end L2
namespace L2
open PySem PySem.W PyProof.Rows
section
variable {K:PySem.W.Frag}{ti:TT}{te:TE}{σ:St}{ci:List Nat}{rest:St}{fin:List V->Hp->Prop}{H:Hp}{a:Addr}
end
end L2
namespace L2
open PySem PySem.W PyProof.Rows
theorem BK:bootBuiltins "sorted" =some (.builtin "sorted"):=by decide +kernel
theorem Room.units1 {k:Nat}{A:Around} (r:Room k A):A.units+1<cLine:=by have:=r.un;lia
section
variable {K:PySem.W.Frag}{H:Hp}{Q:VK}
end
section
variable {H:Hp}{Q:VK}{σ:St}
theorem RE (h:∀p H',H p=none->Same H H'->H' p=some (.dT [])->Q (.ref p) H'):NE σ H Q:=fB h
theorem tM {κ:Type}[DecidableEq κ]{kvs:List (κ×V)}{k:κ}{v:V}{e:κ×V} (h:e∈b9 kvs k v):e∈kvs∨e.1=k/\e.2=v:=by
 unfold b9 at h
 split at h
 ·obtain⟨p,hp,e1⟩:=List.mem_map.mp h
  by_cases z:p.1=k
  ·rw[if_pos z]at e1;subst e1;exact .inr ⟨z,rfl⟩
  ·rw[if_neg z]at e1;subst e1;exact .inl hp
 ·rcases List.mem_append.mp h with h|h
  ·exact .inl h
  ·cases List.mem_singleton.mp h;exact .inr ⟨rfl,rfl⟩
end
end L2
namespace L2
open PySem PySem.W PyProof.Rows
section
variable {X:Cx}{K:PySem.W.Frag}
theorem kG {es:List Expr}{k:Nat}{t:TGs}{n:Nat}{pos:Pos} (hc:X.calm=true) (h:PGs X es t) (hK:X.K=K:=by rfl)
  (hn:(assignEach es X.env).length=n:=by rfl)(hst:(assignEach es X.env).findIdx? (·.1)=none:=by rfl):PG X (.Tuple es k pos) (xD K n t):=by
 subst hK;exact mU hc h hn hst
theorem rB (hK:X.K=K:=by rfl):IxR X (aAF K):=by
 subst hK;exact yZ
end
def JW (nx:St->Hp->Prop)(σ:St)(x v:V):VK:=fun y H3=>∃a H4,x= .ref a/\DPut H3 a y v H4/\nx σ H4
def JZ (Q:VK)(x:V):VK:=fun y H2=>∃a v,x= .ref a/\DGet H2 a y (some v)/\Q v H2
def TZ (R:It->Hp->Prop):VK:=fun x H1=>∃a kvs,x= .ref a/\H1 a=some (.dT kvs)/\∀o,R (Itq a o kvs) (upd H1 a (.frz o (.dT kvs)))
section
variable {K:PySem.W.Frag}{H:Hp}{Q:VK}{σ:St}{nx rt bk ct:St->Hp->Prop}
theorem XC {td ty tv:TE}{nx:St->Hp->Prop}{rt:VK}{bk ct:St->Hp->Prop} (h:tv σ H fun v H1=>td σ H1 fun x H2=>ty σ H2 (JW nx σ x v)):TU td ty tv ⟨nx,rt,bk,ct⟩ σ H:=h
theorem lE {p b:Addr}{v:V}{kvs:List (List Key×V)} (k:List Key) (e:H p=some (.dT kvs)) (eb:H b=some (.tup (k.map kV))) (hl:kvs.length<sizeLine)
  (h:∀H',SameBut p H H'->H' p=some (.dT (b9 kvs k v))->nx σ H'):JW nx σ (.ref p) v (.ref b) H :=
 ⟨p,_,rfl,DPut.t e eb hl,h _ SameBut.upd bM⟩
theorem W6 {td ty:TE}(h:td σ H fun x H1=>ty σ H1 (JZ Q x)):TW td ty σ H Q:=h
theorem oW {p b:Addr}{v:V}{kvs:List (List Key×V)} (k:List Key) (e:Rd H p (.dT kvs)) (eb:H b=some (.tup (k.map kV))) (hv:aY kvs k=some v) (h:Q v H):JZ Q (.ref p) (.ref b) H :=
 ⟨p,v,rfl,.inr ⟨kvs,k,b,e,rfl,eb,hv.symm⟩,h⟩
theorem Q9 {td:TE}{R:It->Hp->Prop} (h:td σ H (TZ R)):MO td σ H R:=h
theorem RQ {p:Addr}{kvs:List (List Key×V)}{R:It->Hp->Prop} (e:H p=some (.dT kvs)) (h:∀o H',SameBut p H H'->H' p=some (.frz o (.dT kvs))->R (Itq p o kvs) H'):TZ R (.ref p) H :=
 ⟨p,kvs,rfl,e,fun o=>h o _ SameBut.upd bM⟩
theorem rP {p:Addr}{xs:List V}{i:Int} (e:SqL K H p xs) (h0:0<=i) (h1:i<xs.length) (h:∀v∈xs,Q v H):F7 K (.ref p) (.int i) H Q:=by
 have hl:i.toNat<xs.length:=by lia
 have e1:=wH (xs:=xs) (j:=i.toNat) (v:=xs[i.toNat]) (List.getElem?_eq_getElem hl);rw[show ((i.toNat:Nat):Int)=i by lia]at e1;exact⟨p,xs,i,_,rfl,rfl,e,e1,h _ (List.getElem_mem hl)⟩
end
end L2
namespace L2
open PySem PySem.W PyProof.Rows
theorem uF:entryFor table "dict_itemiterator.__iter__" =some Builtin.«dict_keyiterator.__iter__»:=entryFor_alias (id':= "dict_keyiterator.__iter__") (by kernel_rfl) rfl (by decide +kernel) (by kernel_rfl)
theorem IX {P:Program}{w:World}{k:Key}{u:Value} (h:(bV P w).is k u=true):RelV (kV k) u:=by
 rcases c9 h with⟨i,t,rfl,rfl⟩|⟨x,t,rfl,rfl⟩
 ·exact⟨t,rfl⟩
 ·exact⟨t,rfl⟩
theorem E6 {κ:Type}{kvs:List (κ×V)}{vs:List (κ×Value)}{i:Nat} (h:KV kvs vs) (hi:i<kvs.length):∃k v u,kvs[i]? =some (k,v)/\vs[i]? =some (k,u)/\RelV v u:=by
 induction h generalizing i with
 | nil=>exact absurd hi (Nat.not_lt_zero _)
 | @cons x y l m h t ih =>
  cases i with
  | zero=>exact⟨x.1,x.2,y.2,rfl,by rw[h.1];rfl,h.2⟩
  | succ i=>exact ih (Nat.lt_of_succ_lt_succ hi)
theorem BI {P:Program}{w:World}{κ:Type} [DecidableEq κ] {knd:KeyKind P w κ}:∀{es:List DictEntry}{kvs:List (κ×Value)}{i:Nat}{k:κ}{u:Value},Pairs knd es kvs->kvs[i]? =some (k,u)->∃e,es[i]? =some e/\knd.is k e.key=true/\e.val=u
 | _,_,0,_,_,.cons h1 h2 _,z=>by cases z;exact⟨_,rfl,h1,h2⟩
 | _,_,i+1,_,_,.cons _ _ t,z=>by
  obtain⟨e,e1,e2⟩:=BI (i:=i) t (by simpa using z);exact⟨e,by simpa using e1,e2⟩
 | _,_,_,_,_,.nil,z=>by simp at z
theorem KL {P:Program}{w:World}{K:PySem.W.Frag}{tg:Expr} (a it:Addr) {o:Obj}{es:Array DictEntry}{ep:Nat} (kvs:List (Key×V)) (hd:o.data= .dict es ep) (hz:es.size=kvs.length) :
  u9 P w K tg (Itk a o kvs) [it] it (fun i h=>h.IsKeyIter it a i es.size ep) where
 mem:=by simp
 obj:=fun i h st b hb=>by
  have e:b=it:=by simpa using hb
  subst e;obtain⟨ob,e,c,d⟩:=st;exact⟨ob,e,fun v z=>by rw[d]at z;cases z⟩
 keep:=fun i h h' st k=>st.at fun ob e=>k it (by simp) ob e
 item:=by
  intro X hP hw hK hc i pins s σ H E I hf st hg;subst hP hw hK;obtain⟨ha,hi⟩:=hg;obtain⟨ho,z,y,vs,r,o',es',ep',h1,h2,h3,h4,h5,h6⟩:=(show ObjOk X.prog X.w H s.heap a (.frz o (.dK kvs)) from I.hok a _ ha)
  rw[ho]at h1;cases h1;rw[hd]at h3;cases h3;obtain⟨k,v,u,e1,e2,e3⟩:=E6 r hi;obtain⟨e,f6,f7,f8⟩:=BI h5 e2;obtain⟨f0,f1,f2,f3,f4,f5⟩:=hf it (by simp);refine FH st ho hd (e:=e) (by simpa using f6) fun h' st' sb=> ?_;have I1:Inv X pins σ H { s with heap:=h' }:=I.turned (t':=s.toks) (fun b o hb e=>(sb.2 b hb).trans e) f0 f1 f3 f4 f5;exact⟨_,rfl,letGo_keyiter (s':={ s with heap:=h' }) st' ⟨kV k,H,I1,IX f7,⟨rfl,k,v,e1,rfl⟩,st',fun b hb=>(hf b hb).1⟩⟩
 done:=by
  intro X hP hw hK hc i pins s σ H E I hf st hg;subst hP hw hK;obtain⟨ha,hi⟩:=hg;obtain⟨ho,hok⟩:=(show ObjOk X.prog X.w H s.heap a (.frz o (.dK kvs)) from I.hok a _ ha)
  obtain⟨f0,f1,f2,f3,f4,f5⟩:=hf it (by simp);exact JM (I.ok.hd hc) st ho hd (by lia) fun h' eb=>⟨rfl,I.turned (t':=s.toks) (fun b o hb e=>eb b o hb e) f0 f1 f3 f4 f5⟩
 self:=fun _ _ _ _ _ st h=>wpAny_pyIter_keyiter st h
def OE (td:TE):TI:=fun σ H R=>td σ H fun x H1=>∃a kvs,x= .ref a/\H1 a=some (.dK kvs)/\∀o,R (Itk a o kvs) (upd H1 a (.frz o (.dK kvs)))
section
variable {X:Cx}{tg:Expr}
theorem xF {l:Expr}{td:TE} (hl:PE X l td):PI X tg l (OE td):=by
 intro pins s σ H R I h;refine thn (hl pins s σ H _ I h) fun v s1 ⟨x,H1,I1,r1,q1⟩=> ?_;obtain⟨a,kvs,rfl,hq,q⟩:=q1;cases r1;obtain⟨z,y,vs,r,o,es,ep,h1,h2,h3,h4,h5,h6⟩:=(show ObjOk X.prog X.w H1 s1.heap a (.dK kvs) from I1.hok a _ hq)
 have hz:es.size=kvs.length:=by rw[r.length,←h5.length];simp
 have new:ObjOk X.prog X.w (upd H1 a (.frz o (.dK kvs))) s1.heap a (.frz o (.dK kvs)):=⟨h1,z,y,vs,r,o,es,ep,h1,h2,h3,h4,h5,h6⟩
 have I2:Inv X pins σ (upd H1 a (.frz o (.dK kvs))) s1:=I1.freeze trivial hq h1 new;refine xQ y h1 h2 h3 ?_;refine⟨s1.heap.objs.size,[s1.heap.objs.size],_,_,upd H1 a (.frz o (.dK kvs)),rfl,I2.kept (t':=s1.toks) fun b o e=>Heap.get?_push_of_some _ e,KL a _ kvs h3 hz,⟨_,Heap.get?_push_size _ rfl,rfl,rfl⟩,fun b hb=> ?_,q o⟩;have e:b=s1.heap.objs.size:=by simpa using hb
 subst e;exact I2.fpOk (Nat.le_refl _) (I2.hok.fresh (Nat.le_refl _))
end
section
variable {X:Cx}
end
end L2
namespace L2
open PySem PySem.W PyProof.Rows
section
variable {X:Cx}{pins:List (Addr×Obj)}{σ:St}{H:Hp}{s:Shared}{a:Addr}{o:Obj}{u:HO}
theorem Inv.thaw (I:Inv X pins σ H s)(h0:∀o u,X.H₀ a≠some (.frz o u))(e:H a=some (.frz o u)):Inv X pins σ (upd H a u) s:=by
 have nn:∀b,H b=none->b≠a:=fun b n z=>by rw[z,e]at n;cases n
 have no:∀b c,H b=some (.own c)->b≠a:=fun b c n z=>by rw[z,e]at n;cases n
 have nt:∀b xs,H b=some (.tup xs)->b≠a:=fun b c n z=>by rw[z,e]at n;cases n
 refine⟨I.ok,I.os,I.bare,⟨I.base.keep,I.base.slot,fun b ob q n hx=> ?_,I.base.there,fun b xs q=> ?_,fun b ob xs q=> ?_,fun b ps q=> ?_⟩,I.loc,I.cell,?_,fun x c ec=> ?_,fun p hp=> ?_,fun b v q=> ?_,I.len⟩
 ·have z:=I.base.free b ob q n hx;rw[aU (nn b z)];exact z
 ·have z:=I.base.tups b xs q;rw[aU (nt b xs z)];exact z
 ·have z:=I.base.frzs b ob xs q;have hb:b≠a:=fun y=>h0 ob xs (by rw[←y];exact q);rw[aU hb];exact z
 ·obtain⟨more,z⟩:=I.base.tbls b ps q;refine⟨more,?_⟩;rw[aU (fun y=>by rw[y,e]at z;cases z)];exact z
 ·rw[aU (nn _ I.free)];exact I.free
 ·rw[aU (nn _ (I.freeC x c ec))];exact I.freeC x c ec
 ·obtain⟨p1,p2,p3⟩:=I.pin p hp;exact⟨p1,by rw[aU (nn _ p2)];exact p2,p3⟩
 ·have so:∀b c,H b=some (.own c)->upd H a u b=some (.own c):=fun b c z=>by rw[aU (no b c z)];exact z
  have st:∀b xs,H b=some (.tup xs)->upd H a u b=some (.tup xs):=fun b c z=>by rw[aU (nt b c z)];exact z
  by_cases hb:b=a
  ·subst hb;rw[bM]at q;cases q;obtain⟨_,z⟩:=(show ObjOk X.prog X.w H s.heap b (.frz o u) from I.hok b _ e)
   exact z.stay (fun _ _ _ q=>q) (fun c z=>so c b z) st
  ·rw[aU hb]at q;exact(I.hok b v q).stay (fun _ _ _ q=>q) (fun c z=>so c b z) st
theorem Inv.wasFree (I:Inv X pins σ H s)(h:∀o u,H a≠some (.frz o u)):∀o u,X.H₀ a≠some (.frz o u):=fun o u z=>h o u (I.base.frzs a o u z)
end
def iM (a:Addr)(R:Hp->Prop):Hp->Prop:=fun H=>∃o u,H a=some (.frz o u)/\R (upd H a u)
def TC (te:TE):TE:=fun σ H Q=>∃a,(∀o u,H a≠some (.frz o u))/\te σ H fun x=>iM a (Q x)
def UF (ts:TS):TS:=fun D σ H=>∃a,(∀o u,H a≠some (.frz o u))/\ts ⟨fun σ'=>iM a (D.nx σ'),fun v=>iM a (D.rt v),fun σ'=>iM a (D.bk σ'),fun σ'=>iM a (D.ct σ')⟩ σ H
section
variable {X:Cx}
theorem wE {e:Expr}{te:TE} (he:PE X e te):PE X e (TC te):=by
 intro pins s σ H Q I h;obtain⟨a,h0,h⟩:=h;refine thn (he pins s σ H _ I h) fun v s1 ⟨x,H1,I1,r1,o,u,e,q⟩=> ?_;exact⟨x,_,I1.thaw (I.wasFree h0) e,r1,q⟩
theorem W7 {st:Stmt}{ts:TS} (he:PS X st ts):PS X st (UF ts):=by
 intro pins s σ H D I h;obtain⟨a,h0,h⟩:=h;refine thn (he pins s σ H _ I h) fun f s1 z=> ?_;cases f with
 | next=>obtain⟨σ1,H1,I1,o,u,e,q⟩:=z;exact⟨σ1,_,I1.thaw (I.wasFree h0) e,q⟩
 | brk=>obtain⟨σ1,H1,I1,o,u,e,q⟩:=z;exact⟨σ1,_,I1.thaw (I.wasFree h0) e,q⟩
 | cont=>obtain⟨σ1,H1,I1,o,u,e,q⟩:=z;exact⟨σ1,_,I1.thaw (I.wasFree h0) e,q⟩
 | ret v=>obtain⟨x,σ1,H1,I1,r,o,u,e,q⟩:=z;exact⟨x,σ1,_,I1.thaw (I.wasFree h0) e,r,q⟩
end
end L2
namespace L2
open PySem PySem.W PyProof.Rows
theorem FC:∀bs:List Bool,((List.range bs.length).any fun i=>bs.getD i false)=bs.any id
 | []=>rfl
 | b::bs=>by
  rw[List.length_cons,List.range_succ_eq_map,List.any_cons,List.any_map,List.any_cons,←FC bs];rfl
theorem yX:∀{ns:List Int}{us:List Value},Vals (ns.map V.int) us->∃xs:List (Int×Tok),us=xs.map (fun p=>Value.int p.1 p.2)/\ns=xs.map (·.1)
 | [],_,.nil=>⟨[],rfl,rfl⟩
 | n::ns,_,.cons r t=>by
  obtain⟨xs,rfl,rfl⟩:=yX t;obtain⟨tk,rfl⟩:=r;exact⟨(n,tk)::xs,rfl,rfl⟩
section
variable {X:Cx}
def aAh (K:PySem.W.Frag):List V->Hp->VK->Prop:=fun xs H Q=>∃(p:Addr) (bs:List Bool),xs=[.ref p]/\SqL K H p (bs.map V.bl)/\Q (.bl (bs.any id)) H
theorem BH (hc:X.calm=true):dL X (.builtin "any") (aAh X.K):=by
 intro pins s σ H xs us Q I r h;obtain⟨p,bs,rfl,hq,q⟩:=h;obtain⟨u,rfl,rx⟩:=kN r;cases rx;obtain⟨its,r',pl,hz⟩:=I.list hq;have hl:=pl.isList;have hlt:p<s.heap.objs.size:=by obtain⟨_,e,_⟩:=hl;exact Heap.lt_size e
 have hlen:bs.length=its.length:=by have:=r'.length;rw[List.length_map]at this;exact this
 refine call_any_walk (wpAny_pyIter_list hl ?_);refine⟨s.heap.objs.size,_,_,its.toArray.size,_,_,fun i=>bs.getD i false,rfl,Walks.list (show X.A.in1.handled=none from I.ok.hd hc) s.heap.objs.size p (Nat.ne_of_lt hlt) its.toArray,⟨⟨_,Heap.get?_push_size _ rfl,rfl,rfl⟩,hl.push _⟩,?_,?_⟩
 ·intro i v s' Q' E' hi hQ;have hi':its[i]? =some v:=by simpa using hi
  have hib:i<bs.length:=by rw[hlen];exact(List.getElem?_eq_some_iff.mp hi').1
  obtain⟨u,hu,ru⟩:=r'.get (i:=i) (x:=V.bl bs[i]) (by rw[List.getElem?_map,List.getElem?_eq_getElem hib];rfl);rw[hi']at hu;cases hu;have:v=Value.bool bs[i]:=ru;subst this;refine wpAny_truthy_bool ?_;have eb:bs.getD i false=bs[i]:=by rw[List.getD_eq_getElem?_getD,List.getElem?_eq_getElem hib];rfl
  have hQ':Q' (bs.getD i false) s':=hQ;rw[eb]at hQ';exact hQ'
 ·intro h' tk hk;have eany:(List.range its.toArray.size).any (fun i=>bs.getD i false)=bs.any id:=by
   rw[List.size_toArray,←hlen];exact FC bs
  rw[eany];refine⟨.bl (bs.any id),H,?_,rfl,q⟩;have I1:Inv X pins σ H { s with heap:=s.heap.push { cls:= .type "list_iterator",data:= .fields #[.ref p,.int 0 0] },toks:=s.toks }:=I.kept fun b u e=>Heap.get?_push_of_some _ e;obtain⟨f0,f1,f2,f3,f4,f5⟩:=I.fpOk (Nat.le_refl _) (I.hok.fresh (Nat.le_refl _));exact I1.turned (fun b o hb e=>hk b o (by simpa using hb) e) f0 f1 f3 f4 f5
def aAB (K:PySem.W.Frag):List V->Hp->VK->Prop:=fun xs H Q=>∃(p:Addr) (ns:List Int),xs=[.ref p]/\SqL K H p (ns.map V.int)/\Q (.int ns.sum) H
theorem BT (hc:X.calm=true):dL X (.builtin "sum") (aAB X.K):=by
 intro pins s σ H xs us Q I r h;obtain⟨p,ns,rfl,hq,q⟩:=h;obtain⟨u,rfl,rx⟩:=kN r;cases rx;obtain⟨its,r',pl,hz⟩:=I.list hq;obtain⟨zs,rfl,rfl⟩:=yX r';have hl:s.heap.IsList p (intItems zs.toArray):=by
  have:=pl.isList
  simpa [intItems] using this
 refine sum_intListG (I.ok.hd hc) hl fun h' tk t' hk=> ?_;have e2:preSum (numAt zs.toArray) zs.toArray.size=(zs.map (·.1)).sum:=by
  rw[preSum_eq,List.take_of_length_le (by simp)]
 rw[e2];exact⟨.int (zs.map (·.1)).sum,H,I.kept hk,⟨t',rfl⟩,q⟩
end
section
variable {K:PySem.W.Frag}{H:Hp}{Q:VK}
theorem N7 {p:Addr}{bs:List Bool} (e:SqL K H p (bs.map V.bl)) (h:Q (.bl (bs.any id)) H):aAh K [.ref p] H Q:=⟨p,bs,rfl,e,h⟩
theorem ON {p:Addr}{ns:List Int} (e:SqL K H p (ns.map V.int)) (h:Q (.int ns.sum) H):aAB K [.ref p] H Q:=⟨p,ns,rfl,e,h⟩
end
theorem OA:bootBuiltins "any" =some (.builtin "any"):=by decide +kernel
theorem E9:bootBuiltins "sum" =some (.builtin "sum"):=by decide +kernel
end L2
namespace L2
open PySem PySem.W PyProof.Rows
theorem W8:typeLookup (.type "list") "keys" =pure none:=by rw[typeLookup_type,builtinLookup_eq_fast];kernel_rfl
theorem UQ:typeLookup (.type "list") "__getattr__" =pure none:=by rw[typeLookup_type,builtinLookup_eq_fast];kernel_rfl
theorem FG:isSubtype (.type "AttributeError") (.type "AttributeError")=pure true:=by rw[isSubtype_type];kernel_rfl
theorem RD:((Manifest.find? "AttributeError").elim false fun t=>t.mro.contains "StopIteration" ||t.mro.contains "SystemExit")=false:=by decide +kernel
section
variable {prog:Program}{w:World}{A:Around}{E:Value->Shared->Prop}{s:Shared}
theorem RF {α:Type}{v:Value}{a:Addr}{Q:α->Shared->Prop} (hh:A.handled=none)
  (k:∀e h' tk' o,h'.get? e=some o->o.cls= .type "AttributeError" ->(∀b o,s.heap.get? b=some o->h'.get? b=some o)->E (.ref e) { s with heap:=h',toks:=tk' }) :
  wpAny (model prog w) A (do
   let e ←newExc (.type "AttributeError") [v];let l ←mkText "keys"
   noteAttr e (.ref a) l
   raiseNew e) Q E s:=by
 unfold newExc newTuple;refine wpAny_bind (wpAny_bind (wpAny_newObj_type (wpAny_bind (m:=firstArgMember _ _) (wpAny_of_eq (a:=Value.none) (by simp only[firstArgMember,RD];rfl) (wpAny_newObj_type ?_ (by size_fits)))) (by size_fits)));refine wpAny_bind (wpAny_mkText ?_);refine wpAny_bind ?_;unfold noteAttr;refine wpAny_bind ?_;unfold lacksNameAndObj;have e1:(#[Value.ref s.heap.objs.size,.none,.none,.none,.bool false,.none]++ownMembersOf (.type "AttributeError") [v]:Array Value)= #[Value.ref s.heap.objs.size,.none,.none,.none,.bool false,.none,unsetMember,unsetMember]:=rfl;rw[e1];generalize hs:s.heap.push { cls:=Value.type "tuple",data:=Data.seq #[v] }=h1;have ho:(h1.push { cls:= .type "AttributeError",data:= .fields #[Value.ref s.heap.objs.size,.none,.none,.none,.bool false,.none,unsetMember,unsetMember] }).get? h1.objs.size=some { cls:= .type "AttributeError",data:= .fields #[Value.ref s.heap.objs.size,.none,.none,.none,.bool false,.none,unsetMember,unsetMember] }:=Heap.get?_push_size _ rfl;refine wpAny_bind (wpAny_isInstance (b:=true) (T:= "AttributeError") ⟨_,ho,rfl⟩ FG ?_);refine wpAny_bind (wpAny_load ho ?_);refine wpAny_pure ?_;refine wpAny_bind (wpAny_rule ?_);refine wpAny_bind (wpAny_typeOf (T:= "AttributeError") ⟨_,ho,rfl⟩ ?_);unfold layMembers;refine wpAny_bind (wpAny_load ho ?_);refine wpAny_update ho ?_;simp only[raiseNew];refine wpAny_bind (wpAny_handled ?_);rw[hh];refine wpAny_bind (wpAny_pure (wpAny_throw ?_));refine k h1.objs.size _ _ _ (Heap.get?_update_self _ ho (Obj.isFreed_of_fields (Obj.data_mapFields rfl _))) (Obj.cls_mapFields ..) fun b o e=> ?_;have hb:b≠h1.objs.size:=fun z=>by
  have h2:h1.objs.size=s.heap.objs.size+1:=by rw[←hs];simp[Heap.push]
  have h3:=Heap.lt_size e;rw[z,h2]at h3;exact absurd h3 (Nat.not_lt.mpr (Nat.le_succ _))
 exact(Heap.get?_update_other _ _ (Ne.symm hb)).trans (Heap.get?_push_of_some _ (by rw[←hs];exact Heap.get?_push_of_some _ e))
theorem JY {a:Addr}{its:Array Value}{n:Nat}{tk:Tok}{Q:Fin->Shared->Prop} (hh:A.handled=none) (hx:s.heap.get? a=some { cls:= .type "list",data:= .seq its n })
  (k:∀e h' tk' o,h'.get? e=some o->o.cls= .type "AttributeError" ->(∀b o,s.heap.get? b=some o->h'.get? b=some o)->E (.ref e) { s with heap:=h',toks:=tk' }) :
  wpAny (model prog w) A (Builtin.«object.__getattribute__» ⟨[.ref a,.str "keys" tk],[]⟩) Q E s:=by
 obtain⟨h,g,d,t,os⟩:=s;have hT:(⟨h,g,d,t,os⟩:Shared).TypeIs (.ref a) "list" :=⟨_,hx,rfl⟩
 have f4:=W8
 repeat (any_goals (first|assumption|wp_step))
 refine wpAny_bind (wpAny_mkStr ?_ (by rw[sizeLine_eq];decide +kernel));exact RF hh fun e h' tk' o e1 e2 e3=>k e h' tk' o e1 e2 e3
theorem OG {a:Addr}{its:Array Value}{n:Nat}{tk:Tok}{R:Result->Shared->Prop} (hh:A.handled=none) (hx:s.heap.get? a=some { cls:= .type "list",data:= .seq its n })
  (k:∀e h' tk' o,h'.get? e=some o->o.cls= .type "AttributeError" ->(∀b o,s.heap.get? b=some o->h'.get? b=some o)->R (.error (.ref e)) { s with heap:=h',toks:=tk' }) :
  codeAny (model prog w) A (.call (.builtin "list.__getattribute__") ⟨[.ref a,.str "keys" tk],[]⟩) R s:=by
 obtain⟨h,g,d,t,os⟩:=s;exact codeAny_call_builtin F.slot_list_getattribute.plain F.entry_list_ga (F.slot_list_getattribute.check _ _ _ _ _ _ _ _ (show (⟨h,g,d,t,os⟩:Shared).TypeIs (.ref a) "list" from⟨_,hx,rfl⟩) (F.args_list_getattribute_2 _ _) (JY hh hx k))
theorem WP {a:Addr}{its:Array Value}{n:Nat}{Q:Option Value->Shared->Prop} (hh:A.handled=none) (hx:s.heap.get? a=some { cls:= .type "list",data:= .seq its n })
  (k:∀h' tk',(∀b o,s.heap.get? b=some o->h'.get? b=some o)->Q none { s with heap:=h',toks:=tk' }):wpAny (model prog w) A (getAttr? (.ref a) "keys") Q E s:=by
 obtain⟨h,g,d,t,os⟩:=s;have hT:(⟨h,g,d,t,os⟩:Shared).TypeIs (.ref a) "list" :=⟨_,hx,rfl⟩
 have f2:=F.slot_list_getattribute.lookup;have f3:=F.slot_list_getattribute.bind (.ref a);unfold getAttr? getAttrBy?
 repeat (any_goals (first|assumption|wp_step))
 refine OG hh hx fun e h' tk' o e1 e2 e3=> ?_;have hE:(⟨h',g,d,tk',os⟩:Shared).TypeIs (.ref e) "AttributeError" :=⟨_,e1,e2⟩
 show wpAny (model prog w) A (getattributeRaised (Value.ref a) (Value.str (Str.ofString "keys") t) (.type "list") (.ref e) none false false) _ _ (⟨h',g,d,tk',os⟩:Shared);unfold getattributeRaised;refine wpAny_bind (wpAny_isInstance (b:=true) hE FG ?_);show wpAny (model prog w) A (typeLookup (.type "list") "__getattr__" >>= fun x=>hookOrError (Value.ref a) (Value.str (Str.ofString "keys") t) (.ref e) false false x) _ _ (⟨h',g,d,tk',os⟩:Shared);rw[UQ];refine wpAny_bind (wpAny_pure ?_);refine wpAny_throw ?_;refine wpAny_bind (wpAny_isInstance (b:=true) hE FG ?_);exact wpAny_pure (k h' tk' e3)
end
end L2
namespace L2
open PySem PySem.W PyProof.Rows
theorem rW:entryFor table "dict.update.loop" =some Builtin.«dict.update.loop»:=entryFor_of_tree (by kernel_rfl)
theorem i4:plainId "dict.update.loop" =true:=by decide +kernel
def MP {κ:Type}[DecidableEq κ](kvs ps:List (κ×Value)):List (κ×Value):=ps.foldl (fun acc p=>stored acc p.1 p.2) kvs
theorem KA {κ:Type}[DecidableEq κ](kvs:List (κ×Value))(k:κ)(v:Value):(stored kvs k v).length<=kvs.length+1:=by
 unfold stored
 split
 ·rw[List.length_map];exact Nat.le_succ _
 ·rw[List.length_append];exact Nat.le_refl _
section
variable {prog:Program}{w:World}{A:Around}{E:Value->Shared->Prop}{κ:Type} [DecidableEq κ] {knd:KeyKind prog w κ}{I d:Addr}{fp wr:List Addr}{n:Nat}{P:Nat->Value->Prop}{St:Nat->Heap->Prop}{R:Result->Shared->Prop}
def aBa (knd:KeyKind prog w κ)(d:Addr)(wr:List Addr)(P:Nat->Value->Prop)(ps:List (κ×Value))(h:Heap):Prop :=
 ∀i v,P i v->∃(q:Addr) (o:Obj) (key:Value) (k:κ) (u:Value) (c:Nat),v= .ref q/\q∉wr/\q≠d/\h.get? q=some o/\o.cls= .type "tuple" /\o.data= .seq #[key,u] c/\knd.is k key=true/\ps[i]? =some (k,u)
theorem R6 (W:Walks prog w A.in1 I fp wr n P St)(hdf:d∉fp)(ps:List (κ×Value))(hn:ps.length=n)(hsz:n<=sizeLine) :
  ∀(k i:Nat) (s:Shared) (kvs:List (κ×Value)),n - i=k->i<=n->St i s.heap->kvs.length<=i->s.heap.DictOf knd d kvs->aBa knd d wr P ps s.heap →
  (∀h' tk,h'.DictOf knd d (MP kvs (ps.drop i))->(∀b o,b∉wr->b≠d->s.heap.get? b=some o->h'.get? b=some o)->R (.ok (.ret .none)) { s with heap:=h',toks:=tk }) →
  codeAny (model prog w) A (.builtin "dict.update.loop" ⟨[.ref d,.ref I,rawInt i,.none],[]⟩) R s:=by
 have hdw:d∉wr:=fun h=>hdf (W.sub _ h);intro k
 induction k with
 | zero =>
  intro i s kvs hk hi hst hl hd hrow hR;have hin:i=n:=by lia
  subst hin;refine codeAny_builtin rW ?_;rw[Around.under_plainId i4 _];show wpAny _ A.in1 (pyNext (.ref I) >>= _) _ _ s;refine wpAny_bind (W.done s _ _ hst fun h' tk hk'=> ?_);show wpAny _ _ (Builtin.Dict.addKeywords d [] >>= _) _ _ _;refine wpAny_bind (wpAny_pure (wpAny_pure (hR h' tk ?_ fun b o hb _ e=>hk' b o hb e)));rw[List.drop_of_length_le (by lia)];exact hd.at fun o e=>hk' d o hdw e
 | succ k ih =>
  intro i s kvs hk hi hst hl hd hrow hR;have hlt:i<n:=by lia
  refine codeAny_builtin rW ?_;rw[Around.under_plainId i4 _];show wpAny _ A.in1 (pyNext (.ref I) >>= _) _ _ s;refine wpAny_bind (W.item i s _ _ hlt hst fun v h' tk hP hst' hk'=> ?_);obtain⟨q,o,key,kk,u,c,rfl,hqw,hqd,ho,hc,hdt,his,hps⟩:=hrow i v hP;have ho':=hk' q o hqw ho;refine wpAny_bind (wpAny_holding (wpAny_bind (wpAny_tryCatch ?_)));unfold Builtin.Dict.pairItems;refine wpAny_bind (wpAny_typeOf (T:= "tuple") ⟨o,ho',hc⟩ ?_);rw[if_pos (by rfl)];refine wpAny_bind (wpAny_seqItems ho' hdt (wpAny_pure ?_));have hd':h'.DictOf knd d kvs:=hd.at fun o e=>hk' d o hdw e;refine wpAny_holding (wpAny_dictSet_pairs his hd' (fun h2 hd2 sb=> ?_) (by lia));have keep:∀b o,b∉wr->b≠d->s.heap.get? b=some o->h2.get? b=some o:=fun b o hb hbd e=>(sb.2 b hbd).trans (hk' b o hb e);refine wpAny_pure ⟨plainId_quiet i4 _,ih (i+1) _ (stored kvs kk u) (by lia) hlt (W.frame _ _ _ hst' fun b hb o e=>(sb.2 b (fun z=>hdf (z▸hb))).trans e) (Nat.le_trans (KA ..) (by lia)) hd2 (fun j v hj=> ?_) fun h3 tk3 hd3 hk3=> ?_⟩
  ·obtain⟨q,o,key,kk,u,c,e1,e2,e3,e4,e5⟩:=hrow j v hj;exact⟨q,o,key,kk,u,c,e1,e2,e3,keep q o e2 e3 e4,e5⟩
  ·refine hR h3 tk3 ?_ fun b o hb hbd e=>hk3 b o hb hbd (keep b o hb hbd e);have ed:ps.drop i=(kk,u)::ps.drop (i+1):=by
    have hi2:i<ps.length:=by lia
    rw[List.drop_eq_getElem_cons hi2];have:=(List.getElem?_eq_some_iff.mp hps).2;rw[this]
   rw[ed];exact hd3
end
end L2
namespace L2
open PySem PySem.W PyProof.Rows
section
variable {prog:Program}{w:World}{A:Around}{E:Value->Shared->Prop}{κ:Type} [DecidableEq κ] {knd:KeyKind prog w κ}{s:Shared}{l:Addr}{its:Array Value}{c:Nat}
theorem MD {ps:List (κ×Value)}{Q:Value->Shared->Prop} (hh:A.handled=none) (hl:s.heap.get? l=some { cls:= .type "list",data:= .seq its c }) (hsz:its.size<=sizeLine) (hlen:ps.length=its.size)
  (hrow:∀(i:Nat) (v:Value),its[i]? =some v->∃(q:Addr) (o:Obj) (key:Value) (k:κ) (u:Value) (c:Nat),v= .ref q/\s.heap.get? q=some o/\o.cls= .type "tuple" /\o.data= .seq #[key,u] c/\knd.is k key=true/\ps[i]? =some (k,u))
  (h:∀h' tk,h'.DictOf knd s.heap.objs.size (MP [] ps)->(∀b o,s.heap.get? b=some o->h'.get? b=some o)->Q (.ref s.heap.objs.size) { s with heap:=h',toks:=tk }) :
  wpAny (model prog w) A (call (.type "dict") [.ref l]) Q E s:=by
 refine callType_codes (Q₁:=fun obj s₁=>obj= .ref s.heap.objs.size/\s₁={ s with heap:=s.heap.push { cls:= .type "dict",data:= .dict #[] } }) F.kt_called_dict (F.kt_typeCall_dict_1 _) F.entry_dict_init (kt_code_dict_new _ ⟨rfl,rfl⟩) ?_;rintro obj s₁ ⟨rfl,rfl⟩;have hnew:(s.heap.push { cls:= .type "dict",data:= .dict #[] }).DictOf knd s.heap.objs.size []:=Heap.DictOf.new s.heap;have hl':(s.heap.push { cls:= .type "dict",data:= .dict #[] }).get? l=some { cls:= .type "list",data:= .seq its c }:=Heap.get?_push_of_some _ hl;refine⟨hnew.typeIs,F.args_dict_init_2 _ _,?_⟩;unfold Builtin.«dict.__init__»;refine wpAny_bind ?_;unfold Builtin.Dict.selfAndRest;refine wpAny_bind (wpAny_notOrdered_dict hnew.typeIs ?_);show wpAny _ _ (pure (s.heap.objs.size,[Value.ref l])) _ _ _;refine wpAny_pure ?_;show wpAny _ _ (Builtin.Dict.updateFrom "dict.__init__" s.heap.objs.size (.ref l) [] .none) _ _ _;unfold Builtin.Dict.updateFrom;refine wpAny_bind (wpAny_typeOf (T:= "list") ⟨_,hl',rfl⟩ ?_);rw[if_pos (by decide)];refine wpAny_bind (WP hh hl' fun h1 t1 kp1=> ?_);rw[if_pos (show (none:Option Value).isNone=true from rfl)];refine wpAny_bind (wpAny_rule ?_);have hl1:=kp1 _ _ hl';have isl:h1.IsList l its:=⟨_,hl1,rfl,_,rfl⟩
 have lt1:∀b o,s.heap.get? b=some o->b≠h1.objs.size:=fun b o e z=>by
  have:=Heap.lt_size (kp1 b o (Heap.get?_push_of_some _ e));rw[z]at this;exact Nat.lt_irrefl _ this
 have hdI:s.heap.objs.size≠h1.objs.size:=fun z=>by
  have:=Heap.lt_size (kp1 _ _ (Heap.get?_push_size s.heap (o:={ cls:= .type "dict",data:= .dict #[] }) rfl));rw[z]at this;exact Nat.lt_irrefl _ this
 have hdl:∀b o,s.heap.get? b=some o->b≠s.heap.objs.size:=fun b o e z=>by
  have:=Heap.lt_size e;rw[z]at this;exact Nat.lt_irrefl _ this
 refine wpAny_bind (wpAny_pyIter_list isl ?_);refine wpAny_pure ⟨plainId_quiet i4 _,?_⟩;have W:=Walks.list (prog:=prog) (w:=w) (A:=A.in1.in1) hh h1.objs.size l (lt1 _ _ hl) its;refine R6 (knd:=knd) W (by simp only[List.mem_cons,List.not_mem_nil,or_false,not_or];exact⟨hdI,Ne.symm (hdl _ _ hl)⟩) ps hlen hsz its.size 0 _ [] (Nat.sub_zero _) (Nat.zero_le _) ⟨⟨_,Heap.get?_push_size _ rfl,rfl,rfl⟩,isl.push _⟩ (Nat.le_refl _) ((hnew.at fun o e=>kp1 _ o e).push _) (fun i v hi=> ?_) fun h' tk hd hk=> ?_
 ·obtain⟨q,o,key,k,u,c',e1,e2,e3,e4,e5,e6⟩:=hrow i v hi;refine⟨q,o,key,k,u,c',e1,?_,hdl _ _ e2,Heap.get?_push_of_some _ (kp1 _ _ (Heap.get?_push_of_some _ e2)),e3,e4,e5,e6⟩;simp only[List.mem_cons,List.not_mem_nil,or_false];exact lt1 _ _ e2
 ·refine⟨rfl,h h' tk hd fun b o e=>hk b o ?_ (hdl _ _ e) (Heap.get?_push_of_some _ (kp1 _ _ (Heap.get?_push_of_some _ e)))⟩;simp only[List.mem_cons,List.not_mem_nil,or_false];exact lt1 _ _ e
end
end L2
namespace L2
open PySem PySem.W PyProof.Rows
abbrev DS (H:Hp):List V->List (Key×V)->Prop:=Paired fun v p=>∃q,v= .ref q/\H q=some (.tup [kV p.1,p.2])
section
variable {X:Cx}{pins:List (Addr×Obj)}{σ:St}{H:Hp}{s:Shared}
theorem RG (I:Inv X pins σ H s){q:Addr}{k:Key}{x:V} (e:H q=some (.tup [kV k,x])):∃(o:Obj) (key u:Value) (n:Nat),s.heap.get? q=some o/\o.cls= .type "tuple" /\o.data= .seq #[key,u] n/\(bV X.prog X.w).is k key=true/\RelV x u:=by
 obtain⟨_,us,r,o,h1,h2,n,h3⟩:=(show ObjOk X.prog X.w H s.heap q (.tup [kV k,x]) from I.hok q _ e)
 cases r with
 | @cons _ key _ _ r1 r =>
  cases r with
  | @cons _ u _ _ r2 r =>
   cases r;exact⟨o,key,u,n,h1,h2,h3,tK r1,r2⟩
theorem zG (I:Inv X pins σ H s):∀{vs:List V}{ps:List (Key×V)}{us:List Value},DS H vs ps->Vals vs us →
  ∃rs:List (Key×Value),KV ps rs/\rs.length=us.length/\∀(i:Nat) (v:Value),us[i]? =some v->∃(q:Addr) (o:Obj) (key:Value) (k:Key) (u:Value) (c:Nat),v= .ref q/\s.heap.get? q=some o/\o.cls= .type "tuple" /\o.data= .seq #[key,u] c/\(bV X.prog X.w).is k key=true/\rs[i]? =some (k,u)
 | _,_,_,.nil,.nil=>⟨[],.nil,rfl,fun i v z=>by simp at z⟩
 | _::_,(k,x)::_,_::us,.cons ⟨q,e,hq⟩ t,.cons r rt=>by
  obtain⟨rs,h1,h2,h3⟩:=zG I t rt;obtain⟨o,key,u,n,o1,o2,o3,o4,o5⟩:=RG I hq;subst e;cases r;refine⟨(k,u)::rs,.cons ⟨rfl,o5⟩ h1,by simp[h2],fun i v z=> ?_⟩;cases i with
  | zero=>cases z;exact⟨q,o,key,k,u,n,rfl,o1,o2,o3,o4,rfl⟩
  | succ i =>
   obtain⟨q,o,key,k,u,c,w1⟩:=h3 i v (by simpa using z);exact⟨q,o,key,k,u,c,by simpa using w1⟩
def O6:List V->Hp->VK->Prop:=fun xs H Q=>∃p vs ps,xs=[.ref p]/\Rd H p (.lst vs)/\DS H vs ps/\∀l,H l=none->Q (.ref l) (upd H l (.dK (kU [] ps)))
theorem KG (hc:X.calm=true):dL X (.type "dict") O6:=by
 intro pins s σ H xs us Q I r h;obtain⟨p,vs,ps,rfl,hq,pr,q⟩:=h;obtain⟨u,rfl,rx⟩:=kN r;cases rx;obtain⟨z,its,n,rv,e⟩:=(show ObjOk X.prog X.w H s.heap p (.lst vs) from hq.ok I.hok)
 obtain⟨rs,h1,h2,h3⟩:=zG I pr rv;have hl:=rv.length;have hlp:=h1.length;refine MD (knd:=bV X.prog X.w) (ps:=rs) (I.ok.hd hc) e (by rw[List.size_toArray];lia) (by rw[List.size_toArray];exact h2) (fun i v hv=>h3 i v (by simpa using hv)) fun h' tk hd kp=> ?_;have lm:(kU [] ps).length<=sizeLine:=Nat.le_trans (t9 ps []) (by simp;lia);have nm:(s.heap.objs.size==sysModules)=false:=by
  have:=I.big;simp only[beq_eq_false_iff_ne];exact fun z=>by rw[z]at this;exact Nat.lt_irrefl _ this
 exact⟨.ref _,_,I.laid (t':=tk) kp (Nat.le_refl _) (MK lm nm (KV.merge h1 .nil) hd),rfl,q _ (I.hok.fresh (Nat.le_refl _))⟩
end
end L2
namespace L2
open PySem PySem.W PyProof.Rows
section
variable {prog:Program}{w:World}{A:Around}{E:Value->Shared->Prop}{s:Shared}{d it:Addr}{o:Obj}{es:Array DictEntry}{ep i:Nat}{k0 v0:Value}
theorem MC {Q:Option Value->Shared->Prop}{e:DictEntry} (st:IsItemIter s.heap it d i es.size ep k0 v0) (ho:s.heap.get? d=some o) (hq:o.data= .dict es ep) (hx:es[i]? =some e)
  (k:∀h',IsItemIterOut h' it d (i+1) es.size ep e.key e.val s.heap.objs.size->h'.get? s.heap.objs.size=some { cls:= .type "tuple",data:= .seq #[e.key,e.val] } →
   (∀b u,b≠it->s.heap.get? b=some u->h'.get? b=some u)->Q (some (.ref s.heap.objs.size)) { s with heap:=h' }):wpAny (model prog w) A (pyNext (.ref it)) Q E s:=by
 obtain⟨hp,g,dr,tk,os⟩:=s;have T:Shared.TypeIs ⟨hp,g,dr,tk,os⟩ (.ref it) "dict_itemiterator" :=⟨_,st,rfl⟩
 unfold pyNext;refine wpAny_bind (wpAny_attempt (wpAny_callSpecial?_slot (name:=Str.ofString "__next__") T F.slot_dict_itemiterator_next (wpAny_call_entry F.slot_dict_itemiterator_next T F.entry_dict_itemiterator_next ?_ (F.args_dict_itemiterator_next_1 _))));refine wpAny_bind (wpAny_pure (wpAny_bind (wpAny_bind ?_)))
 first|refine wpAny_bind (wpAny_typeNameOfWhole_itemiter T (wpAny_pure (wpAny_bind (wpAny_fieldsOf st rfl ?_))))|refine wpAny_bind (wpAny_typeNameOf_itemiter T (wpAny_pure (wpAny_bind (wpAny_fieldsOf st rfl ?_))))
 simp only[show Builtin.Dict_items.ownsTuple "dict_itemiterator" =true by decide,if_true];show wpAny _ A.in1 (if (Value.ref d==Value.none)=true then _ else _) _ _ (⟨hp,g,dr,tk,os⟩:Shared);rw[if_neg (show ¬(Value.ref d==Value.none)=true from Bool.false_ne_true)];refine wpAny_bind (wpAny_pure (wpAny_bind (wpAny_dictEntries ho hq ?_)));rw[if_neg (by simp)];refine wpAny_bind (wpAny_pure (wpAny_bind (wpAny_dictEpoch ho hq ?_)));rw[if_neg (by simp)];refine wpAny_pure ?_;simp only[show ¬((i:Int)<0) from by lia,if_false,Int.toNat_natCast,hx];refine wpAny_bind ?_
 first|refine wpAny_bind (wpAny_typeNameOfWhole_itemiter T (wpAny_pure (wpAny_bind (wpAny_isOneOf_itemiter T ?_))))|refine wpAny_bind (wpAny_typeNameOf_itemiter T (wpAny_pure (wpAny_bind (wpAny_isOneOf_itemiter T ?_))))
 show wpAny _ A.in1 (setField (.ref it) 3 (rawInt ((i:Int)+1)) >>= _) _ _ (⟨hp,g,dr,tk,os⟩:Shared);refine wpAny_bind (wpAny_setField_rec st (by simp) fun h1 e1 s1=> ?_)
 replace s1:Heap.SameBut it hp h1:=s1
 replace e1:IsItemIter h1 it d (i+1) es.size ep k0 v0:=by
  unfold IsItemIter;rw[show ((i+1:Nat):Int)=(i:Int)+1 by lia];simpa [rawInt] using e1
 have T1:Shared.TypeIs ⟨h1,g,dr,tk,os⟩ (.ref it) "dict_itemiterator" :=⟨_,e1,rfl⟩
 refine wpAny_bind (wpAny_holding (wpAny_bind (wpAny_isOneOf_itemiter T1 (wpAny_bind (wpAny_isOneOf_itemiter T1 ?_)))));show wpAny _ A.in1 (Builtin.Dict_items.pairFromOwner (.ref it) 6 e.key e.val) _ _ (⟨h1,g,dr,tk,os⟩:Shared);unfold Builtin.Dict_items.pairFromOwner;refine wpAny_bind (wpAny_newTuple ?_);have e2:IsItemIter (h1.push { cls:= .type "tuple",data:= .seq #[e.key,e.val] }) it d (i+1) es.size ep k0 v0:=Heap.get?_push_of_some _ e1;generalize q2:h1.push { cls:= .type "tuple",data:= .seq #[e.key,e.val] }=h2 at e2;have z1:h1.objs.size=hp.objs.size:=s1.1;have il:it<hp.objs.size:=Heap.lt_size st;have t2:h2.get? hp.objs.size=some { cls:= .type "tuple",data:= .seq #[e.key,e.val] }:=by rw[←q2,←z1];exact Heap.get?_push_size _ rfl
 have k2:∀b u,b≠it->hp.get? b=some u->h2.get? b=some u:=fun b u hb z=>by rw[←q2];exact Heap.get?_push_of_some _ (s1.extBut b u hb z)
 show wpAny _ A.in1 (Builtin.Dict_items.ownedTupleIsFree (.ref it) >>= _) _ _ (⟨h2,g,dr,tk,os⟩:Shared);rw[z1];clear q2 e1 s1 T1 z1 h1;refine wpAny_bind ?_;unfold Builtin.Dict_items.ownedTupleIsFree;refine wpAny_bind (wpAny_field e2 rfl (x:= .none) rfl (wpAny_pure ?_));simp only[if_true];refine wpAny_bind (wpAny_field e2 rfl (x:=k0) rfl (wpAny_bind (wpAny_field e2 rfl (x:=v0) rfl ?_)));refine wpAny_bind (wpAny_setField_rec e2 (by simp) fun h3 e3 s3=> ?_)
 replace s3:Heap.SameBut it h2 h3:=s3
 replace e3:IsItemIter h3 it d (i+1) es.size ep e.key v0:=e3
 refine wpAny_bind (wpAny_setField_rec e3 (by simp) fun h4 e4 s4=> ?_)
 replace s4:Heap.SameBut it h3 h4:=s4
 replace e4:IsItemIter h4 it d (i+1) es.size ep e.key e.val:=e4
 refine wpAny_bind (wpAny_setField_rec e4 (by simp) fun h5 e5 s5=> ?_)
 replace s5:Heap.SameBut it h4 h5:=s5
 replace e5:IsItemIterOut h5 it d (i+1) es.size ep e.key e.val hp.objs.size:=e5
 refine wpAny_bind (wpAny_setField_rec e5 (by simp) fun h6 e6 s6=> ?_)
 replace s6:Heap.SameBut it h5 h6:=s6
 replace e6:IsItemIterOut h6 it d (i+1) es.size ep e.key e.val hp.objs.size:=e6
 have kk:∀b u,b≠it->h2.get? b=some u->h6.get? b=some u:=fun b u hb z=>s6.extBut b u hb (s5.extBut b u hb (s4.extBut b u hb (s3.extBut b u hb z)));exact wpAny_bind (wpAny_letGo (wpAny_pure (wpAny_pure ⟨_,rfl,wpAny_pure (k h6 e6 (kk _ _ (Nat.ne_of_gt il) t2) fun b u hb z=>kk b u hb (k2 b u hb z))⟩)))
theorem RX {Q:Option Value->Shared->Prop}(hh:A.handled=none)(st:IsItemIter s.heap it d i es.size ep k0 v0)(ho:s.heap.get? d=some o)(hq:o.data= .dict es ep)(hx:es.size<=i)
  (k:∀h',Heap.ExtBut it s.heap h'->Q none { s with heap:=h' }):wpAny (model prog w) A (pyNext (.ref it)) Q E s:=by
 have T:s.TypeIs (.ref it) "dict_itemiterator" :=⟨_,st,rfl⟩
 unfold pyNext;refine wpAny_bind (wpAny_attempt (wpAny_callSpecial?_slot (name:=Str.ofString "__next__") T F.slot_dict_itemiterator_next (wpAny_call_entry F.slot_dict_itemiterator_next T F.entry_dict_itemiterator_next ?_ (F.args_dict_itemiterator_next_1 _))));refine wpAny_bind (wpAny_pure (wpAny_bind (wpAny_bind ?_)))
 first|refine wpAny_bind (wpAny_typeNameOfWhole_itemiter T (wpAny_pure (wpAny_bind (wpAny_fieldsOf st rfl ?_))))|refine wpAny_bind (wpAny_typeNameOf_itemiter T (wpAny_pure (wpAny_bind (wpAny_fieldsOf st rfl ?_))))
 simp only[show Builtin.Dict_items.ownsTuple "dict_itemiterator" =true by decide,if_true];show wpAny _ A.in1 (if (Value.ref d==Value.none)=true then _ else _) _ _ s;rw[if_neg (show ¬(Value.ref d==Value.none)=true from Bool.false_ne_true)];refine wpAny_bind (wpAny_pure (wpAny_bind (wpAny_dictEntries ho hq ?_)));rw[if_neg (by simp)];refine wpAny_bind (wpAny_pure (wpAny_bind (wpAny_dictEpoch ho hq ?_)));rw[if_neg (by simp)];refine wpAny_pure ?_;simp only[show ¬((i:Int)<0) from by lia,if_false,Int.toNat_natCast,Array.getElem?_eq_none hx];refine wpAny_bind ?_
 first|refine wpAny_bind (wpAny_typeNameOfWhole_itemiter T (wpAny_pure ?_))|refine wpAny_bind (wpAny_typeNameOf_itemiter T (wpAny_pure ?_))
 show wpAny _ A.in1 (setField (.ref it) 2 .none >>= _) _ _ s;refine wpAny_bind (wpAny_setField st rfl (by simp) ?_);show wpAny _ A.in1 (newExc (.type "StopIteration") [] >>= _) _ _ _;refine wpAny_bind ?_;simp only[newExc,newTuple];refine wpAny_bind (wpAny_newObj_type (wpAny_bind (m:=firstArgMember _ _) (wpAny_of_eq (a:=Value.none) (by first|rfl|(simp only[firstArgMember];rfl)) (wpAny_newObj_type ?_ (by size_fits)))) (by size_fits));simp only[raiseNew];refine wpAny_bind (wpAny_handled ?_);rw[show A.in1.handled=none from hh];refine wpAny_bind (wpAny_pure (wpAny_throw ?_));refine wpAny_bind (wpAny_isInstance (b:=true) (T:= "StopIteration") ⟨_,Heap.get?_push_size _ rfl,rfl⟩ isSubtype_stop ?_);exact wpAny_pure (k _ (((Heap.SameBut.update ..).extBut.push _).push _))
end
end L2
namespace L2
open PySem PySem.W PyProof.Rows
section
variable {prog:Program}{w:World}{A:Around}{E:Value->Shared->Prop}{s:Shared}{d it:Addr}{o:Obj}{es:Array DictEntry}{ep i:Nat}
theorem KC {Q:Value->Shared->Prop}(hd:(d==sysModules)=false)(T:s.TypeIs (.ref d) "dict")
  (k:Q (.ref s.heap.objs.size) { s with heap:=s.heap.push { cls:= .type "dict_items",data:= .fields #[.ref d] } }):wpAny (model prog w) A (call (.builtin "dict.items") [.ref d]) Q E s:=by
 refine wpAny_call_entry F.slot_dict_items T F.entry_dict_items ?_ (F.args_dict_items_1 _);unfold Builtin.«dict.items» Builtin.Dict.noArgs;refine wpAny_bind (wpAny_bind (wpAny_notOrdered_dict T (wpAny_pure ?_)));show wpAny _ A.in1 (Builtin.Dict.showsAll d >>= _) _ _ s;unfold Builtin.Dict.showsAll;rw[if_neg (fun z=>by rw[hd]at z;cases z)];exact wpAny_bind (wpAny_pure (wpAny_bind (wpAny_newObj_type (wpAny_pure ⟨_,rfl,k⟩))))
theorem N2 {v:Addr}{Q:Value->Shared->Prop} (hv:s.heap.IsItemsView v d) (ho:s.heap.get? d=some o) (hq:o.data= .dict es ep)
  (k:Q (.ref s.heap.objs.size) { s with heap:=s.heap.push { cls:= .type "dict_itemiterator",data:= .fields #[.none,.bool false,.ref d,.int 0 0,.int es.size 0,.int ep 0,.none,.none] } }):wpAny (model prog w) A (pyIter (.ref v)) Q E s:=by
 obtain⟨ov,hov,hcv,hdv⟩:=id hv;refine wpAny_pyIter_slot hv.typeIs F.slot_dict_items_iter (wpAny_call_entry F.slot_dict_items_iter hv.typeIs F.entry_dict_items_iter ?_ (F.args_dict_items_iter_1 _));unfold Builtin.«dict_items.__iter__» Builtin.Dict_items.dictOf Builtin.Dict_items.newIterator;refine wpAny_bind (wpAny_pure (wpAny_bind (wpAny_bind (wpAny_field hov hdv (x:= .ref d) rfl (wpAny_pure (wpAny_bind (wpAny_bind (wpAny_dictEntries ho hq (wpAny_bind (wpAny_dictEpoch ho hq ?_))))))))));simp only[show Builtin.Dict_items.ownsTuple "dict_itemiterator" =true by decide,if_true];refine wpAny_newObj_type (wpAny_pure ⟨_,rfl,"dict_itemiterator",_,⟨_,Heap.get?_push_size _ rfl,rfl⟩,F.slot_dict_itemiterator_next.lookup,?_⟩) (by simp only[sizeOk,Builtin.Dict_items.ownedTupleFields,List.size_toArray,List.length_append,List.length_cons,List.length_nil,sizeLine_eq];lia)
 simpa [rawInt,Builtin.Dict_items.ownedTupleFields] using k
end
def Itj (a:Addr)(o:Obj)(kvs:List (List Key×V)):It :=
 ⟨fun i H=>H a=some (.frz o (.dT kvs))/\i<kvs.length,fun i H x H'=>∃k v p q,kvs[i]? =some (k,v)/\x= .ref q/\H p=some (.tup (k.map kV))/\H q=none/\H'=upd H q (.tup [.ref p,v]),fun i H=>H a=some (.frz o (.dT kvs))/\kvs.length<=i⟩
theorem KT.get2 {H:Hp}:∀{kvs:List (List Key×V)}{xs:List (List Key×Addr×Value)}{i:Nat},KT H kvs xs->i<kvs.length->∃k v b u,kvs[i]? =some (k,v)/\xs[i]? =some (k,b,u)/\H b=some (.tup (k.map kV))/\RelV v u
 | _,_,0,.cons h _,_=>⟨_,_,_,_,rfl,by rw[h.1];rfl,h.2.1,h.2.2⟩
 | _,_,i+1,.cons _ t,hi=>by
  obtain⟨k,v,b,u,e1,e2,e3⟩:=KT.get2 (i:=i) t (by simpa using hi);exact⟨k,v,b,u,by simpa using e1,by simpa using e2,e3⟩
 | _,_,_,.nil,hi=>by simp at hi
theorem HC {P:Program}{w:World}{K:PySem.W.Frag}{elts:List Expr}{x1:Nat}{tpos:Pos} (a it:Addr) {o:Obj}{es:Array DictEntry}{ep:Nat} (kvs:List (List Key×V)) (hd:o.data= .dict es ep) (hz:es.size=kvs.length) :
  u9 P w K (.Tuple elts x1 tpos) (Itj a o kvs) [it] it (fun i h=>∃ok ov,IsItemIter h it a i es.size ep ok ov) where
 mem:=by simp
 obj:=fun i h st b hb=>by
  have e:b=it:=by simpa using hb
  subst e;obtain⟨ok,ov,e⟩:=st;exact⟨_,e,fun v z=>by cases z⟩
 keep:=fun i h h' st k=>let ⟨ok,ov,e⟩:=st;⟨ok,ov,k it (by simp) _ e⟩
 item:=by
  intro X hP hw hK hc i pins s σ H E I hf st hg;subst hP hw hK;obtain⟨ha,hi⟩:=hg;obtain⟨ok,ov,st⟩:=st;obtain⟨ho,z,y,xs,r,o',es',ep',h1,h2,h3,h4,h5⟩:=(show ObjOk X.prog X.w H s.heap a (.frz o (.dT kvs)) from I.hok a _ ha)
  rw[ho]at h1;cases h1;rw[hd]at h3;cases h3;obtain⟨k,v,b,u,e1,e2,e3,e5⟩:=KT.get2 r hi;have e4:=entry_at h4 i;rw[e2]at e4;obtain⟨f0,f1,f2,f3,f4,f5⟩:=hf it (by simp);refine MC st ho hd e4 fun h' st' ht kp=> ?_;refine⟨_,rfl,?_⟩;refine wpAny_letOwnedTupleGo_items (s:={ s with heap:=h' }) st' fun h'' st'' sb=> ?_;have hq:H s.heap.objs.size=none:=I.hok.fresh (Nat.le_refl _);have hne:s.heap.objs.size≠it:=fun z=>by
   have:=Heap.lt_size (show s.heap.get? it=some _ from st);rw[z]at this;exact Nat.lt_irrefl _ this
  have tup:Vals [.ref b,v] [.ref b,u]:= .cons rfl (.cons e5 .nil);have I1:Inv X pins σ (upd H s.heap.objs.size (.tup [.ref b,v])) { s with heap:=s.heap.push { cls:= .type "tuple",data:= .seq #[.ref b,u] } } :=
   I.laid (t':=s.toks) (fun b u e=>Heap.get?_push_of_some _ e) (Nat.le_refl _) ⟨(show 2<=sizeLine by rw[sizeLine_eq];decide),[.ref b,u],tup,⟨_,Heap.get?_push_size _ rfl,rfl,0,rfl⟩⟩
  have n0:upd H s.heap.objs.size (.tup [.ref b,v]) it=none:=by rw[aU (Ne.symm hne)];exact f0
  have I2:Inv X pins σ (upd H s.heap.objs.size (.tup [.ref b,v])) { s with heap:=h'' }:=Inv.turned (s:={ s with heap:=s.heap.push { cls:= .type "tuple",data:= .seq #[.ref b,u] } }) (h':=h'') (t':=s.toks) (it:=it) I1 (fun c o hb e=>by
   rcases Heap.get?_push_cases e with⟨rfl,rfl⟩|e
   ·exact(sb.2 _ hb).trans ht
   ·exact(sb.2 c hb).trans (kp c o hb e)) n0 f1 f3 f4 f5
  exact⟨.ref s.heap.objs.size,_,I2,rfl,⟨k,v,b,_,e1,rfl,e3,hq,rfl⟩,⟨_,_,st''⟩,fun b hb=>by
   have e:b=it:=by simpa using hb
   rw[e];exact n0⟩
 done:=by
  intro X hP hw hK hc i pins s σ H E I hf st hg;subst hP hw hK;obtain⟨ha,hi⟩:=hg;obtain⟨ok,ov,st⟩:=st;obtain⟨ho,hok⟩:=(show ObjOk X.prog X.w H s.heap a (.frz o (.dT kvs)) from I.hok a _ ha)
  obtain⟨f0,f1,f2,f3,f4,f5⟩:=hf it (by simp);exact RX (I.ok.hd hc) st ho hd (by lia) fun h' eb=>⟨rfl,I.turned (t':=s.toks) (fun b o hb e=>eb b o hb e) f0 f1 f3 f4 f5⟩
 self:=fun A i s Q E st h=>by
  obtain⟨ok,ov,st⟩:=st;have T:s.TypeIs (.ref it) "dict_itemiterator" :=⟨_,st,rfl⟩
  refine wpAny_pyIter_slot T F.slot_dict_itemiterator_iter (wpAny_call_entry F.slot_dict_itemiterator_iter T uF ?_ (F.args_dict_itemiterator_iter_1 _));show wpAny _ _ (ret (.ref it)) _ _ s;exact wpAny_pure ⟨_,rfl,"dict_itemiterator",_,T,F.slot_dict_itemiterator_next.lookup,h⟩
def IV (td:TE):TI:=fun σ H R=>td σ H fun x H1=>∃a kvs,x= .ref a/\H1 a=some (.dT kvs)/\∀o,R (Itj a o kvs) (upd H1 a (.frz o (.dT kvs)))
section
variable {X:Cx}
theorem NX {l:Expr}{td:TE}{elts:List Expr}{x1:Nat}{tpos apos cpos:Pos} (hl:PE X l td) (hbase:attributeBase l "items" X.env (eval l X.env)=eval l X.env:=by rfl) (hline:(apos.endLine==cpos.line)=true:=by rfl) :
  PI X (.Tuple elts x1 tpos) (.Call (.Attribute l "items" apos) [] [] cpos) (IV td):=by
 intro pins s σ H R I h;refine wpAny_Call_method0_late hbase hline (thn (hl pins s σ H _ I h) fun v s1 ⟨x,H1,I1,r1,q1⟩=> ?_);obtain⟨a,kvs,rfl,hq,q⟩:=q1;cases r1;obtain⟨t1,t2,_⟩:=EK I1 (.inr ⟨kvs,.inl hq⟩);refine⟨"dict","dict.items",F.plainAttrs_dict,F.slot_dict_items,F.type_dict_items,t1,t2,Calls.callWith_builtin rfl (PySem.evalArgs_none ?_)⟩;obtain⟨z,y,xs,r,o,es,ep,h1,h2,h3,h4,h5⟩:=(show ObjOk X.prog X.w H1 s1.heap a (.dT kvs) from I1.hok a _ hq)
 have hz:es.size=kvs.length:=by rw[size_of_entries h4,KT.len r]
 refine KC y t1 ?_;have hne:∀b ys,H1 b=some (.tup ys)->upd H1 a (.frz o (.dT kvs)) b=some (.tup ys):=fun b ys e=>by
  have hb:b≠a:=fun z=>by rw[z,hq]at e;cases e
  rw[aU hb];exact e
 have new:ObjOk X.prog X.w (upd H1 a (.frz o (.dT kvs))) s1.heap a (.frz o (.dT kvs)):=⟨h1,z,y,xs,KT.keeps r hne,o,es,ep,h1,h2,h3,h4,h5⟩
 have I2:Inv X pins σ (upd H1 a (.frz o (.dT kvs))) s1:=I1.freeze trivial hq h1 new;have I3:Inv X pins σ (upd H1 a (.frz o (.dT kvs))) { s1 with heap:=s1.heap.push { cls:= .type "dict_items",data:= .fields #[.ref a] } }:=I2.kept (t':=s1.toks) fun b o e=>Heap.get?_push_of_some _ e;refine N2 ⟨_,Heap.get?_push_size _ rfl,rfl,rfl⟩ (Heap.get?_push_of_some _ h1) h3 ?_;refine⟨_,[_],_,_,upd H1 a (.frz o (.dT kvs)),rfl,I3.kept (t':=s1.toks) fun b o e=>Heap.get?_push_of_some _ e,HC a _ kvs h3 hz,⟨.none,.none,Heap.get?_push_size _ rfl⟩,fun b hb=> ?_,q o⟩;obtain rfl:=List.mem_singleton.mp hb;exact I3.fpOk (Nat.le_refl _) (I3.hok.fresh (Nat.le_refl _))
end
end L2
namespace L2
open PySem PySem.W PyProof.Rows
section
variable (r:Nat->Int)
def rk (p:Array Nat)(i:Nat):Int:=r (p.getD i 0)
def Asc (p:Array Nat)(m:Nat):Prop:=∀i j,i<=j->j<m->rk r p i<=rk r p j
def cR (i j:Nat):Bool:=decide (r i<r j)
variable {r}{p:Array Nat}
theorem oM {p q:Array Nat}{i j:Nat} (h:p[i]? =q[j]?):rk r p i=rk r q j:=by
 unfold rk;rw[Array.getD_eq_getD_getElem?,Array.getD_eq_getD_getElem?,h]
theorem BW {src d:Nat}(hs:src<p.size)(hd:d<=src)(k:Nat):rk r (bubble p src d) k=if k=src - d then rk r p src else if src - d<k/\k<=src then rk r p (k - 1) else rk r p k:=by
 have e:=getElem?_bubble hs d hd k
 split
 ·rename_i h;rw[if_pos h]at e;exact oM e
 ·rename_i h;rw[if_neg h]at e
  split
  ·rename_i h2;rw[if_pos h2]at e;exact oM e
  ·rename_i h2;rw[if_neg h2]at e;exact oM e
theorem lX {α β:Type}(c:Nat->Nat->Bool)(f:α->KasT β):∀t:KasT α,bF c (t.bind f)=bF c (f (bF c t))
 | .ret _=>rfl
 | .ask i j k=>lX c f (k (c i j))
theorem xL {k:Nat}(hk:Asc r p k):∀(f a b:Nat),a<=b->b<=k->b - a<=f->(∀i,i<a->rk r p i<=rk r p k)->(∀i,b<=i->i<k->rk r p k<rk r p i) →
  bF (cR r) (kas_place p k f a b)<=k/\(∀i,i<bF (cR r) (kas_place p k f a b)->rk r p i<=rk r p k)/\∀i,bF (cR r) (kas_place p k f a b)<=i->i<k->rk r p k<rk r p i
 | 0,a,b,h1,h2,h3,h4,h5=>by
  have e:bF (cR r) (kas_place p k 0 a b)=a:=rfl;rw[e];exact⟨by lia,h4,fun i hi=>h5 i (by lia)⟩
 | f+1,a,b,h1,h2,h3,h4,h5=>by
  unfold kas_place
  by_cases hab:a≥b
  ·rw[if_pos hab];show a<=k/\(∀i,i<a->_)/\∀i,a<=i->i<k->_;exact⟨by lia,h4,fun i hi=>h5 i (by lia)⟩
  ·rw[if_neg hab];have ea:bF (cR r) (KasT.ask (p.getD k 0) (p.getD ((a+b)/2) 0) fun c=>if c=true then kas_place p k f a ((a+b)/2) else kas_place p k f ((a+b)/2+1) b) =
    bF (cR r) (if cR r (p.getD k 0) (p.getD ((a+b)/2) 0)=true then kas_place p k f a ((a+b)/2) else kas_place p k f ((a+b)/2+1) b):=rfl
   rw[ea]
   by_cases hc:cR r (p.getD k 0) (p.getD ((a+b)/2) 0)=true
   ·rw[if_pos hc];have hc':rk r p k<rk r p ((a+b)/2):=of_decide_eq_true hc;refine xL hk f a ((a+b)/2) (by lia) (by lia) (by lia) h4 fun i hi hik=> ?_;have:=hk ((a+b)/2) i hi hik
    lia
   ·rw[if_neg hc];have hc':¬rk r p k<rk r p ((a+b)/2):=fun z=>hc (decide_eq_true z);refine xL hk f ((a+b)/2+1) b (by lia) h2 (by lia) (fun i hi=> ?_) h5;have:=hk i ((a+b)/2) (by lia) (by lia)
    lia
theorem LK {k l:Nat}(hs:k<p.size)(hk:Asc r p k)(hl:l<=k)(h1:∀i,i<l->rk r p i<=rk r p k)(h2:∀i,l<=i->i<k->rk r p k<rk r p i):Asc r (bubble p k (k - l)) (k+1):=by
 intro i j hij hj;rw[BW hs (by lia),BW hs (by lia),show k - (k - l)=l by lia]
 by_cases e1:i=l
 ·rw[if_pos e1]
  by_cases e2:j=l
  ·rw[if_pos e2];exact Int.le_refl _
  ·rw[if_neg e2];rw[if_pos (by lia)];have:=h2 (j - 1) (by lia) (by lia)
   lia
 ·rw[if_neg e1]
  by_cases e2:j=l
  ·rw[if_pos e2,if_neg (by lia)];exact h1 i (by lia)
  ·rw[if_neg e2]
   by_cases e3:l<i
   ·rw[if_pos (by lia),if_pos (by lia)];exact hk (i - 1) (j - 1) (by lia) (by lia)
   ·rw[if_neg (by lia)]
    by_cases e4:l<j
    ·rw[if_pos (by lia)];exact hk i (j - 1) (by lia) (by lia)
    ·rw[if_neg (by lia)];exact hk i j hij (by lia)
theorem OI {n:Nat}:∀(f:Nat) {p:Array Nat} (k:Nat),p.size=n->k+f=n->Asc r p k->Asc r (bF (cR r) (kas_bin f p k)) n
 | 0,p,k,hs,hk,h=>by
  have e:k=n:=by lia
  rw[←e];exact h
 | f+1,p,k,hs,hk,h=>by
  unfold kas_bin;rw[lX];obtain⟨h1,h2,h3⟩:=xL h k 0 k (Nat.zero_le _) (Nat.le_refl _) (by lia) (fun i hi=>by lia) (fun i h1 h2=>by lia);exact OI f (k+1) ((bubble_size _ _ _).trans hs) (by lia) (LK (by lia) h h1 h2 h3)
theorem F4:∀(f k:Nat),1<=k->Asc r p k->k<=bF (cR r) (kas_asc p f k)/\bF (cR r) (kas_asc p f k)<=k+f/\Asc r p (bF (cR r) (kas_asc p f k))/\(bF (cR r) (kas_asc p f k)<k+f->rk r p (bF (cR r) (kas_asc p f k))<rk r p (bF (cR r) (kas_asc p f k) - 1))
 | 0,k,h0,h=>by
  show k<=k/\k<=k+0/\Asc r p k/\(k<k+0->_);exact⟨Nat.le_refl _,Nat.le_refl _,h,fun z=>by lia⟩
 | f+1,k,h0,h=>by
  unfold kas_asc;have ea:bF (cR r) (KasT.ask (p.getD k 0) (p.getD (k - 1) 0) fun c=>if c=true then .ret k else kas_asc p f (k+1))=bF (cR r) (if cR r (p.getD k 0) (p.getD (k - 1) 0)=true then .ret k else kas_asc p f (k+1)):=rfl;rw[ea]
  by_cases hc:cR r (p.getD k 0) (p.getD (k - 1) 0)=true
  ·rw[if_pos hc];show k<=k/\k<=k+(f+1)/\Asc r p k/\(k<k+(f+1)->rk r p k<rk r p (k - 1));exact⟨Nat.le_refl _,by lia,h,fun _=>of_decide_eq_true hc⟩
  ·rw[if_neg hc];have hc':¬rk r p k<rk r p (k - 1):=fun z=>hc (decide_eq_true z);have h':Asc r p (k+1):=fun i j hij hj=>by
    by_cases e:j=k
    ·subst e
     by_cases e2:i=j
     ·subst e2;exact Int.le_refl _
     ·have:=h i (j - 1) (by lia) (by lia)
      lia
    ·exact h i j hij (by lia)
   obtain⟨a1,a2,a3,a4⟩:=F4 f (k+1) (by lia) h';exact⟨by lia,by lia,a3,fun z=>a4 (by lia)⟩
end
end L2
namespace L2
open PySem PySem.W PyProof.Rows
section
variable {r:Nat->Int}{p:Array Nat}
def Dif (r:Nat->Int)(p:Array Nat):Prop:=∀i j,i<p.size->j<p.size->rk r p i=rk r p j->i=j
def Dsc (r:Nat->Int)(p:Array Nat)(m:Nat):Prop:=∀i j,i<j->j<m->rk r p j<rk r p i
theorem NL {m:Nat}(hm:m<=p.size)(k:Nat):rk r (kas_rev p 0 m) k=if k<m then rk r p (m - 1 - k) else rk r p k:=by
 have e:=getElem?_mirror_all (i:=0) hm k
 split
 ·rename_i h;rw[if_pos ⟨Nat.zero_le _,h⟩,Nat.zero_add]at e;exact oM e
 ·rename_i h;rw[if_neg (by lia)]at e;exact oM e
theorem JE (hd:Dif r p):∀(f k:Nat),1<=k->k+f<=p.size->Dsc r p k->∃m,bF (cR r) (kas_desc f p k 0)=(p,m,0)/\k<=m/\m<=k+f/\Dsc r p m
 | 0,k,h0,h1,h=>⟨k,rfl,Nat.le_refl _,Nat.le_refl _,h⟩
 | f+1,k,h0,h1,h=>by
  unfold kas_desc
  by_cases hc:cR r (p.getD k 0) (p.getD (k - 1) 0)=true
  ·have hc':rk r p k<rk r p (k - 1):=of_decide_eq_true hc;have h':Dsc r p (k+1):=fun i j hij hj=>by
    by_cases e:j=k
    ·subst e
     by_cases e2:i=j - 1
     ·subst e2;exact hc'
     ·have:=h i (j - 1) (by lia) (by lia)
      lia
    ·exact h i j hij (by lia)
   obtain⟨m,e,a1,a2,a3⟩:=JE hd f (k+1) (by lia) (by lia) h';refine⟨m,?_,by lia,by lia,a3⟩;rw[←e];show bF (cR r) (if cR r (p.getD k 0) (p.getD (k - 1) 0)=true then _ else _)=_;rw[if_pos hc];rfl
  ·have hc':¬rk r p k<rk r p (k - 1):=fun z=>hc (decide_eq_true z);have hn:rk r p (k - 1)<rk r p k:=by
    have h2:rk r p (k - 1)≠rk r p k:=fun z=>by
     have:=hd (k - 1) k (by lia) (by lia) z
     lia
    lia
   refine⟨k,?_,Nat.le_refl _,by lia,h⟩;show bF (cR r) (if cR r (p.getD k 0) (p.getD (k - 1) 0)=true then _ else _)=_;rw[if_neg hc];show bF (cR r) (if cR r (p.getD (k - 1) 0) (p.getD k 0)=true then _ else _)=_;rw[if_pos (show cR r (p.getD (k - 1) 0) (p.getD k 0)=true from decide_eq_true hn)];rfl
theorem QP {m n:Nat}(h1:1<=m)(hm:m<=n)(hs:p.size=n)(h:Dsc r p m):∃a q,bF (cR r) (kas_tail3 m n p)=(a,q)/\a<=n/\q.size=n/\Asc r q a:=by
 have hasc:Asc r (kas_rev p 0 m) m:=fun i j hij hj=>by
  rw[NL (by lia),NL (by lia),if_pos (by lia),if_pos hj]
  by_cases e:i=j
  ·subst e;exact Int.le_refl _
  ·exact Int.le_of_lt (h (m - 1 - j) (m - 1 - i) (by lia) (by lia))
 obtain⟨a1,a2,a3,_⟩:=F4 (n - m) m h1 hasc;refine⟨_,kas_rev p 0 m,by unfold kas_tail3;rw[lX];rfl,by lia,(mirror_size _ _ _ _).trans hs,a3⟩
theorem RY {n:Nat}(hn:1<=n)(hs:p.size=n)(hd:Dif r p):∃a q,bF (cR r) (kas_count n p)=(a,q)/\a<=n/\q.size=n/\Asc r q a:=by
 have h0:Asc r p 1:=fun i j hij hj=>by
  have:i=j:=by lia
  subst this;exact Int.le_refl _
 obtain⟨a1,a2,a3,a4⟩:=F4 (n - 1) 1 (Nat.le_refl _) h0;unfold kas_count;rw[lX];generalize bF (cR r) (kas_asc p (n - 1) 1)=k at a1 a2 a3 a4 ⊢
 by_cases e1:k=n
 ·rw[if_pos (by rw[e1];exact beq_self_eq_true _)];exact⟨k,p,rfl,by lia,hs,a3⟩
 ·rw[if_neg (by rw[beq_iff_eq];exact e1)]
  by_cases e2:k>1
  ·rw[if_pos e2];have hlt:rk r p 0<rk r p (k - 1):=by
    have h2:=a3 0 (k - 1) (Nat.zero_le _) (by lia);have h3:rk r p 0≠rk r p (k - 1):=fun z=>by
     have:=hd 0 (k - 1) (by lia) (by lia) z
     lia
    lia
   refine⟨k,p,?_,by lia,hs,a3⟩;show bF (cR r) (if cR r (p.getD 0 0) (p.getD (k - 1) 0)=true then _ else _)=_;rw[if_pos (show cR r (p.getD 0 0) (p.getD (k - 1) 0)=true from decide_eq_true hlt)];rfl
  ·rw[if_neg e2];have ek:k=1:=by lia
   subst ek;have h10:rk r p 1<rk r p 0:=a4 (by lia);unfold kas_descPart;rw[lX];obtain⟨m,e,b1,b2,b3⟩:=JE hd (n - (1+1)) (1+1) (by lia) (by lia) (fun i j hij hj=>by
    have:i=0/\j=1:=by lia
    rw[this.1,this.2];exact h10)
   rw[e];have hmn:m<=n:=by
    have:2<=n:=by lia
    lia
   exact QP (p:=p) (m:=m) (n:=n) (by lia) hmn hs b3
theorem RP {n:Nat}(hn:1<=n)(hr:∀i j,i<n->j<n->r i=r j->i=j):Asc r (bF (cR r) (kas_sort n)) n:=by
 unfold kas_sort;rw[lX];have hs:(List.range n).toArray.size=n:=by simp
 have eg:∀i,i<n->(List.range n).toArray.getD i 0=i:=fun i hi=>by simp[Array.getD,hi]
 obtain⟨a,q,e,h1,h2,h3⟩:=RY (r:=r) hn hs (fun i j hi hj z=>by
  unfold rk at z;rw[hs]at hi hj;rw[eg i hi,eg j hj]at z;exact hr i j hi hj z)
 rw[e]
 by_cases hlt:a<n
 ·show Asc r (bF (cR r) (if a<n then _ else _)) n;rw[if_pos hlt];refine OI _ _ h2 (by lia) fun i j hij hj=> ?_
  by_cases ha:a=0
  ·have:i=j:=by lia
   subst this;exact Int.le_refl _
  ·exact h3 i j hij (by lia)
 ·show Asc r (bF (cR r) (if a<n then _ else _)) n;rw[if_neg hlt];have:a=n:=by lia
  rw[←this];exact h3
end
end L2
namespace L2
open PySem PySem.W PyProof.Rows
theorem BL {α:Type}{n:Nat}{R:α->Prop}{c c':Nat->Nat->Bool} (h:∀i j,i<n->j<n->c i j=c' i j):∀{t:KasT α},KasIn n R t->bF c t=bF c' t
 | .ret _,_=>rfl
 | .ask i j k,q=>by
  show bF c (k (c i j))=bF c' (k (c' i j));rw[h i j q.1 q.2.1];exact BL h (q.2.2 _)
theorem uG {α:Type}{p q:α->Bool}:∀{l:List α},(∀y∈l,p y=true->q y=true)->(∃x∈l,q x=true/\p x=false)->l.countP p<l.countP q
 | [],_,⟨x,hx,_⟩=>nomatch hx
 | a::l,h,⟨x,hx,h1,h2⟩=>by
  have hl:l.countP p<=l.countP q:=List.countP_mono_left fun y hy=>h y (List.mem_cons_of_mem _ hy);rcases List.mem_cons.mp hx with e|hx
  ·subst e;rw[List.countP_cons_of_pos h1,List.countP_cons_of_neg (by rw[h2];exact Bool.false_ne_true)]
   lia
  ·have ih:=uG (fun y hy=>h y (List.mem_cons_of_mem _ hy)) ⟨x,hx,h1,h2⟩;cases hp:p a with
   | true =>
    rw[List.countP_cons_of_pos hp,List.countP_cons_of_pos (h a (.head _) hp)]
    lia
   | false =>
    rw[List.countP_cons_of_neg (by rw[hp];exact Bool.false_ne_true)];cases hq:q a with
    | true=>rw[List.countP_cons_of_pos hq];lia
    | false=>rw[List.countP_cons_of_neg (by rw[hq];exact Bool.false_ne_true)];exact ih
structure Ord {α:Type}(lt:α->α->Bool)(l:List α):Prop where
 irr:∀x∈l,lt x x=false
 tr:∀x∈l,∀y∈l,∀z∈l,lt x y=true->lt y z=true->lt x z=true
 tot:∀x∈l,∀y∈l,x≠y->lt x y=true∨lt y x=true
section
variable {α:Type}{lt:α->α->Bool}{l:List α}{d:α}
theorem eY {i:Nat}(h:i<l.length):l.getD i d∈l:=by
 rw[List.getD_eq_getElem?_getD,List.getElem?_eq_getElem h];exact List.getElem_mem h
theorem tE (nd:l.Nodup){i j:Nat}(hi:i<l.length)(hj:j<l.length)(e:l.getD i d=l.getD j d):i=j:=by
 rw[List.getD_eq_getElem?_getD,List.getElem?_eq_getElem hi,List.getD_eq_getElem?_getD,List.getElem?_eq_getElem hj]at e;have hp:=List.pairwise_iff_getElem.mp nd;rcases Nat.lt_trichotomy i j with h|h|h
 ·exact absurd e (hp i j hi hj h)
 ·exact h
 ·exact absurd e.symm (hp j i hj hi h)
theorem N9 (o:Ord lt l)(nd:l.Nodup)(h2:2<=l.length):∀i j,i<j->j<l.length->lt (l.getD ((bF (fun i j=>lt (l.getD i d) (l.getD j d)) (kas_sort l.length)).getD i 0) d) (l.getD ((bF (fun i j=>lt (l.getD i d) (l.getD j d)) (kas_sort l.length)).getD j 0) d)=true:=by
 let r:Nat->Int:=fun i=>((l.countP fun y=>lt y (l.getD i d):Nat):Int)
 have hlt:∀i j,i<l.length->j<l.length->lt (l.getD i d) (l.getD j d)=true->r i<r j:=fun i j hi hj h=>by
  have:=uG (l:=l) (p:=fun y=>lt y (l.getD i d)) (q:=fun y=>lt y (l.getD j d)) (fun y hy h'=>o.tr y hy _ (eY hi) _ (eY hj) h' h) ⟨l.getD i d,eY hi,h,o.irr _ (eY hi)⟩;exact Int.ofNat_lt.mpr this
 have hrc:∀i j,i<l.length->j<l.length->(fun i j=>lt (l.getD i d) (l.getD j d)) i j=cR r i j:=fun i j hi hj=>by
  show lt (l.getD i d) (l.getD j d)=decide (r i<r j);cases e:lt (l.getD i d) (l.getD j d) with
  | true=>rw[decide_eq_true (hlt i j hi hj e)]
  | false =>
   rw[decide_eq_false];intro z
   by_cases e2:l.getD i d=l.getD j d
   ·rw[tE nd hi hj e2]at z;exact absurd z (Int.lt_irrefl _)
   ·rcases o.tot _ (eY hi) _ (eY hj) e2 with h|h
    ·rw[h]at e;cases e
    ·have:=hlt j i hj hi h
     lia
 have hinj:∀i j,i<l.length->j<l.length->r i=r j->i=j:=fun i j hi hj e=>by
  by_cases e2:l.getD i d=l.getD j d
  ·exact tE nd hi hj e2
  ·rcases o.tot _ (eY hi) _ (eY hj) e2 with h|h
   ·have:=hlt i j hi hj h;lia
   ·have:=hlt j i hj hi h;lia
 rw[BL hrc (JF (by lia))];have hs:=RP (n:=l.length) (by lia) hinj;have hp:=fZ (n:=l.length) (cR r) (by lia);generalize bF (cR r) (kas_sort l.length)=q at hs hp;intro i j hij hj;have hqs:q.size=l.length:=by have:=hp.size_eq;simpa using this
 have li:=hp.lt (by lia) i;have lj:=hp.lt (by lia) j;have hne:q.getD i 0≠q.getD j 0:=fun z=>by
  have hnd:q.toList.Nodup:=by
   have h1:=Array.perm_iff_toList_perm.mp hp;exact h1.nodup_iff.mpr (by simpa using List.nodup_range)
  have ei:q.getD i 0=q.toList.getD i 0:=by simp[Array.getD,List.getD_eq_getElem?_getD,show i<q.size by lia]
  have ej:q.getD j 0=q.toList.getD j 0:=by simp[Array.getD,List.getD_eq_getElem?_getD,show j<q.size by lia]
  rw[ei,ej]at z;have:=tE hnd (by rw[Array.length_toList];lia) (by rw[Array.length_toList];lia) z
  lia
 have hle:=hs i j (by lia) (by lia);have e3:l.getD (q.getD i 0) d≠l.getD (q.getD j 0) d:=fun z=>hne (tE nd li lj z);rcases o.tot _ (eY li) _ (eY lj) e3 with h|h
 ·exact h
 ·have:=hlt _ _ lj li h;unfold rk at hle
  lia
theorem oU (c:Nat->Nat->Bool):(bX d c l).Perm l:=by
 unfold bX
 split
 ·exact List.Perm.refl _
 ·have h:=Array.perm_iff_toList_perm.mp (fZ (n:=l.length) c (by lia));refine(h.map fun i=>l.getD i d).trans ?_;have e:((List.range l.length).toArray.toList.map fun i=>l.getD i d)=l:=by
   apply List.ext_getElem?
   intro i
   by_cases hi:i<l.length
   ·simp[hi,List.getD_eq_getElem?_getD]
   ·simp[hi]
  rw[e]
theorem LN (o:Ord lt l)(nd:l.Nodup):(bX d (fun i j=>lt (l.getD i d) (l.getD j d)) l).Pairwise fun x y=>lt x y=true:=by
 unfold bX
 split
 ·rename_i h
  match l,h with
  | [],_=>exact .nil
  | [x],_=>exact List.pairwise_singleton _ _
 ·rename_i h;have ha:=N9 (d:=d) o nd (by lia);have hp:=fZ (n:=l.length) (fun i j=>lt (l.getD i d) (l.getD j d)) (by lia);generalize bF (fun i j=>lt (l.getD i d) (l.getD j d)) (kas_sort l.length)=q at ha hp;have hqs:q.size=l.length:=by have:=hp.size_eq;simpa using this
  rw[List.pairwise_iff_getElem];intro i j hi hj hij;rw[List.length_map,Array.length_toList]at hi hj;have:=ha i j hij (by lia)
  simpa [Array.getD,hi,hj] using this
theorem JN:∀{l k:List α},(∀x∈l,lt x x=false)->(∀x∈l,∀y∈l,∀z∈l,lt x y=true->lt y z=true->lt x z=true)->l.Perm k->l.Pairwise (fun x y=>lt x y=true)->k.Pairwise (fun x y=>lt x y=true)->l=k
 | [],k,_,_,hp,_,_=>(List.nil_perm.mp hp).symm
 | a::l,[],_,_,hp,_,_=>nomatch (List.perm_nil.mp hp)
 | a::l,b::k,hi,ht,hp,h1,h2=>by
  have ha:a∈b::k:=hp.mem_iff.mp (.head _);have hb:b∈a::l:=hp.mem_iff.mpr (.head _);have e:a=b:=by
   rcases List.mem_cons.mp ha with e|ha'
   ·exact e
   ·rcases List.mem_cons.mp hb with e|hb'
    ·exact e.symm
    ·have q1:=(List.pairwise_cons.mp h2).1 a ha';have q2:=(List.pairwise_cons.mp h1).1 b hb';have:=ht a (.head _) b hb a (.head _) q2 q1;rw[hi a (.head _)]at this;cases this
  subst e;rw[JN (fun x hx=>hi x (List.mem_cons_of_mem _ hx)) (fun x hx y hy z hz=>ht x (List.mem_cons_of_mem _ hx) y (List.mem_cons_of_mem _ hy) z (List.mem_cons_of_mem _ hz)) (List.perm_cons a |>.mp hp) (List.pairwise_cons.mp h1).2 (List.pairwise_cons.mp h2).2]
end
end L2
namespace L2
open PySem PySem.W PyProof.Rows
def ltS (x y:Str):Bool:=decide (x.cps.toList<y.cps.toList)
theorem QZ {x y:Str}(h:x.cps.toList=y.cps.toList):x=y:=by
 cases x;cases y
 congr 1
 exact Array.toList_inj.mp h
theorem WR (x:Str):ltS x x=false:=decide_eq_false (List.lt_irrefl _)
theorem aAv {x y z:Str}(h1:ltS x y=true)(h2:ltS y z=true):ltS x z=true:=decide_eq_true (List.lt_trans (of_decide_eq_true h1) (of_decide_eq_true h2))
theorem WD {x y:Str}(h:x≠y):ltS x y=true∨ltS y x=true:=by
 by_cases h1:x.cps.toList<y.cps.toList
 ·exact .inl (decide_eq_true h1)
 ·by_cases h2:y.cps.toList<x.cps.toList
  ·exact .inr (decide_eq_true h2)
  ·exact absurd (QZ (List.le_antisymm (List.not_lt.mp h2) (List.not_lt.mp h1))) h
theorem HI {α β:Type}(f:α->β)(d:α)(e:β)(c:Nat->Nat->Bool)(l:List α):bX e c (l.map f)=(bX d c l).map f:=by
 unfold bX;rw[List.length_map]
 split
 ·rfl
 ·rename_i h;rw[List.map_map]
  apply List.map_congr_left
  intro i hi;have h':=(fZ (n:=l.length) c (by lia)).mem_iff.mp (Array.mem_toList_iff.mp hi);have hl:i<l.length:=by simpa using h'
  show (l.map f).getD i e=f (l.getD i d);rw[List.getD_eq_getElem?_getD,List.getD_eq_getElem?_getD,List.getElem?_map,List.getElem?_eq_getElem hl];rfl
section
variable {X:Cx}
end
def aAO (rs:List (List Key)):Prop:=∃sh,∀r∈rs,r.map d7=sh
theorem OT (a:Key):g9 a a=false:=by
 cases a with
 | inl i=>exact decide_eq_false (Int.lt_irrefl _)
 | inr x=>exact WR x
theorem R8 {a b c:Key}(h1:g9 a b=true)(h2:g9 b c=true):g9 a c=true:=by
 cases a<;>cases b<;>cases c<;>first|(cases h1;done)|(cases h2;done)|skip
 ·exact decide_eq_true (Int.lt_trans (of_decide_eq_true h1) (of_decide_eq_true h2))
 ·exact aAv h1 h2
theorem OQ {a b:Key}(k:d7 a=d7 b)(h:a≠b):g9 a b=true∨g9 b a=true:=by
 cases a<;>cases b<;>first|(cases k;done)|skip
 ·rename_i i j;have hij:i≠j:=fun z=>h (by rw[z]);rcases Int.lt_or_gt_of_ne hij with z|z
  ·exact .inl (decide_eq_true z)
  ·exact .inr (decide_eq_true z)
 ·rename_i x y;exact WD fun z=>h (by rw[z])
theorem FP:∀a:List Key,f9 a a=false
 | []=>rfl
 | a::as=>by
  show (if a=a then f9 as as else g9 a a)=false;rw[if_pos rfl];exact FP as
theorem EW:∀{a b:List Key},a.map d7=b.map d7->a≠b->f9 a b=true∨f9 b a=true
 | [],[],_,h=>absurd rfl h
 | [],_::_,k,_=>by cases k
 | _::_,[],k,_=>by cases k
 | a::as,b::bs,k,h=>by
  show (if a=b then f9 as bs else g9 a b)=true∨(if b=a then f9 bs as else g9 b a)=true
  by_cases e:a=b
  ·subst e;rw[if_pos rfl,if_pos rfl];exact EW (List.cons.inj k).2 fun z=>h (by rw[z])
  ·rw[if_neg e,if_neg (fun z=>e z.symm)];exact OQ (List.cons.inj k).1 e
theorem IY:∀{a b c:List Key},f9 a b=true->f9 b c=true->f9 a c=true
 | [],_,_,h,_=>by cases h
 | _::_,[],_,h,_=>by cases h
 | _::_,_::_,[],_,h=>by cases h
 | a::as,b::bs,c::cs,h1,h2=>by
  have h1':(if a=b then f9 as bs else g9 a b)=true:=h1;have h2':(if b=c then f9 bs cs else g9 b c)=true:=h2;show (if a=c then f9 as cs else g9 a c)=true
  by_cases e1:a=b
  ·subst e1;rw[if_pos rfl]at h1'
   by_cases e2:a=c
   ·subst e2;rw[if_pos rfl]at h2' ⊢;exact IY h1' h2'
   ·rw[if_neg e2]at h2' ⊢;exact h2'
  ·rw[if_neg e1]at h1'
   by_cases e2:b=c
   ·subst e2;rw[if_neg e1];exact h1'
   ·rw[if_neg e2]at h2';have h3:=R8 h1' h2'
    by_cases e3:a=c
    ·subst e3;rw[OT]at h3;cases h3
    ·rw[if_neg e3];exact h3
theorem RW {rs:List (List Key)}(h:aAO rs):Ord f9 rs:=⟨fun x _=>FP x,fun _ _ _ _ _ _ h1 h2=>IY h1 h2,fun x hx y hy e=>by
 obtain⟨sh,h⟩:=h;exact EW ((h x hx).trans (h y hy).symm) e⟩
def qF (rs:List (List Key)):List (List Key):=bX [] (sI rs) rs
theorem nZ (rs:List (List Key)):(qF rs).Perm rs:=oU _
theorem K3 {H:Hp}{vs:List V}{rs:List (List Key)} (k:KRows H vs rs):KRows H (KK rs vs) (qF rs):=by
 have hl:vs.length=rs.length:=Paired.length k;unfold KK qF bX;rw[hl]
 split
 ·exact k
 ·have hp:=fZ (n:=rs.length) (sI rs) (by lia);have hm:∀i∈(bF (sI rs) (kas_sort rs.length)).toList,i<rs.length:=fun i hi=>by
   have h:=hp.mem_iff.mp (Array.mem_toList_iff.mp hi)
   simpa using h
  revert hm;generalize (bF (sI rs) (kas_sort rs.length)).toList=l;intro hm
  induction l with
  | nil=>exact .nil
  | cons i l ih =>
   refine .cons ?_ (ih fun j hj=>hm j (List.mem_cons_of_mem _ hj));have hi:=hm i (.head _);obtain⟨p,r,e1,e2,e3⟩:=k.get (i:=i) (v:=vs.getD i .non) (by rw[List.getD_eq_getElem?_getD,List.getElem?_eq_getElem (by lia)];rfl);refine⟨p,e1,?_⟩;show H p=some (.tup ((rs.getD i []).map kV));rw[List.getD_eq_getElem?_getD,e2];exact e3
end L2
namespace L2
open PySem PySem.W PyProof.Rows
section
variable {X:Cx}{pins:List (Addr×Obj)}{σ:St}{H:Hp}{s:Shared}
end
end L2
namespace L2
open PySem PySem.W PyProof.Rows
section
variable {X:Cx}
end
end L2
namespace L2
open PySem PySem.W PyProof.Rows
theorem Paired.snoc {α β:Type}{F:α->β->Prop}:∀{l:List α}{m:List β}{a:α}{b:β},Paired F l m->F a b->Paired F (l++[a]) (m++[b])
 | _,_,_,_,.nil,h=> .cons h .nil
 | _,_,_,_,.cons r t,h=> .cons r (Paired.snoc t h)
theorem Paired.at2 {α β:Type}{F:α->β->Prop}:∀{l:List α}{m:List β}{i:Nat}{a:α}{b:β},Paired F l m->l[i]? =some a->m[i]? =some b->F a b
 | _,_,0,_,_,.cons r _,h1,h2=>by cases h1;cases h2;exact r
 | _,_,i+1,_,_,.cons _ t,h1,h2=>Paired.at2 (i:=i) t (by simpa using h1) (by simpa using h2)
 | _,_,_,_,_,.nil,h1,_=>by simp at h1
theorem j5 {α:Type}{J:It}{g:TG}{ti:TT}{te:TE}{σ0:St}{fin:List V->Hp->Prop}{H:Hp} (xs:List α) (c:α->Bool) (P:α->V->Hp->Prop) (hm:∀x y H1 H2,P x y H1->Same H1 H2->P x y H2) (hn:xs.length<=sizeLine)
  (hgo:∀i H1,Same H H1->i<xs.length->J.go i H1)(hst:∀H1,Same H H1->J.stop xs.length H1)
  (hb:∀i x H1,xs[i]? =some x->Same H H1->∀v H',J.yld i H1 v H'->Same H1 H'/\∃σ2:St,σ2.length=σ0.length/\(∀(j:Nat) v,σ0[j]? =some (some v)->σ2[j]? =some (some v))/\(∀R:St->Hp->Prop,R σ2 H'->g v σ0 H' R) ∧
   (∀R:Bool->Hp->Prop,(∀H2,Same H' H2->R (c x) H2)->ti σ2 H' R)/\(c x=true->∀H2,Same H' H2->∀R:VK,(∀y H3,P x y H3->Same H2 H3->R y H3)->te σ2 H2 R))
  (hf:∀ys H1,Same H H1->Paired (fun x y=>P x y H1) (xs.filter c) ys->fin ys H1):eU J g ti te σ0 fin H:=by
 refine⟨fun i m ys H1=>i+m=xs.length/\Same H H1/\Paired (fun x y=>P x y H1) ((xs.take i).filter c) ys,⟨xs.length,by lia,Same.refl _,.nil⟩,?_⟩;rintro i m ys H1 ⟨e1,s1,pr⟩;cases m with
 | zero =>
  have ei:i=xs.length:=by lia
  subst ei;rw[List.take_length]at pr;exact .inl ⟨hst H1 s1,hf ys H1 s1 pr⟩
 | succ m =>
  have hi:i<xs.length:=by lia
  refine .inr ⟨hgo i H1 s1 hi,fun v H' y=> ?_⟩;have ex:xs[i]? =some xs[i]:=List.getElem?_eq_getElem hi;have etake:xs.take (i+1)=xs.take i++[xs[i]]:=by rw[List.take_succ,ex];rfl
  have hlen:ys.length<=i:=by
   rw[←Paired.length pr];exact Nat.le_trans (List.length_filter_le _ _) (by rw[List.length_take];lia)
  obtain⟨s2,σ2,l2,c2,hg,ht,he⟩:=hb i xs[i] H1 ex s1 v H' y;refine hg _ ⟨⟨l2,c2⟩,ht _ fun H2 s3=> ?_⟩;cases hc:c xs[i] with
  | true =>
   show te σ2 H2 _;refine he hc H2 s3 _ fun y H3 py s4=>⟨by lia,m,by lia,by lia,((s1.trans s2).trans s3).trans s4,?_⟩
   rw[etake,List.filter_append,List.filter_cons_of_pos hc];exact Paired.snoc (Paired.imp' (fun a b h=>hm a b _ _ h ((s2.trans s3).trans s4)) pr) py
  | false =>
   show ∃m',_;refine⟨m,by lia,by lia,(s1.trans s2).trans s3,?_⟩;rw[etake,List.filter_append,List.filter_cons_of_neg (by rw[hc];exact Bool.false_ne_true),List.filter_nil,List.append_nil];exact Paired.imp' (fun a b h=>hm a b _ _ h (s2.trans s3)) pr
section
variable {K:PySem.W.Frag}{ti:TT}{te:TE}{σ:St}{ci:List Nat}{rest:St}{fin:List V->Hp->Prop}{H:Hp}{a:Addr}
theorem LV {n:Nat}(hr:ci.map (fun i=>(σ[i]?).join)=rest):bY n ci σ=List.replicate n none++rest:=by unfold bY;rw[hr]
theorem rV {α:Type}{vs:List V}{xs:List α} (f1 f2:α->V) (c:α->Bool) (P:α->V->Hp->Prop) (hm:∀x y H1 H2,P x y H1->Same H1 H2->P x y H2) (hn:xs.length<=sizeLine) (hr:ci.map (fun i=>(σ[i]?).join)=rest) (hl:SqL K H a vs)
  (hv:Paired (fun v x=>∃q,v= .ref q/\H q=some (.tup [f1 x,f2 x])) vs xs)
  (ht:∀x H1,x∈xs->Same H H1->∀R:Bool->Hp->Prop,(∀H2,Same H1 H2->R (c x) H2)->ti (some (f1 x)::some (f2 x)::rest) H1 R)
  (he:∀x H1,x∈xs->c x=true->Same H H1->∀R:VK,(∀y H2,P x y H2->Same H1 H2->R y H2)->te (some (f1 x)::some (f2 x)::rest) H1 R)
  (hf:∀ys H1,Same H H1->Paired (fun x y=>P x y H1) (xs.filter c) ys->fin ys H1):eU (Itl K a) (xD K 2 (kO (cM 0) (kO (cM 1) zW))) ti te (bY 2 ci σ) fin H:=by
 have e0:bY 2 ci σ=none::none::rest:=LV hr;rw[e0];have hlen:vs.length=xs.length:=Paired.length hv;refine j5 xs c P hm hn (fun i H1 s hi=>⟨vs,vs[i],s.seq hl,List.getElem?_eq_getElem (by lia)⟩) (fun H1 s=>⟨vs,s.seq hl,by lia⟩) (fun i x H1 hx s1 v H' y=> ?_) hf;obtain⟨rfl,e2⟩:=y;have ev:=e2 vs (s1.seq hl);obtain⟨q,rfl,hq⟩:∃q,v= .ref q/\H q=some (.tup [f1 x,f2 x]):=Paired.at2 hv ev hx;have hmem:=List.mem_of_getElem? hx;refine⟨Same.refl _,some (f1 x)::some (f2 x)::rest,rfl,fun j v hv=> ?_,fun R h=>⟨q,[f1 x,f2 x],rfl,.inl (.inl (s1 _ _ hq)),rfl,f1 x,[f2 x],rfl,f2 x,[],rfl,rfl,h⟩,fun R h=>ht x _ hmem s1 R h,fun hc H2 s2 R h=>he x H2 hmem hc (s1.trans s2) R h⟩
 match j,hv with
 | 0,hv=>cases hv
 | 1,hv=>cases hv
 | j+2,hv=>exact hv
end
end L2
namespace L2
open PySem PySem.W PyProof.Rows
section
variable {K:PySem.W.Frag}{ti:TT}{te:TE}{σ:St}{ci:List Nat}{rest:St}{fin:List V->Hp->Prop}{H:Hp}{a:Addr}
theorem D5 {H:Hp}{q:Addr}{o:HO} (h:H q=none):Same H (upd H q o):=fun b u e=>by
 have:b≠q:=fun z=>by rw[z,h]at e;cases e
 rw[aU this];exact e
theorem XL {α:Type}{vs:List V}{xs:List α} (f1 f2 f3:α->V) (c:α->Bool) (P:α->V->Hp->Prop) (hm:∀x y H1 H2,P x y H1->Same H1 H2->P x y H2) (hn:xs.length<=sizeLine) (hr:ci.map (fun i=>(σ[i]?).join)=rest) (hl:SqL K H a vs)
  (hv:Paired (fun v x=>∃q,v= .ref q/\H q=some (.tup [f1 x,f2 x,f3 x])) vs xs)
  (ht:∀x H1,x∈xs->Same H H1->∀R:Bool->Hp->Prop,(∀H2,Same H1 H2->R (c x) H2)->ti (some (f1 x)::some (f2 x)::some (f3 x)::rest) H1 R)
  (he:∀x H1,x∈xs->c x=true->Same H H1->∀R:VK,(∀y H2,P x y H2->Same H1 H2->R y H2)->te (some (f1 x)::some (f2 x)::some (f3 x)::rest) H1 R)
  (hf:∀ys H1,Same H H1->Paired (fun x y=>P x y H1) (xs.filter c) ys->fin ys H1):eU (Itl K a) (xD K 3 (kO (cM 0) (kO (cM 1) (kO (cM 2) zW)))) ti te (bY 3 ci σ) fin H:=by
 have e0:bY 3 ci σ=none::none::none::rest:=LV hr;rw[e0];have hlen:vs.length=xs.length:=Paired.length hv;refine j5 xs c P hm hn (fun i H1 s hi=>⟨vs,vs[i],s.seq hl,List.getElem?_eq_getElem (by lia)⟩) (fun H1 s=>⟨vs,s.seq hl,by lia⟩) (fun i x H1 hx s1 v H' y=> ?_) hf;obtain⟨rfl,e2⟩:=y;have ev:=e2 vs (s1.seq hl);obtain⟨q,rfl,hq⟩:∃q,v= .ref q/\H q=some (.tup [f1 x,f2 x,f3 x]):=Paired.at2 hv ev hx;have hmem:=List.mem_of_getElem? hx;refine⟨Same.refl _,some (f1 x)::some (f2 x)::some (f3 x)::rest,rfl,fun j v hv=> ?_,fun R h=>⟨q,[f1 x,f2 x,f3 x],rfl,.inl (.inl (s1 _ _ hq)),rfl,f1 x,[f2 x,f3 x],rfl,f2 x,[f3 x],rfl,f3 x,[],rfl,rfl,h⟩,fun R h=>ht x _ hmem s1 R h,fun hc H2 s2 R h=>he x H2 hmem hc (s1.trans s2) R h⟩
 match j,hv with
 | 0,hv=>cases hv
 | 1,hv=>cases hv
 | 2,hv=>cases hv
 | j+3,hv=>exact hv
theorem O1 {kvs:List (Key×V)}{o:Obj} (c:Key×V->Bool) (P:Key×V->V->Hp->Prop) (hm:∀x y H1 H2,P x y H1->Same H1 H2->P x y H2) (hn:kvs.length<=sizeLine) (hr:ci.map (fun i=>(σ[i]?).join)=rest) (h0:H a=some (.frz o (.dK kvs)))
  (ht:∀x H1,x∈kvs->Same H H1->∀R:Bool->Hp->Prop,(∀H2,Same H1 H2->R (c x) H2)->ti (some (kV x.1)::rest) H1 R)
  (he:∀x H1,x∈kvs->c x=true->Same H H1->∀R:VK,(∀y H2,P x y H2->Same H1 H2->R y H2)->te (some (kV x.1)::rest) H1 R)
  (hf:∀ys H1,Same H H1->Paired (fun x y=>P x y H1) (kvs.filter c) ys->fin ys H1):eU (Itk a o kvs) (cM 0) ti te (bY 1 ci σ) fin H:=by
 rw[yC hr];refine j5 kvs c P hm hn (fun i H1 s hi=>⟨s _ _ h0,hi⟩) (fun H1 s=>⟨s _ _ h0,Nat.le_refl _⟩) (fun i x H1 hx s1 v H' y=> ?_) hf;obtain⟨rfl,k,u,e2,rfl⟩:=y;rw[hx]at e2;cases e2;have hmem:=List.mem_of_getElem? hx;refine⟨Same.refl _,some (kV k)::rest,rfl,fun j v hv=> ?_,fun R h=>h,fun R h=>ht _ _ hmem s1 R h,fun hc H2 s2 R h=>he _ H2 hmem hc (s1.trans s2) R h⟩;cases j with
 | zero=>cases hv
 | succ j=>exact hv
theorem aAb {kvs:List (List Key×V)}{o:Obj} (c:List Key×V->Bool) (P:List Key×V->V->Hp->Prop) (hm:∀x y H1 H2,P x y H1->Same H1 H2->P x y H2) (hn:kvs.length<=sizeLine) (hr:ci.map (fun i=>(σ[i]?).join)=rest) (h0:H a=some (.frz o (.dT kvs)))
  (ht:∀x H1 p,x∈kvs->Same H H1->H1 p=some (.tup (x.1.map kV))->∀R:Bool->Hp->Prop,(∀H2,Same H1 H2->R (c x) H2)->ti (some (.ref p)::some x.2::rest) H1 R)
  (he:∀x H1 p,x∈kvs->c x=true->Same H H1->H1 p=some (.tup (x.1.map kV))->∀R:VK,(∀y H2,P x y H2->Same H1 H2->R y H2)->te (some (.ref p)::some x.2::rest) H1 R)
  (hf:∀ys H1,Same H H1->Paired (fun x y=>P x y H1) (kvs.filter c) ys->fin ys H1):eU (Itj a o kvs) (xD K 2 (kO (cM 0) (kO (cM 1) zW))) ti te (bY 2 ci σ) fin H:=by
 have e0:bY 2 ci σ=none::none::rest:=LV hr;rw[e0];refine j5 kvs c P hm hn (fun i H1 s hi=>⟨s _ _ h0,hi⟩) (fun H1 s=>⟨s _ _ h0,Nat.le_refl _⟩) (fun i x H1 hx s1 v H' y=> ?_) hf;obtain⟨k,u,p,q,e2,rfl,hp,hq,rfl⟩:=y;rw[hx]at e2;cases e2;have hmem:=List.mem_of_getElem? hx;have sq:Same H1 (upd H1 q (.tup [.ref p,u])):=D5 hq;refine⟨sq,some (.ref p)::some u::rest,rfl,fun j v hv=> ?_,fun R h=>⟨q,[.ref p,u],rfl,.inl (.inl bM),rfl,.ref p,[u],rfl,u,[],rfl,rfl,h⟩,fun R h=>ht _ _ p hmem (s1.trans sq) (sq _ _ hp) R h,fun hc H2 s2 R h=>he _ H2 p hmem hc ((s1.trans sq).trans s2) (s2 _ _ (sq _ _ hp)) R h⟩
 match j,hv with
 | 0,hv=>cases hv
 | 1,hv=>cases hv
 | j+2,hv=>exact hv
end
section
variable {σ:St}{H:Hp}{g:TG}{tb:TS}{nx bk ct:St->Hp->Prop}{rt:VK}
theorem QJ {p:Addr}{o:Obj} (kvs:List (Key×V)) (Pv:Nat->St->Hp->Prop) (h0:Pv 0 σ H) (hl:∀i σ H,Pv i σ H->H p=some (.frz o (.dK kvs)))
  (hs:∀i k v σ H,kvs[i]? =some (k,v)->Pv i σ H->g (kV k) σ H fun σ2 H2=>tb ⟨Pv (i+1),rt,nx,Pv (i+1)⟩ σ2 H2)(hd:∀σ H,Pv kvs.length σ H->nx σ H):LZ (Itk p o kvs) g tb ⟨nx,rt,bk,ct⟩ σ H:=by
 refine⟨fun i m σ H=>m=kvs.length - i/\i<=kvs.length/\Pv i σ H,⟨kvs.length,by simp,Nat.zero_le _,h0⟩,?_⟩;rintro i m σ H ⟨rfl,hi,q⟩
 by_cases hlt:i<kvs.length
 ·refine .inr ⟨⟨hl i σ H q,hlt⟩,Pv (i+1),fun σ' H' p'=>⟨kvs.length - (i+1),by lia,rfl,hlt,p'⟩,fun x H' y=> ?_⟩;obtain⟨rfl,k,v,e,rfl⟩:=y;exact hs i k v σ _ e q
 ·have e:i=kvs.length:=by lia
  subst e;exact .inl ⟨⟨hl _ σ H q,Nat.le_refl _⟩,hd σ H q⟩
end
def N4 (R:It->Hp->Prop):VK:=fun x H1=>∃a kvs,x= .ref a/\H1 a=some (.dK kvs)/\∀o,R (Itk a o kvs) (upd H1 a (.frz o (.dK kvs)))
def JI (R:It->Hp->Prop):VK:=fun x H1=>∃a kvs,x= .ref a/\H1 a=some (.dT kvs)/\∀o,R (Itj a o kvs) (upd H1 a (.frz o (.dT kvs)))
def ZD (Q:VK)(y:V):VK:=fun x H2=>∃a o,x= .ref a/\DGet H2 a y o/\Q (.bl o.isSome) H2
def IW (Q:VK)(y:V):VK:=fun x H2=>∃a o,x= .ref a/\DGet H2 a y o/\Q (.bl (!o.isSome)) H2
def OV (σ:St)(ty tx:TE)(Q:VK):VK:=fun x H1=>∃a,x= .ref a/\IsD H1 a/\ty σ H1 fun y H2=>tx σ H2 fun z H3=>∃o,DGet H3 a y o/\Q (o.getD z) H3
def Y1 (a:Addr)(Q:VK)(y:V):VK:=fun z H3=>∃o,DGet H3 a y o/\Q (o.getD z) H3
section
variable {K:PySem.W.Frag}{H:Hp}{Q:VK}{σ:St}{nx:St->Hp->Prop}{R:It->Hp->Prop}{td ty tx:TE}
theorem N0 (h:td σ H (N4 R)):OE td σ H R:=h
theorem K9 (h:td σ H (JI R)):IV td σ H R:=h
theorem xI {p:Addr}{kvs:List (Key×V)} (e:H p=some (.dK kvs)) (h:∀o H',SameBut p H H'->H' p=some (.frz o (.dK kvs))->R (Itk p o kvs) H'):N4 R (.ref p) H:=⟨p,kvs,rfl,e,fun o=>h o _ SameBut.upd bM⟩
theorem N3 {p:Addr}{kvs:List (List Key×V)} (e:H p=some (.dT kvs)) (h:∀o H',SameBut p H H'->H' p=some (.frz o (.dT kvs))->R (Itj p o kvs) H'):JI R (.ref p) H:=⟨p,kvs,rfl,e,fun o=>h o _ SameBut.upd bM⟩
theorem YB (h:ty σ H fun y H1=>td σ H1 (ZD Q y)):aAx ty td σ H Q:=h
theorem OF (h:ty σ H fun y H1=>td σ H1 (IW Q y)):IC ty td σ H Q:=h
theorem VZ {p:Addr}{z:Str}{kvs:List (Key×V)} (e:Rd H p (.dK kvs)) (h:Q (.bl (aY kvs (.inr z)).isSome) H):ZD Q (.str z) (.ref p) H:=⟨p,_,rfl,.inl ⟨kvs,.inr z,e,rfl,rfl⟩,h⟩
theorem yT {p:Addr}{z:Str}{kvs:List (Key×V)} (e:Rd H p (.dK kvs)) (h:Q (.bl (!(aY kvs (.inr z)).isSome)) H):IW Q (.str z) (.ref p) H:=⟨p,_,rfl,.inl ⟨kvs,.inr z,e,rfl,rfl⟩,h⟩
theorem lI {p:Addr}{v:V}{z:Str}{kvs:List (Key×V)} (e:H p=some (.dK kvs)) (hl:kvs.length<sizeLine) (h:∀H',SameBut p H H'->H' p=some (.dK (b9 kvs (.inr z) v))->nx σ H'):JW nx σ (.ref p) v (.str z) H :=
 ⟨p,_,rfl,DPut.k (k:= .inr z) e hl,h _ SameBut.upd bM⟩
theorem iL {p:Addr}{v:V}{z:Str}{kvs:List (Key×V)} (e:Rd H p (.dK kvs)) (hv:aY kvs (.inr z)=some v) (h:Q v H):JZ Q (.ref p) (.str z) H:=⟨p,v,rfl,.inl ⟨kvs,.inr z,e,rfl,hv.symm⟩,h⟩
theorem Q4 (h:∀p H',H p=none->Same H H'->H' p=some (.dK [])->Q (.ref p) H'):NJ σ H Q:=fB h
theorem QK (h:td σ H (OV σ ty tx Q)):M0 td ty tx σ H Q:=h
theorem fW {p:Addr}{kvs:List (List Key×V)} (e:H p=some (.dT kvs)) (h:ty σ H fun y H2=>tx σ H2 (Y1 p Q y)):OV σ ty tx Q (.ref p) H:=⟨p,rfl,.inr ⟨kvs,.inl e⟩,h⟩
theorem gZ {p b:Addr}{z:V}{kvs:List (List Key×V)} (k:List Key) (e:H p=some (.dT kvs)) (eb:H b=some (.tup (k.map kV))) (h:Q ((aY kvs k).getD z) H):Y1 p Q (.ref b) z H:=⟨_,DGet.t e eb,h⟩
theorem P5 {p:Addr}{vs:List V}{ps:List (Key×V)} (e:H p=some (.lst vs)) (r:DS H vs ps) (h:∀l H',H l=none->Same H H'->H' l=some (.dK (kU [] ps))->Q (.ref l) H'):O6 [.ref p] H Q:=⟨p,vs,ps,rfl,.inl e,r,fB h⟩
theorem sP {te:TE}{p:Addr}{u:HO} (e:H p=some u) (nf:∀o x,u≠ .frz o x) (h:te σ H fun x=>iM p (Q x)):TC te σ H Q:=⟨p,fun o x z=>nf o x (by rw[e]at z;exact Option.some.inj z),h⟩
theorem P3 {ts:TS}{bk ct:St->Hp->Prop}{rt:VK}{p:Addr}{u:HO} (e:H p=some u) (nf:∀o x,u≠ .frz o x) (h:ts ⟨fun σ'=>iM p (nx σ'),fun v=>iM p (rt v),fun σ'=>iM p (bk σ'),fun σ'=>iM p (ct σ')⟩ σ H):UF ts ⟨nx,rt,bk,ct⟩ σ H :=
 ⟨p,fun o x z=>nf o x (by rw[e]at z;exact Option.some.inj z),h⟩
theorem mT {p:Addr}{o:Obj}{u:HO}{R:Hp->Prop} (e:H p=some (.frz o u)) (h:∀H',SameBut p H H'->H' p=some u->R H'):iM p R H:=⟨o,u,e,h _ SameBut.upd bM⟩
theorem CD {H Hf H1 H2:Hp}{p:Addr}{u:HO} (e:H p=some u) (a:SameBut p H Hf) (b:SameBut p Hf H1) (c:SameBut p H1 H2) (e2:H2 p=some u):Same H H2:=fun x o z=>by
 by_cases hx:x=p
 ·subst hx;rw[e]at z;cases z;exact e2
 ·exact c x o (b x o (a x o z hx) hx) hx
end
section
variable {X:Cx}{K:PySem.W.Frag}
theorem rK {e:Expr}{ta:TE}{f:Str}{pos:Pos} (he:PE X e ta) (hb:attributeBase e f X.env (eval e X.env)=eval e X.env) (hK:X.K=K:=by rfl):PE X (.Attribute e f pos) (SB K ta f):=by
 subst hK;exact bI he hb
theorem KO (hK:X.K=K:=by rfl):OpR X (compareOp .In) (rIn K false):=by
 subst hK;exact M6
end
end L2
namespace L2
open PySem PySem.W PyProof.Rows
section
variable {K:PySem.W.Frag}{ti:TT}{te:TE}{σ:St}{ci:List Nat}{rest:St}{fin:List V->Hp->Prop}{H:Hp}{a:Addr}{α:Type}
theorem rA {vs:List V}{xs:List α} (F:V->α->Prop) (c:α->Bool) (P:α->V->Hp->Prop) (hm:∀x y H1 H2,P x y H1->Same H1 H2->P x y H2) (hn:xs.length<=sizeLine) (hr:ci.map (fun i=>(σ[i]?).join)=rest) (hl:SqL K H a vs) (hv:Paired F vs xs)
  (ht:∀v x H1,F v x->x∈xs->Same H H1->∀R:Bool->Hp->Prop,(∀H2,Same H1 H2->R (c x) H2)->ti (some v::rest) H1 R)
  (he:∀v x H1,F v x->x∈xs->c x=true->Same H H1->∀R:VK,(∀y H2,P x y H2->Same H1 H2->R y H2)->te (some v::rest) H1 R)
  (hf:∀ys H1,Same H H1->Paired (fun x y=>P x y H1) (xs.filter c) ys->fin ys H1):eU (Itl K a) (cM 0) ti te (bY 1 ci σ) fin H:=by
 rw[yC hr];have hlen:vs.length=xs.length:=Paired.length hv;refine j5 xs c P hm hn (fun i H1 s hi=>⟨vs,vs[i],s.seq hl,List.getElem?_eq_getElem (by lia)⟩) (fun H1 s=>⟨vs,s.seq hl,by lia⟩) (fun i x H1 hx s1 v H' y=> ?_) hf;obtain⟨rfl,e2⟩:=y;have ev:=e2 vs (s1.seq hl);have hF:=Paired.at2 hv ev hx;have hmem:=List.mem_of_getElem? hx;refine⟨Same.refl _,some v::rest,rfl,fun j v hv=> ?_,fun R h=>h,fun R h=>ht v x _ hF hmem s1 R h,fun hc H2 s2 R h=>he v x H2 hF hmem hc (s1.trans s2) R h⟩;cases j with
 | zero=>cases hv
 | succ j=>exact hv
end
theorem kA {α:Type}{f:α->V}:∀{l:List α}{ys:List V},Paired (fun x y=>y=f x) l ys->ys=l.map f
 | _,_,.nil=>rfl
 | _,_,.cons h t=>by rw[h,kA t];rfl
theorem jZ {α:Type}(l:List α):l.filter (fun _=>true)=l:=by simp
theorem NA {K:PySem.W.Frag}{H:Hp}{Q:VK}{p:Addr}{z:Str}{ss:List Str} (e:SqL K H p (ss.map V.str)) (h:Q (.bl (decide (z∈ss))) H):rIn K false (.str z) (.ref p) H Q:=by
 refine⟨p,_,rfl,.inl e,rfl,?_,?_⟩
 ·rw[List.all_eq_true];intro x hx;obtain⟨y,_,rfl⟩:=List.mem_map.mp hx;rfl
 ·have e2:inV (.str z) (ss.map V.str)=decide (z∈ss):=by
   rw[Bool.eq_iff_iff,decide_eq_true_eq];unfold inV;rw[List.any_eq_true]
   constructor
   ·rintro ⟨x,hx,h⟩;obtain⟨y,hy,rfl⟩:=List.mem_map.mp hx;have:y=z:=by simpa [eqV] using h
    rw[←this];exact hy
   ·intro h;exact⟨.str z,List.mem_map.mpr ⟨z,h,rfl⟩,by simp[eqV]⟩
  show Q (.bl (inV (.str z) (ss.map V.str))) H;rw[e2];exact h
end L2
namespace L2
open PySem PySem.W PyProof.Rows
abbrev aI:=Int×Str×Int
def bU (t:Int)(n:Str):List Key:=[.inl t,.inr n]
def oR (r:aI):List Key:=[.inl r.1,.inr r.2.1,.inl r.2.2]
def jP:V->Int
 | .int i=>i
 | _=>0
def zT (kvs:List (List Key×V))(r:aI):List (List Key×V):=b9 kvs (bU r.1 r.2.1) (.int (jP ((aY kvs (bU r.1 r.2.1)).getD (.int 0))+r.2.2))
def iG (rows:List aI):List (List Key×V):=rows.foldl zT []
theorem iP (rows:List aI)(r:aI):iG (rows++[r])=zT (iG rows) r:=by unfold iG;rw[List.foldl_append];rfl
def bP (rows:List aI)(t:Int)(n:Str):Int:=((rows.filter fun r=>decide (r.1=t)&&decide (r.2.1=n)).map (·.2.2)).sum
theorem LH (rows:List aI)(r:aI)(t:Int)(n:Str):bP (rows++[r]) t n=bP rows t n+if r.1=t/\r.2.1=n then r.2.2 else 0:=by
 unfold bP;rw[List.filter_append,List.map_append,List.sum_append]
 congr 1
 by_cases h:r.1=t/\r.2.1=n
 ·rw[if_pos h,List.filter_cons_of_pos (by simp[h])];simp
 ·rw[if_neg h,List.filter_cons_of_neg (by simpa using h)];simp
theorem sO {t t':Int}{n n':Str} (h:bU t n=bU t' n'):t=t'/\n=n':=by
 unfold bU at h;injection h with h1 h2;injection h2 with h2;exact⟨Sum.inl.inj h1,Sum.inr.inj h2⟩
theorem kB {α:Type}{P:List α->Prop} (h0:P []) (hs:∀l a,P l->P (l++[a])) (l:List α):P l:=by
 have:∀m:List α,P m.reverse:=fun m=>by
  induction m with
  | nil=>exact h0
  | cons a m ih=>rw[List.reverse_cons];exact hs _ _ ih
 rw[←List.reverse_reverse l];exact this _
theorem FR (t:Int)(n:Str)(rows:List aI):jP ((aY (iG rows) (bU t n)).getD (.int 0))=bP rows t n:=by
 induction rows using kB with
 | h0=>rfl
 | hs l r ih =>
  rw[iP,LH];unfold zT;rw[gX]
  by_cases e:bU t n=bU r.1 r.2.1
  ·obtain⟨rfl,rfl⟩:=sO e;rw[if_pos rfl,if_pos ⟨rfl,rfl⟩,←ih];rfl
  ·rw[if_neg e,if_neg (fun h=>e (by rw[h.1,h.2])),ih];lia
theorem BU {κ:Type}[DecidableEq κ]{kvs:List (κ×V)}{k:κ}{v:V} (nd:(kvs.map (·.1)).Nodup):((b9 kvs k v).map (·.1)).Nodup:=by
 unfold b9
 split
 ·have e:(kvs.map fun kv=>if kv.1=k then (kv.1,v) else kv).map (·.1)=kvs.map (·.1):=by
   rw[List.map_map]
   apply List.map_congr_left
   intro x _;show (if x.1=k then (x.1,v) else x).1=x.1
   split<;>rfl
  rw[e];exact nd
 ·rename_i h;rw[List.map_append];refine JO nd fun hk=>h ?_;obtain⟨x,hx,e⟩:=List.mem_map.mp hk;rw[List.any_eq_true];exact⟨x,hx,decide_eq_true e⟩
theorem kE {κ:Type}[DecidableEq κ]:∀{kvs:List (κ×V)}{e:κ×V},(kvs.map (·.1)).Nodup->e∈kvs->aY kvs e.1=some e.2
 | a::l,e,nd,h=>by
  have nd':=List.pairwise_cons.mp nd;rcases List.mem_cons.mp h with rfl|h
  ·exact dU rfl
  ·rw[c6 (nd'.1 e.1 (List.mem_map.mpr ⟨e,h,rfl⟩))];exact kE nd'.2 h
theorem iK {κ:Type}[DecidableEq κ]{kvs:List (κ×V)}{k:κ}{v:V} (h:aY kvs k=some v):(k,v)∈kvs:=by
 unfold aY at h;obtain⟨x,hx,e⟩:=Option.map_eq_some_iff.mp h;have h1:=List.find?_some hx;have h2:=List.mem_of_find?_eq_some hx;have h3:x.1=k:=of_decide_eq_true h1;rw[←h3,←e];exact h2
def lJ (kvs:List (List Key×V)):Prop:=(kvs.map (·.1)).Nodup/\∀e∈kvs,∃t n i,e=(bU t n,.int i)
theorem gW (rows:List aI):lJ (iG rows):=by
 induction rows using kB with
 | h0=>exact⟨List.nodup_nil,fun e h=>nomatch h⟩
 | hs l r ih =>
  rw[iP];refine⟨BU ih.1,fun e he=> ?_⟩;rcases tM he with h|⟨h1,h2⟩
  ·exact ih.2 e h
  ·exact⟨_,_,_,Prod.ext h1 h2⟩
theorem RO (rows:List aI)(t:Int)(n:Str):∃i,(aY (iG rows) (bU t n)).getD (.int 0)= .int i:=by
 cases h:aY (iG rows) (bU t n) with
 | none=>exact⟨0,rfl⟩
 | some v =>
  obtain⟨t',n',i,e⟩:=(gW rows).2 _ (iK h);cases e;exact⟨i,rfl⟩
theorem xP (rows:List aI):(iG rows).length<=rows.length:=by
 induction rows using kB with
 | h0=>exact Nat.le_refl _
 | hs l r ih =>
  rw[iP,List.length_append];exact Nat.le_trans (c8 _ _ _) (by simp;lia)
def tF (e:List Key×V):List Key:=e.1++[.inl (jP e.2)]
theorem RN {a b:aI}(h:oR a=oR b):a=b:=by
 unfold oR at h;injection h with h1 h2;injection h2 with h2 h3;injection h3 with h3;exact Prod.ext (Sum.inl.inj h1) (Prod.ext (Sum.inr.inj h2) (Sum.inl.inj h3))
end L2
namespace L2
open PySem PySem.W PyProof.Rows
theorem UV:typeLookup (.type "dict") "__len__" =pure (some (.builtin "dict.__len__")):=by rw[typeLookup_type,builtinLookup_eq_fast];kernel_rfl
section
variable {prog:Program}{w:World}{A:Around}{E:Value->Shared->Prop}{s:Shared}{d:Addr}{κ:Type} [DecidableEq κ] {knd:KeyKind prog w κ}{ps:List (κ×Value)}{ep:Nat}
theorem OO (T:s.TypeIs (.ref d) "dict"){Q:Bool->Shared->Prop}(h:Q false s):wpAny (model prog w) A (Builtin.List.listLengthHint (.ref d)) Q E s:=by
 unfold Builtin.List.listLengthHint;refine wpAny_bind (wpAny_specialOf T UV ?_);generalize q:("dict.__len__" :String)=i0
 wp_delta
 rw[show splitId i0=some ("dict","__len__") from by subst q;decide +kernel];subst q;refine wpAny_bind (wpAny_isInstance (T:= "dict") (b:=true) T (by rw[isSubtype_type];kernel_rfl) (wpAny_ite_split (fun z=>absurd z (by decide)) (fun _=>wpAny_ite_split (fun _=> ?_) (fun z=>absurd (by decide +kernel) z))));exact wpAny_bind (wpAny_typeOf T (wpAny_pure h))
theorem HK {R:Result->Shared->Prop}(hh:A.handled=none)(hm:s.heap.DictAt knd d ps ep)(hd0:(d==sysModules)=false)(S:Addr)(hSd:S≠d)(c0:Nat)(hS:s.heap.get? S=some { cls:= .type "list",data:= .seq #[] c0 })(hn:ps.length<=sizeLine)
  (k:∀h' tk acc c,(∀b o,b≠S->s.heap.get? b=some o->h'.get? b=some o)->h'.get? S=some { cls:= .type "list",dict:=none,data:= .seq acc c,slots:= #[] }->ItemsOf (fun i v=>∃k x,ps[i]? =some (k,x)/\knd.is k v=true) acc ps.length->R (.ok (.ret .none)) { s with heap:=h',toks:=tk }) :
  wpAny (model prog w) A.in1 (Builtin.List.listExtendWith (.ref S) (.ref d) .none) (fun fin s'=>match fin with| .done f=>R (.ok f) s'| .again c'=>c'.quiet=true/\codeAny (model prog w) A c' R s') (fun e s'=>R (.error e) s') s:=by
 obtain⟨o,es,ho,hc,hq,hk,hp,hnd⟩:=id hm;have T:s.TypeIs (.ref d) "dict" :=⟨o,ho,hc.1⟩
 have lS:S<s.heap.objs.size:=Heap.lt_size hS;have ld:d<s.heap.objs.size:=Heap.lt_size ho;have hsz:es.size=ps.length:=by rw[←hp.length];simp
 have W:=(Walks.dictKeys (prog:=prog) (w:=w) (knd:=knd) (A:=A.in1) hh s.heap.objs.size d (Nat.ne_of_lt ld) ps ep).toS;have run:∀(h:Heap) (c1 tk:Nat),h.IsKeyIter s.heap.objs.size d 0 ps.length ep->(∀b u,b≠S->s.heap.get? b=some u->h.get? b=some u)->h.get? S=some { cls:= .type "list",data:= .seq #[] c1 } →
   codeAny (model prog w) A (.builtin "list.extend.loop" ⟨[.ref S,.ref s.heap.objs.size,.none],[]⟩) R { s with heap:=h,toks:=tk }:=by
  intro h c1 tk hit kp hS1;refine codeAny_extend_loopS W hn S (by simp only[List.mem_cons,List.not_mem_nil,or_false,not_or];exact⟨Nat.ne_of_lt lS,hSd⟩) .none ps.length 0 _ #[] c1 rfl (Nat.zero_le _) ⟨hit,o,es,kp d o (Ne.symm hSd) ho,hc,hq,hk,hp,hnd⟩ hS1 (ItemsOf.nil _) fun s' acc c' mv hS2 hacc=> ?_;rw[Moved.eq_with mv];refine k s'.heap s'.toks acc c' (fun b u hb e=>mv.heap b u (fun z=> ?_) (kp b u hb e)) hS2 hacc;rcases List.mem_cons.mp z with z|z
  ·exact hb z
  ·have:=Heap.lt_size e;rw[List.mem_singleton.mp z]at this;exact Nat.lt_irrefl _ this
 unfold Builtin.List.listExtendWith;refine wpAny_bind (wpAny_typeOf (T:= "dict") T ?_);simp only[show Builtin.List.listSameRef (.ref S) (.ref d)=false by simp[Builtin.List.listSameRef,hSd],show (Value.type "dict" ==Value.type "list")=false by decide,show (Value.type "dict" ==Value.type "tuple")=false by decide,Bool.or_false,Bool.false_eq_true,if_false];refine wpAny_bind (xQ hd0 ho hc hq ?_);have hS1:=Heap.get?_push_of_some { cls:= .type "dict_keyiterator",data:= .fields #[.ref d,.int 0 0,.int es.size 0,.int ep 0] } hS;refine wpAny_bind (wpAny_holding (OO ⟨o,Heap.get?_push_of_some _ ho,hc.1⟩ ?_));have hit:(s.heap.push { cls:= .type "dict_keyiterator",data:= .fields #[.ref d,.int 0 0,.int es.size 0,.int ep 0] }).IsKeyIter s.heap.objs.size d 0 ps.length ep:=⟨_,Heap.get?_push_size _ rfl,rfl,by rw[hsz];rfl⟩
 refine wpAny_ite_split (fun z=> ?_) (fun _=>wpAny_pure ⟨plainId_quiet F.plain_extend_loop _,run _ c0 _ hit (fun b u _ e=>Heap.get?_push_of_some _ e) hS1⟩);refine wpAny_bind (wpAny_rule (wpAny_bind ?_));show wpAny _ A.in1 (updateSeq S (·.push .none) >>= fun _=>updateSeq S (·.pop)) _ _ _;have u1:=Heap.get?_update_self (Obj.mapSeq (·.push Value.none)) hS1 rfl;have u2:=Heap.get?_update_self (Obj.mapSeq (·.pop)) u1 rfl;refine wpAny_bind (wpAny_updateSeq hS1 rfl (wpAny_updateSeq (hz:=by seq_fits) u1 rfl (wpAny_pure ⟨plainId_quiet F.plain_extend_loop _,run _ _ _ ?_ (fun b u hb e=> ?_) u2⟩)))
 ·exact hit.at fun u e=>(Heap.get?_update_other _ _ (Nat.ne_of_lt lS)).trans ((Heap.get?_update_other _ _ (Nat.ne_of_lt lS)).trans e)
 ·exact(Heap.get?_update_other _ _ (Ne.symm hb)).trans ((Heap.get?_update_other _ _ (Ne.symm hb)).trans (Heap.get?_push_of_some _ e))
theorem N5 {Q:Value->Shared->Prop}(hh:A.handled=none)(hm:s.heap.DictAt knd d ps ep)(hd0:(d==sysModules)=false)(hn:ps.length<=sizeLine)
  (k:∀h' tk acc c,(∀b o,s.heap.get? b=some o->h'.get? b=some o)->h'.get? s.heap.objs.size=some { cls:= .type "list",dict:=none,data:= .seq acc c,slots:= #[] }->ItemsOf (fun i v=>∃k x,ps[i]? =some (k,x)/\knd.is k v=true) acc ps.length->Q (.ref s.heap.objs.size) { s with heap:=h',toks:=tk }) :
  wpAny (model prog w) A (call (.type "list") [.ref d]) Q E s:=by
 refine callType_codes (Q₁:=fun x s1=>x= .ref s.heap.objs.size/\s1={ s with heap:=s.heap.push { cls:= .type "list",data:= .seq #[] } }) F.called_list (F.typeCall_list_1 _) F.entry_list_init (code_list_new _ ⟨rfl,rfl⟩) ?_;rintro x s1 ⟨rfl,rfl⟩;have hS:(s.heap.push { cls:= .type "list",data:= .seq #[] }).get? s.heap.objs.size=some { cls:= .type "list",data:= .seq #[] }:=Heap.get?_push_size _ rfl;have hm1:(s.heap.push { cls:= .type "list",data:= .seq #[] }).DictAt knd d ps ep:=hm.at' fun o e=>Heap.get?_push_of_some _ e;have hdS:s.heap.objs.size≠d:=fun z=>by
  obtain⟨o,_,ho,_⟩:=hm;have:=Heap.lt_size ho;rw[←z]at this;exact Nat.lt_irrefl _ this
 refine⟨⟨_,hS,rfl⟩,F.args_list_init_2 _ _,?_⟩;show wpAny _ A.in1.in1 (Builtin.List.listItems (.ref s.heap.objs.size) >>= fun old=>Builtin.List.listUpdate (.ref s.heap.objs.size) (fun _=> #[]) >>= fun _=>letGo old.toList.reverse >>= fun _=>Builtin.List.listExtendWith (.ref s.heap.objs.size) (.ref d) .none) _ _ _;refine wpAny_bind ?_;unfold Builtin.List.listItems;refine wpAny_bind (wpAny_seqItems hS rfl (wpAny_pure ?_));show wpAny _ A.in1.in1 (updateSeq s.heap.objs.size (fun _=> #[]) >>= fun _=>letGo (#[]:Array Value).toList.reverse >>= fun _=>Builtin.List.listExtendWith (.ref s.heap.objs.size) (.ref d) .none) _ _ _;have u1:=Heap.get?_update_self (Obj.mapSeq (fun _=>(#[]:Array Value))) hS rfl;have kp:∀b o,b≠s.heap.objs.size->(s.heap.push { cls:= .type "list",data:= .seq #[] }).get? b=some o->((s.heap.push { cls:= .type "list",data:= .seq #[] }).update s.heap.objs.size (Obj.mapSeq (fun _=>(#[]:Array Value)))).get? b=some o:=fun b o hb e=>(Heap.get?_update_other _ _ (Ne.symm hb)).trans e;refine wpAny_bind (wpAny_updateSeq hS rfl (wpAny_bind (wpAny_letGo ?_)));refine HK (A:=A.in1) hh (hm1.at' fun o e=>kp d o (Ne.symm hdS) e) hd0 _ hdS _ u1 hn fun h' tk acc c kk hS' hacc=> ?_;exact⟨rfl,k h' tk acc c (fun b o e=>kk b o (Nat.ne_of_lt (Heap.lt_size e)) (kp b o (Nat.ne_of_lt (Heap.lt_size e)) (Heap.get?_push_of_some _ e))) hS' hacc⟩
end
section
variable {X:Cx}
def OB:List V->Hp->VK->Prop:=fun xs H Q=>∃p kvs,xs=[.ref p]/\Rd H p (.dK kvs)/\∀l,H l=none->Q (.ref l) (upd H l (.lst (kvs.map fun e=>kV e.1)))
theorem CY {P:Program}{w:World}{kvs:List (Key×V)}{rs:List (Key×Value)} (r:KV kvs rs) {acc:Array Value} (h:ItemsOf (fun i v=>∃k x,rs[i]? =some (k,x)/\(bV P w).is k v=true) acc rs.length):Vals (kvs.map fun e=>kV e.1) acc.toList:=by
 have e0:acc.toList.length=rs.length:=by rw[Array.length_toList];exact h.1
 refine F0 (by rw[List.length_map,e0];exact r.length) fun i x u h1 h2=> ?_;obtain⟨k,y,e1,e2⟩:=h.2 i u (by simpa using h2);rw[List.getElem?_map]at h1;obtain⟨e,he,rfl⟩:=Option.map_eq_some_iff.mp h1;have hi:i<kvs.length:=(List.getElem?_eq_some_iff.mp he).1;obtain⟨k',v',u',f1,f2,f3⟩:=E6 r hi;rw[he]at f1;cases f1;rw[e1]at f2;cases f2;exact IX e2
theorem yJ (hc:X.calm=true):dL X (.type "list") OB:=by
 intro pins s σ H xs us Q I r h;obtain⟨p,kvs,rfl,hq,q⟩:=h;obtain⟨u,rfl,rx⟩:=kN r;cases rx;obtain⟨z,y,rs,kv,o,es,ep,h1,h2,h3,h4,h5,h6⟩:=mI I.hok hq;have hl:=kv.length;refine N5 (knd:=bV X.prog X.w) (ps:=rs) (ep:=ep) (I.ok.hd hc) ⟨o,es,h1,h2,h3,h4,h5,h6⟩ y (by lia) fun h' tk acc c kp hS hacc=> ?_;exact⟨.ref _,_,I.laid (t':=tk) kp (Nat.le_refl _) (show ObjOk X.prog X.w _ h' _ (.lst (kvs.map fun e=>kV e.1)) from⟨by rw[List.length_map];exact z,acc.toList,c,CY kv hacc,by rw[Array.toArray_toList];exact hS⟩),rfl,q _ (I.hok.fresh (Nat.le_refl _))⟩
end
end L2
namespace L2
open PySem PySem.W PyProof.Rows
def v7 (v d:Addr):HO:= .ext fun h=>h.IsValuesView v d
def KN (Q:VK):VK:=fun x H1=>∃a kvs,x= .ref a/\Rd H1 a (.dK kvs)/\∀v,H1 v=none->Q (.ref v) (upd H1 v (v7 v a))
def TV (td:TE):TE:=fun σ H Q=>td σ H (KN Q)
section
variable {X:Cx}
theorem JU {l:Expr}{td:TE}{apos cpos:Pos} (hl:PE X l td) (hbase:attributeBase l "values" X.env (eval l X.env)=eval l X.env:=by rfl) (hline:(apos.endLine==cpos.line)=true:=by rfl) :
  PE X (.Call (.Attribute l "values" apos) [] [] cpos) (TV td):=by
 intro pins s σ H Q I h;refine wpAny_Call_method0_late hbase hline (thn (hl pins s σ H _ I h) fun v s1 ⟨x,H1,I1,r1,q1⟩=> ?_);obtain⟨a,kvs,rfl,hq,q⟩:=q1;cases r1;obtain⟨t1,t2,_⟩:=EK I1 (.inl ⟨kvs,hq⟩);refine⟨"dict","dict.values",F.plainAttrs_dict,F.slot_dict_values,F.type_dict_values,t1,t2,Calls.callWith_builtin rfl (PySem.evalArgs_none ?_)⟩;obtain⟨z,y,vs,r,o,es,ep,h1,h2,h3,h4,h5,h6⟩:=mI I1.hok hq;refine call_meetsIn F.slot_dict_values t1 F.entry_dict_values (F.args_dict_values_1 _) (meets_dict_values (bV X.prog X.w) a y) ⟨⟨vs,o,es,ep,h1,h2,h3,h4,h5,h6⟩,?_⟩;have hv:(s1.heap.push { cls:= .type "dict_values",data:= .fields #[.ref a] }).IsValuesView s1.heap.objs.size a:=⟨_,Heap.get?_push_size _ rfl,rfl,rfl⟩
 refine⟨.ref s1.heap.objs.size,_,I1.laid (t':=s1.toks) (fun b u e=>Heap.get?_push_of_some _ e) (Nat.le_refl _) (show ObjOk X.prog X.w _ _ _ (v7 s1.heap.objs.size a) from⟨hv,⟨_,Heap.get?_push_size _ rfl⟩,fun g1 g2 p k=> ?_⟩),rfl,q _ (I1.hok.fresh (Nat.le_refl _))⟩;obtain⟨o,e,c⟩:=p;exact⟨o,k o e,c⟩
theorem FO (ns:List Int):∀j,j<=ns.length->preSum (fun i=>ns.getD i 0) j=(ns.take j).sum
 | 0,_=>by simp[preSum]
 | j+1,h=>by
  rw[preSum,FO ns j (by lia),List.take_succ,List.getElem?_eq_getElem (by lia),List.sum_append];rw[List.getD_eq_getElem?_getD,List.getElem?_eq_getElem (by lia)];simp
theorem W5 (ns:List Int):preSum (fun i=>ns.getD i 0) ns.length=ns.sum:=by rw[FO ns _ (Nat.le_refl _),List.take_length]
def UJ:List V->Hp->VK->Prop:=fun xs H Q=>∃(v d:Addr) (kvs:List (Key×V)) (ns:List Int),xs=[.ref v]/\H v=some (v7 v d)/\Rd H d (.dK kvs)/\kvs.map (·.2)=ns.map V.int/\Q (.int ns.sum) H
theorem O2 (hc:X.calm=true):dL X (.builtin "sum") UJ:=by
 intro pins s σ H xs us Q I r h;obtain⟨v,d,kvs,ns,rfl,hv,hq,hns,q⟩:=h;obtain⟨u,rfl,rx⟩:=kN r;cases rx;obtain⟨hview,_,_⟩:=(show ObjOk X.prog X.w H s.heap v (v7 v d) from I.hok v _ hv)
 have hview:s.heap.IsValuesView v d:=hview;obtain⟨z,y,rs,kv,o,es,ep,h1,h2,h3,h4,h5,h6⟩:=mI I.hok hq;have hl:=kv.length;have hln:kvs.length=ns.length:=by have:=congrArg List.length hns;rwa [List.length_map,List.length_map]at this
 have ld:d<s.heap.objs.size:=Heap.lt_size h1;have hm:s.heap.DictAt (bV X.prog X.w) d rs ep:=⟨o,es,h1,h2,h3,h4,h5,h6⟩
 refine call_sum_walkG (wpAny_pyIter_values hview hm ?_);refine⟨s.heap.objs.size,_,_,rs.length,_,_,fun i=>ns.getD i 0,rfl,Walks.dictValues (knd:=bV X.prog X.w) (show X.A.in1.handled=none from I.ok.hd hc) s.heap.objs.size d (Nat.ne_of_lt ld) rs ep,⟨⟨_,Heap.get?_push_size _ rfl,rfl,rfl⟩,hm.at' fun o e=>Heap.get?_push_of_some _ e⟩,?_,?_,?_⟩
 ·intro b hb;simp only[List.mem_cons,List.not_mem_nil,or_false]at hb;have hsz:(s.heap.push { cls:= .type "dict_valueiterator",data:= .fields #[.ref d,.int 0 0,.int rs.length 0,.int ep 0] }).objs.size=s.heap.objs.size+1:=by simp[Heap.push]
  rcases hb with rfl|rfl
  ·show s.heap.objs.size<_;rw[hsz];exact Nat.lt_succ_self _
  ·show b<_;rw[hsz];exact Nat.lt_succ_of_lt ld
 ·rintro i u ⟨kk,hk⟩;have hi:i<kvs.length:=by rw[hl];exact(List.getElem?_eq_some_iff.mp hk).1
  obtain⟨k',v',u',f1,f2,f3⟩:=E6 kv hi;rw[hk]at f2;cases f2;have e1:(kvs.map (·.2))[i]? =some v':=by rw[List.getElem?_map,f1];rfl
  rw[hns,List.getElem?_map]at e1;obtain⟨n,hn,rfl⟩:=Option.map_eq_some_iff.mp e1;obtain⟨t,rfl⟩:=f3;refine⟨t,?_⟩;show Value.int n t=Value.int (ns.getD i 0) t;rw[List.getD_eq_getElem?_getD,hn];rfl
 ·intro h' tk t' hk;have e2:preSum (fun i=>ns.getD i 0) rs.length=ns.sum:=by
   rw[←hl,hln];exact W5 ns
  rw[e2];have I1:Inv X pins σ H { s with heap:=s.heap.push { cls:= .type "dict_valueiterator",data:= .fields #[.ref d,.int 0 0,.int rs.length 0,.int ep 0] },toks:=s.toks }:=I.kept fun b u e=>Heap.get?_push_of_some _ e;obtain⟨f0,f1,f2,f3,f4,f5⟩:=I.fpOk (Nat.le_refl _) (I.hok.fresh (Nat.le_refl _));exact⟨.int ns.sum,H,I1.turned (fun b o hb e=>hk b o (by simpa using hb) e) f0 f1 f3 f4 f5,⟨t',rfl⟩,q⟩
end
end L2
namespace L2
open PySem PySem.W PyProof.Rows
section
variable {X:Cx}{pins:List (Addr×Obj)}{σ:St}{H:Hp}{s:Shared}{h':Heap}
end
section
variable {X:Cx}
end
end L2
namespace L2
open PySem PySem.W PyProof.Rows
def Z6 (σ:St)(tv:TE)(rd:V->V->Hp->VK->Prop)(nx:St->Hp->Prop)(x:V):VK:=fun y H2=>∃a v,x= .ref a/\DGet H2 a y (some v)/\tv σ H2 fun y2 H3=>rd v y2 H3 fun z H4=>∃H5,DPut H4 a y z H5/\nx σ H5
def Z2 (σ:St)(p:Addr)(k:V)(nx:St->Hp->Prop):VK:=fun z H4=>∃H5,DPut H4 p k z H5/\nx σ H5
section
variable {K:PySem.W.Frag}{H:Hp}{Q:VK}{σ:St}{nx:St->Hp->Prop}{td ty tv:TE}{rd:V->V->Hp->VK->Prop}{rt:VK}{bk ct:St->Hp->Prop}{R:It->Hp->Prop}
theorem WK (h:td σ H fun x H1=>ty σ H1 (Z6 σ tv rd nx x)):TF td ty tv rd ⟨nx,rt,bk,ct⟩ σ H:=h
theorem RK {p:Addr}{z:Str}{kvs:List (Key×V)}{v:V} (e:Rd H p (.dK kvs)) (hv:aY kvs (.inr z)=some v) (h:tv σ H fun y2 H3=>rd v y2 H3 (Z2 σ p (.str z) nx)):Z6 σ tv rd nx (.ref p) (.str z) H:=⟨p,v,rfl,.inl ⟨kvs,.inr z,e,rfl,hv.symm⟩,h⟩
theorem WL {p:Addr}{z:Str}{kvs:List (Key×V)}{v:V} (e:H p=some (.dK kvs)) (hl:kvs.length<sizeLine) (h:∀H',SameBut p H H'->H' p=some (.dK (b9 kvs (.inr z) v))->nx σ H'):Z2 σ p (.str z) nx v H:=⟨_,DPut.k (k:= .inr z) e hl,h _ SameBut.upd bM⟩
theorem FM {p:Addr}{kvs:List (Key×V)} (e:Rd H p (.dK kvs)) (h:∀l H',H l=none->Same H H'->H' l=some (.lst (kvs.map fun e=>kV e.1))->Q (.ref l) H'):OB [.ref p] H Q:=⟨p,kvs,rfl,e,fB h⟩
theorem NM {l b:Addr}{xs zs:List V} (e:H l=some (.lst xs)) (e2:H b=some (.lst zs)) (hz:xs.length+zs.length<=sizeLine) (h:∀H',SameBut l H H'->H' l=some (.lst (xs++zs))->Q .non H'):IK (.ref l) [.ref b] H Q:=⟨l,b,xs,zs,rfl,rfl,e,e2,hz,h _ SameBut.upd bM⟩
theorem WE (h:td σ H (KN Q)):TV td σ H Q:=h
theorem R7 {a:Addr}{kvs:List (Key×V)} (e:Rd H a (.dK kvs)) (h:∀v H',H v=none->Same H H'->H' v=some (v7 v a)->Q (.ref v) H'):KN Q (.ref a) H :=
 ⟨a,kvs,rfl,e,fun v hv=>h v _ hv (D5 hv) bM⟩
theorem WU {v d:Addr}{kvs:List (Key×V)}{ns:List Int} (e:H v=some (v7 v d)) (e2:Rd H d (.dK kvs)) (hn:kvs.map (·.2)=ns.map V.int) (h:Q (.int ns.sum) H):UJ [.ref v] H Q:=⟨v,d,kvs,ns,rfl,e,e2,hn,h⟩
end
def cG (ps:List (Str×Int))(z:Str):Int:=((ps.filter fun p=>decide (p.1=z)).map (·.2)).sum
theorem NH (ps:List (Str×Int))(p:Str×Int)(z:Str):cG (ps++[p]) z=cG ps z+if p.1=z then p.2 else 0:=by
 unfold cG;rw[List.filter_append,List.map_append,List.sum_append]
 congr 1
 by_cases h:p.1=z
 ·rw[if_pos h];simp[h]
 ·rw[if_neg h];simp[h]
end L2
namespace L2
open PySem PySem.W PyProof.Rows
theorem OM {te:TE}{σ:St}{ci:List Nat}{rest:St}{fin:List V->Hp->Prop}{H:Hp}{lo:Int}{n:Nat} (P:Nat->V->Hp->Prop) (hm:∀x y H1 H2,P x y H1->Same H1 H2->P x y H2) (hn:n<=sizeLine) (hr:ci.map (fun i=>(σ[i]?).join)=rest)
  (he:∀(i:Nat) H1,i<n->Same H H1->∀R:VK,(∀y H2,P i y H2->Same H1 H2->R y H2)->te (some (.int (lo+i))::rest) H1 R)
  (hf:∀ys H1,Same H H1->Paired (fun x y=>P x y H1) (List.range n) ys->fin ys H1):eU (Itr lo n) (cM 0) xO te (bY 1 ci σ) fin H:=by
 rw[yC hr];refine j5 (List.range n) (fun _=>true) P hm (by rw[List.length_range];exact hn) (fun i H1 s hi=>by rw[List.length_range]at hi;exact hi) (fun H1 s=>by rw[List.length_range];exact Nat.le_refl _) (fun i x H1 hx s1 v H' y=> ?_) (fun ys H1 s1 h=>hf ys H1 s1 (by rw[jZ]at h;exact h));obtain⟨rfl,rfl⟩:=y;obtain⟨hi,e⟩:=List.getElem?_eq_some_iff.mp hx;rw[List.length_range]at hi;rw[List.getElem_range]at e;subst e;refine⟨Same.refl _,some (.int (lo+(i:Nat)))::rest,rfl,fun j v hv=> ?_,fun R h=>h,fun R h=>h _ (Same.refl _),fun hc H2 s2 R h=>he i H2 hi (s1.trans s2) R h⟩;cases j with
 | zero=>cases hv
 | succ j=>exact hv
end L2
namespace L2
open PySem PySem.W PyProof.Rows PySem.Calls
section
variable {prog:Program}{w:World}{A:Around}{E:Value->Shared->Prop}{s:Shared}{d v:Addr}{o:Obj}{es:Array DictEntry}{ep:Nat}
end
section
variable {X:Cx}
theorem FU {K:PySem.W.Frag}(h:X.K=K:=by rfl):IxR X (F7 K):=by subst h;exact cZ
end
section
variable {K:PySem.W.Frag}{H:Hp}{Q:VK}{σ:St}{td:TE}
end
end L2
namespace L2
open PySem PySem.W PyProof.Rows
section
variable {X:Cx}
end
def aAK (K:PySem.W.Frag):R2:=fun x y H Q=>∃a b xs,x= .ref a/\y= .ref b/\SqL K H a xs/\SqL K H b []/\Q (.bl xs.isEmpty) H
theorem YI {X:Cx}(hu:X.A.units<cLine):OpR X (compareOp .Eq) (aAK X.K):=by
 intro pins s σ H x y v u Q I rx ry h;obtain⟨a,b,xs,rfl,rfl,ha,hb,q⟩:=h;cases rx;cases ry;obtain⟨its,r,pl,hz⟩:=I.list ha;obtain⟨its2,r2,pl2,_⟩:=I.list hb;cases r2;cases xs with
 | nil=>cases r;exact SeqAt.RcAt.lists (e:=fun _=>true) pl.isList pl2.isList rfl hu (fun j h1=>absurd h1 (Nat.not_lt_zero _)) X.prog X.w X.xe _ ⟨.bl true,H,I,rfl,q⟩
 | cons x xs=>cases r with|cons r1 r2=>exact SeqAt.RcAt.lists_lengths pl.isList pl2.isList (by simp) hu X.prog X.w X.xe _ ⟨.bl false,H,I,rfl,q⟩
theorem aAf {K:PySem.W.Frag}{H:Hp}{Q:VK}{a b:Addr}{xs:List V} (ha:SqL K H a xs) (hb:SqL K H b []) (h:Q (.bl xs.isEmpty) H):aAK K (.ref a) (.ref b) H Q:=⟨a,b,xs,rfl,rfl,ha,hb,h⟩
section
variable {X:Cx}{P:Program}{w:World}{K:PySem.W.Frag}{mg:Str->Option Value}{base:Heap}{k':Nat}{o e:Expr}{es:List Expr}{m:Str}{ta:TE}{t:TA}{apos pos:Pos}
theorem GA (k:Nat){pl:Sem Bool}(hr:Room k' X.A)(ho:PE X o ta)(ha:PA X (e::es) t)(hk:k<=k':=by decide)(hst:starEach (e::es) X.env=(false,eval e X.env)::starEach es X.env:=by rfl)(hpl:(backTo pos (starEach es X.env)).any (·.1)=false:=by rfl)
  (ht:eval (.Call (.Attribute o m apos) (e::es) [] pos) X.env=(do let ov ←eval o X.env;standAt apos.atName;let (f,first) ←holding [ov] (getMethod ov m pl);callWith pos f first (backTo pos (starEach (e::es) X.env)) (backToKw pos (keywordEach [] X.env))):=by rfl)
  (h1:X.prog=P:=by rfl)(h2:X.w=w:=by rfl)(h3:X.K=K:=by rfl)(h4:X.mg=mg:=by rfl)(h5:X.base=base:=by rfl):PE X (.Call (.Attribute o m apos) (e::es) [] pos) (tMD (fun C sp=>Mc P w K mg base C m k sp) m ta t):=by
 subst h1 h2 h3 h4 h5;exact gE k hr ho ha hk hst hpl ht
theorem VS (k:Nat){pl:Sem Bool}(hr:Room k' X.A)(ho:PE X o ta)(hk:k<=k':=by decide)
  (ht:eval (.Call (.Attribute o m apos) [] [] pos) X.env=(do let ov ←eval o X.env;standAt apos.atName;let (f,first) ←holding [ov] (getMethod ov m pl);callWith pos f first (backTo pos (starEach [] X.env)) (backToKw pos (keywordEach [] X.env))):=by rfl)
  (h1:X.prog=P:=by rfl)(h2:X.w=w:=by rfl)(h3:X.K=K:=by rfl)(h4:X.mg=mg:=by rfl)(h5:X.base=base:=by rfl):PE X (.Call (.Attribute o m apos) [] [] pos) (tMD (fun C sp=>Mc P w K mg base C m k sp) m ta LM):=by
 subst h1 h2 h3 h4 h5;exact fV k hr ho hk ht
end
end L2
namespace L2
open PySem PySem.W PyProof.Rows
theorem Room.units9 {k:Nat}{A:Around} (r:Room k A):A.units+9<cLine:=by have:=r.un;have:cLine=9900:=rfl;lia
section
variable {X:Cx}{pins:List (Addr×Obj)}{σ:St}{H:Hp}{s:Shared}
end
section
variable {X:Cx}
end
section
variable {K:PySem.W.Frag}{H H':Hp}{Q:VK}
end
section
variable {H:Hp}{Q:VK}{σ:St}{ty tx:TE}
end
end L2
namespace L2
open PySem PySem.W PyProof.Rows
section
variable {H:Hp}{Q:VK}
end
end L2
namespace L2
open PySem PySem.Spec PyProof.Rows
section
variable {X:Cx}{args:Arguments}{body:Expr}{lsc:Scope}{pos:Pos}{y:Str}{c cL PL:Addr}
end
section
variable {K:PySem.W.Frag}{ti:TT}{te:TE}{σ:St}{ci:List Nat}{rest:St}{fin:List V->Hp->Prop}{H:Hp}{a:Addr}{α:Type}
end
end L2
namespace L2
open PySem PySem.W PyProof.Rows
theorem aAi {A:Around}{s:Shared}{a b:Key}{u v:Value} (ru:RelV (kV a) u) (rv:RelV (kV b) v):SeqAt.EqAt A s u v (decide (a=b)):=by
 cases a with
 | inl i =>
  cases b with
  | inl j =>
   obtain⟨t,rfl⟩:=ru;obtain⟨t',rfl⟩:=rv;have e:decide ((Sum.inl i:Key)=Sum.inl j)=(i==j):=by rw[Bool.eq_iff_iff];simp
   rw[e];exact SeqAt.EqAt.int_int _ _ _ _
  | inr j =>
   obtain⟨t,rfl⟩:=ru;obtain⟨t',rfl⟩:=rv;rw[decide_eq_false (fun h=>nomatch h)];exact SeqAt.EqAt.int_str _ _ _ _
 | inr i =>
  cases b with
  | inl j =>
   obtain⟨t,rfl⟩:=ru;obtain⟨t',rfl⟩:=rv;rw[decide_eq_false (fun h=>nomatch h)];exact SeqAt.EqAt.str_int _ _ _ _
  | inr j =>
   obtain⟨t,rfl⟩:=ru;obtain⟨t',rfl⟩:=rv;have e:decide ((Sum.inr i:Key)=Sum.inr j)=(i==j):=by rw[Bool.eq_iff_iff];simp
   rw[e];exact SeqAt.EqAt.str_str _ _ _ _
theorem BS {r:List Key}{us:List Value} (h:Vals (r.map kV) us) {j:Nat} (hj:j<us.length):∃k,r[j]? =some k/\RelV (kV k) us[j]:=by
 have hl:=h.length;rw[List.length_map]at hl;have hx:(r.map kV)[j]? =some (kV (r[j]'(by lia))):=by rw[List.getElem?_map,List.getElem?_eq_getElem (by lia)];rfl
 obtain⟨u,e,ru⟩:=h.get hx;have:us[j]=u:=by simpa using (List.getElem?_eq_some_iff.mp e).2
 exact⟨_,List.getElem?_eq_getElem (by lia),this▸ru⟩
theorem QM {r r2:List Key}:((List.range (min r.length r2.length)).all (fun j=>decide (r[j]? =r2[j]?))&&r.length==r2.length)=decide (r=r2):=by
 rw[Bool.eq_iff_iff,Bool.and_eq_true,decide_eq_true_eq,List.all_eq_true,beq_iff_eq]
 constructor
 ·rintro ⟨h1,h2⟩
  apply List.ext_getElem?
  intro i
  by_cases hi:i<r.length
  ·have:=h1 i (List.mem_range.mpr (by lia))
   simpa using this
  ·rw[List.getElem?_eq_none (by lia),List.getElem?_eq_none (by lia)]
 ·rintro rfl;exact⟨fun x _=>by simp,rfl⟩
section
variable {X:Cx}{pins:List (Addr×Obj)}{σ:St}{H:Hp}{s:Shared}
theorem UU {A:Around}(I:Inv X pins σ H s)(hu:A.units<cLine){p q:Addr}{r r2:List Key} (e:H p=some (.tup (r.map kV))) (e2:H q=some (.tup (r2.map kV))):SeqAt.EqAt A s (.ref p) (.ref q) (decide (r=r2)):=by
 by_cases hpq:p=q
 ·subst hpq;rw[e]at e2;have h:r=r2:=vZ (by injection e2 with h;injection h);rw[decide_eq_true h];exact SeqAt.EqAt.same _
 ·obtain⟨o1,us1,n1,g1,c1,d1,l1⟩:=rN I e;obtain⟨o2,us2,n2,g2,c2,d2,l2⟩:=rN I e2;have hl1:=l1.length;have hl2:=l2.length;rw[List.length_map]at hl1 hl2;have:=SeqAt.EqAt.of_refs hpq (SeqAt.RcAt.tuples (A:=A) (s:=s) (e:=fun j=>decide (r[j]? =r2[j]?)) ⟨o1,g1,c1,n1,d1⟩ ⟨o2,g2,c2,n2,d2⟩ hu fun j h1 h2=>by
   have h1':j<us1.length:=by simpa using h1
   have h2':j<us2.length:=by simpa using h2
   obtain⟨k1,x1,y1⟩:=BS l1 h1';obtain⟨k2,x2,y2⟩:=BS l2 h2';rw[x1,x2];have:=aAi (A:=A.in1) (s:=s) y1 y2;have e3:decide (some k1=some k2)=decide (k1=k2):=by rw[Bool.eq_iff_iff];simp
   rw[e3]
   simpa using this)
  rw[List.size_toArray,List.size_toArray,←hl1,←hl2,QM]at this;exact this
end
open Classical in
theorem BP {H:Hp}{r:List Key}:∀{xs:List V}{rs:List (List Key)}{us:List Value},KRows H xs rs->Vals xs us->us.any (fun w=>match w with| .ref q=>decide (H q=some (.tup (r.map kV)))|_=>false)=decide (r∈rs)
 | _,_,_,.nil,.nil=>by simp
 | _,_,_,.cons ⟨q,h1,h2⟩ t,.cons r1 r2=>by
  subst h1;cases r1;rw[List.any_cons,BP t r2];show (decide (H q=some (.tup (r.map kV)))||_)=_;rw[h2,Bool.eq_iff_iff,Bool.or_eq_true,decide_eq_true_eq,decide_eq_true_eq,decide_eq_true_eq,List.mem_cons]
  constructor
  ·rintro (h|h)
   ·exact .inl (vZ (by injection h with h;injection h)).symm
   ·exact .inr h
  ·rintro (h|h)
   ·exact .inl (by rw[h])
   ·exact .inr h
theorem EU {H:Hp}{u:Value}:∀{xs:List V}{rs:List (List Key)}{us:List Value},KRows H xs rs->Vals xs us->u∈us->∃(q:Addr) (r:List Key),u= .ref q/\H q=some (.tup (r.map kV))
 | _,_,_,.cons ⟨q,h1,h2⟩ t,.cons r1 r2,hm=>by
  subst h1;cases r1;rcases List.mem_cons.mp hm with rfl|hm
  ·exact⟨q,_,rfl,h2⟩
  ·exact EU t r2 hm
 | _,_,_,.nil,.nil,hm=>nomatch hm
def aAw (K:PySem.W.Frag):R2:=fun x y H Q=>∃(p b:Addr) (r:List Key) (xs:List V) (rs:List (List Key)) (c:Bool),x= .ref p/\H p=some (.tup (r.map kV))/\y= .ref b/\SqL K H b xs/\KRows H xs rs/\(c=true↔r∈rs)/\Q (.bl c) H
section
variable {X:Cx}{K:PySem.W.Frag}
open Classical in
theorem W4 {pins:List (Addr×Obj)}{σ:St}{H:Hp}{s:Shared} (I:Inv X pins σ H s) (hu:X.A.units+1<cLine) {p:Addr}{r:List Key}{xs:List V}{rs:List (List Key)}{its:List Value} (hp:H p=some (.tup (r.map kV))) (k:KRows H xs rs) (rv:Vals xs its) :
  ∀y,y∈its.toArray->SeqAt.EqAt X.A.in1 s y (.ref p) ((fun w:Value=>match w with| .ref q=>decide (H q=some (.tup (r.map kV)))|_=>false) y):=fun y hy=>by
 obtain⟨q,r',rfl,hq⟩:=EU k rv (by simpa using hy);have:=UU (A:=X.A.in1) I hu hq hp;have e:decide (H q=some (.tup (r.map kV)))=decide (r'=r):=by
  rw[hq,Bool.eq_iff_iff,decide_eq_true_eq,decide_eq_true_eq];exact⟨fun h=>vZ (by injection h with h;injection h),fun h=>by rw[h]⟩
 show SeqAt.EqAt X.A.in1 s (.ref q) (.ref p) (decide (H q=some (.tup (r.map kV))));rw[e];exact this
open Classical in
theorem X5 (hu:X.A.units+1<cLine)(hK:X.K=K:=by rfl):OpR X (compareOp .In) (aAw K):=by
 subst hK;intro pins s σ H x y v u Q I rx ry h;obtain⟨p,b,r,xs,rs,c,rfl,hp,rfl,hq,kr,hc,q⟩:=h;cases rx;cases ry;obtain⟨its,rv,pl,hz⟩:=I.list hq;refine SeqAt.in_listAt _ pl.isList (W4 I hu hp kr rv) ⟨.bl c,H,I,?_,q⟩;rw[List.any_toArray,BP kr rv,show decide (r∈rs)=c from by rw[Bool.eq_iff_iff,decide_eq_true_eq];exact hc.symm];rfl
open Classical in
theorem ZK {H:Hp}{Q:VK}{p b:Addr}{xs:List V}{rs:List (List Key)} (r:List Key) (c:Bool) (hp:H p=some (.tup (r.map kV))) (e:SqL K H b xs) (kr:KRows H xs rs) (hc:c=true↔r∈rs) (h:Q (.bl c) H):aAw K (.ref p) (.ref b) H Q:=⟨p,b,r,xs,rs,c,rfl,hp,rfl,e,kr,hc,h⟩
end
end L2
namespace L2
open PySem PySem.W PyProof.Rows
section
variable {K:PySem.W.Frag}{ti:TT}{te:TE}{σ:St}{ci:List Nat}{rest:St}{fin:List V->Hp->Prop}{H:Hp}{a:Addr}
theorem YW {kvs:List (List Key×V)}{o:Obj} (c:List Key×V->Bool) (P:List Key×V->V->Hp->Prop) (hm:∀x y H1 H2,P x y H1->Same H1 H2->P x y H2) (hk:∀e∈kvs,e.1.length=2) (hn:kvs.length<=sizeLine) (hr:ci.map (fun i=>(σ[i]?).join)=rest) (h0:H a=some (.frz o (.dT kvs)))
  (ht:∀k1 k2 v H1,([k1,k2],v)∈kvs->Same H H1->∀R:Bool->Hp->Prop,(∀H2,Same H1 H2->R (c ([k1,k2],v)) H2)->ti (some (kV k1)::some (kV k2)::rest) H1 R)
  (he:∀k1 k2 v H1,([k1,k2],v)∈kvs->c ([k1,k2],v)=true->Same H H1->∀R:VK,(∀y H2,P ([k1,k2],v) y H2->Same H1 H2->R y H2)->te (some (kV k1)::some (kV k2)::rest) H1 R)
  (hf:∀ys H1,Same H H1->Paired (fun x y=>P x y H1) (kvs.filter c) ys->fin ys H1):eU (Itq a o kvs) (xD K 2 (kO (cM 0) (kO (cM 1) zW))) ti te (bY 2 ci σ) fin H:=by
 have e0:bY 2 ci σ=none::none::rest:=LV hr;rw[e0];refine j5 kvs c P hm hn (fun i H1 s hi=>⟨s _ _ h0,hi⟩) (fun H1 s=>⟨s _ _ h0,Nat.le_refl _⟩) (fun i x H1 hx s1 v H' y=> ?_) hf;obtain⟨rfl,k,u,q,e2,rfl,hq⟩:=y;rw[hx]at e2;cases e2;have hmem:=List.mem_of_getElem? hx;have hl2:=hk _ hmem;obtain⟨k1,k2,rfl⟩:∃k1 k2,k=[k1,k2]:=by
  match k,hl2 with
  | [k1,k2],_=>exact⟨k1,k2,rfl⟩
 refine⟨Same.refl _,some (kV k1)::some (kV k2)::rest,rfl,fun j v hv=> ?_,fun R h=>⟨q,[kV k1,kV k2],rfl,.inl (.inl hq),rfl,kV k1,[kV k2],rfl,kV k2,[],rfl,rfl,h⟩,fun R h=>ht _ _ _ _ hmem s1 R h,fun hc H2 s2 R h=>he _ _ _ H2 hmem hc (s1.trans s2) R h⟩
 match j,hv with
 | 0,hv=>cases hv
 | 1,hv=>cases hv
 | j+2,hv=>exact hv
end
end L2
namespace L2
open PySem PySem.W PyProof.Rows
section
variable {X:Cx}
end
end L2
namespace L2
open PySem PySem.W PyProof.Rows
section
variable {X:Cx}{ek ev:Expr}{tk tv:TE}{pos:Pos}
end
end L2
namespace L2
open PySem PySem.W PyProof.Rows
section
variable {K:Frag}{x qual:Str}{st:Stmt}{f:Addr}
end
end L2
namespace L2
open PySem PySem.W PyProof.Rows
def rnk (ρ:Keyed->Int)(a:Array Keyed)(i:Nat):Int:=ρ (a.getD i (.none,.none))
def Up (ρ:Keyed->Int)(a:Array Keyed)(lo hi:Nat):Prop:=∀i j,lo<=i->i<j->j<hi->rnk ρ a i<rnk ρ a j
structure mX (prog:Program)(w:World)(A:Around)(E:Value->Shared->Prop)(s:Shared)(κ:SortKind)(D:Keyed->Prop)(ρ:Keyed->Int):Prop where
 lt:∀{x y:Keyed}{st:SortSt}{Q:Option Bool->SortSt->Prop},D x->D y->kindOf st=κ->Q (some (decide (ρ x<ρ y))) st->wpS (model prog w) A E s (lt' x y) Q st
def IF:Bool->Keyed->Array Keyed->Nat->Nat->Nat->StateT SortSt Sem (Option Nat):=sortPriv% PySem.Builtin.gallop
section
variable {prog:Program}{w:World}{A:Around}{E:Value->Shared->Prop}{s:Shared}{κ:SortKind}{D:Keyed->Prop}{ρ:Keyed->Int}{st:SortSt}
theorem aS {a:Array Keyed}{i:Nat}{Q:Keyed->SortSt->Prop} (hi:i<a.size) (h:Q (a.getD i (.none,.none)) st):wpS (model prog w) A E s (elem' a i) Q st:=by
 rw[elem'_eq];have e:a[i]? =some (a.getD i (.none,.none)):=by simp[Array.getD,hi]
 rw[e];exact wpS_pure h
theorem aQ {a:Array Keyed}{i:Nat} (hi:i<a.size):a.getD i (.none,.none)∈a.toList:=by simp[Array.getD,hi]
def bey (ρ:Keyed->Int)(left:Bool)(key:Keyed)(arr:Array Keyed)(i:Nat):Bool:=if left=true then decide (rnk ρ arr i<ρ key) else !decide (ρ key<rnk ρ arr i)
theorem ZT (C:mX prog w A E s κ D ρ)(hk:kindOf st=κ){left:Bool}{key:Keyed}{arr:Array Keyed}{i:Nat} (hD:D key) (hA:∀x∈arr.toList,D x) (hi:i<arr.size) {Q:Option Bool->SortSt->Prop} (h:Q (some (bey ρ left key arr i)) st) :
  wpS (model prog w) A E s (do let x ←elem' arr i;if left=true then lt' x key else do let r ←lt' key x;pure (Option.map (fun x=> !x) r)) Q st:=by
 refine wpS_bind (aS hi ?_);have hx:=hA _ (aQ hi);unfold bey at h;cases left with
 | true =>
  rw[if_pos rfl]at h ⊢;exact C.lt hx hD hk h
 | false =>
  rw[if_neg Bool.false_ne_true]at h ⊢;exact wpS_bind (C.lt hD hx hk (wpS_pure h))
theorem PX {left:Bool}{key:Keyed}{arr:Array Keyed}{lo hi i j:Nat} (up:Up ρ arr lo hi) (h0:lo<=i) (hij:i<=j) (hj:j<hi) (h:bey ρ left key arr j=true):bey ρ left key arr i=true:=by
 rcases Nat.lt_or_ge i j with hlt|hge
 ·have:=up i j h0 hlt hj;unfold bey at h ⊢;cases left with
  | true =>
   rw[if_pos rfl]at h ⊢;have:=of_decide_eq_true h;exact decide_eq_true (by lia)
  | false =>
   rw[if_neg Bool.false_ne_true]at h ⊢;simp only[Bool.not_eq_true',decide_eq_false_iff_not]at h ⊢
   lia
 ·have:i=j:=by lia
  rw[this];exact h
theorem cY (C:mX prog w A E s κ D ρ)(hk:kindOf st=κ){left:Bool}{key:Keyed}{arr:Array Keyed}{base n hint:Nat} (hD:D key) (hA:∀x∈arr.toList,D x) (hn:base+n<=arr.size) (hh:hint<n) (up:Up ρ arr base (base+n)) {Q:Option Nat->SortSt->Prop}
  (h:∀k,k<=n->(∀i,i<k->bey ρ left key arr (base+i)=true)->(∀i,k<=i->i<n->bey ρ left key arr (base+i)=false)->Q (some k) st) :
  wpS (model prog w) A E s (IF left key arr base n hint) Q st:=by
 unfold IF;have ask:∀{i:Nat}{Q:Option Bool->SortSt->Prop},i<n->Q (some (bey ρ left key arr (base+i))) st->wpS (model prog w) A E s (do let x ←elem' arr (base+i);if left=true then lt' x key else do let r ←lt' key x;pure (Option.map (fun x=> !x) r)) Q st:=fun hi hq=>ZT C hk hD hA (by lia) hq;have anti:∀{i j:Nat},i<=j->j<n->bey ρ left key arr (base+j)=true->bey ρ left key arr (base+i)=true:=fun hij hj hb=>PX up (by lia) (by lia) (by lia) hb;have antiF:∀{i j:Nat},i<=j->j<n->bey ρ left key arr (base+i)=false->bey ρ left key arr (base+j)=false:=fun {i j} hij hj hb=>by
  cases e:bey ρ left key arr (base+j) with
  | false=>rfl
  | true=>rw[anti hij hj e]at hb;cases hb
 have fin:∀lo hi:Nat,lo<=hi->hi<=n->(∀i,i<lo->bey ρ left key arr (base+i)=true)->(∀i,hi<=i->i<n->bey ρ left key arr (base+i)=false)->∀(f:Nat->Option (Option Nat)×Nat×Nat->StateT SortSt Sem (ForInStep (Option (Option Nat)×Nat×Nat))),
   (∀x l r,l<r->r<=n->∀Q':ForInStep (Option (Option Nat)×Nat×Nat)->SortSt->Prop,(bey ρ left key arr (base+(l+(r - l)/2))=true->Q' (.yield (none,l+(r - l)/2+1,r)) st)->(bey ρ left key arr (base+(l+(r - l)/2))=false->Q' (.yield (none,l,l+(r - l)/2)) st)->wpS (model prog w) A E s (f x (none,l,r)) Q' st) →
   (∀x l r,r<=l->∀Q':ForInStep (Option (Option Nat)×Nat×Nat)->SortSt->Prop,Q' (.done (none,l,r)) st->wpS (model prog w) A E s (f x (none,l,r)) Q' st) →
   wpS (model prog w) A E s (forIn [:n] (none,lo,hi) f) (fun c st'=>st'=st/\∃k,c=(none,k,k)/\k<=n/\(∀i,i<k->bey ρ left key arr (base+i)=true)/\(∀i,k<=i->i<n->bey ρ left key arr (base+i)=false)) st:=by
  intro lo hi hlh hhn hl hr f f1 f2;refine wpS_forRange (I:=fun x c st'=>st'=st/\∃l r,c=(none,l,r)/\l<=r/\r<=n/\r - l<=n - x/\(∀i,i<l->bey ρ left key arr (base+i)=true)/\(∀i,r<=i->i<n->bey ρ left key arr (base+i)=false)) ?_ ?_ ⟨rfl,lo,hi,rfl,hlh,hhn,by lia,hl,hr⟩
  ·rintro x c _ _ hx ⟨rfl,l,r,rfl,a1,a2,a3,a4,a5⟩;rcases Nat.lt_or_ge l r with hlr|hlr
   ·refine f1 x l r hlr a2 _ (fun hb=>⟨rfl,_,_,rfl,by lia,a2,by lia,fun i hi=>anti (by lia) (by lia) hb,a5⟩) fun hb=>⟨rfl,_,_,rfl,by lia,by lia,by lia,a4,fun i h1 h2=>antiF h1 h2 hb⟩
   ·have:l=r:=by lia
    subst this;exact f2 x l l hlr _ ⟨rfl,l,rfl,a2,a4,a5⟩
  ·rintro c _ ⟨rfl,l,r,rfl,a1,a2,a3,a4,a5⟩;have:l=r:=by lia
   subst this;exact⟨rfl,l,rfl,a2,a4,a5⟩
 refine wpS_bind (ask hh ?_)
 dsimp only
 cases hb:bey ρ left key arr (base+hint) with
 | true =>
  rw[if_pos rfl];refine wpS_bind (wpS_mono (wpS_forRange (I:=fun x c st'=>st'=st/\∃lo of:Nat,c=(none,lo,of)/\lo<of/\x+1<=of/\hint+lo<n/\bey ρ left key arr (base+(hint+lo))=true) (Q:=fun c st'=>st'=st/\∃lo of:Nat,c=(none,lo,of)/\lo<of/\hint+lo<n/\bey ρ left key arr (base+(hint+lo))=true/\(n - hint<=of∨(hint+of<n/\bey ρ left key arr (base+(hint+of))=false))) ?_ ?_ ⟨rfl,0,1,rfl,by lia,by lia,by lia,hb⟩) ?_)
  ·rintro x c _ _ hx ⟨rfl,lo,of,rfl,a1,a2,a3,a4⟩
   dsimp only
   by_cases hm:of≥n - hint
   ·rw[if_pos hm];exact wpS_pure ⟨rfl,lo,of,rfl,a1,a3,a4,.inl hm⟩
   ·rw[if_neg hm];refine wpS_bind (ask (i:=hint+of) (by lia) ?_)
    dsimp only
    cases hc:bey ρ left key arr (base+(hint+of)) with
    | true =>
     rw[if_neg (by decide)];exact wpS_pure ⟨rfl,of,2 * of+1,rfl,by lia,by lia,by lia,hc⟩
    | false =>
     rw[if_pos (by decide)];exact wpS_pure ⟨rfl,lo,of,rfl,a1,a3,a4,.inr ⟨by lia,hc⟩⟩
  ·rintro c _ ⟨rfl,lo,of,rfl,a1,a2,a3,a4⟩;exact⟨rfl,lo,of,rfl,a1,a3,a4,.inl (by lia)⟩
  ·rintro c _ ⟨rfl,lo,of,rfl,a1,a3,a4,a5⟩
   dsimp only
   refine wpS_bind (wpS_mono (fin (hint+lo+1) (hint+min of (n - hint)) (by lia) (by lia) (fun i hi=>anti (by lia) a3 a4) (fun i h1 h2=> ?_) _ ?_ ?_) ?_)
   ·rcases a5 with a5|⟨a5,a6⟩
    ·lia
    ·exact antiF (by lia) h2 a6
   ·intro x l r hlr hrn Q' q1 q2
    dsimp only
    rw[if_neg (by lia)];refine wpS_bind (ask (i:=l+(r - l)/2) (by lia) ?_)
    dsimp only
    cases hc:bey ρ left key arr (base+(l+(r - l)/2)) with
    | true=>rw[if_pos rfl];exact wpS_pure (q1 hc)
    | false=>rw[if_neg Bool.false_ne_true];exact wpS_pure (q2 hc)
   ·intro x l r hrl Q' q1
    dsimp only
    rw[if_pos hrl];exact wpS_pure q1
   ·rintro c _ ⟨rfl,k,rfl,b1,b2,b3⟩
    dsimp only
    exact wpS_pure (h k b1 b2 b3)
 | false =>
  rw[if_neg Bool.false_ne_true];refine wpS_bind (wpS_mono (wpS_forRange (I:=fun x c st'=>st'=st/\∃lo of:Nat,c=(none,lo,of)/\lo<of/\x+1<=of/\lo<=hint/\bey ρ left key arr (base+(hint - lo))=false) (Q:=fun c st'=>st'=st/\∃lo of:Nat,c=(none,lo,of)/\lo<of/\lo<=hint/\bey ρ left key arr (base+(hint - lo))=false/\(hint+1<=of∨(of<=hint/\bey ρ left key arr (base+(hint - of))=true))) ?_ ?_ ⟨rfl,0,1,rfl,by lia,by lia,by lia,hb⟩) ?_)
  ·rintro x c _ _ hx ⟨rfl,lo,of,rfl,a1,a2,a3,a4⟩
   dsimp only
   by_cases hm:of≥hint+1
   ·rw[if_pos hm];exact wpS_pure ⟨rfl,lo,of,rfl,a1,a3,a4,.inl hm⟩
   ·rw[if_neg hm];refine wpS_bind (ask (i:=hint - of) (by lia) ?_)
    dsimp only
    cases hc:bey ρ left key arr (base+(hint - of)) with
    | true =>
     rw[if_pos rfl];exact wpS_pure ⟨rfl,lo,of,rfl,a1,a3,a4,.inr ⟨by lia,hc⟩⟩
    | false =>
     rw[if_neg Bool.false_ne_true];exact wpS_pure ⟨rfl,of,2 * of+1,rfl,by lia,by lia,by lia,hc⟩
  ·rintro c _ ⟨rfl,lo,of,rfl,a1,a2,a3,a4⟩;exact⟨rfl,lo,of,rfl,a1,a3,a4,.inl (by lia)⟩
  ·rintro c _ ⟨rfl,lo,of,rfl,a1,a3,a4,a5⟩
   dsimp only
   refine wpS_bind (wpS_mono (fin (hint+1 - min of (hint+1)) (hint - lo) (by lia) (by lia) (fun i hi=> ?_) (fun i h1 h2=>antiF h1 h2 a4) _ ?_ ?_) ?_)
   ·rcases a5 with a5|⟨a5,a6⟩
    ·lia
    ·exact anti (by lia) (by lia) a6
   ·intro x l r hlr hrn Q' q1 q2
    dsimp only
    rw[if_neg (by lia)];refine wpS_bind (ask (i:=l+(r - l)/2) (by lia) ?_)
    dsimp only
    cases hc:bey ρ left key arr (base+(l+(r - l)/2)) with
    | true=>rw[if_pos rfl];exact wpS_pure (q1 hc)
    | false=>rw[if_neg Bool.false_ne_true];exact wpS_pure (q2 hc)
   ·intro x l r hrl Q' q1
    dsimp only
    rw[if_pos hrl];exact wpS_pure q1
   ·rintro c _ ⟨rfl,k,rfl,b1,b2,b3⟩
    dsimp only
    exact wpS_pure (h k b1 b2 b3)
end
end L2
namespace L2
open PySem PySem.W PyProof.Rows
def FW:Array Keyed->Array Keyed->StateT SortSt Sem (Array Keyed):=sortPriv% PySem.Builtin.mergeLo
def EA:Array Keyed->Array Keyed->StateT SortSt Sem (Array Keyed):=sortPriv% PySem.Builtin.mergeHi
abbrev bH (st:SortSt)(g:Nat):SortSt:=SortSt.mk' (kindOf st) (arrOf st) (pendingOf st) g (failedOf st)
def SameSt (st st':SortSt):Prop:=kindOf st'=kindOf st/\arrOf st'=arrOf st/\pendingOf st'=pendingOf st/\failedOf st'=failedOf st
theorem SameSt.refl (st:SortSt):SameSt st st:=⟨rfl,rfl,rfl,rfl⟩
section
variable {ρ:Keyed->Int}
abbrev cE (ρ:Keyed->Int)(l:List Keyed):Prop:=l.Pairwise fun x y=>ρ x<ρ y
structure Mi (ρ:Keyed->Int)(all o ra rb:List Keyed):Prop where
 so:cE ρ o
 oa:∀x∈o,∀y∈ra,ρ x<ρ y
 ob:∀x∈o,∀y∈rb,ρ x<ρ y
 sa:cE ρ ra
 sb:cE ρ rb
 pm:(o++ra++rb).Perm all
variable {all o p ra rb:List Keyed}
theorem Mi.goA (h:Mi ρ all o (p++ra) rb)(hp:∀x∈p,∀y∈rb,ρ x<ρ y):Mi ρ all (o++p) ra rb:=by
 obtain⟨so,oa,ob,sa,sb,pm⟩:=h;have sa':=List.pairwise_append.mp sa;refine⟨List.pairwise_append.mpr ⟨so,sa'.1,fun x hx y hy=>oa x hx y (List.mem_append_left _ hy)⟩,fun x hx y hy=> ?_,fun x hx y hy=> ?_,sa'.2.1,sb,?_⟩
 ·rcases List.mem_append.mp hx with hx|hx
  ·exact oa x hx y (List.mem_append_right _ hy)
  ·exact sa'.2.2 x hx y hy
 ·rcases List.mem_append.mp hx with hx|hx
  ·exact ob x hx y hy
  ·exact hp x hx y hy
 ·rw[List.append_assoc o p ra];exact pm
theorem Mi.swap (h:Mi ρ all o ra rb):Mi ρ all o rb ra:=⟨h.so,h.ob,h.oa,h.sb,h.sa,by
 refine List.Perm.trans ?_ h.pm;rw[List.append_assoc,List.append_assoc];exact List.Perm.append_left o List.perm_append_comm⟩
theorem Mi.goB (h:Mi ρ all o ra (p++rb))(hp:∀x∈p,∀y∈ra,ρ x<ρ y):Mi ρ all (o++p) ra rb:=(h.swap.goA hp).swap
theorem Mi.end (h:Mi ρ all o ra rb)(hab:∀x∈ra,∀y∈rb,ρ x<ρ y):cE ρ (o++ra++rb)/\(o++ra++rb).Perm all:=by
 refine⟨List.pairwise_append.mpr ⟨List.pairwise_append.mpr ⟨h.so,h.sa,h.oa⟩,h.sb,fun x hx y hy=> ?_⟩,h.pm⟩;rcases List.mem_append.mp hx with hx|hx
 ·exact h.ob x hx y hy
 ·exact hab x hx y hy
theorem Mi.len (h:Mi ρ all o ra rb):o.length+ra.length+rb.length=all.length:=by
 have:=h.pm.length_eq;rw[List.length_append,List.length_append]at this;exact this
theorem dW {a:Array Keyed}{i:Nat} (hi:i<a.size):a.toList.drop i=a.getD i (.none,.none)::a.toList.drop (i+1):=by
 have h:i<a.toList.length:=by simpa using hi
 rw[List.drop_eq_getElem_cons h]
 congr 1
 simp[Array.getD,hi]
theorem EQ {a:Array Keyed}{i:Nat} (hi:a.size<=i):a.toList.drop i=[]:=List.drop_eq_nil_of_le (by simpa using hi)
theorem dG {a:Array Keyed}{i:Nat}{x:Keyed} (h:x∈a.toList.drop i):∃j,i<=j/\j<a.size/\ρ x=rnk ρ a j:=by
 obtain⟨k,hk,e⟩:=List.getElem_of_mem h;rw[List.length_drop]at hk;rw[List.getElem_drop]at e;refine⟨i+k,by lia,by rw[Array.length_toList]at hk;lia,?_⟩;unfold rnk;have hl:i+k<a.size:=by rw[Array.length_toList]at hk;lia
 rw[←e]
 congr 1
 simp[Array.getD,hl]
theorem vP {a:Array Keyed}(h:Up ρ a 0 a.size):cE ρ a.toList:=by
 rw[cE,List.pairwise_iff_getElem];intro i j hi hj hij;rw[Array.length_toList]at hi hj;have:=h i j (Nat.zero_le _) hij hj;unfold rnk at this
 simpa [Array.getD,hi,hj] using this
theorem lV {a:Array Keyed}{i k:Nat}:a.toList.drop i=(a.extract i (i+k)).toList++a.toList.drop (i+k):=by
 rw[Array.toList_extract,List.extract_eq_drop_take,Nat.add_sub_cancel_left,←List.drop_drop,List.take_append_drop]
end
end L2
namespace L2
open PySem PySem.W PyProof.Rows
theorem lW {a:Array Keyed}{i:Nat}:(a.extract i).toList=a.toList.drop i:=by
 rw[Array.toList_extract,List.extract_eq_drop_take,List.take_of_length_le];rw[List.length_drop,Array.length_toList];exact Nat.le_refl _
section
variable {prog:Program}{w:World}{A:Around}{E:Value->Shared->Prop}{s:Shared}{κ:SortKind}{D:Keyed->Prop}{ρ:Keyed->Int}{st:SortSt}
theorem hU {a:Array Keyed}{i n:Nat} (h:Up ρ a 0 a.size) (hn:i+n<=a.size):Up ρ a i (i+n):=fun x y _ h2 h3=>h x y (Nat.zero_le _) h2 (by lia)
theorem lP {a:Array Keyed}{i k:Nat}{x:Keyed} (h:x∈(a.extract i (i+k)).toList):∃u,(i<=u/\u<i+k/\u<a.size)/\ρ x=rnk ρ a u:=by
 rw[Array.toList_extract,List.extract_eq_drop_take,Nat.add_sub_cancel_left]at h;obtain⟨v,hv,e⟩:=List.getElem_of_mem h;rw[List.length_take,List.length_drop,Array.length_toList]at hv;rw[List.getElem_take,List.getElem_drop]at e;have hl:i+v<a.size:=by lia
 refine⟨i+v,⟨by lia,by lia,hl⟩,?_⟩;unfold rnk;rw[←e]
 congr 1
 simp[Array.getD,hl]
theorem i3 {a:Array Keyed}{i:Nat}{y:Keyed}{z:Int} (up:Up ρ a 0 a.size) (hy:y∈a.toList.drop i) (hz:z<ρ (a.getD i (.none,.none))):z<ρ y:=by
 obtain⟨u,h1,h2,e⟩:=dG (ρ:=ρ) hy;rw[e];have hz:z<rnk ρ a i:=hz;rcases Nat.lt_or_ge i u with h|h
 ·have:=up i u (Nat.zero_le _) h h2
  lia
 ·have:i=u:=by lia
  rw[←this];exact hz
theorem aBf (C:mX prog w A E s κ D ρ)(hk:kindOf st=κ){a b:Array Keyed}{Q:Array Keyed->SortSt->Prop} (dA:∀x∈a.toList,D x) (dB:∀x∈b.toList,D x) (upA:Up ρ a 0 a.size) (upB:Up ρ b 0 b.size) (a0:0<a.size) (b0:0<b.size) (ne:∀x∈a.toList,∀y∈b.toList,ρ x≠ρ y)
  (fst:rnk ρ b 0<rnk ρ a 0)(lst:rnk ρ b (b.size - 1)<rnk ρ a (a.size - 1))(hQ:∀m st',SameSt st st'->cE ρ m.toList->m.toList.Perm (a.toList++b.toList)->Q m st') :
  wpS (model prog w) A E s (FW a b) Q st:=by
 have bl:∀y∈b.toList,ρ y<rnk ρ a (a.size - 1):=fun y hy=>by
  obtain⟨u,_,h2,e⟩:=dG (ρ:=ρ) (i:=0) (show y∈b.toList.drop 0 from hy);rw[e];rcases Nat.lt_or_ge u (b.size - 1) with h|h
  ·have:=upB u (b.size - 1) (Nat.zero_le _) h (by lia)
   lia
  ·have:u=b.size - 1:=by lia
   rw[this];exact lst
 have doneR:∀{o:Array Keyed}{i j:Nat},Mi ρ (a.toList++b.toList) o.toList (a.toList.drop i) (b.toList.drop j)->j=b.size->cE ρ (o++a.extract i++b.extract j).toList/\(o++a.extract i++b.extract j).toList.Perm (a.toList++b.toList):=fun hm hj=>by
  rw[Array.toList_append,Array.toList_append,lW,lW];refine hm.end fun x _ y hy=> ?_;rw[EQ (by lia)]at hy;exact nomatch hy
 have doneR2:∀{o:Array Keyed}{i j:Nat},Mi ρ (a.toList++b.toList) o.toList (a.toList.drop i) (b.toList.drop j)->i=a.size->cE ρ (o++a.extract i++b.extract j).toList/\(o++a.extract i++b.extract j).toList.Perm (a.toList++b.toList):=fun hm hj=>by
  rw[Array.toList_append,Array.toList_append,lW,lW];refine hm.end fun x hx y _=> ?_;rw[EQ (by lia)]at hx;exact nomatch hx
 have lastR:∀{o:Array Keyed}{i j:Nat},Mi ρ (a.toList++b.toList) o.toList (a.toList.drop i) (b.toList.drop j)->i+1=a.size->cE ρ (o++b.extract j++a.extract i).toList/\(o++b.extract j++a.extract i).toList.Perm (a.toList++b.toList):=fun {o i j} hm hi=>by
  rw[Array.toList_append,Array.toList_append,lW,lW];refine hm.swap.end fun x hx y hy=> ?_;obtain⟨u,h1,h2,e⟩:=dG (ρ:=ρ) hy;have:u=a.size - 1:=by lia
  rw[e,this];exact bl x (List.mem_of_mem_drop hx)
 unfold FW;refine wpS_bind (wpS_lift (wpAny_rule ⟨rfl,?_⟩))
 try dsimp only
 refine wpS_bind (aS b0 ?_)
 try dsimp only
 have m0:Mi ρ (a.toList++b.toList) (#[b.getD 0 (.none,.none)]:Array Keyed).toList (a.toList.drop 0) (b.toList.drop 1):=by
  have hb:b.toList=b.getD 0 (.none,.none)::b.toList.drop 1:=dW b0;have rb:=vP upB;rw[hb]at rb;have rb':=List.pairwise_cons.mp rb;refine⟨List.pairwise_singleton _ _,fun x hx y hy=> ?_,fun x hx y hy=> ?_,vP upA,rb'.2,?_⟩
  ·cases List.mem_singleton.mp hx;exact i3 upA hy fst
  ·cases List.mem_singleton.mp hx;exact rb'.1 y hy
  ·conv=>rhs;rw[hb]
   show (b.getD 0 (.none,.none)::(a.toList++b.toList.drop 1)).Perm _;exact List.perm_middle.symm
 by_cases h1:1=b.size
 ·rw[if_pos (by simpa using h1)];exact wpS_pure (let r:=doneR m0 h1;hQ _ _ (SameSt.refl _) r.1 r.2)
 rw[if_neg (by simpa using h1)]
 by_cases h2:0+1=a.size
 ·rw[if_pos (by simpa using h2)];exact wpS_pure (let r:=lastR m0 h2;hQ _ _ (SameSt.refl _) r.1 r.2)
 rw[if_neg (by simpa using h2)];refine wpS_bind (wpS_get ?_)
 try dsimp only
 have leq:∀{o:Array Keyed}{i j:Nat},Mi ρ (a.toList++b.toList) o.toList (a.toList.drop i) (b.toList.drop j)->i<a.size->j<b.size->o.size+2<=a.size+b.size:=fun hm hi hj=>by
  have:=hm.len;rw[Array.length_toList,List.length_drop,List.length_drop,List.length_append,Array.length_toList,Array.length_toList]at this
  lia
 refine wpS_bind (wpS_mono (wpS_forRange (I:=fun x c st'=>SameSt st st'/\∃(o:Array Keyed) (i j g:Nat),c=(none,o,i,j,g)/\x+1<=o.size/\i+1<a.size/\j<b.size/\Mi ρ (a.toList++b.toList) o.toList (a.toList.drop i) (b.toList.drop j))
  (Q:=fun c st'=>SameSt st st'/\∃(r:Array Keyed) (rest:Array Keyed×Nat×Nat×Nat),c=(some r,rest)/\cE ρ r.toList/\r.toList.Perm (a.toList++b.toList)) ?_ ?_ ⟨SameSt.refl _,_,_,_,_,rfl,Nat.le_refl _,by lia,by lia,m0⟩) ?_)
 ·rintro x c st' _ hx ⟨hs,o,i,j,g,rfl,hx1,hi,hj,hm⟩
  try dsimp only
  have hk':kindOf st'=κ:=hs.1.trans hk;refine wpS_bind (wpS_mono (wpS_forRange (I:=fun y c st''=>st''=st'/\∃(oo:Array Keyed) (ii jj ac bc:Nat),c=(none,oo,ii,jj,ac,bc)/\o.size+y<=oo.size/\ii+1<a.size/\jj<b.size/\Mi ρ (a.toList++b.toList) oo.toList (a.toList.drop ii) (b.toList.drop jj))
   (Q:=fun c st''=>st''=st'/\((∃(r:Array Keyed) (rest:Array Keyed×Nat×Nat×Nat×Nat),c=(some r,rest)/\cE ρ r.toList/\r.toList.Perm (a.toList++b.toList))∨∃(oo:Array Keyed) (ii jj ac bc:Nat),c=(none,oo,ii,jj,ac,bc)/\o.size+1<=oo.size/\ii+1<a.size/\jj<b.size/\Mi ρ (a.toList++b.toList) oo.toList (a.toList.drop ii) (b.toList.drop jj))) ?_ ?_ ⟨rfl,o,i,j,0,0,rfl,Nat.le_refl _,hi,hj,hm⟩) ?_)
  ·rintro y c _ _ hy ⟨rfl,oo,ii,jj,ac,bc,rfl,hy1,hi,hj,hM⟩
   try dsimp only
   refine wpS_bind (aS hj (wpS_bind (aS (by lia) (wpS_bind (C.lt (dB _ (aQ hj)) (dA _ (aQ (by lia))) hk' ?_)))))
   try dsimp only
   by_cases hc:ρ (b.getD jj (.none,.none))<ρ (a.getD ii (.none,.none))
   ·rw[decide_eq_true hc,if_pos rfl];refine wpS_bind (aS hj ?_)
    try dsimp only
    have mB:=(show Mi ρ (a.toList++b.toList) oo.toList (a.toList.drop ii) ([b.getD jj (.none,.none)]++b.toList.drop (jj+1)) by rw[dW hj]at hM;exact hM).goB (fun x hx y hy=>by cases List.mem_singleton.mp hx;exact i3 upA hy hc);rw[←Array.toList_push]at mB
    by_cases he:jj+1=b.size
    ·rw[if_pos (by simpa using he)];exact wpS_pure ⟨rfl,.inl ⟨_,_,rfl,doneR mB he⟩⟩
    ·rw[if_neg (by simpa using he)]
     by_cases hg:bc+1≥g
     ·rw[if_pos hg];exact wpS_pure ⟨rfl,.inr ⟨_,_,_,_,_,rfl,by rw[Array.size_push];lia,hi,by lia,mB⟩⟩
     ·rw[if_neg hg];exact wpS_pure ⟨rfl,_,_,_,_,_,rfl,by rw[Array.size_push];lia,hi,by lia,mB⟩
   ·rw[decide_eq_false hc,if_neg Bool.false_ne_true];refine wpS_bind (aS (i:=ii) (by lia) ?_)
    try dsimp only
    have hlt:ρ (a.getD ii (.none,.none))<ρ (b.getD jj (.none,.none)):=by
     have:=ne _ (aQ (a:=a) (i:=ii) (by lia)) _ (aQ (a:=b) (i:=jj) hj)
     lia
    have mA:=(show Mi ρ (a.toList++b.toList) oo.toList ([a.getD ii (.none,.none)]++a.toList.drop (ii+1)) (b.toList.drop jj) by rw[dW (i:=ii) (by lia)]at hM;exact hM).goA (fun x hx y hy=>by cases List.mem_singleton.mp hx;exact i3 upB hy hlt);rw[←Array.toList_push]at mA
    by_cases he:ii+1+1=a.size
    ·rw[if_pos (by simpa using he)];exact wpS_pure ⟨rfl,.inl ⟨_,_,rfl,lastR mA he⟩⟩
    ·rw[if_neg (by simpa using he)]
     by_cases hg:ac+1≥g
     ·rw[if_pos hg];exact wpS_pure ⟨rfl,.inr ⟨_,_,_,_,_,rfl,by rw[Array.size_push];lia,by lia,hj,mA⟩⟩
     ·rw[if_neg hg];exact wpS_pure ⟨rfl,_,_,_,_,_,rfl,by rw[Array.size_push];lia,by lia,hj,mA⟩
  ·rintro c _ ⟨rfl,oo,ii,jj,ac,bc,rfl,hy1,hi,hj,hM⟩;have:=leq hM (by lia) hj
   lia
  ·rintro c _ ⟨rfl,⟨r,rest,rfl,hr⟩|⟨oo,ii,jj,ac,bc,rfl,ho,hi,hj,hM⟩⟩
   ·try dsimp only
    exact wpS_pure ⟨hs,_,_,rfl,hr⟩
   try dsimp only
   refine wpS_bind (wpS_lift (wpAny_rule ⟨rfl,?_⟩));refine wpS_bind (wpS_mono (wpS_forRange (I:=fun y c st''=>SameSt st st''/\∃(oo:Array Keyed) (ii jj gg ac bc:Nat),c=(none,oo,ii,jj,gg,ac,bc)/\x+2<=oo.size/\y<=oo.size/\ii+1<a.size/\jj<b.size/\Mi ρ (a.toList++b.toList) oo.toList (a.toList.drop ii) (b.toList.drop jj))
    (Q:=fun c st''=>SameSt st st''/\((∃(r:Array Keyed) (rest:Array Keyed×Nat×Nat×Nat×Nat×Nat),c=(some r,rest)/\cE ρ r.toList/\r.toList.Perm (a.toList++b.toList))∨∃(oo:Array Keyed) (ii jj gg ac bc:Nat),c=(none,oo,ii,jj,gg,ac,bc)/\x+2<=oo.size/\ii+1<a.size/\jj<b.size/\Mi ρ (a.toList++b.toList) oo.toList (a.toList.drop ii) (b.toList.drop jj))) ?_ ?_ ⟨hs,oo,ii,jj,_,_,_,rfl,by lia,by lia,hi,hj,hM⟩) ?_)
   ·clear hM hi hj ho oo ii jj ac bc;rintro y c st'' _ hy ⟨hs1,oo,ii,jj,gg,ac,bc,rfl,hx2,hy2,hi,hj,hM⟩
    try dsimp only
    by_cases hgg:gg>1
    ·rw[if_pos hgg]
     try dsimp only
     refine wpS_bind (wpS_modify ?_);have hs2:SameSt st (bH st'' (gg - 1)):=hs1;refine wpS_bind (aS hj ?_);refine wpS_bind (cY (st:=bH st'' (gg - 1)) (hint:=0) C (show kindOf (bH st'' (gg - 1))=κ from hs1.1.trans hk) (dB _ (aQ hj)) dA (n:=a.size - ii) (by lia) (by lia) (hU upA (by lia)) fun k1 hk1 r1 r2=> ?_)
     try dsimp only
     have p1:∀x∈(a.extract ii (ii+k1)).toList,∀y∈b.toList.drop jj,ρ x<ρ y:=fun x hx y hy=>by
      obtain⟨u,hu,e⟩:=lP (ρ:=ρ) hx;have:=r1 (u - ii) (by lia);rw[show ii+(u - ii)=u by lia]at this;have h1:¬ρ (b.getD jj (.none,.none))<rnk ρ a u:=of_decide_eq_false (by unfold bey at this;rw[if_neg Bool.false_ne_true]at this;simpa using this);have h2:=ne _ (aQ (a:=a) (i:=u) hu.2.2) _ (aQ (a:=b) (i:=jj) hj);refine i3 upB hy ?_;rw[e];have h2:rnk ρ a u≠ρ (b.getD jj (.none,.none)):=h2
      lia
     have p2':∀y∈a.toList.drop (ii+k1),ρ (b.getD jj (.none,.none))<ρ y:=fun y hy=>by
      obtain⟨u,hu1,hu2,e⟩:=dG (ρ:=ρ) hy;have:=r2 (u - ii) (by lia) (by lia);rw[show ii+(u - ii)=u by lia]at this;rw[e];unfold bey at this;rw[if_neg Bool.false_ne_true]at this
      simpa using this
     by_cases hk1':k1>0
     ·rw[if_pos hk1'];have mA:Mi ρ (a.toList++b.toList) (oo++a.extract ii (ii+k1)).toList (a.toList.drop (ii+k1)) (b.toList.drop jj):=by
       rw[Array.toList_append (xs:=oo)];exact(show Mi ρ (a.toList++b.toList) oo.toList ((a.extract ii (ii+k1)).toList++a.toList.drop (ii+k1)) (b.toList.drop jj) by rw[←lV];exact hM).goA p1
      by_cases hl:ii+k1+1=a.size
      ·rw[if_pos (by simpa using hl)];exact wpS_pure ⟨hs2,.inl ⟨_,_,rfl,lastR mA hl⟩⟩
      rw[if_neg (by simpa using hl)]
      by_cases hl2:ii+k1=a.size
      ·rw[if_pos (by simpa using hl2)];exact wpS_pure ⟨hs2,.inl ⟨_,_,rfl,doneR2 mA hl2⟩⟩
      rw[if_neg (by simpa using hl2)];have hM:=mA;have p2:=p2';refine wpS_bind (aS hj ?_)
      try dsimp only
      have mB:=(show Mi ρ (a.toList++b.toList) (oo++a.extract ii (ii+k1)).toList (a.toList.drop (ii+k1)) ([b.getD jj (.none,.none)]++b.toList.drop (jj+1)) by rw[dW hj]at hM;exact hM).goB (fun x hx y hy=>by cases List.mem_singleton.mp hx;exact p2 y hy);rw[←Array.toList_push]at mB
      by_cases he:jj+1=b.size
      ·rw[if_pos (by simpa using he)];exact wpS_pure ⟨hs2,.inl ⟨_,_,rfl,doneR mB he⟩⟩
      ·rw[if_neg (by simpa using he)];have hj2:jj+1<b.size:=by lia
       refine wpS_bind (aS (i:=ii+k1) (by lia) ?_);refine wpS_bind (cY (st:=bH st'' (gg - 1)) (hint:=0) C (show kindOf (bH st'' (gg - 1))=κ from hs1.1.trans hk) (dA _ (aQ (by lia))) dB (n:=b.size - (jj+1)) (by lia) (by lia) (hU upB (by lia)) fun k2 hk2 r1 r2=> ?_)
       try dsimp only
       have q1:∀x∈(b.extract (jj+1) (jj+1+k2)).toList,∀y∈a.toList.drop (ii+k1),ρ x<ρ y:=fun x hx y hy=>by
        obtain⟨u,hu,e⟩:=lP (ρ:=ρ) hx;rw[e];have:=r1 (u - (jj+1)) (by lia);rw[show jj+1+(u - (jj+1))=u by lia]at this;exact i3 upA hy (of_decide_eq_true this)
       have q2:∀y∈b.toList.drop (jj+1+k2),ρ (a.getD (ii+k1) (.none,.none))<ρ y:=fun y hy=>by
        have hym:y∈b.toList:=List.mem_of_mem_drop hy;obtain⟨u,hu1,hu2,e⟩:=dG (ρ:=ρ) hy;have:=r2 (u - (jj+1)) (by lia) (by lia);rw[show jj+1+(u - (jj+1))=u by lia]at this;have h1:=of_decide_eq_false this;have h2:=ne _ (aQ (a:=a) (i:=ii+k1) (by lia)) y hym;rw[e]at h2 ⊢
        lia
       by_cases hk0:k2>0
       ·rw[if_pos hk0];have mC:Mi ρ (a.toList++b.toList) ((oo++a.extract ii (ii+k1)).push (b.getD jj (.none,.none))++b.extract (jj+1) (jj+1+k2)).toList (a.toList.drop (ii+k1)) (b.toList.drop (jj+1+k2)):=by
         rw[Array.toList_append (xs:=(oo++a.extract ii (ii+k1)).push (b.getD jj (.none,.none)))];exact(show Mi ρ (a.toList++b.toList) ((oo++a.extract ii (ii+k1)).push (b.getD jj (.none,.none))).toList (a.toList.drop (ii+k1)) ((b.extract (jj+1) (jj+1+k2)).toList++b.toList.drop (jj+1+k2)) by rw[←lV];exact mB).goB q1
        by_cases hz:jj+1+k2=b.size
        ·rw[if_pos (by simpa using hz)];exact wpS_pure ⟨hs2,.inl ⟨_,_,rfl,doneR mC hz⟩⟩
        ·rw[if_neg (by simpa using hz)];have hj3:jj+1+k2<b.size:=by lia
         refine wpS_bind (aS (i:=ii+k1) (by lia) ?_)
         try dsimp only
         have mD:=(show Mi ρ (a.toList++b.toList) (((oo++a.extract ii (ii+k1)).push (b.getD jj (.none,.none))++b.extract (jj+1) (jj+1+k2))).toList ([a.getD (ii+k1) (.none,.none)]++a.toList.drop (ii+k1+1)) (b.toList.drop (jj+1+k2)) by rw[dW (i:=ii+k1) (by lia)]at mC;exact mC).goA (fun x hx y hy=>by cases List.mem_singleton.mp hx;exact q2 y hy);rw[←Array.toList_push]at mD
         by_cases hl:ii+k1+1+1=a.size
         ·rw[if_pos (by simpa using hl)];exact wpS_pure ⟨hs2,.inl ⟨_,_,rfl,lastR mD hl⟩⟩
         ·rw[if_neg (by simpa using hl)];have sz:oo.size+1<=((((oo++a.extract ii (ii+k1)).push (b.getD jj (.none,.none))++b.extract (jj+1) (jj+1+k2))).push (a.getD (ii+k1) (.none,.none))).size:=by simp only[Array.size_push,Array.size_append];lia
          have ip:ii+k1+1+1<a.size/\(jj+1+k2)<b.size/\Mi ρ (a.toList++b.toList) ((((oo++a.extract ii (ii+k1)).push (b.getD jj (.none,.none))++b.extract (jj+1) (jj+1+k2))).push (a.getD (ii+k1) (.none,.none))).toList (a.toList.drop (ii+k1+1)) (b.toList.drop (jj+1+k2)):=⟨by lia,hj3,mD⟩
          by_cases hg:(decide (k1<7)&&decide (k2<7))=true
          ·rw[if_pos hg];exact wpS_pure ⟨hs2,.inr ⟨_,_,_,_,_,_,rfl,by lia,ip⟩⟩
          ·rw[if_neg hg];exact wpS_pure ⟨hs2,_,_,_,_,_,_,rfl,by lia,by lia,ip⟩
       ·rw[if_neg hk0];have hk00:k2=0:=by lia
        subst hk00;refine wpS_bind (aS (i:=ii+k1) (by lia) ?_)
        try dsimp only
        have mD:=(show Mi ρ (a.toList++b.toList) (((oo++a.extract ii (ii+k1)).push (b.getD jj (.none,.none)))).toList ([a.getD (ii+k1) (.none,.none)]++a.toList.drop (ii+k1+1)) (b.toList.drop (jj+1)) by rw[dW (i:=ii+k1) (by lia)]at mB;exact mB).goA (fun x hx y hy=>by cases List.mem_singleton.mp hx;exact q2 y hy);rw[←Array.toList_push]at mD
        by_cases hl:ii+k1+1+1=a.size
        ·rw[if_pos (by simpa using hl)];exact wpS_pure ⟨hs2,.inl ⟨_,_,rfl,lastR mD hl⟩⟩
        ·rw[if_neg (by simpa using hl)];have sz:oo.size+1<=((((oo++a.extract ii (ii+k1)).push (b.getD jj (.none,.none)))).push (a.getD (ii+k1) (.none,.none))).size:=by simp only[Array.size_push,Array.size_append];lia
         have ip:ii+k1+1+1<a.size/\(jj+1)<b.size/\Mi ρ (a.toList++b.toList) ((((oo++a.extract ii (ii+k1)).push (b.getD jj (.none,.none)))).push (a.getD (ii+k1) (.none,.none))).toList (a.toList.drop (ii+k1+1)) (b.toList.drop (jj+1)):=⟨by lia,hj2,mD⟩
         by_cases hg:(decide (k1<7)&&decide (0<7))=true
         ·rw[if_pos hg];exact wpS_pure ⟨hs2,.inr ⟨_,_,_,_,_,_,rfl,by lia,ip⟩⟩
         ·rw[if_neg hg];exact wpS_pure ⟨hs2,_,_,_,_,_,_,rfl,by lia,by lia,ip⟩
     ·rw[if_neg hk1'];have hk10:k1=0:=by lia
      subst hk10;have p2:=p2';refine wpS_bind (aS hj ?_)
      try dsimp only
      have mB:=(show Mi ρ (a.toList++b.toList) (oo).toList (a.toList.drop (ii)) ([b.getD jj (.none,.none)]++b.toList.drop (jj+1)) by rw[dW hj]at hM;exact hM).goB (fun x hx y hy=>by cases List.mem_singleton.mp hx;exact p2 y hy);rw[←Array.toList_push]at mB
      by_cases he:jj+1=b.size
      ·rw[if_pos (by simpa using he)];exact wpS_pure ⟨hs2,.inl ⟨_,_,rfl,doneR mB he⟩⟩
      ·rw[if_neg (by simpa using he)];have hj2:jj+1<b.size:=by lia
       refine wpS_bind (aS (i:=ii) (by lia) ?_);refine wpS_bind (cY (st:=bH st'' (gg - 1)) (hint:=0) C (show kindOf (bH st'' (gg - 1))=κ from hs1.1.trans hk) (dA _ (aQ (by lia))) dB (n:=b.size - (jj+1)) (by lia) (by lia) (hU upB (by lia)) fun k2 hk2 r1 r2=> ?_)
       try dsimp only
       have q1:∀x∈(b.extract (jj+1) (jj+1+k2)).toList,∀y∈a.toList.drop (ii),ρ x<ρ y:=fun x hx y hy=>by
        obtain⟨u,hu,e⟩:=lP (ρ:=ρ) hx;rw[e];have:=r1 (u - (jj+1)) (by lia);rw[show jj+1+(u - (jj+1))=u by lia]at this;exact i3 upA hy (of_decide_eq_true this)
       have q2:∀y∈b.toList.drop (jj+1+k2),ρ (a.getD (ii) (.none,.none))<ρ y:=fun y hy=>by
        have hym:y∈b.toList:=List.mem_of_mem_drop hy;obtain⟨u,hu1,hu2,e⟩:=dG (ρ:=ρ) hy;have:=r2 (u - (jj+1)) (by lia) (by lia);rw[show jj+1+(u - (jj+1))=u by lia]at this;have h1:=of_decide_eq_false this;have h2:=ne _ (aQ (a:=a) (i:=ii) (by lia)) y hym;rw[e]at h2 ⊢
        lia
       by_cases hk0:k2>0
       ·rw[if_pos hk0];have mC:Mi ρ (a.toList++b.toList) ((oo).push (b.getD jj (.none,.none))++b.extract (jj+1) (jj+1+k2)).toList (a.toList.drop (ii)) (b.toList.drop (jj+1+k2)):=by
         rw[Array.toList_append (xs:=(oo).push (b.getD jj (.none,.none)))];exact(show Mi ρ (a.toList++b.toList) ((oo).push (b.getD jj (.none,.none))).toList (a.toList.drop (ii)) ((b.extract (jj+1) (jj+1+k2)).toList++b.toList.drop (jj+1+k2)) by rw[←lV];exact mB).goB q1
        by_cases hz:jj+1+k2=b.size
        ·rw[if_pos (by simpa using hz)];exact wpS_pure ⟨hs2,.inl ⟨_,_,rfl,doneR mC hz⟩⟩
        ·rw[if_neg (by simpa using hz)];have hj3:jj+1+k2<b.size:=by lia
         refine wpS_bind (aS (i:=ii) (by lia) ?_)
         try dsimp only
         have mD:=(show Mi ρ (a.toList++b.toList) (((oo).push (b.getD jj (.none,.none))++b.extract (jj+1) (jj+1+k2))).toList ([a.getD (ii) (.none,.none)]++a.toList.drop (ii+1)) (b.toList.drop (jj+1+k2)) by rw[dW (i:=ii) (by lia)]at mC;exact mC).goA (fun x hx y hy=>by cases List.mem_singleton.mp hx;exact q2 y hy);rw[←Array.toList_push]at mD
         by_cases hl:ii+1+1=a.size
         ·rw[if_pos (by simpa using hl)];exact wpS_pure ⟨hs2,.inl ⟨_,_,rfl,lastR mD hl⟩⟩
         ·rw[if_neg (by simpa using hl)];have sz:oo.size+1<=((((oo).push (b.getD jj (.none,.none))++b.extract (jj+1) (jj+1+k2))).push (a.getD (ii) (.none,.none))).size:=by simp only[Array.size_push,Array.size_append];lia
          have ip:ii+1+1<a.size/\(jj+1+k2)<b.size/\Mi ρ (a.toList++b.toList) ((((oo).push (b.getD jj (.none,.none))++b.extract (jj+1) (jj+1+k2))).push (a.getD (ii) (.none,.none))).toList (a.toList.drop (ii+1)) (b.toList.drop (jj+1+k2)):=⟨by lia,hj3,mD⟩
          by_cases hg:(decide (0<7)&&decide (k2<7))=true
          ·rw[if_pos hg];exact wpS_pure ⟨hs2,.inr ⟨_,_,_,_,_,_,rfl,by lia,ip⟩⟩
          ·rw[if_neg hg];exact wpS_pure ⟨hs2,_,_,_,_,_,_,rfl,by lia,by lia,ip⟩
       ·rw[if_neg hk0];have hk00:k2=0:=by lia
        subst hk00;refine wpS_bind (aS (i:=ii) (by lia) ?_)
        try dsimp only
        have mD:=(show Mi ρ (a.toList++b.toList) (((oo).push (b.getD jj (.none,.none)))).toList ([a.getD (ii) (.none,.none)]++a.toList.drop (ii+1)) (b.toList.drop (jj+1)) by rw[dW (i:=ii) (by lia)]at mB;exact mB).goA (fun x hx y hy=>by cases List.mem_singleton.mp hx;exact q2 y hy);rw[←Array.toList_push]at mD
        by_cases hl:ii+1+1=a.size
        ·rw[if_pos (by simpa using hl)];exact wpS_pure ⟨hs2,.inl ⟨_,_,rfl,lastR mD hl⟩⟩
        ·rw[if_neg (by simpa using hl)];have sz:oo.size+1<=((((oo).push (b.getD jj (.none,.none)))).push (a.getD (ii) (.none,.none))).size:=by simp only[Array.size_push,Array.size_append];lia
         have ip:ii+1+1<a.size/\(jj+1)<b.size/\Mi ρ (a.toList++b.toList) ((((oo).push (b.getD jj (.none,.none)))).push (a.getD (ii) (.none,.none))).toList (a.toList.drop (ii+1)) (b.toList.drop (jj+1)):=⟨by lia,hj2,mD⟩
         by_cases hg:(decide (0<7)&&decide (0<7))=true
         ·rw[if_pos hg];exact wpS_pure ⟨hs2,.inr ⟨_,_,_,_,_,_,rfl,by lia,ip⟩⟩
         ·rw[if_neg hg];exact wpS_pure ⟨hs2,_,_,_,_,_,_,rfl,by lia,by lia,ip⟩
    ·rw[if_neg hgg]
     try dsimp only
     refine wpS_bind (wpS_modify ?_);have hs2:SameSt st (bH st'' (gg)):=hs1;refine wpS_bind (aS hj ?_);refine wpS_bind (cY (st:=bH st'' (gg)) (hint:=0) C (show kindOf (bH st'' (gg))=κ from hs1.1.trans hk) (dB _ (aQ hj)) dA (n:=a.size - ii) (by lia) (by lia) (hU upA (by lia)) fun k1 hk1 r1 r2=> ?_)
     try dsimp only
     have p1:∀x∈(a.extract ii (ii+k1)).toList,∀y∈b.toList.drop jj,ρ x<ρ y:=fun x hx y hy=>by
      obtain⟨u,hu,e⟩:=lP (ρ:=ρ) hx;have:=r1 (u - ii) (by lia);rw[show ii+(u - ii)=u by lia]at this;have h1:¬ρ (b.getD jj (.none,.none))<rnk ρ a u:=of_decide_eq_false (by unfold bey at this;rw[if_neg Bool.false_ne_true]at this;simpa using this);have h2:=ne _ (aQ (a:=a) (i:=u) hu.2.2) _ (aQ (a:=b) (i:=jj) hj);refine i3 upB hy ?_;rw[e];have h2:rnk ρ a u≠ρ (b.getD jj (.none,.none)):=h2
      lia
     have p2':∀y∈a.toList.drop (ii+k1),ρ (b.getD jj (.none,.none))<ρ y:=fun y hy=>by
      obtain⟨u,hu1,hu2,e⟩:=dG (ρ:=ρ) hy;have:=r2 (u - ii) (by lia) (by lia);rw[show ii+(u - ii)=u by lia]at this;rw[e];unfold bey at this;rw[if_neg Bool.false_ne_true]at this
      simpa using this
     by_cases hk1':k1>0
     ·rw[if_pos hk1'];have mA:Mi ρ (a.toList++b.toList) (oo++a.extract ii (ii+k1)).toList (a.toList.drop (ii+k1)) (b.toList.drop jj):=by
       rw[Array.toList_append (xs:=oo)];exact(show Mi ρ (a.toList++b.toList) oo.toList ((a.extract ii (ii+k1)).toList++a.toList.drop (ii+k1)) (b.toList.drop jj) by rw[←lV];exact hM).goA p1
      by_cases hl:ii+k1+1=a.size
      ·rw[if_pos (by simpa using hl)];exact wpS_pure ⟨hs2,.inl ⟨_,_,rfl,lastR mA hl⟩⟩
      rw[if_neg (by simpa using hl)]
      by_cases hl2:ii+k1=a.size
      ·rw[if_pos (by simpa using hl2)];exact wpS_pure ⟨hs2,.inl ⟨_,_,rfl,doneR2 mA hl2⟩⟩
      rw[if_neg (by simpa using hl2)];have hM:=mA;have p2:=p2';refine wpS_bind (aS hj ?_)
      try dsimp only
      have mB:=(show Mi ρ (a.toList++b.toList) (oo++a.extract ii (ii+k1)).toList (a.toList.drop (ii+k1)) ([b.getD jj (.none,.none)]++b.toList.drop (jj+1)) by rw[dW hj]at hM;exact hM).goB (fun x hx y hy=>by cases List.mem_singleton.mp hx;exact p2 y hy);rw[←Array.toList_push]at mB
      by_cases he:jj+1=b.size
      ·rw[if_pos (by simpa using he)];exact wpS_pure ⟨hs2,.inl ⟨_,_,rfl,doneR mB he⟩⟩
      ·rw[if_neg (by simpa using he)];have hj2:jj+1<b.size:=by lia
       refine wpS_bind (aS (i:=ii+k1) (by lia) ?_);refine wpS_bind (cY (st:=bH st'' (gg)) (hint:=0) C (show kindOf (bH st'' (gg))=κ from hs1.1.trans hk) (dA _ (aQ (by lia))) dB (n:=b.size - (jj+1)) (by lia) (by lia) (hU upB (by lia)) fun k2 hk2 r1 r2=> ?_)
       try dsimp only
       have q1:∀x∈(b.extract (jj+1) (jj+1+k2)).toList,∀y∈a.toList.drop (ii+k1),ρ x<ρ y:=fun x hx y hy=>by
        obtain⟨u,hu,e⟩:=lP (ρ:=ρ) hx;rw[e];have:=r1 (u - (jj+1)) (by lia);rw[show jj+1+(u - (jj+1))=u by lia]at this;exact i3 upA hy (of_decide_eq_true this)
       have q2:∀y∈b.toList.drop (jj+1+k2),ρ (a.getD (ii+k1) (.none,.none))<ρ y:=fun y hy=>by
        have hym:y∈b.toList:=List.mem_of_mem_drop hy;obtain⟨u,hu1,hu2,e⟩:=dG (ρ:=ρ) hy;have:=r2 (u - (jj+1)) (by lia) (by lia);rw[show jj+1+(u - (jj+1))=u by lia]at this;have h1:=of_decide_eq_false this;have h2:=ne _ (aQ (a:=a) (i:=ii+k1) (by lia)) y hym;rw[e]at h2 ⊢
        lia
       by_cases hk0:k2>0
       ·rw[if_pos hk0];have mC:Mi ρ (a.toList++b.toList) ((oo++a.extract ii (ii+k1)).push (b.getD jj (.none,.none))++b.extract (jj+1) (jj+1+k2)).toList (a.toList.drop (ii+k1)) (b.toList.drop (jj+1+k2)):=by
         rw[Array.toList_append (xs:=(oo++a.extract ii (ii+k1)).push (b.getD jj (.none,.none)))];exact(show Mi ρ (a.toList++b.toList) ((oo++a.extract ii (ii+k1)).push (b.getD jj (.none,.none))).toList (a.toList.drop (ii+k1)) ((b.extract (jj+1) (jj+1+k2)).toList++b.toList.drop (jj+1+k2)) by rw[←lV];exact mB).goB q1
        by_cases hz:jj+1+k2=b.size
        ·rw[if_pos (by simpa using hz)];exact wpS_pure ⟨hs2,.inl ⟨_,_,rfl,doneR mC hz⟩⟩
        ·rw[if_neg (by simpa using hz)];have hj3:jj+1+k2<b.size:=by lia
         refine wpS_bind (aS (i:=ii+k1) (by lia) ?_)
         try dsimp only
         have mD:=(show Mi ρ (a.toList++b.toList) (((oo++a.extract ii (ii+k1)).push (b.getD jj (.none,.none))++b.extract (jj+1) (jj+1+k2))).toList ([a.getD (ii+k1) (.none,.none)]++a.toList.drop (ii+k1+1)) (b.toList.drop (jj+1+k2)) by rw[dW (i:=ii+k1) (by lia)]at mC;exact mC).goA (fun x hx y hy=>by cases List.mem_singleton.mp hx;exact q2 y hy);rw[←Array.toList_push]at mD
         by_cases hl:ii+k1+1+1=a.size
         ·rw[if_pos (by simpa using hl)];exact wpS_pure ⟨hs2,.inl ⟨_,_,rfl,lastR mD hl⟩⟩
         ·rw[if_neg (by simpa using hl)];have sz:oo.size+1<=((((oo++a.extract ii (ii+k1)).push (b.getD jj (.none,.none))++b.extract (jj+1) (jj+1+k2))).push (a.getD (ii+k1) (.none,.none))).size:=by simp only[Array.size_push,Array.size_append];lia
          have ip:ii+k1+1+1<a.size/\(jj+1+k2)<b.size/\Mi ρ (a.toList++b.toList) ((((oo++a.extract ii (ii+k1)).push (b.getD jj (.none,.none))++b.extract (jj+1) (jj+1+k2))).push (a.getD (ii+k1) (.none,.none))).toList (a.toList.drop (ii+k1+1)) (b.toList.drop (jj+1+k2)):=⟨by lia,hj3,mD⟩
          by_cases hg:(decide (k1<7)&&decide (k2<7))=true
          ·rw[if_pos hg];exact wpS_pure ⟨hs2,.inr ⟨_,_,_,_,_,_,rfl,by lia,ip⟩⟩
          ·rw[if_neg hg];exact wpS_pure ⟨hs2,_,_,_,_,_,_,rfl,by lia,by lia,ip⟩
       ·rw[if_neg hk0];have hk00:k2=0:=by lia
        subst hk00;refine wpS_bind (aS (i:=ii+k1) (by lia) ?_)
        try dsimp only
        have mD:=(show Mi ρ (a.toList++b.toList) (((oo++a.extract ii (ii+k1)).push (b.getD jj (.none,.none)))).toList ([a.getD (ii+k1) (.none,.none)]++a.toList.drop (ii+k1+1)) (b.toList.drop (jj+1)) by rw[dW (i:=ii+k1) (by lia)]at mB;exact mB).goA (fun x hx y hy=>by cases List.mem_singleton.mp hx;exact q2 y hy);rw[←Array.toList_push]at mD
        by_cases hl:ii+k1+1+1=a.size
        ·rw[if_pos (by simpa using hl)];exact wpS_pure ⟨hs2,.inl ⟨_,_,rfl,lastR mD hl⟩⟩
        ·rw[if_neg (by simpa using hl)];have sz:oo.size+1<=((((oo++a.extract ii (ii+k1)).push (b.getD jj (.none,.none)))).push (a.getD (ii+k1) (.none,.none))).size:=by simp only[Array.size_push,Array.size_append];lia
         have ip:ii+k1+1+1<a.size/\(jj+1)<b.size/\Mi ρ (a.toList++b.toList) ((((oo++a.extract ii (ii+k1)).push (b.getD jj (.none,.none)))).push (a.getD (ii+k1) (.none,.none))).toList (a.toList.drop (ii+k1+1)) (b.toList.drop (jj+1)):=⟨by lia,hj2,mD⟩
         by_cases hg:(decide (k1<7)&&decide (0<7))=true
         ·rw[if_pos hg];exact wpS_pure ⟨hs2,.inr ⟨_,_,_,_,_,_,rfl,by lia,ip⟩⟩
         ·rw[if_neg hg];exact wpS_pure ⟨hs2,_,_,_,_,_,_,rfl,by lia,by lia,ip⟩
     ·rw[if_neg hk1'];have hk10:k1=0:=by lia
      subst hk10;have p2:=p2';refine wpS_bind (aS hj ?_)
      try dsimp only
      have mB:=(show Mi ρ (a.toList++b.toList) (oo).toList (a.toList.drop (ii)) ([b.getD jj (.none,.none)]++b.toList.drop (jj+1)) by rw[dW hj]at hM;exact hM).goB (fun x hx y hy=>by cases List.mem_singleton.mp hx;exact p2 y hy);rw[←Array.toList_push]at mB
      by_cases he:jj+1=b.size
      ·rw[if_pos (by simpa using he)];exact wpS_pure ⟨hs2,.inl ⟨_,_,rfl,doneR mB he⟩⟩
      ·rw[if_neg (by simpa using he)];have hj2:jj+1<b.size:=by lia
       refine wpS_bind (aS (i:=ii) (by lia) ?_);refine wpS_bind (cY (st:=bH st'' (gg)) (hint:=0) C (show kindOf (bH st'' (gg))=κ from hs1.1.trans hk) (dA _ (aQ (by lia))) dB (n:=b.size - (jj+1)) (by lia) (by lia) (hU upB (by lia)) fun k2 hk2 r1 r2=> ?_)
       try dsimp only
       have q1:∀x∈(b.extract (jj+1) (jj+1+k2)).toList,∀y∈a.toList.drop (ii),ρ x<ρ y:=fun x hx y hy=>by
        obtain⟨u,hu,e⟩:=lP (ρ:=ρ) hx;rw[e];have:=r1 (u - (jj+1)) (by lia);rw[show jj+1+(u - (jj+1))=u by lia]at this;exact i3 upA hy (of_decide_eq_true this)
       have q2:∀y∈b.toList.drop (jj+1+k2),ρ (a.getD (ii) (.none,.none))<ρ y:=fun y hy=>by
        have hym:y∈b.toList:=List.mem_of_mem_drop hy;obtain⟨u,hu1,hu2,e⟩:=dG (ρ:=ρ) hy;have:=r2 (u - (jj+1)) (by lia) (by lia);rw[show jj+1+(u - (jj+1))=u by lia]at this;have h1:=of_decide_eq_false this;have h2:=ne _ (aQ (a:=a) (i:=ii) (by lia)) y hym;rw[e]at h2 ⊢
        lia
       by_cases hk0:k2>0
       ·rw[if_pos hk0];have mC:Mi ρ (a.toList++b.toList) ((oo).push (b.getD jj (.none,.none))++b.extract (jj+1) (jj+1+k2)).toList (a.toList.drop (ii)) (b.toList.drop (jj+1+k2)):=by
         rw[Array.toList_append (xs:=(oo).push (b.getD jj (.none,.none)))];exact(show Mi ρ (a.toList++b.toList) ((oo).push (b.getD jj (.none,.none))).toList (a.toList.drop (ii)) ((b.extract (jj+1) (jj+1+k2)).toList++b.toList.drop (jj+1+k2)) by rw[←lV];exact mB).goB q1
        by_cases hz:jj+1+k2=b.size
        ·rw[if_pos (by simpa using hz)];exact wpS_pure ⟨hs2,.inl ⟨_,_,rfl,doneR mC hz⟩⟩
        ·rw[if_neg (by simpa using hz)];have hj3:jj+1+k2<b.size:=by lia
         refine wpS_bind (aS (i:=ii) (by lia) ?_)
         try dsimp only
         have mD:=(show Mi ρ (a.toList++b.toList) (((oo).push (b.getD jj (.none,.none))++b.extract (jj+1) (jj+1+k2))).toList ([a.getD (ii) (.none,.none)]++a.toList.drop (ii+1)) (b.toList.drop (jj+1+k2)) by rw[dW (i:=ii) (by lia)]at mC;exact mC).goA (fun x hx y hy=>by cases List.mem_singleton.mp hx;exact q2 y hy);rw[←Array.toList_push]at mD
         by_cases hl:ii+1+1=a.size
         ·rw[if_pos (by simpa using hl)];exact wpS_pure ⟨hs2,.inl ⟨_,_,rfl,lastR mD hl⟩⟩
         ·rw[if_neg (by simpa using hl)];have sz:oo.size+1<=((((oo).push (b.getD jj (.none,.none))++b.extract (jj+1) (jj+1+k2))).push (a.getD (ii) (.none,.none))).size:=by simp only[Array.size_push,Array.size_append];lia
          have ip:ii+1+1<a.size/\(jj+1+k2)<b.size/\Mi ρ (a.toList++b.toList) ((((oo).push (b.getD jj (.none,.none))++b.extract (jj+1) (jj+1+k2))).push (a.getD (ii) (.none,.none))).toList (a.toList.drop (ii+1)) (b.toList.drop (jj+1+k2)):=⟨by lia,hj3,mD⟩
          by_cases hg:(decide (0<7)&&decide (k2<7))=true
          ·rw[if_pos hg];exact wpS_pure ⟨hs2,.inr ⟨_,_,_,_,_,_,rfl,by lia,ip⟩⟩
          ·rw[if_neg hg];exact wpS_pure ⟨hs2,_,_,_,_,_,_,rfl,by lia,by lia,ip⟩
       ·rw[if_neg hk0];have hk00:k2=0:=by lia
        subst hk00;refine wpS_bind (aS (i:=ii) (by lia) ?_)
        try dsimp only
        have mD:=(show Mi ρ (a.toList++b.toList) (((oo).push (b.getD jj (.none,.none)))).toList ([a.getD (ii) (.none,.none)]++a.toList.drop (ii+1)) (b.toList.drop (jj+1)) by rw[dW (i:=ii) (by lia)]at mB;exact mB).goA (fun x hx y hy=>by cases List.mem_singleton.mp hx;exact q2 y hy);rw[←Array.toList_push]at mD
        by_cases hl:ii+1+1=a.size
        ·rw[if_pos (by simpa using hl)];exact wpS_pure ⟨hs2,.inl ⟨_,_,rfl,lastR mD hl⟩⟩
        ·rw[if_neg (by simpa using hl)];have sz:oo.size+1<=((((oo).push (b.getD jj (.none,.none)))).push (a.getD (ii) (.none,.none))).size:=by simp only[Array.size_push,Array.size_append];lia
         have ip:ii+1+1<a.size/\(jj+1)<b.size/\Mi ρ (a.toList++b.toList) ((((oo).push (b.getD jj (.none,.none)))).push (a.getD (ii) (.none,.none))).toList (a.toList.drop (ii+1)) (b.toList.drop (jj+1)):=⟨by lia,hj2,mD⟩
         by_cases hg:(decide (0<7)&&decide (0<7))=true
         ·rw[if_pos hg];exact wpS_pure ⟨hs2,.inr ⟨_,_,_,_,_,_,rfl,by lia,ip⟩⟩
         ·rw[if_neg hg];exact wpS_pure ⟨hs2,_,_,_,_,_,_,rfl,by lia,by lia,ip⟩
   ·rintro c st'' ⟨hs1,oo,ii,jj,gg,ac,bc,rfl,hx2,hy2,hi,hj,hM⟩;have:=leq hM (by lia) hj
    lia
   ·rintro c st'' ⟨hs1,⟨r,rest,rfl,hr⟩|⟨oo,ii,jj,gg,ac,bc,rfl,ho,hi,hj,hM⟩⟩
    ·try dsimp only
     exact wpS_pure ⟨hs1,_,_,rfl,hr⟩
    ·try dsimp only
     refine wpS_bind (wpS_modify (wpS_pure ⟨hs1,_,_,_,_,rfl,ho,hi,hj,hM⟩))
 ·rintro c st' ⟨hs,o,i,j,g,rfl,hx1,hi,hj,hm⟩;have:=leq hm (by lia) hj
  lia
 ·rintro c st' ⟨hs,r,rest,rfl,hr⟩
  try dsimp only
  exact wpS_pure (hQ _ _ hs hr.1 hr.2)
end
end L2
namespace L2
open PySem PySem.W PyProof.Rows
section
variable {prog:Program}{w:World}{A:Around}{E:Value->Shared->Prop}{s:Shared}{κ:SortKind}{D:Keyed->Prop}{ρ:Keyed->Int}{st:SortSt}
theorem c5 {a:Array Keyed}{n:Nat} (h0:0<n) (hn:n<=a.size):(a.toList.take n).reverse=a.getD (n - 1) (.none,.none)::(a.toList.take (n - 1)).reverse:=by
 obtain⟨k,rfl⟩:∃k,n=k+1:=⟨n - 1,by lia⟩
 have h:k<a.toList.length:=by rw[Array.length_toList];lia
 rw[List.take_succ,List.getElem?_eq_getElem h,Nat.add_sub_cancel];show (a.toList.take k++[_]).reverse=_;rw[List.reverse_append];show _::_=_::_
 congr 1
 have hl:k<a.size:=by lia
 simp[Array.getD,hl]
theorem lO {a:Array Keyed}{k n:Nat} (h:k<=n) (hn:n<=a.size):(a.toList.take n).reverse=(a.extract k n).toList.reverse++(a.toList.take k).reverse:=by
 rw[←List.reverse_append,Array.toList_extract,List.extract_eq_drop_take]
 congr 1
 have e:n=k+(n - k):=by lia
 conv=>lhs;rw[e]
 rw[List.take_add]
theorem c3 {a:Array Keyed}{n:Nat}{x:Keyed} (h:x∈(a.toList.take n).reverse):∃u,u<n/\u<a.size/\ρ x=rnk ρ a u:=by
 obtain⟨v,hv,e⟩:=List.getElem_of_mem (List.mem_reverse.mp h);rw[List.length_take,Array.length_toList]at hv;rw[List.getElem_take]at e;have hl:v<a.size:=by lia
 refine⟨v,by lia,hl,?_⟩;unfold rnk;rw[←e]
 congr 1
 simp[Array.getD,hl]
theorem lC {a:Array Keyed}{k n:Nat}{x:Keyed} (h:x∈(a.extract k n).toList):∃u,(k<=u/\u<n/\u<a.size)/\ρ x=rnk ρ a u:=by
 rcases Nat.le_total k n with hkn|hkn
 ·rw[show n=k+(n - k) by lia]at h;obtain⟨u,hu,e⟩:=lP (ρ:=ρ) h;exact⟨u,⟨hu.1,by lia,hu.2.2⟩,e⟩
 ·rw[Array.toList_extract,List.extract_eq_drop_take,show n - k=0 by lia]at h;exact nomatch h
theorem iY {a:Array Keyed}{n:Nat}{y:Keyed}{z:Int} (up:Up ρ a 0 a.size) (h0:0<n) (hn:n<=a.size) (hy:y∈(a.toList.take n).reverse) (hz:ρ (a.getD (n - 1) (.none,.none))<z):ρ y<z:=by
 obtain⟨u,h1,h2,e⟩:=c3 (ρ:=ρ) hy;rw[e];have hz:rnk ρ a (n - 1)<z:=hz;rcases Nat.lt_or_ge u (n - 1) with h|h
 ·have:=up u (n - 1) (Nat.zero_le _) h (by lia)
  lia
 ·have:u=n - 1:=by lia
  rw[this];exact hz
theorem EN {l:List Keyed}(h:cE (fun x=> - ρ x) l):cE ρ l.reverse:=by
 rw[cE,List.pairwise_reverse];exact List.Pairwise.imp (fun {x y} (hxy: - ρ x< - ρ y)=>by lia) h
theorem aA3 (C:mX prog w A E s κ D ρ)(hk:kindOf st=κ){a b:Array Keyed}{Q:Array Keyed->SortSt->Prop} (dA:∀x∈a.toList,D x) (dB:∀x∈b.toList,D x) (upA:Up ρ a 0 a.size) (upB:Up ρ b 0 b.size) (a0:0<a.size) (b0:0<b.size) (ne:∀x∈a.toList,∀y∈b.toList,ρ x≠ρ y)
  (fst:rnk ρ b 0<rnk ρ a 0)(lst:rnk ρ b (b.size - 1)<rnk ρ a (a.size - 1))(hQ:∀m st',SameSt st st'->cE ρ m.toList->m.toList.Perm (a.toList++b.toList)->Q m st') :
  wpS (model prog w) A E s (EA a b) Q st:=by
 have doneR:∀{o:Array Keyed}{n m:Nat},Mi (fun x=> - ρ x) (a.toList++b.toList) o.toList (a.toList.take (n)).reverse (b.toList.take (m)).reverse->n=0∨m=0->cE ρ (a.extract 0 n++b.extract 0 m++o.reverse).toList/\(a.extract 0 n++b.extract 0 m++o.reverse).toList.Perm (a.toList++b.toList):=fun {o n m} hm hz=>by
  have e:(a.extract 0 n++b.extract 0 m++o.reverse).toList=(o.toList++(b.toList.take (m)).reverse++(a.toList.take (n)).reverse).reverse:=by
   simp only[Array.toList_append,Array.toList_extract,List.extract_eq_drop_take,List.drop_zero,Nat.sub_zero,Array.toList_reverse,List.reverse_append,List.reverse_reverse,List.append_assoc]
  have h:=hm.swap.end fun x hx y hy=>by
   rcases hz with rfl|rfl
   ·exact nomatch hy
   ·exact nomatch hx
  rw[e];exact⟨EN h.1,(List.reverse_perm _).trans h.2⟩
 have firstR:∀{o:Array Keyed}{n m:Nat},Mi (fun x=> - ρ x) (a.toList++b.toList) o.toList (a.toList.take (n)).reverse (b.toList.take (m)).reverse->m=1->cE ρ (b.extract 0 m++a.extract 0 n++o.reverse).toList/\(b.extract 0 m++a.extract 0 n++o.reverse).toList.Perm (a.toList++b.toList):=fun {o n m} hm hz=>by
  have e:(b.extract 0 m++a.extract 0 n++o.reverse).toList=(o.toList++(a.toList.take (n)).reverse++(b.toList.take (m)).reverse).reverse:=by
   simp only[Array.toList_append,Array.toList_extract,List.extract_eq_drop_take,List.drop_zero,Nat.sub_zero,Array.toList_reverse,List.reverse_append,List.reverse_reverse,List.append_assoc]
  have h:=hm.end fun x hx y hy=>by
   obtain⟨u,h1,h2,e1⟩:=c3 (ρ:=ρ) hx;obtain⟨v,g1,g2,e2⟩:=c3 (ρ:=ρ) hy;have hv:v=0:=by lia
   subst hv;show - ρ x< - ρ y;rw[e1,e2];rcases Nat.eq_zero_or_pos u with hu|hu
   ·subst hu;lia
   ·have:=upA 0 u (Nat.le_refl _) hu h2
    lia
  rw[e];exact⟨EN h.1,(List.reverse_perm _).trans h.2⟩
 unfold EA;refine wpS_bind (wpS_lift (wpAny_rule ⟨rfl,?_⟩))
 try dsimp only
 refine wpS_bind (aS (i:=a.size - 1) (by lia) ?_)
 try dsimp only
 have m0:Mi (fun x=> - ρ x) (a.toList++b.toList) (#[a.getD (a.size - 1) (.none,.none)]:Array Keyed).toList (a.toList.take (a.size - 1)).reverse (b.toList.take (b.size)).reverse:=by
  have ha:(a.toList.take a.size).reverse=a.getD (a.size - 1) (.none,.none)::(a.toList.take (a.size - 1)).reverse:=c5 a0 (Nat.le_refl _);refine⟨List.pairwise_singleton _ _,fun x hx y hy=> ?_,fun x hx y hy=> ?_,?_,?_,?_⟩
  ·cases List.mem_singleton.mp hx;obtain⟨u,h1,h2,e⟩:=c3 (ρ:=ρ) hy;have:=upA u (a.size - 1) (Nat.zero_le _) (by lia) (by lia);show - rnk ρ a (a.size - 1)< - ρ y;rw[e];lia
  ·cases List.mem_singleton.mp hx;have:=iY (z:=rnk ρ a (a.size - 1)) upB b0 (Nat.le_refl _) hy lst;show - rnk ρ a (a.size - 1)< - ρ y
   lia
  ·rw[cE,List.pairwise_reverse];exact List.Pairwise.imp (fun {x y} (hxy:ρ x<ρ y)=>by show - ρ y< - ρ x;lia) ((vP upA).take)
  ·rw[cE,List.pairwise_reverse];exact List.Pairwise.imp (fun {x y} (hxy:ρ x<ρ y)=>by show - ρ y< - ρ x;lia) ((vP upB).take)
  ·show (([a.getD (a.size - 1) (.none,.none)]++(a.toList.take (a.size - 1)).reverse)++(b.toList.take b.size).reverse).Perm _;have e1:[a.getD (a.size - 1) (.none,.none)]++(a.toList.take (a.size - 1)).reverse=(a.toList.take a.size).reverse:=ha.symm;have t1:a.toList.take a.size=a.toList:=List.take_of_length_le (by rw[Array.length_toList];exact Nat.le_refl _);have t2:b.toList.take b.size=b.toList:=List.take_of_length_le (by rw[Array.length_toList];exact Nat.le_refl _);rw[e1,t1,t2];exact List.Perm.append (List.reverse_perm _) (List.reverse_perm _)
 by_cases h1:a.size - 1=0
 ·rw[if_pos (by simpa using h1)];exact wpS_pure (let r:=doneR m0 (.inl h1);hQ _ _ (SameSt.refl _) r.1 r.2)
 rw[if_neg (by simpa using h1)]
 by_cases h2:b.size=1
 ·rw[if_pos (by simpa using h2)];exact wpS_pure (let r:=firstR m0 h2;hQ _ _ (SameSt.refl _) r.1 r.2)
 rw[if_neg (by simpa using h2)];refine wpS_bind (wpS_get ?_)
 try dsimp only
 have leq:∀{o:Array Keyed}{n m:Nat},Mi (fun x=> - ρ x) (a.toList++b.toList) o.toList (a.toList.take (n)).reverse (b.toList.take (m)).reverse->0<n->n<=a.size->0<m->m<=b.size->o.size+2<=a.size+b.size:=fun hm h1 h2 h3 h4=>by
  have:=hm.len;rw[Array.length_toList,List.length_reverse,List.length_reverse,List.length_take,List.length_take,List.length_append,Array.length_toList,Array.length_toList]at this
  lia
 refine wpS_bind (wpS_mono (wpS_forRange (I:=fun x c st'=>SameSt st st'/\∃(n m:Nat) (o:Array Keyed) (g:Nat),c=(none,n,m,o,g)/\x+1<=o.size/\0<n/\n<=a.size/\1<m/\m<=b.size/\Mi (fun x=> - ρ x) (a.toList++b.toList) o.toList (a.toList.take (n)).reverse (b.toList.take (m)).reverse)
  (Q:=fun c st'=>SameSt st st'/\∃(r:Array Keyed) (rest:Nat×Nat×Array Keyed×Nat),c=(some r,rest)/\cE ρ r.toList/\r.toList.Perm (a.toList++b.toList)) ?_ ?_ ⟨SameSt.refl _,_,_,_,_,rfl,Nat.le_refl _,by lia,by lia,by lia,by lia,m0⟩) ?_)
 ·rintro x c st' _ hx ⟨hs,n,m,o,g,rfl,hx1,hna,hnA,hnb1,hnb,hm⟩
  try dsimp only
  have hk':kindOf st'=κ:=hs.1.trans hk;refine wpS_bind (wpS_mono (wpS_forRange (I:=fun y c st''=>st''=st'/\∃(na nb:Nat) (oo:Array Keyed) (ac bc:Nat),c=(none,na,nb,oo,ac,bc)/\o.size+y<=oo.size/\0<na/\na<=a.size/\1<nb/\nb<=b.size/\Mi (fun x=> - ρ x) (a.toList++b.toList) oo.toList (a.toList.take (na)).reverse (b.toList.take (nb)).reverse)
   (Q:=fun c st''=>st''=st'/\((∃(r:Array Keyed) (rest:Nat×Nat×Array Keyed×Nat×Nat),c=(some r,rest)/\cE ρ r.toList/\r.toList.Perm (a.toList++b.toList))∨∃(na nb:Nat) (oo:Array Keyed) (ac bc:Nat),c=(none,na,nb,oo,ac,bc)/\o.size+1<=oo.size/\0<na/\na<=a.size/\1<nb/\nb<=b.size/\Mi (fun x=> - ρ x) (a.toList++b.toList) oo.toList (a.toList.take (na)).reverse (b.toList.take (nb)).reverse)) ?_ ?_ ⟨rfl,n,m,o,0,0,rfl,Nat.le_refl _,hna,hnA,hnb1,hnb,hm⟩) ?_)
  ·rintro y c _ _ hy ⟨rfl,na,nb,oo,ac,bc,rfl,hy1,hna,hnA,hnb1,hnb,hM⟩
   try dsimp only
   refine wpS_bind (aS (i:=nb - 1) (by lia) (wpS_bind (aS (i:=na - 1) (by lia) (wpS_bind (C.lt (dB _ (aQ (by lia))) (dA _ (aQ (by lia))) hk' ?_)))))
   try dsimp only
   by_cases hc:ρ (b.getD (nb - 1) (.none,.none))<ρ (a.getD (na - 1) (.none,.none))
   ·rw[decide_eq_true hc,if_pos rfl];refine wpS_bind (aS (i:=na - 1) (by lia) ?_)
    try dsimp only
    have mA:=(show Mi (fun x=> - ρ x) (a.toList++b.toList) oo.toList ([a.getD (na - 1) (.none,.none)]++(a.toList.take (na - 1)).reverse) (b.toList.take (nb)).reverse by rw[c5 hna hnA]at hM;exact hM).goA (fun x hx y hy=>by cases List.mem_singleton.mp hx;have:=iY upB (by lia) hnb hy hc;show - _< - _;lia);rw[←Array.toList_push]at mA
    by_cases he:na - 1=0
    ·rw[if_pos (by simpa using he)];exact wpS_pure ⟨rfl,.inl ⟨_,_,rfl,doneR mA (.inl he)⟩⟩
    ·rw[if_neg (by simpa using he)]
     by_cases hg:ac+1≥g
     ·rw[if_pos hg];exact wpS_pure ⟨rfl,.inr ⟨_,_,_,_,_,rfl,by rw[Array.size_push];lia,by lia,by lia,hnb1,hnb,mA⟩⟩
     ·rw[if_neg hg];exact wpS_pure ⟨rfl,_,_,_,_,_,rfl,by rw[Array.size_push];lia,by lia,by lia,hnb1,hnb,mA⟩
   ·rw[decide_eq_false hc,if_neg Bool.false_ne_true];refine wpS_bind (aS (i:=nb - 1) (by lia) ?_)
    try dsimp only
    have hlt:ρ (a.getD (na - 1) (.none,.none))<ρ (b.getD (nb - 1) (.none,.none)):=by
     have:=ne _ (aQ (a:=a) (i:=na - 1) (by lia)) _ (aQ (a:=b) (i:=nb - 1) (by lia))
     lia
    have mB:=(show Mi (fun x=> - ρ x) (a.toList++b.toList) oo.toList (a.toList.take (na)).reverse ([b.getD (nb - 1) (.none,.none)]++(b.toList.take (nb - 1)).reverse) by rw[c5 (a:=b) (by lia) hnb]at hM;exact hM).goB (fun x hx y hy=>by cases List.mem_singleton.mp hx;have:=iY upA hna hnA hy hlt;show - _< - _;lia);rw[←Array.toList_push]at mB
    by_cases he:nb - 1=1
    ·rw[if_pos (by simpa using he)];exact wpS_pure ⟨rfl,.inl ⟨_,_,rfl,firstR mB he⟩⟩
    ·rw[if_neg (by simpa using he)]
     by_cases hg:bc+1≥g
     ·rw[if_pos hg];exact wpS_pure ⟨rfl,.inr ⟨_,_,_,_,_,rfl,by rw[Array.size_push];lia,hna,hnA,by lia,by lia,mB⟩⟩
     ·rw[if_neg hg];exact wpS_pure ⟨rfl,_,_,_,_,_,rfl,by rw[Array.size_push];lia,hna,hnA,by lia,by lia,mB⟩
  ·rintro c _ ⟨rfl,na,nb,oo,ac,bc,rfl,hy1,hna,hnA,hnb1,hnb,hM⟩;have:=leq hM hna hnA (by lia) hnb
   lia
  ·rintro c _ ⟨rfl,⟨r,rest,rfl,hr⟩|⟨na,nb,oo,ac,bc,rfl,ho,hna,hnA,hnb1,hnb,hM⟩⟩
   ·try dsimp only
    exact wpS_pure ⟨hs,_,_,rfl,hr⟩
   try dsimp only
   refine wpS_bind (wpS_lift (wpAny_rule ⟨rfl,?_⟩));refine wpS_bind (wpS_mono (wpS_forRange (I:=fun y c st''=>SameSt st st''/\∃(na nb:Nat) (oo:Array Keyed) (gg ac bc:Nat),c=(none,na,nb,oo,gg,ac,bc)/\x+2<=oo.size/\y<=oo.size/\0<na/\na<=a.size/\1<nb/\nb<=b.size/\Mi (fun x=> - ρ x) (a.toList++b.toList) oo.toList (a.toList.take (na)).reverse (b.toList.take (nb)).reverse)
    (Q:=fun c st''=>SameSt st st''/\((∃(r:Array Keyed) (rest:Nat×Nat×Array Keyed×Nat×Nat×Nat),c=(some r,rest)/\cE ρ r.toList/\r.toList.Perm (a.toList++b.toList))∨∃(na nb:Nat) (oo:Array Keyed) (gg ac bc:Nat),c=(none,na,nb,oo,gg,ac,bc)/\x+2<=oo.size/\0<na/\na<=a.size/\1<nb/\nb<=b.size/\Mi (fun x=> - ρ x) (a.toList++b.toList) oo.toList (a.toList.take (na)).reverse (b.toList.take (nb)).reverse)) ?_ ?_ ⟨hs,na,nb,oo,_,_,_,rfl,by lia,by lia,hna,hnA,hnb1,hnb,hM⟩) ?_)
   ·clear hM hna hnA hnb1 hnb ho oo na nb ac bc;rintro y c st'' _ hy ⟨hs1,na,nb,oo,gg,ac,bc,rfl,hx2,hy2,hna,hnA,hnb1,hnb,hM⟩
    try dsimp only
    by_cases hgg:gg>1
    ·rw[if_pos hgg]
     try dsimp only
     refine wpS_bind (wpS_modify ?_);have hs2:SameSt st (bH st'' (gg - 1)):=hs1;refine wpS_bind (aS (i:=nb - 1) (by lia) ?_);refine wpS_bind (cY (st:=bH st'' (gg - 1)) (base:=0) (n:=na) (hint:=na - 1) C (show kindOf (bH st'' (gg - 1))=κ from hs1.1.trans hk) (dB _ (aQ (by lia))) dA (by lia) (by lia) (hU upA (by lia)) fun k1 hk1 r1 r2=> ?_)
     try dsimp only
     have p1:∀x∈(a.extract k1 na).toList.reverse,∀y∈(b.toList.take (nb)).reverse,ρ y<ρ x:=fun x hx y hy=>by
      obtain⟨u,hu,e⟩:=lC (ρ:=ρ) (List.mem_reverse.mp hx);have:=r2 u (by lia) (by lia);rw[Nat.zero_add]at this;refine iY upB (by lia) hnb hy ?_;rw[e];unfold bey at this;rw[if_neg Bool.false_ne_true]at this
      simpa using this
     have p2':∀y∈(a.toList.take (k1)).reverse,ρ y<ρ (b.getD (nb - 1) (.none,.none)):=fun y hy=>by
      obtain⟨u,hu1,hu2,e⟩:=c3 (ρ:=ρ) hy;have:=r1 u hu1;rw[Nat.zero_add]at this;have h1:¬ρ (b.getD (nb - 1) (.none,.none))<rnk ρ a u:=of_decide_eq_false (by unfold bey at this;rw[if_neg Bool.false_ne_true]at this;simpa using this);have h2:=ne _ (aQ (a:=a) (i:=u) hu2) _ (aQ (a:=b) (i:=nb - 1) (by lia));rw[e];have h2:rnk ρ a u≠ρ (b.getD (nb - 1) (.none,.none)):=h2
      lia
     by_cases hk1':na - k1>0
     ·rw[if_pos hk1'];have mA:Mi (fun x=> - ρ x) (a.toList++b.toList) (oo++(a.extract k1 na).reverse).toList (a.toList.take (k1)).reverse (b.toList.take (nb)).reverse:=by
       rw[Array.toList_append (xs:=oo),Array.toList_reverse];exact(show Mi (fun x=> - ρ x) (a.toList++b.toList) oo.toList ((a.extract k1 na).toList.reverse++(a.toList.take (k1)).reverse) (b.toList.take (nb)).reverse by rw[←lO (by lia) (by lia)];exact hM).goA (fun x hx y hy=>by have:=p1 x hx y hy;show - _< - _;lia)
      by_cases hl:k1=0
      ·rw[if_pos (by simpa using hl)];exact wpS_pure ⟨hs2,.inl ⟨_,_,rfl,doneR mA (.inl hl)⟩⟩
      rw[if_neg (by simpa using hl)];have hM:=mA;have p2:=p2';have hna:0<k1:=by lia
      have hnA:k1<=a.size:=by lia
      refine wpS_bind (aS (i:=nb - 1) (by lia) ?_)
      try dsimp only
      have mB:=(show Mi (fun x=> - ρ x) (a.toList++b.toList) (oo++(a.extract k1 na).reverse).toList (a.toList.take (k1)).reverse ([b.getD (nb - 1) (.none,.none)]++(b.toList.take (nb - 1)).reverse) by rw[c5 (by lia) hnb]at hM;exact hM).goB (fun x hx y hy=>by cases List.mem_singleton.mp hx;have:=p2 y hy;show - _< - _;lia);rw[←Array.toList_push]at mB
      by_cases he:nb - 1=1
      ·rw[if_pos (by simpa using he)];exact wpS_pure ⟨hs2,.inl ⟨_,_,rfl,firstR mB he⟩⟩
      ·rw[if_neg (by simpa using he)];have hnb2:1<nb - 1:=by lia
       refine wpS_bind (aS (i:=k1 - 1) (by lia) ?_);refine wpS_bind (cY (st:=bH st'' (gg - 1)) (base:=0) (n:=nb - 1) (hint:=nb - 1 - 1) C (show kindOf (bH st'' (gg - 1))=κ from hs1.1.trans hk) (dA _ (aQ (by lia))) dB (by lia) (by lia) (hU upB (by lia)) fun k2 hk2 r1 r2=> ?_)
       try dsimp only
       have q1:∀x∈(b.extract k2 (nb - 1)).toList.reverse,∀y∈(a.toList.take (k1)).reverse,ρ y<ρ x:=fun x hx y hy=>by
        obtain⟨u,hu,e⟩:=lC (ρ:=ρ) (List.mem_reverse.mp hx);have:=r2 u (by lia) (by lia);rw[Nat.zero_add]at this;have h1:¬rnk ρ b u<ρ (a.getD (k1 - 1) (.none,.none)):=of_decide_eq_false (by unfold bey at this;rw[if_pos rfl]at this;exact this);have h2:=ne _ (aQ (a:=a) (i:=k1 - 1) (by lia)) _ (aQ (a:=b) (i:=u) hu.2.2);refine iY upA hna hnA hy ?_;rw[e];have h2:ρ (a.getD (k1 - 1) (.none,.none))≠rnk ρ b u:=h2
        lia
       have q2:∀y∈(b.toList.take (k2)).reverse,ρ y<ρ (a.getD (k1 - 1) (.none,.none)):=fun y hy=>by
        obtain⟨u,hu1,hu2,e⟩:=c3 (ρ:=ρ) hy;have:=r1 u hu1;rw[Nat.zero_add]at this;rw[e];unfold bey at this;rw[if_pos rfl]at this;exact of_decide_eq_true this
       by_cases hk0:nb - 1 - k2>0
       ·rw[if_pos hk0];have mC:Mi (fun x=> - ρ x) (a.toList++b.toList) ((oo++(a.extract k1 na).reverse).push (b.getD (nb - 1) (.none,.none))++(b.extract k2 (nb - 1)).reverse).toList (a.toList.take (k1)).reverse (b.toList.take (k2)).reverse:=by
         rw[Array.toList_append (xs:=(oo++(a.extract k1 na).reverse).push (b.getD (nb - 1) (.none,.none))),Array.toList_reverse];exact(show Mi (fun x=> - ρ x) (a.toList++b.toList) ((oo++(a.extract k1 na).reverse).push (b.getD (nb - 1) (.none,.none))).toList (a.toList.take (k1)).reverse ((b.extract k2 (nb - 1)).toList.reverse++(b.toList.take (k2)).reverse) by rw[←lO (by lia) (by lia)];exact mB).goB (fun x hx y hy=>by have:=q1 x hx y hy;show - _< - _;lia)
        by_cases hz:k2=1
        ·rw[if_pos (by simpa using hz)];exact wpS_pure ⟨hs2,.inl ⟨_,_,rfl,firstR mC hz⟩⟩
        rw[if_neg (by simpa using hz)]
        by_cases hz0:k2=0
        ·rw[if_pos (by simpa using hz0)];exact wpS_pure ⟨hs2,.inl ⟨_,_,rfl,doneR mC (.inr hz0)⟩⟩
        rw[if_neg (by simpa using hz0)];have hn3:1<k2:=by lia
        have hn3':k2<=b.size:=by lia
        refine wpS_bind (aS (i:=k1 - 1) (by lia) ?_)
        try dsimp only
        have mD:=(show Mi (fun x=> - ρ x) (a.toList++b.toList) (((oo++(a.extract k1 na).reverse).push (b.getD (nb - 1) (.none,.none))++(b.extract k2 (nb - 1)).reverse)).toList ([a.getD (k1 - 1) (.none,.none)]++(a.toList.take (k1 - 1)).reverse) (b.toList.take (k2)).reverse by rw[c5 hna hnA]at mC;exact mC).goA (fun x hx y hy=>by cases List.mem_singleton.mp hx;have:=q2 y hy;show - _< - _;lia);rw[←Array.toList_push]at mD
        by_cases hl:k1 - 1=0
        ·rw[if_pos (by simpa using hl)];exact wpS_pure ⟨hs2,.inl ⟨_,_,rfl,doneR mD (.inl hl)⟩⟩
        ·rw[if_neg (by simpa using hl)];have sz:oo.size+1<=((((oo++(a.extract k1 na).reverse).push (b.getD (nb - 1) (.none,.none))++(b.extract k2 (nb - 1)).reverse)).push (a.getD (k1 - 1) (.none,.none))).size:=by simp only[Array.size_push,Array.size_append];lia
         have ip:0<k1 - 1/\k1 - 1<=a.size/\1<k2/\k2<=b.size/\Mi (fun x=> - ρ x) (a.toList++b.toList) ((((oo++(a.extract k1 na).reverse).push (b.getD (nb - 1) (.none,.none))++(b.extract k2 (nb - 1)).reverse)).push (a.getD (k1 - 1) (.none,.none))).toList (a.toList.take (k1 - 1)).reverse (b.toList.take (k2)).reverse:=⟨by lia,by lia,hn3,hn3',mD⟩
         by_cases hg:(decide (na - k1<7)&&decide (nb - 1 - (k2)<7))=true
         ·rw[if_pos hg];exact wpS_pure ⟨hs2,.inr ⟨_,_,_,_,_,_,rfl,by lia,ip⟩⟩
         ·rw[if_neg hg];exact wpS_pure ⟨hs2,_,_,_,_,_,_,rfl,by lia,by lia,ip⟩
       ·rw[if_neg hk0];have hk00:k2=nb - 1:=by lia
        subst hk00;have hn3':nb - 1<=b.size:=by lia
        refine wpS_bind (aS (i:=k1 - 1) (by lia) ?_)
        try dsimp only
        have mD:=(show Mi (fun x=> - ρ x) (a.toList++b.toList) (((oo++(a.extract k1 na).reverse).push (b.getD (nb - 1) (.none,.none)))).toList ([a.getD (k1 - 1) (.none,.none)]++(a.toList.take (k1 - 1)).reverse) (b.toList.take (nb - 1)).reverse by rw[c5 hna hnA]at mB;exact mB).goA (fun x hx y hy=>by cases List.mem_singleton.mp hx;have:=q2 y hy;show - _< - _;lia);rw[←Array.toList_push]at mD
        by_cases hl:k1 - 1=0
        ·rw[if_pos (by simpa using hl)];exact wpS_pure ⟨hs2,.inl ⟨_,_,rfl,doneR mD (.inl hl)⟩⟩
        ·rw[if_neg (by simpa using hl)];have sz:oo.size+1<=((((oo++(a.extract k1 na).reverse).push (b.getD (nb - 1) (.none,.none)))).push (a.getD (k1 - 1) (.none,.none))).size:=by simp only[Array.size_push,Array.size_append];lia
         have ip:0<k1 - 1/\k1 - 1<=a.size/\1<nb - 1/\nb - 1<=b.size/\Mi (fun x=> - ρ x) (a.toList++b.toList) ((((oo++(a.extract k1 na).reverse).push (b.getD (nb - 1) (.none,.none)))).push (a.getD (k1 - 1) (.none,.none))).toList (a.toList.take (k1 - 1)).reverse (b.toList.take (nb - 1)).reverse:=⟨by lia,by lia,hnb2,hn3',mD⟩
         by_cases hg:(decide (na - k1<7)&&decide (nb - 1 - (nb - 1)<7))=true
         ·rw[if_pos hg];exact wpS_pure ⟨hs2,.inr ⟨_,_,_,_,_,_,rfl,by lia,ip⟩⟩
         ·rw[if_neg hg];exact wpS_pure ⟨hs2,_,_,_,_,_,_,rfl,by lia,by lia,ip⟩
     ·rw[if_neg hk1'];have hk10:k1=na:=by lia
      subst hk10;have p2:=p2';refine wpS_bind (aS (i:=nb - 1) (by lia) ?_)
      try dsimp only
      have mB:=(show Mi (fun x=> - ρ x) (a.toList++b.toList) (oo).toList (a.toList.take (k1)).reverse ([b.getD (nb - 1) (.none,.none)]++(b.toList.take (nb - 1)).reverse) by rw[c5 (by lia) hnb]at hM;exact hM).goB (fun x hx y hy=>by cases List.mem_singleton.mp hx;have:=p2 y hy;show - _< - _;lia);rw[←Array.toList_push]at mB
      by_cases he:nb - 1=1
      ·rw[if_pos (by simpa using he)];exact wpS_pure ⟨hs2,.inl ⟨_,_,rfl,firstR mB he⟩⟩
      ·rw[if_neg (by simpa using he)];have hnb2:1<nb - 1:=by lia
       refine wpS_bind (aS (i:=k1 - 1) (by lia) ?_);refine wpS_bind (cY (st:=bH st'' (gg - 1)) (base:=0) (n:=nb - 1) (hint:=nb - 1 - 1) C (show kindOf (bH st'' (gg - 1))=κ from hs1.1.trans hk) (dA _ (aQ (by lia))) dB (by lia) (by lia) (hU upB (by lia)) fun k2 hk2 r1 r2=> ?_)
       try dsimp only
       have q1:∀x∈(b.extract k2 (nb - 1)).toList.reverse,∀y∈(a.toList.take (k1)).reverse,ρ y<ρ x:=fun x hx y hy=>by
        obtain⟨u,hu,e⟩:=lC (ρ:=ρ) (List.mem_reverse.mp hx);have:=r2 u (by lia) (by lia);rw[Nat.zero_add]at this;have h1:¬rnk ρ b u<ρ (a.getD (k1 - 1) (.none,.none)):=of_decide_eq_false (by unfold bey at this;rw[if_pos rfl]at this;exact this);have h2:=ne _ (aQ (a:=a) (i:=k1 - 1) (by lia)) _ (aQ (a:=b) (i:=u) hu.2.2);refine iY upA hna hnA hy ?_;rw[e];have h2:ρ (a.getD (k1 - 1) (.none,.none))≠rnk ρ b u:=h2
        lia
       have q2:∀y∈(b.toList.take (k2)).reverse,ρ y<ρ (a.getD (k1 - 1) (.none,.none)):=fun y hy=>by
        obtain⟨u,hu1,hu2,e⟩:=c3 (ρ:=ρ) hy;have:=r1 u hu1;rw[Nat.zero_add]at this;rw[e];unfold bey at this;rw[if_pos rfl]at this;exact of_decide_eq_true this
       by_cases hk0:nb - 1 - k2>0
       ·rw[if_pos hk0];have mC:Mi (fun x=> - ρ x) (a.toList++b.toList) ((oo).push (b.getD (nb - 1) (.none,.none))++(b.extract k2 (nb - 1)).reverse).toList (a.toList.take (k1)).reverse (b.toList.take (k2)).reverse:=by
         rw[Array.toList_append (xs:=(oo).push (b.getD (nb - 1) (.none,.none))),Array.toList_reverse];exact(show Mi (fun x=> - ρ x) (a.toList++b.toList) ((oo).push (b.getD (nb - 1) (.none,.none))).toList (a.toList.take (k1)).reverse ((b.extract k2 (nb - 1)).toList.reverse++(b.toList.take (k2)).reverse) by rw[←lO (by lia) (by lia)];exact mB).goB (fun x hx y hy=>by have:=q1 x hx y hy;show - _< - _;lia)
        by_cases hz:k2=1
        ·rw[if_pos (by simpa using hz)];exact wpS_pure ⟨hs2,.inl ⟨_,_,rfl,firstR mC hz⟩⟩
        rw[if_neg (by simpa using hz)]
        by_cases hz0:k2=0
        ·rw[if_pos (by simpa using hz0)];exact wpS_pure ⟨hs2,.inl ⟨_,_,rfl,doneR mC (.inr hz0)⟩⟩
        rw[if_neg (by simpa using hz0)];have hn3:1<k2:=by lia
        have hn3':k2<=b.size:=by lia
        refine wpS_bind (aS (i:=k1 - 1) (by lia) ?_)
        try dsimp only
        have mD:=(show Mi (fun x=> - ρ x) (a.toList++b.toList) (((oo).push (b.getD (nb - 1) (.none,.none))++(b.extract k2 (nb - 1)).reverse)).toList ([a.getD (k1 - 1) (.none,.none)]++(a.toList.take (k1 - 1)).reverse) (b.toList.take (k2)).reverse by rw[c5 hna hnA]at mC;exact mC).goA (fun x hx y hy=>by cases List.mem_singleton.mp hx;have:=q2 y hy;show - _< - _;lia);rw[←Array.toList_push]at mD
        by_cases hl:k1 - 1=0
        ·rw[if_pos (by simpa using hl)];exact wpS_pure ⟨hs2,.inl ⟨_,_,rfl,doneR mD (.inl hl)⟩⟩
        ·rw[if_neg (by simpa using hl)];have sz:oo.size+1<=((((oo).push (b.getD (nb - 1) (.none,.none))++(b.extract k2 (nb - 1)).reverse)).push (a.getD (k1 - 1) (.none,.none))).size:=by simp only[Array.size_push,Array.size_append];lia
         have ip:0<k1 - 1/\k1 - 1<=a.size/\1<k2/\k2<=b.size/\Mi (fun x=> - ρ x) (a.toList++b.toList) ((((oo).push (b.getD (nb - 1) (.none,.none))++(b.extract k2 (nb - 1)).reverse)).push (a.getD (k1 - 1) (.none,.none))).toList (a.toList.take (k1 - 1)).reverse (b.toList.take (k2)).reverse:=⟨by lia,by lia,hn3,hn3',mD⟩
         by_cases hg:(decide (k1 - k1<7)&&decide (nb - 1 - (k2)<7))=true
         ·rw[if_pos hg];exact wpS_pure ⟨hs2,.inr ⟨_,_,_,_,_,_,rfl,by lia,ip⟩⟩
         ·rw[if_neg hg];exact wpS_pure ⟨hs2,_,_,_,_,_,_,rfl,by lia,by lia,ip⟩
       ·rw[if_neg hk0];have hk00:k2=nb - 1:=by lia
        subst hk00;have hn3':nb - 1<=b.size:=by lia
        refine wpS_bind (aS (i:=k1 - 1) (by lia) ?_)
        try dsimp only
        have mD:=(show Mi (fun x=> - ρ x) (a.toList++b.toList) (((oo).push (b.getD (nb - 1) (.none,.none)))).toList ([a.getD (k1 - 1) (.none,.none)]++(a.toList.take (k1 - 1)).reverse) (b.toList.take (nb - 1)).reverse by rw[c5 hna hnA]at mB;exact mB).goA (fun x hx y hy=>by cases List.mem_singleton.mp hx;have:=q2 y hy;show - _< - _;lia);rw[←Array.toList_push]at mD
        by_cases hl:k1 - 1=0
        ·rw[if_pos (by simpa using hl)];exact wpS_pure ⟨hs2,.inl ⟨_,_,rfl,doneR mD (.inl hl)⟩⟩
        ·rw[if_neg (by simpa using hl)];have sz:oo.size+1<=((((oo).push (b.getD (nb - 1) (.none,.none)))).push (a.getD (k1 - 1) (.none,.none))).size:=by simp only[Array.size_push,Array.size_append];lia
         have ip:0<k1 - 1/\k1 - 1<=a.size/\1<nb - 1/\nb - 1<=b.size/\Mi (fun x=> - ρ x) (a.toList++b.toList) ((((oo).push (b.getD (nb - 1) (.none,.none)))).push (a.getD (k1 - 1) (.none,.none))).toList (a.toList.take (k1 - 1)).reverse (b.toList.take (nb - 1)).reverse:=⟨by lia,by lia,hnb2,hn3',mD⟩
         by_cases hg:(decide (k1 - k1<7)&&decide (nb - 1 - (nb - 1)<7))=true
         ·rw[if_pos hg];exact wpS_pure ⟨hs2,.inr ⟨_,_,_,_,_,_,rfl,by lia,ip⟩⟩
         ·rw[if_neg hg];exact wpS_pure ⟨hs2,_,_,_,_,_,_,rfl,by lia,by lia,ip⟩
    ·rw[if_neg hgg]
     try dsimp only
     refine wpS_bind (wpS_modify ?_);have hs2:SameSt st (bH st'' (gg)):=hs1;refine wpS_bind (aS (i:=nb - 1) (by lia) ?_);refine wpS_bind (cY (st:=bH st'' (gg)) (base:=0) (n:=na) (hint:=na - 1) C (show kindOf (bH st'' (gg))=κ from hs1.1.trans hk) (dB _ (aQ (by lia))) dA (by lia) (by lia) (hU upA (by lia)) fun k1 hk1 r1 r2=> ?_)
     try dsimp only
     have p1:∀x∈(a.extract k1 na).toList.reverse,∀y∈(b.toList.take (nb)).reverse,ρ y<ρ x:=fun x hx y hy=>by
      obtain⟨u,hu,e⟩:=lC (ρ:=ρ) (List.mem_reverse.mp hx);have:=r2 u (by lia) (by lia);rw[Nat.zero_add]at this;refine iY upB (by lia) hnb hy ?_;rw[e];unfold bey at this;rw[if_neg Bool.false_ne_true]at this
      simpa using this
     have p2':∀y∈(a.toList.take (k1)).reverse,ρ y<ρ (b.getD (nb - 1) (.none,.none)):=fun y hy=>by
      obtain⟨u,hu1,hu2,e⟩:=c3 (ρ:=ρ) hy;have:=r1 u hu1;rw[Nat.zero_add]at this;have h1:¬ρ (b.getD (nb - 1) (.none,.none))<rnk ρ a u:=of_decide_eq_false (by unfold bey at this;rw[if_neg Bool.false_ne_true]at this;simpa using this);have h2:=ne _ (aQ (a:=a) (i:=u) hu2) _ (aQ (a:=b) (i:=nb - 1) (by lia));rw[e];have h2:rnk ρ a u≠ρ (b.getD (nb - 1) (.none,.none)):=h2
      lia
     by_cases hk1':na - k1>0
     ·rw[if_pos hk1'];have mA:Mi (fun x=> - ρ x) (a.toList++b.toList) (oo++(a.extract k1 na).reverse).toList (a.toList.take (k1)).reverse (b.toList.take (nb)).reverse:=by
       rw[Array.toList_append (xs:=oo),Array.toList_reverse];exact(show Mi (fun x=> - ρ x) (a.toList++b.toList) oo.toList ((a.extract k1 na).toList.reverse++(a.toList.take (k1)).reverse) (b.toList.take (nb)).reverse by rw[←lO (by lia) (by lia)];exact hM).goA (fun x hx y hy=>by have:=p1 x hx y hy;show - _< - _;lia)
      by_cases hl:k1=0
      ·rw[if_pos (by simpa using hl)];exact wpS_pure ⟨hs2,.inl ⟨_,_,rfl,doneR mA (.inl hl)⟩⟩
      rw[if_neg (by simpa using hl)];have hM:=mA;have p2:=p2';have hna:0<k1:=by lia
      have hnA:k1<=a.size:=by lia
      refine wpS_bind (aS (i:=nb - 1) (by lia) ?_)
      try dsimp only
      have mB:=(show Mi (fun x=> - ρ x) (a.toList++b.toList) (oo++(a.extract k1 na).reverse).toList (a.toList.take (k1)).reverse ([b.getD (nb - 1) (.none,.none)]++(b.toList.take (nb - 1)).reverse) by rw[c5 (by lia) hnb]at hM;exact hM).goB (fun x hx y hy=>by cases List.mem_singleton.mp hx;have:=p2 y hy;show - _< - _;lia);rw[←Array.toList_push]at mB
      by_cases he:nb - 1=1
      ·rw[if_pos (by simpa using he)];exact wpS_pure ⟨hs2,.inl ⟨_,_,rfl,firstR mB he⟩⟩
      ·rw[if_neg (by simpa using he)];have hnb2:1<nb - 1:=by lia
       refine wpS_bind (aS (i:=k1 - 1) (by lia) ?_);refine wpS_bind (cY (st:=bH st'' (gg)) (base:=0) (n:=nb - 1) (hint:=nb - 1 - 1) C (show kindOf (bH st'' (gg))=κ from hs1.1.trans hk) (dA _ (aQ (by lia))) dB (by lia) (by lia) (hU upB (by lia)) fun k2 hk2 r1 r2=> ?_)
       try dsimp only
       have q1:∀x∈(b.extract k2 (nb - 1)).toList.reverse,∀y∈(a.toList.take (k1)).reverse,ρ y<ρ x:=fun x hx y hy=>by
        obtain⟨u,hu,e⟩:=lC (ρ:=ρ) (List.mem_reverse.mp hx);have:=r2 u (by lia) (by lia);rw[Nat.zero_add]at this;have h1:¬rnk ρ b u<ρ (a.getD (k1 - 1) (.none,.none)):=of_decide_eq_false (by unfold bey at this;rw[if_pos rfl]at this;exact this);have h2:=ne _ (aQ (a:=a) (i:=k1 - 1) (by lia)) _ (aQ (a:=b) (i:=u) hu.2.2);refine iY upA hna hnA hy ?_;rw[e];have h2:ρ (a.getD (k1 - 1) (.none,.none))≠rnk ρ b u:=h2
        lia
       have q2:∀y∈(b.toList.take (k2)).reverse,ρ y<ρ (a.getD (k1 - 1) (.none,.none)):=fun y hy=>by
        obtain⟨u,hu1,hu2,e⟩:=c3 (ρ:=ρ) hy;have:=r1 u hu1;rw[Nat.zero_add]at this;rw[e];unfold bey at this;rw[if_pos rfl]at this;exact of_decide_eq_true this
       by_cases hk0:nb - 1 - k2>0
       ·rw[if_pos hk0];have mC:Mi (fun x=> - ρ x) (a.toList++b.toList) ((oo++(a.extract k1 na).reverse).push (b.getD (nb - 1) (.none,.none))++(b.extract k2 (nb - 1)).reverse).toList (a.toList.take (k1)).reverse (b.toList.take (k2)).reverse:=by
         rw[Array.toList_append (xs:=(oo++(a.extract k1 na).reverse).push (b.getD (nb - 1) (.none,.none))),Array.toList_reverse];exact(show Mi (fun x=> - ρ x) (a.toList++b.toList) ((oo++(a.extract k1 na).reverse).push (b.getD (nb - 1) (.none,.none))).toList (a.toList.take (k1)).reverse ((b.extract k2 (nb - 1)).toList.reverse++(b.toList.take (k2)).reverse) by rw[←lO (by lia) (by lia)];exact mB).goB (fun x hx y hy=>by have:=q1 x hx y hy;show - _< - _;lia)
        by_cases hz:k2=1
        ·rw[if_pos (by simpa using hz)];exact wpS_pure ⟨hs2,.inl ⟨_,_,rfl,firstR mC hz⟩⟩
        rw[if_neg (by simpa using hz)]
        by_cases hz0:k2=0
        ·rw[if_pos (by simpa using hz0)];exact wpS_pure ⟨hs2,.inl ⟨_,_,rfl,doneR mC (.inr hz0)⟩⟩
        rw[if_neg (by simpa using hz0)];have hn3:1<k2:=by lia
        have hn3':k2<=b.size:=by lia
        refine wpS_bind (aS (i:=k1 - 1) (by lia) ?_)
        try dsimp only
        have mD:=(show Mi (fun x=> - ρ x) (a.toList++b.toList) (((oo++(a.extract k1 na).reverse).push (b.getD (nb - 1) (.none,.none))++(b.extract k2 (nb - 1)).reverse)).toList ([a.getD (k1 - 1) (.none,.none)]++(a.toList.take (k1 - 1)).reverse) (b.toList.take (k2)).reverse by rw[c5 hna hnA]at mC;exact mC).goA (fun x hx y hy=>by cases List.mem_singleton.mp hx;have:=q2 y hy;show - _< - _;lia);rw[←Array.toList_push]at mD
        by_cases hl:k1 - 1=0
        ·rw[if_pos (by simpa using hl)];exact wpS_pure ⟨hs2,.inl ⟨_,_,rfl,doneR mD (.inl hl)⟩⟩
        ·rw[if_neg (by simpa using hl)];have sz:oo.size+1<=((((oo++(a.extract k1 na).reverse).push (b.getD (nb - 1) (.none,.none))++(b.extract k2 (nb - 1)).reverse)).push (a.getD (k1 - 1) (.none,.none))).size:=by simp only[Array.size_push,Array.size_append];lia
         have ip:0<k1 - 1/\k1 - 1<=a.size/\1<k2/\k2<=b.size/\Mi (fun x=> - ρ x) (a.toList++b.toList) ((((oo++(a.extract k1 na).reverse).push (b.getD (nb - 1) (.none,.none))++(b.extract k2 (nb - 1)).reverse)).push (a.getD (k1 - 1) (.none,.none))).toList (a.toList.take (k1 - 1)).reverse (b.toList.take (k2)).reverse:=⟨by lia,by lia,hn3,hn3',mD⟩
         by_cases hg:(decide (na - k1<7)&&decide (nb - 1 - (k2)<7))=true
         ·rw[if_pos hg];exact wpS_pure ⟨hs2,.inr ⟨_,_,_,_,_,_,rfl,by lia,ip⟩⟩
         ·rw[if_neg hg];exact wpS_pure ⟨hs2,_,_,_,_,_,_,rfl,by lia,by lia,ip⟩
       ·rw[if_neg hk0];have hk00:k2=nb - 1:=by lia
        subst hk00;have hn3':nb - 1<=b.size:=by lia
        refine wpS_bind (aS (i:=k1 - 1) (by lia) ?_)
        try dsimp only
        have mD:=(show Mi (fun x=> - ρ x) (a.toList++b.toList) (((oo++(a.extract k1 na).reverse).push (b.getD (nb - 1) (.none,.none)))).toList ([a.getD (k1 - 1) (.none,.none)]++(a.toList.take (k1 - 1)).reverse) (b.toList.take (nb - 1)).reverse by rw[c5 hna hnA]at mB;exact mB).goA (fun x hx y hy=>by cases List.mem_singleton.mp hx;have:=q2 y hy;show - _< - _;lia);rw[←Array.toList_push]at mD
        by_cases hl:k1 - 1=0
        ·rw[if_pos (by simpa using hl)];exact wpS_pure ⟨hs2,.inl ⟨_,_,rfl,doneR mD (.inl hl)⟩⟩
        ·rw[if_neg (by simpa using hl)];have sz:oo.size+1<=((((oo++(a.extract k1 na).reverse).push (b.getD (nb - 1) (.none,.none)))).push (a.getD (k1 - 1) (.none,.none))).size:=by simp only[Array.size_push,Array.size_append];lia
         have ip:0<k1 - 1/\k1 - 1<=a.size/\1<nb - 1/\nb - 1<=b.size/\Mi (fun x=> - ρ x) (a.toList++b.toList) ((((oo++(a.extract k1 na).reverse).push (b.getD (nb - 1) (.none,.none)))).push (a.getD (k1 - 1) (.none,.none))).toList (a.toList.take (k1 - 1)).reverse (b.toList.take (nb - 1)).reverse:=⟨by lia,by lia,hnb2,hn3',mD⟩
         by_cases hg:(decide (na - k1<7)&&decide (nb - 1 - (nb - 1)<7))=true
         ·rw[if_pos hg];exact wpS_pure ⟨hs2,.inr ⟨_,_,_,_,_,_,rfl,by lia,ip⟩⟩
         ·rw[if_neg hg];exact wpS_pure ⟨hs2,_,_,_,_,_,_,rfl,by lia,by lia,ip⟩
     ·rw[if_neg hk1'];have hk10:k1=na:=by lia
      subst hk10;have p2:=p2';refine wpS_bind (aS (i:=nb - 1) (by lia) ?_)
      try dsimp only
      have mB:=(show Mi (fun x=> - ρ x) (a.toList++b.toList) (oo).toList (a.toList.take (k1)).reverse ([b.getD (nb - 1) (.none,.none)]++(b.toList.take (nb - 1)).reverse) by rw[c5 (by lia) hnb]at hM;exact hM).goB (fun x hx y hy=>by cases List.mem_singleton.mp hx;have:=p2 y hy;show - _< - _;lia);rw[←Array.toList_push]at mB
      by_cases he:nb - 1=1
      ·rw[if_pos (by simpa using he)];exact wpS_pure ⟨hs2,.inl ⟨_,_,rfl,firstR mB he⟩⟩
      ·rw[if_neg (by simpa using he)];have hnb2:1<nb - 1:=by lia
       refine wpS_bind (aS (i:=k1 - 1) (by lia) ?_);refine wpS_bind (cY (st:=bH st'' (gg)) (base:=0) (n:=nb - 1) (hint:=nb - 1 - 1) C (show kindOf (bH st'' (gg))=κ from hs1.1.trans hk) (dA _ (aQ (by lia))) dB (by lia) (by lia) (hU upB (by lia)) fun k2 hk2 r1 r2=> ?_)
       try dsimp only
       have q1:∀x∈(b.extract k2 (nb - 1)).toList.reverse,∀y∈(a.toList.take (k1)).reverse,ρ y<ρ x:=fun x hx y hy=>by
        obtain⟨u,hu,e⟩:=lC (ρ:=ρ) (List.mem_reverse.mp hx);have:=r2 u (by lia) (by lia);rw[Nat.zero_add]at this;have h1:¬rnk ρ b u<ρ (a.getD (k1 - 1) (.none,.none)):=of_decide_eq_false (by unfold bey at this;rw[if_pos rfl]at this;exact this);have h2:=ne _ (aQ (a:=a) (i:=k1 - 1) (by lia)) _ (aQ (a:=b) (i:=u) hu.2.2);refine iY upA hna hnA hy ?_;rw[e];have h2:ρ (a.getD (k1 - 1) (.none,.none))≠rnk ρ b u:=h2
        lia
       have q2:∀y∈(b.toList.take (k2)).reverse,ρ y<ρ (a.getD (k1 - 1) (.none,.none)):=fun y hy=>by
        obtain⟨u,hu1,hu2,e⟩:=c3 (ρ:=ρ) hy;have:=r1 u hu1;rw[Nat.zero_add]at this;rw[e];unfold bey at this;rw[if_pos rfl]at this;exact of_decide_eq_true this
       by_cases hk0:nb - 1 - k2>0
       ·rw[if_pos hk0];have mC:Mi (fun x=> - ρ x) (a.toList++b.toList) ((oo).push (b.getD (nb - 1) (.none,.none))++(b.extract k2 (nb - 1)).reverse).toList (a.toList.take (k1)).reverse (b.toList.take (k2)).reverse:=by
         rw[Array.toList_append (xs:=(oo).push (b.getD (nb - 1) (.none,.none))),Array.toList_reverse];exact(show Mi (fun x=> - ρ x) (a.toList++b.toList) ((oo).push (b.getD (nb - 1) (.none,.none))).toList (a.toList.take (k1)).reverse ((b.extract k2 (nb - 1)).toList.reverse++(b.toList.take (k2)).reverse) by rw[←lO (by lia) (by lia)];exact mB).goB (fun x hx y hy=>by have:=q1 x hx y hy;show - _< - _;lia)
        by_cases hz:k2=1
        ·rw[if_pos (by simpa using hz)];exact wpS_pure ⟨hs2,.inl ⟨_,_,rfl,firstR mC hz⟩⟩
        rw[if_neg (by simpa using hz)]
        by_cases hz0:k2=0
        ·rw[if_pos (by simpa using hz0)];exact wpS_pure ⟨hs2,.inl ⟨_,_,rfl,doneR mC (.inr hz0)⟩⟩
        rw[if_neg (by simpa using hz0)];have hn3:1<k2:=by lia
        have hn3':k2<=b.size:=by lia
        refine wpS_bind (aS (i:=k1 - 1) (by lia) ?_)
        try dsimp only
        have mD:=(show Mi (fun x=> - ρ x) (a.toList++b.toList) (((oo).push (b.getD (nb - 1) (.none,.none))++(b.extract k2 (nb - 1)).reverse)).toList ([a.getD (k1 - 1) (.none,.none)]++(a.toList.take (k1 - 1)).reverse) (b.toList.take (k2)).reverse by rw[c5 hna hnA]at mC;exact mC).goA (fun x hx y hy=>by cases List.mem_singleton.mp hx;have:=q2 y hy;show - _< - _;lia);rw[←Array.toList_push]at mD
        by_cases hl:k1 - 1=0
        ·rw[if_pos (by simpa using hl)];exact wpS_pure ⟨hs2,.inl ⟨_,_,rfl,doneR mD (.inl hl)⟩⟩
        ·rw[if_neg (by simpa using hl)];have sz:oo.size+1<=((((oo).push (b.getD (nb - 1) (.none,.none))++(b.extract k2 (nb - 1)).reverse)).push (a.getD (k1 - 1) (.none,.none))).size:=by simp only[Array.size_push,Array.size_append];lia
         have ip:0<k1 - 1/\k1 - 1<=a.size/\1<k2/\k2<=b.size/\Mi (fun x=> - ρ x) (a.toList++b.toList) ((((oo).push (b.getD (nb - 1) (.none,.none))++(b.extract k2 (nb - 1)).reverse)).push (a.getD (k1 - 1) (.none,.none))).toList (a.toList.take (k1 - 1)).reverse (b.toList.take (k2)).reverse:=⟨by lia,by lia,hn3,hn3',mD⟩
         by_cases hg:(decide (k1 - k1<7)&&decide (nb - 1 - (k2)<7))=true
         ·rw[if_pos hg];exact wpS_pure ⟨hs2,.inr ⟨_,_,_,_,_,_,rfl,by lia,ip⟩⟩
         ·rw[if_neg hg];exact wpS_pure ⟨hs2,_,_,_,_,_,_,rfl,by lia,by lia,ip⟩
       ·rw[if_neg hk0];have hk00:k2=nb - 1:=by lia
        subst hk00;have hn3':nb - 1<=b.size:=by lia
        refine wpS_bind (aS (i:=k1 - 1) (by lia) ?_)
        try dsimp only
        have mD:=(show Mi (fun x=> - ρ x) (a.toList++b.toList) (((oo).push (b.getD (nb - 1) (.none,.none)))).toList ([a.getD (k1 - 1) (.none,.none)]++(a.toList.take (k1 - 1)).reverse) (b.toList.take (nb - 1)).reverse by rw[c5 hna hnA]at mB;exact mB).goA (fun x hx y hy=>by cases List.mem_singleton.mp hx;have:=q2 y hy;show - _< - _;lia);rw[←Array.toList_push]at mD
        by_cases hl:k1 - 1=0
        ·rw[if_pos (by simpa using hl)];exact wpS_pure ⟨hs2,.inl ⟨_,_,rfl,doneR mD (.inl hl)⟩⟩
        ·rw[if_neg (by simpa using hl)];have sz:oo.size+1<=((((oo).push (b.getD (nb - 1) (.none,.none)))).push (a.getD (k1 - 1) (.none,.none))).size:=by simp only[Array.size_push,Array.size_append];lia
         have ip:0<k1 - 1/\k1 - 1<=a.size/\1<nb - 1/\nb - 1<=b.size/\Mi (fun x=> - ρ x) (a.toList++b.toList) ((((oo).push (b.getD (nb - 1) (.none,.none)))).push (a.getD (k1 - 1) (.none,.none))).toList (a.toList.take (k1 - 1)).reverse (b.toList.take (nb - 1)).reverse:=⟨by lia,by lia,hnb2,hn3',mD⟩
         by_cases hg:(decide (k1 - k1<7)&&decide (nb - 1 - (nb - 1)<7))=true
         ·rw[if_pos hg];exact wpS_pure ⟨hs2,.inr ⟨_,_,_,_,_,_,rfl,by lia,ip⟩⟩
         ·rw[if_neg hg];exact wpS_pure ⟨hs2,_,_,_,_,_,_,rfl,by lia,by lia,ip⟩
   ·rintro c st'' ⟨hs1,na,nb,oo,gg,ac,bc,rfl,hx2,hy2,hna,hnA,hnb1,hnb,hM⟩;have:=leq hM hna hnA (by lia) hnb
    lia
   ·rintro c st'' ⟨hs1,⟨r,rest,rfl,hr⟩|⟨na,nb,oo,gg,ac,bc,rfl,ho,ip⟩⟩
    ·try dsimp only
     exact wpS_pure ⟨hs1,_,_,rfl,hr⟩
    ·try dsimp only
     refine wpS_bind (wpS_modify (wpS_pure ⟨hs1,_,_,_,_,rfl,ho,ip⟩))
 ·rintro c st' ⟨hs,n,m,o,g,rfl,hx1,hna,hnA,hnb1,hnb,hm⟩;have:=leq hm hna hnA (by lia) hnb
  lia
 ·rintro c st' ⟨hs,r,rest,rfl,hr⟩
  try dsimp only
  exact wpS_pure (hQ _ _ hs hr.1 hr.2)
end
end L2
namespace L2
open PySem PySem.W PyProof.Rows
section
variable {prog:Program}{w:World}{A:Around}{E:Value->Shared->Prop}{s:Shared}{κ:SortKind}{D:Keyed->Prop}{ρ:Keyed->Int}{st:SortSt}
theorem iO {a:Array Keyed}{X Y Z:List Keyed} (e:a.toList=X++Y++Z) {i:Nat} (hi:i<Y.length):rnk ρ a (X.length+i)=ρ Y[i]:=by
 have hl:X.length+i<a.size:=by rw[←Array.length_toList,e,List.length_append,List.length_append];lia
 unfold rnk;have h1:a.getD (X.length+i) (.none,.none)=a.toList[X.length+i]'(by rw[Array.length_toList];exact hl):=by simp[Array.getD,hl]
 rw[h1]
 congr 1
 simp only[e];rw[List.getElem_append_left (by rw[List.length_append];lia),List.getElem_append_right (by lia)];simp
theorem EX {a:Array Keyed}{X Y Z:List Keyed} (e:a.toList=X++Y++Z) (h:cE ρ Y):Up ρ a X.length (X.length+Y.length):=fun i j h1 h2 h3=>by
 obtain⟨u,rfl⟩:∃u,i=X.length+u:=⟨i - X.length,by lia⟩
 obtain⟨v,rfl⟩:∃v,j=X.length+v:=⟨j - X.length,by lia⟩
 rw[iO e (by lia),iO e (by lia)];exact(List.pairwise_iff_getElem.mp h) u v (by lia) (by lia) (by lia)
theorem OS {a:Array Keyed}(h:cE ρ a.toList):Up ρ a 0 a.size:=by
 have:=EX (ρ:=ρ) (a:=a) (X:=[]) (Y:=a.toList) (Z:=[]) (by simp) h
 simpa using this
theorem IJ {a:Array Keyed}{X Y Z:List Keyed} (e:a.toList=X++Y++Z) {i j:Nat} (hi:i=X.length) (hj:j=X.length+Y.length):(a.extract i j).toList=Y:=by
 subst hi hj;rw[Array.toList_extract,List.extract_eq_drop_take,e,Nat.add_sub_cancel_left,List.append_assoc,List.drop_left,List.take_left]
theorem EL {b0:Nat}:∀(m:List Keyed) (k:Nat) (a:Array Keyed) (X Y Z:List Keyed),a.toList=X++Y++Z->Y.length=m.length->X.length=b0+k->((m.zipIdx k).foldl (fun (a:Array Keyed) x=>match x with|(p,j)=>a.setIfInBounds (b0+j) p) a).toList=X++m++Z
 | [],k,a,X,Y,Z,e,h,_=>by
  have:Y=[]:=List.length_eq_zero_iff.mp h;subst this;exact e
 | p::m,k,a,X,Y,Z,e,h,hx=>by
  cases Y with
  | nil=>cases h
  | cons y Y =>
   have h':Y.length=m.length:=Nat.succ.inj h;rw[List.zipIdx_cons,List.foldl_cons];have:=EL (b0:=b0) m (k+1) (a.setIfInBounds (b0+k) p) (X++[p]) Y Z ?_ h' (by rw[List.length_append];show _+1=_;lia)
   ·rw[List.append_assoc X [p] m]at this;exact this
   ·rw[Array.toList_setIfInBounds,e,←hx,List.append_assoc,List.set_append_right _ _ (Nat.le_refl _),Nat.sub_self];show X++(p::(Y++Z))=_;simp
theorem YN {x:SortSt}{Q:PUnit->SortSt->Prop} (h:Q ⟨⟩ x):wpS (model prog w) A E s (set x:StateT SortSt Sem PUnit) Q st:=by
 unfold wpS;rw[StateT.run_set];exact wpAny_pure ⟨rfl,h⟩
theorem CI {a:Array Keyed}{X Y Z:List Keyed} (e:a.toList=X++Y++Z) {i:Nat} (hi:i<Y.length):a.getD (X.length+i) (.none,.none)=Y[i]:=by
 have hl:X.length+i<a.size:=by rw[←Array.length_toList,e,List.length_append,List.length_append];lia
 have h1:a.getD (X.length+i) (.none,.none)=a.toList[X.length+i]'(by rw[Array.length_toList];exact hl):=by simp[Array.getD,hl]
 rw[h1];simp only[e];rw[List.getElem_append_left (by rw[List.length_append];lia),List.getElem_append_right (by lia)];simp
theorem aBx (C:mX prog w A E s κ D ρ)(hk:kindOf st=κ){X L R Z:List Keyed}{i pw pw2:Nat}{Q:Bool->SortSt->Prop} (ha:(arrOf st).toList=X++L++R++Z) (hL:L≠[]) (hR:R≠[]) (rL:cE ρ L) (rR:cE ρ R) (dis:∀x∈L,∀y∈R,ρ x≠ρ y) (dD:∀x∈(arrOf st).toList,D x)
  (hp1:(pendingOf st)[i]? =some (X.length,L.length,pw))(hp2:(pendingOf st)[i+1]? =some (X.length+L.length,R.length,pw2))(hf:failedOf st=none)
  (h:∀(st':SortSt) (M:List Keyed),kindOf st'=κ->failedOf st'=none->pendingOf st'=((pendingOf st).setIfInBounds i (X.length,L.length+R.length,pw)).eraseIdxIfInBounds (i+1)->(arrOf st').toList=X++M++Z->cE ρ M->M.Perm (L++R)->Q true st') :
  wpS (model prog w) A E s (mergeAt' i) Q st:=by
 have lL:0<L.length:=List.length_pos_iff.mpr hL;have lR:0<R.length:=List.length_pos_iff.mpr hR;have hsz:(arrOf st).size=X.length+L.length+R.length+Z.length:=by rw[←Array.length_toList,ha];simp only[List.length_append]
 have e1:(arrOf st).toList=X++L++(R++Z):=by rw[ha,List.append_assoc (X++L)]
 have e2:(arrOf st).toList=(X++L)++R++Z:=ha;have upL:=EX e1 rL;have upR:=EX e2 rR;rw[List.length_append]at upR;unfold mergeAt';refine wpS_bind (wpS_get ?_);rw[hp1,hp2]
 try dsimp only
 generalize hst1:setPending st (((pendingOf st).setIfInBounds i (X.length,L.length+R.length,pw)).eraseIdxIfInBounds (i+1))=st1;have k1:kindOf st1=κ:=by rw[←hst1];exact hk
 have a1:arrOf st1=arrOf st:=by rw[←hst1]
 have p1:pendingOf st1=((pendingOf st).setIfInBounds i (X.length,L.length+R.length,pw)).eraseIdxIfInBounds (i+1):=by rw[←hst1]
 have f1:failedOf st1=none:=by rw[←hst1];exact hf
 refine wpS_bind (YN ?_);show wpS _ _ _ _ _ _ (setPending st (((pendingOf st).setIfInBounds i (X.length,L.length+R.length,pw)).eraseIdxIfInBounds (i+1)));rw[hst1];have gR0:(arrOf st).getD (X.length+L.length) (.none,.none)=R[0]:=by
  have:=CI e2 (i:=0) lR
  rwa [List.length_append]at this
 refine wpS_bind (aS (a:=arrOf st) (show _<(arrOf st).size by lia) ?_);refine wpS_bind (cY (st:=st1) (hint:=0) C k1 (dD _ (aQ (by lia))) dD (by lia) lL upL fun k hkL r1 r2=> ?_)
 try dsimp only
 rw[gR0]at r1 r2;have le0:∀(u:Nat) (hu:u<k),ρ (L[u]'(by lia))<ρ R[0]:=fun u hu=>by
  have:=r1 u hu;unfold bey at this;rw[if_neg Bool.false_ne_true,iO e1 (by lia)]at this;have h1:¬ρ R[0]<ρ (L[u]'(by lia)):=of_decide_eq_false (by simpa using this);have h2:=dis _ (List.getElem_mem (show u<L.length by lia)) _ (List.getElem_mem lR)
  lia
 have ge0:∀(u:Nat) (h1:k<=u) (hu:u<L.length),ρ R[0]<ρ L[u]:=fun u h1 hu=>by
  have:=r2 u h1 hu;unfold bey at this;rw[if_neg Bool.false_ne_true,iO e1 hu]at this
  simpa using this
 have head_le:∀y∈R,ρ R[0]<=ρ y:=fun y hy=>by
  obtain⟨v,hv,rfl⟩:=List.getElem_of_mem hy;rcases Nat.eq_zero_or_pos v with hz|hz
  ·subst hz;exact Int.le_refl _
  ·have:=(List.pairwise_iff_getElem.mp rR) 0 v lR hv hz
   lia
 have rise_LR:(∀x∈L,ρ x<ρ R[0])->cE ρ (L++R):=fun hx=>List.pairwise_append.mpr ⟨rL,rR,fun x h1 y h2=>by have:=hx x h1;have:=head_le y h2;lia⟩;have same:(∀x∈L,ρ x<ρ R[0])->Q true st1:=fun hx=>h st1 (L++R) k1 f1 p1 (by rw[a1,ha];simp only[List.append_assoc]) (rise_LR hx) (List.Perm.refl _)
 by_cases hna:L.length - k=0
 ·rw[if_pos (by simpa using hna)];refine wpS_pure (same fun x hx=> ?_);obtain⟨u,hu,rfl⟩:=List.getElem_of_mem hx;exact le0 u (by lia)
 rw[if_neg (by simpa using hna)];have ix:X.length+k+(L.length - k) - 1=X.length+(L.length - 1):=by lia
 have gLl:(arrOf st).getD (X.length+k+(L.length - k) - 1) (.none,.none)=L[L.length - 1]'(by lia):=by
  rw[ix];exact CI e1 (by lia)
 refine wpS_bind (aS (a:=arrOf st) (show _<(arrOf st).size by lia) ?_);refine wpS_bind (cY (st:=st1) (hint:=R.length - 1) C k1 (dD _ (aQ (by lia))) dD (by lia) (by lia) upR fun k2 hkR r3 r4=> ?_)
 try dsimp only
 rw[gLl]at r3 r4;have lt2:∀(u:Nat) (hu:u<k2),ρ (R[u]'(by lia))<ρ (L[L.length - 1]'(by lia)):=fun u hu=>by
  have:=r3 u hu;unfold bey at this;have e:=iO (ρ:=ρ) e2 (i:=u) (by lia);rw[List.length_append]at e;rw[if_pos rfl,e]at this;exact of_decide_eq_true this
 have ge2:∀(u:Nat) (h1:k2<=u) (hu:u<R.length),ρ (L[L.length - 1]'(by lia))<ρ R[u]:=fun u h1 hu=>by
  have:=r4 u h1 hu;unfold bey at this;have e:=iO (ρ:=ρ) e2 (i:=u) hu;rw[List.length_append]at e;rw[if_pos rfl,e]at this;have h1:=of_decide_eq_false this;have h2:=dis _ (List.getElem_mem (show L.length - 1<L.length by lia)) _ (List.getElem_mem hu)
  lia
 have last_ge:∀x∈L,ρ x<=ρ (L[L.length - 1]'(by lia)):=fun x hx=>by
  obtain⟨u,hu,rfl⟩:=List.getElem_of_mem hx;rcases Nat.lt_or_ge u (L.length - 1) with hz|hz
  ·have:=(List.pairwise_iff_getElem.mp rL) u (L.length - 1) hu (by lia) hz
   lia
  ·have:u=L.length - 1:=by lia
   subst this;exact Int.le_refl _
 by_cases hnb:k2=0
 ·rw[if_pos (by simpa using hnb)];refine wpS_pure (same fun x hx=> ?_);have h1:=last_ge x hx;have h2:=ge2 0 (by lia) lR
  lia
 rw[if_neg (by simpa using hnb)]
 try dsimp only
 have cL:L=L.take k++L.drop k:=(List.take_append_drop k L).symm;have cR:R=R.take k2++R.drop k2:=(List.take_append_drop k2 R).symm;have ex:((arrOf st).extract (X.length+k) (X.length+L.length)).toList=L.drop k:=by
  refine IJ (X:=X++L.take k) (Z:=R++Z) ?_ (by rw[List.length_append,List.length_take];lia) (by rw[List.length_append,List.length_take,List.length_drop];lia);rw[e1]
  conv=>lhs;rw[cL]
  simp only[List.append_assoc]
 have ey:((arrOf st).extract (X.length+L.length) (X.length+L.length+k2)).toList=R.take k2:=by
  refine IJ (X:=X++L) (Z:=R.drop k2++Z) ?_ (by rw[List.length_append]) (by rw[List.length_append,List.length_take];lia);rw[e2]
  conv=>lhs;rw[cR]
  simp only[List.append_assoc]
 generalize hx:(arrOf st).extract (X.length+k) (X.length+L.length)=x at ex;generalize hy:(arrOf st).extract (X.length+L.length) (X.length+L.length+k2)=y at ey;have sx:x.size=L.length - k:=by rw[←Array.length_toList,ex,List.length_drop]
 have sy:y.size=k2:=by rw[←Array.length_toList,ey,List.length_take];lia
 have rkx:∀(u:Nat) (hu:u<L.length - k),rnk ρ x u=ρ (L[k+u]'(by lia)):=fun u hu=>by
  have:=iO (ρ:=ρ) (a:=x) (X:=[]) (Y:=L.drop k) (Z:=[]) (by rw[ex];simp) (i:=u) (by rw[List.length_drop];exact hu);rw[List.length_nil,Nat.zero_add,List.getElem_drop]at this;exact this
 have rky:∀(u:Nat) (hu:u<k2),rnk ρ y u=ρ (R[u]'(by lia)):=fun u hu=>by
  have:=iO (ρ:=ρ) (a:=y) (X:=[]) (Y:=R.take k2) (Z:=[]) (by rw[ey];simp) (i:=u) (by rw[List.length_take];lia);rw[List.length_nil,Nat.zero_add,List.getElem_take]at this;exact this
 have memL:∀z∈L.drop k,z∈L:=fun z hz=>List.mem_of_mem_drop hz;have memR:∀z∈R.take k2,z∈R:=fun z hz=>List.mem_of_mem_take hz;have inArr:∀z,z∈L∨z∈R->z∈(arrOf st).toList:=fun z hz=>by
  rw[ha];rcases hz with hz|hz<;>simp[hz]
 have dx:∀z∈x.toList,D z:=fun z hz=>dD z (inArr z (.inl (memL z (ex▸hz))));have dy:∀z∈y.toList,D z:=fun z hz=>dD z (inArr z (.inr (memR z (ey▸hz))));have ux:Up ρ x 0 x.size:=OS (by rw[ex];exact List.Pairwise.drop rL);have uy:Up ρ y 0 y.size:=OS (by rw[ey];exact List.Pairwise.take rR);have nexy:∀u∈x.toList,∀v∈y.toList,ρ u≠ρ v:=fun u hu v hv=>dis u (memL u (ex▸hu)) v (memR v (ey▸hv));have fst:rnk ρ y 0<rnk ρ x 0:=by
  rw[rkx 0 (by lia),rky 0 (by lia)];exact ge0 _ (by lia) (by lia)
 have lst:rnk ρ y (y.size - 1)<rnk ρ x (x.size - 1):=by
  rw[rkx (x.size - 1) (by lia),rky (y.size - 1) (by lia)];have:=lt2 (y.size - 1) (by lia);have e:k+(x.size - 1)=L.length - 1:=by lia
  simp only[e];exact this
 have fin:∀(m:Array Keyed) (st2:SortSt),SameSt st1 st2->cE ρ m.toList->m.toList.Perm (x.toList++y.toList)->Q true (setArr st2 (m.toList.zipIdx.foldl (fun (a:Array Keyed) z=>match z with|(p,j)=>a.setIfInBounds (X.length+k+j) p) (arrOf st2))):=fun m st2 hs rm pm=>by
  have pl:m.toList.length=(L.drop k++R.take k2).length:=by rw[pm.length_eq,ex,ey]
  have earr:(arrOf st2).toList=(X++L.take k)++(L.drop k++R.take k2)++(R.drop k2++Z):=by
   rw[hs.2.1,a1,ha]
   conv=>lhs;rw[cL,cR]
   simp only[List.append_assoc]
  have pb:=EL (b0:=X.length+k) m.toList 0 (arrOf st2) _ _ _ earr pl.symm (by rw[List.length_append,List.length_take];lia);have mm:∀z∈m.toList,z∈L.drop k∨z∈R.take k2:=fun z hz=>by
   have:=pm.mem_iff.mp hz;rw[ex,ey]at this;exact List.mem_append.mp this
  have tL:∀z∈L.take k,ρ z<ρ R[0]:=fun z hz=>by
   obtain⟨u,hu,rfl⟩:=List.getElem_of_mem hz;rw[List.length_take]at hu;rw[List.getElem_take];exact le0 u (by lia)
  have dR:∀z∈R.drop k2,ρ (L[L.length - 1]'(by lia))<ρ z:=fun z hz=>by
   obtain⟨u,hu,rfl⟩:=List.getElem_of_mem hz;rw[List.length_drop]at hu;rw[List.getElem_drop];exact ge2 _ (by lia) (by lia)
  have rL':=List.pairwise_append.mp (cL▸rL);have rR':=List.pairwise_append.mp (cR▸rR);refine h _ (L.take k++m.toList++R.drop k2) (hs.1.trans k1) (hs.2.2.2.trans f1) (hs.2.2.1.trans p1) ?_ ?_ ?_
  ·show (Array.toList _)=_;rw[pb];simp only[List.append_assoc]
  ·refine List.pairwise_append.mpr ⟨List.pairwise_append.mpr ⟨rL'.1,rm,fun u hu v hv=> ?_⟩,rR'.2.1,fun u hu v hv=> ?_⟩
   ·rcases mm v hv with hv|hv
    ·exact rL'.2.2 u hu v hv
    ·have h1:=tL u hu;have h2:=head_le v (memR v hv)
     lia
   ·rcases List.mem_append.mp hu with hu|hu
    ·have h1:=tL u hu;have h2:=head_le v (List.mem_of_mem_drop hv)
     lia
    ·rcases mm u hu with hu|hu
     ·have h1:=last_ge u (memL u hu);have h2:=dR v hv
      lia
     ·exact rR'.2.2 u hu v hv
  ·have p2:(L.take k++m.toList++R.drop k2).Perm (L.take k++(L.drop k++R.take k2)++R.drop k2):=List.Perm.append_right _ (List.Perm.append_left _ (by rw[ex,ey]at pm;exact pm));refine p2.trans ?_
   conv=>rhs;rw[cL,cR]
   simp only[List.append_assoc];exact List.Perm.refl _
 by_cases hc:L.length - k<=k2
 ·rw[if_pos hc];refine wpS_bind (aBf C k1 dx dy ux uy (by lia) (by lia) nexy fst lst fun m st2 hs rm pm=> ?_);refine wpS_bind (wpS_modify (wpS_bind (wpS_get (wpS_pure ?_))));have:=fin m st2 hs rm pm;have ff:failedOf st2=none:=hs.2.2.2.trans f1;show Q (failedOf st2).isNone _;rw[ff];exact this
 ·rw[if_neg hc];refine wpS_bind (aA3 C k1 dx dy ux uy (by lia) (by lia) nexy fst lst fun m st2 hs rm pm=> ?_);refine wpS_bind (wpS_modify (wpS_bind (wpS_get (wpS_pure ?_))));have:=fin m st2 hs rm pm;have ff:failedOf st2=none:=hs.2.2.2.trans f1;show Q (failedOf st2).isNone _;rw[ff];exact this
end
end L2
namespace L2
open PySem PySem.W PyProof.Rows
section
variable {prog:Program}{w:World}{A:Around}{E:Value->Shared->Prop}{s:Shared}{κ:SortKind}{D:Keyed->Prop}{ρ:Keyed->Int}{st:SortSt}
theorem mV {a b:Array Keyed}{i j:Nat} (h:a[i]? =b[j]?):rnk ρ a i=rnk ρ b j:=by
 have e:∀(a:Array Keyed) (i:Nat),a.getD i (.none,.none)=(a[i]?).getD (.none,.none):=fun a i=>by simp[Array.getD_eq_getD_getElem?]
 unfold rnk;rw[e,e,h]
def Apart (ρ:Keyed->Int)(a:Array Keyed):Prop:=(a.toList.map ρ).Nodup
theorem Apart.perm {a b:Array Keyed}(h:Apart ρ a)(p:b.Perm a):Apart ρ b:=((Array.perm_iff_toList_perm.mp p).map ρ).nodup_iff.mpr h
theorem Apart.ne {a:Array Keyed}(h:Apart ρ a){i j:Nat}(hi:i<a.size)(hj:j<a.size)(hij:i≠j):rnk ρ a i≠rnk ρ a j:=fun e=>by
 have hl:(a.toList.map ρ).length=a.size:=by rw[List.length_map,Array.length_toList]
 have e1:∀(k:Nat) (hk:k<a.size),(a.toList.map ρ)[k]'(by lia)=rnk ρ a k:=fun k hk=>by
  rw[List.getElem_map];unfold rnk;simp[Array.getD,hk]
 exact hij ((List.getElem_inj (h₀:=by lia) (h₁:=by lia) h).mp (by rw[e1 i hi,e1 j hj];exact e))
structure Rn (κ:SortKind)(st st':SortSt)(lo hi:Nat):Prop where
 kd:kindOf st'=κ
 fl:failedOf st'=failedOf st
 pn:pendingOf st'=pendingOf st
 pm:(arrOf st').Perm (arrOf st)
 lw:∀i,i<lo->(arrOf st')[i]? =(arrOf st)[i]?
 up:∀i,hi<=i->(arrOf st')[i]? =(arrOf st)[i]?
theorem Rn.refl {lo hi:Nat}(hk:kindOf st=κ):Rn κ st st lo hi:=⟨hk,rfl,rfl,Array.Perm.refl _,fun _ _=>rfl,fun _ _=>rfl⟩
theorem Rn.size {st':SortSt}{lo hi:Nat} (h:Rn κ st st' lo hi):(arrOf st').size=(arrOf st).size:=h.pm.size_eq
theorem Rn.set {st':SortSt}{lo hi:Nat} (h:Rn κ st st' lo hi) {xs:Array Keyed} (p:xs.Perm (arrOf st')) (h1:∀i,i<lo->xs[i]? =(arrOf st')[i]?) (h2:∀i,hi<=i->xs[i]? =(arrOf st')[i]?):Rn κ st (setArr st' xs) lo hi :=
 ⟨h.kd,h.fl,h.pn,p.trans h.pm,fun i hi=>(h1 i hi).trans (h.lw i hi),fun i hi=>(h2 i hi).trans (h.up i hi)⟩
theorem Rn.trans {st' st'':SortSt}{lo hi:Nat} (h:Rn κ st st' lo hi) (g:Rn κ st' st'' lo hi):Rn κ st st'' lo hi :=
 ⟨g.kd,g.fl.trans h.fl,g.pn.trans h.pn,g.pm.trans h.pm,fun i hi=>(g.lw i hi).trans (h.lw i hi),fun i hi=>(g.up i hi).trans (h.up i hi)⟩
theorem Rn.wide {st':SortSt}{lo hi hi':Nat} (h:Rn κ st st' lo hi) (hh:hi<=hi'):Rn κ st st' lo hi':=⟨h.kd,h.fl,h.pn,h.pm,h.lw,fun i hi=>h.up i (Nat.le_trans hh hi)⟩
theorem oG (C:mX prog w A E s κ D ρ)(hk:kindOf st=κ)(dD:∀x∈(arrOf st).toList,D x){i j:Nat}(hi:i<(arrOf st).size)(hj:j<(arrOf st).size){Q:Option Bool->SortSt->Prop}(h:Q (some (decide (rnk ρ (arrOf st) i<rnk ρ (arrOf st) j))) st):wpS (model prog w) A E s (ltAt' i j) Q st:=by
 rw[ltAt'_eq];refine wpS_bind (wpS_get ?_);exact wpS_bind (aS (a:=arrOf st) hi (wpS_bind (aS (a:=arrOf st) hj (C.lt (dD _ (aQ hi)) (dD _ (aQ hj)) hk h))))
theorem F8 {a b:Array Keyed}(p:b.Perm a)(dD:∀x∈a.toList,D x):∀x∈b.toList,D x:=fun x hx=>dD x ((Array.perm_iff_toList_perm.mp p).mem_iff.mp hx)
theorem WI (C:mX prog w A E s κ D ρ)(hk:kindOf st=κ)(dD:∀x∈(arrOf st).toList,D x)(ap:Apart ρ (arrOf st)){lo n ok:Nat}(hn:lo+n<=(arrOf st).size)(hok:ok<=n)(h1:1<=ok)(up:Up ρ (arrOf st) lo (lo+ok)){Q:Bool->SortSt->Prop}
  (h:∀st':SortSt,Rn κ st st' lo (lo+n)->Up ρ (arrOf st') lo (lo+n)->Q true st'):wpS (model prog w) A E s (binarySort' lo n ok) Q st:=by
 unfold binarySort';refine wpS_bind (wpS_mono (wpS_forRange (I:=fun k c st'=>c=(none,())/\Rn κ st st' lo (lo+n)/\Up ρ (arrOf st') lo (lo+min k n)) (Q:=fun c st'=>c=(none,())/\Rn κ st st' lo (lo+n)/\Up ρ (arrOf st') lo (lo+n)) ?_ ?_ ⟨rfl,Rn.refl hk,by rw[show min (max ok 1) n=ok by lia];exact up⟩) ?_)
 ·rintro k c st' hak hkn ⟨rfl,hr,hu⟩;rw[show min k n=k by lia]at hu;have sz:=hr.size;have dD':=F8 hr.pm dD;have ap':=ap.perm hr.pm;refine wpS_bind (wpS_mono (wpS_forRange (I:=fun x c st''=>st'=st''/\∃l r:Nat,c=(none,l,r)/\l<=r/\r<=k/\r - l<=k - x/\(∀i,i<l->rnk ρ (arrOf st') (lo+i)<rnk ρ (arrOf st') (lo+k))/\(∀i,r<=i->i<k->rnk ρ (arrOf st') (lo+k)<rnk ρ (arrOf st') (lo+i)))
   (Q:=fun c st''=>st'=st''/\∃l r:Nat,c=(none,l,r)/\l<=k/\(∀i,i<l->rnk ρ (arrOf st') (lo+i)<rnk ρ (arrOf st') (lo+k))/\(∀i,l<=i->i<k->rnk ρ (arrOf st') (lo+k)<rnk ρ (arrOf st') (lo+i))) ?_ ?_ ⟨rfl,0,k,rfl,by lia,by lia,by lia,fun i hi=>by lia,fun i h1 h2=>by lia⟩) ?_)
  ·rintro x c _ _ hx ⟨rfl,l,r,rfl,a1,a2,a3,a4,a5⟩
   try dsimp only
   by_cases hge:l≥r
   ·rw[if_pos hge];have:l=r:=by lia
    subst this;exact wpS_pure ⟨rfl,l,l,rfl,a2,a4,a5⟩
   ·rw[if_neg hge];refine wpS_bind (oG C hr.kd dD' (i:=lo+k) (j:=lo+(l+r)/2) (by lia) (by lia) ?_)
    try dsimp only
    by_cases hless:rnk ρ (arrOf st') (lo+k)<rnk ρ (arrOf st') (lo+(l+r)/2)
    ·rw[decide_eq_true hless,if_pos rfl];refine wpS_pure ⟨rfl,l,(l+r)/2,rfl,by lia,by lia,by lia,a4,fun i g1 g2=> ?_⟩;rcases Nat.lt_or_ge ((l+r)/2) i with hz|hz
     ·have:=hu (lo+(l+r)/2) (lo+i) (by lia) (by lia) (by lia)
      lia
     ·have:i=(l+r)/2:=by lia
      rw[this];exact hless
    ·rw[decide_eq_false hless,if_neg Bool.false_ne_true];refine wpS_pure ⟨rfl,(l+r)/2+1,r,rfl,by lia,by lia,by lia,fun i g1=> ?_,a5⟩;have hne:=ap'.ne (i:=lo+k) (j:=lo+(l+r)/2) (by lia) (by lia) (by lia);rcases Nat.lt_or_ge i ((l+r)/2) with hz|hz
     ·have:=hu (lo+i) (lo+(l+r)/2) (by lia) (by lia) (by lia)
      lia
     ·have:i=(l+r)/2:=by lia
      rw[this];lia
  ·rintro c _ ⟨rfl,l,r,rfl,a1,a2,a3,a4,a5⟩;have:l=r:=by lia
   subst this;exact⟨rfl,l,l,rfl,a2,a4,a5⟩
  ·rintro c _ ⟨rfl,l,r,rfl,a2,a4,a5⟩
   try dsimp only
   have hks:lo+k<(arrOf st').size:=by lia
   have bb:∀j,(bubble (arrOf st') (lo+k) (lo+k - (lo+l)))[j]? =if j=lo+l then (arrOf st')[lo+k]? else if lo+l<j/\j<=lo+k then (arrOf st')[j - 1]? else (arrOf st')[j]? :=fun j=>by
    have:=getElem?_bubble hks (lo+k - (lo+l)) (by lia) j;rw[show lo+k - (lo+k - (lo+l))=lo+l by lia]at this;exact this
   refine wpS_bind (show wpS _ _ _ _ (moveDown' (lo+k) (lo+l)) _ _ from ?_);rw[moveDown'_eq];refine wpS_modify (wpS_pure ⟨rfl,hr.set (bubble_perm _ _ _) (fun i hi=> ?_) (fun i hi=> ?_),?_⟩)
   ·rw[bb,if_neg (by lia),if_neg (by lia)]
   ·rw[bb,if_neg (by lia),if_neg (by lia)]
   ·rw[show min (k+1) n=k+1 by lia];intro i j g1 g2 g3;have rb:∀j,rnk ρ (bubble (arrOf st') (lo+k) (lo+k - (lo+l))) j=if j=lo+l then rnk ρ (arrOf st') (lo+k) else if lo+l<j/\j<=lo+k then rnk ρ (arrOf st') (j - 1) else rnk ρ (arrOf st') j:=fun j=>by
     have e:=bb j
     by_cases c1:j=lo+l
     ·rw[if_pos c1]at e ⊢;exact mV e
     ·rw[if_neg c1]at e ⊢
      by_cases c2:lo+l<j/\j<=lo+k
      ·rw[if_pos c2]at e ⊢;exact mV e
      ·rw[if_neg c2]at e ⊢;exact mV e
    have lowR:∀u,lo<=u->u<lo+l->rnk ρ (arrOf st') u<rnk ρ (arrOf st') (lo+k):=fun u u1 u2=>by
     have:=a4 (u - lo) (by lia)
     rwa [show lo+(u - lo)=u by lia]at this
    have highR:∀u,lo+l<=u->u<lo+k->rnk ρ (arrOf st') (lo+k)<rnk ρ (arrOf st') u:=fun u u1 u2=>by
     have:=a5 (u - lo) (by lia) (by lia)
     rwa [show lo+(u - lo)=u by lia]at this
    show rnk ρ (bubble (arrOf st') (lo+k) (lo+k - (lo+l))) i<rnk ρ (bubble (arrOf st') (lo+k) (lo+k - (lo+l))) j;rw[rb,rb]
    repeat' split
    all_goals first
     | (exfalso;lia)
     | exact lowR _ (by lia) (by lia)
     | exact highR _ (by lia) (by lia)
     | exact hu _ _ (by lia) (by lia) (by lia)
     | (have h1:=lowR i (by lia) (by lia);have h2:=highR (j - 1) (by lia) (by lia);lia)
 ·rintro c st' ⟨rfl,hr,hu⟩;refine⟨rfl,hr,?_⟩
  rwa [show min (max (max ok 1) n) n=n by lia]at hu
 ·rintro c st' ⟨rfl,hr,hu⟩
  try dsimp only
  exact wpS_pure (h st' hr hu)
end
end L2
namespace L2
open PySem PySem.W PyProof.Rows
section
variable {prog:Program}{w:World}{A:Around}{E:Value->Shared->Prop}{s:Shared}{κ:SortKind}{D:Keyed->Prop}{ρ:Keyed->Int}{st:SortSt}
theorem ZE {a:Array Keyed}{lo:Nat}:Up ρ a lo (lo+1):=fun i j h1 h2 h3=>by lia
theorem IU {a:Array Keyed}{lo x:Nat} (h1:1<=x) (up:Up ρ a lo (lo+x)) (h:rnk ρ a (lo+x - 1)<rnk ρ a (lo+x)):Up ρ a lo (lo+(x+1)):=fun i j g1 g2 g3=>by
 by_cases hj:j<lo+x
 ·exact up i j g1 g2 hj
 ·have:j=lo+x:=by lia
  subst this;rcases Nat.lt_or_ge i (lo+x - 1) with hz|hz
  ·have:=up i (lo+x - 1) g1 hz (by lia)
   lia
  ·have:i=lo+x - 1:=by lia
   rw[this];exact h
def Dn (ρ:Keyed->Int)(a:Array Keyed)(lo hi:Nat):Prop:=∀i j,lo<=i->i<j->j<hi->rnk ρ a j<rnk ρ a i
theorem IT {a:Array Keyed}{lo x:Nat} (h1:1<=x) (dn:Dn ρ a lo (lo+x)) (h:rnk ρ a (lo+x)<rnk ρ a (lo+x - 1)):Dn ρ a lo (lo+(x+1)):=fun i j g1 g2 g3=>by
 by_cases hj:j<lo+x
 ·exact dn i j g1 g2 hj
 ·have:j=lo+x:=by lia
  subst this;rcases Nat.lt_or_ge i (lo+x - 1) with hz|hz
  ·have:=dn i (lo+x - 1) g1 hz (by lia)
   lia
  ·have:i=lo+x - 1:=by lia
   rw[this];exact h
theorem M8 (C:mX prog w A E s κ D ρ)(hk:kindOf st=κ)(dD:∀x∈(arrOf st).toList,D x)(ap:Apart ρ (arrOf st)){lo n:Nat}(hn:lo+n<=(arrOf st).size)(h1:1<=n){Q:Option Nat->SortSt->Prop}
  (h:∀(m:Nat) (st':SortSt),1<=m->m<=n->Rn κ st st' lo (lo+n)->Up ρ (arrOf st') lo (lo+m)->Q (some m) st'):wpS (model prog w) A E s (countRun' lo n) Q st:=by
 unfold countRun';refine wpS_bind (wpS_mono (wpS_forRange (I:=fun x c st''=>st=st''/\c=(none,x)/\Up ρ (arrOf st) lo (lo+x)) (Q:=fun c st''=>st=st''/\∃m,c=(none,m)/\1<=m/\m<=n/\Up ρ (arrOf st) lo (lo+m)/\(m=n∨rnk ρ (arrOf st) (lo+m)<rnk ρ (arrOf st) (lo+m - 1))) ?_ ?_ ⟨rfl,rfl,ZE⟩) ?_)
 ·rintro x c _ hx1 hx ⟨rfl,rfl,hu⟩
  try dsimp only
  refine wpS_bind (oG C hk dD (i:=lo+x) (j:=lo+x - 1) (by lia) (by lia) ?_)
  try dsimp only
  by_cases hless:rnk ρ (arrOf st) (lo+x)<rnk ρ (arrOf st) (lo+x - 1)
  ·rw[decide_eq_true hless,if_pos rfl];exact wpS_pure ⟨rfl,x,rfl,hx1,by lia,hu,.inr hless⟩
  ·rw[decide_eq_false hless,if_neg Bool.false_ne_true];have hne:=ap.ne (i:=lo+x) (j:=lo+x - 1) (by lia) (by lia) (by lia);exact wpS_pure ⟨rfl,rfl,IU hx1 hu (by lia)⟩
 ·rintro c _ ⟨rfl,rfl,hu⟩;rw[show max 1 n=n by lia]at hu ⊢;exact⟨rfl,n,rfl,h1,Nat.le_refl _,hu,.inl rfl⟩
 rintro c _ ⟨rfl,m,rfl,hm1,hmn,hu,hor⟩
 try dsimp only
 by_cases he:m=n
 ·rw[if_pos (by simpa using he)];exact wpS_pure (h m st hm1 hmn (Rn.refl hk) hu)
 rw[if_neg (by simpa using he)];have hless:=hor.resolve_left he
 by_cases hg:m>1
 ·rw[if_pos hg];refine wpS_bind (oG C hk dD (i:=lo) (j:=lo+m - 1) (by lia) (by lia) ?_)
  try dsimp only
  rw[decide_eq_true (hu lo (lo+m - 1) (by lia) (by lia) (by lia)),if_pos rfl];exact wpS_pure (h m st hm1 hmn (Rn.refl hk) hu)
 rw[if_neg hg];have hm:m=1:=by lia
 subst hm;refine wpS_bind (wpS_lift (wpAny_rule ⟨rfl,?_⟩));have d2:Dn ρ (arrOf st) lo (lo+(1+1)):=IT (Nat.le_refl _) (fun i j g1 g2 g3=>by lia) hless;refine wpS_bind (wpS_mono (wpS_forRange (I:=fun x c st''=>st=st''/\c=(none,x,0)/\Dn ρ (arrOf st) lo (lo+x)) (Q:=fun c st''=>st=st''/\∃m,c=(none,m,0)/\2<=m/\m<=n/\Dn ρ (arrOf st) lo (lo+m)) ?_ ?_ ⟨rfl,rfl,d2⟩) ?_)
 ·rintro x c _ hx1 hx ⟨rfl,rfl,hd⟩
  try dsimp only
  refine wpS_bind (oG C hk dD (i:=lo+x) (j:=lo+x - 1) (by lia) (by lia) ?_)
  try dsimp only
  by_cases hl2:rnk ρ (arrOf st) (lo+x)<rnk ρ (arrOf st) (lo+x - 1)
  ·rw[decide_eq_true hl2,if_pos rfl,if_neg (by lia)];exact wpS_pure ⟨rfl,rfl,IT (by lia) hd hl2⟩
  ·rw[decide_eq_false hl2,if_neg Bool.false_ne_true];have hne:=ap.ne (i:=lo+x) (j:=lo+x - 1) (by lia) (by lia) (by lia);refine wpS_bind (oG C hk dD (i:=lo+x - 1) (j:=lo+x) (by lia) (by lia) ?_)
   try dsimp only
   rw[decide_eq_true (show rnk ρ (arrOf st) (lo+x - 1)<rnk ρ (arrOf st) (lo+x) by lia),if_pos rfl];exact wpS_pure ⟨rfl,x,rfl,by lia,by lia,hd⟩
 ·rintro c _ ⟨rfl,rfl,hd⟩;rw[show max (1+1) n=n by lia]at hd ⊢;exact⟨rfl,n,rfl,by lia,Nat.le_refl _,hd⟩
 rintro c _ ⟨rfl,m,rfl,hm2,hmn2,hd⟩
 try dsimp only
 rw[if_neg (by lia)];refine wpS_bind (wpS_reverse ?_);have mg:∀k,(mirror (arrOf st) lo (lo+m) ((lo+m - lo)/2))[k]? =if lo<=k/\k<lo+m then (arrOf st)[lo+(lo+m) - 1 - k]? else (arrOf st)[k]? :=fun k=>getElem?_mirror_all (by lia) k;have hr:Rn κ st (setArr st (mirror (arrOf st) lo (lo+m) ((lo+m - lo)/2))) lo (lo+n):=(Rn.refl hk).set (mirror_perm _ _ _ _) (fun i hi=>by rw[mg,if_neg (by lia)]) (fun i hi=>by rw[mg,if_neg (by lia)]);have rm:∀k,rnk ρ (mirror (arrOf st) lo (lo+m) ((lo+m - lo)/2)) k=if lo<=k/\k<lo+m then rnk ρ (arrOf st) (lo+(lo+m) - 1 - k) else rnk ρ (arrOf st) k:=fun k=>by
  have e:=mg k
  by_cases c1:lo<=k/\k<lo+m
  ·rw[if_pos c1]at e ⊢;exact mV e
  ·rw[if_neg c1]at e ⊢;exact mV e
 have u1:Up ρ (mirror (arrOf st) lo (lo+m) ((lo+m - lo)/2)) lo (lo+m):=fun i j g1 g2 g3=>by
  rw[rm,rm,if_pos (by lia),if_pos (by lia)];exact hd _ _ (by lia) (by lia) (by lia)
 generalize hst1:setArr st (mirror (arrOf st) lo (lo+m) ((lo+m - lo)/2))=st1 at hr;have ea:arrOf st1=mirror (arrOf st) lo (lo+m) ((lo+m - lo)/2):=by rw[←hst1]
 rw[←ea]at u1;have sz:=hr.size;have dD1:=F8 hr.pm dD;have ap1:=ap.perm hr.pm;refine wpS_bind (wpS_mono (wpS_forRange (I:=fun x c st''=>st1=st''/\c=(none,x)/\Up ρ (arrOf st1) lo (lo+x)) (Q:=fun c st''=>st1=st''/\∃m,c=(none,m)/\1<=m/\m<=n/\Up ρ (arrOf st1) lo (lo+m)) ?_ ?_ ⟨rfl,rfl,u1⟩) ?_)
 ·rintro x c _ hx1 hx ⟨rfl,rfl,hu⟩
  try dsimp only
  refine wpS_bind (oG C hr.kd dD1 (i:=lo+x) (j:=lo+x - 1) (by lia) (by lia) ?_)
  try dsimp only
  by_cases hless:rnk ρ (arrOf st1) (lo+x)<rnk ρ (arrOf st1) (lo+x - 1)
  ·rw[decide_eq_true hless,if_pos rfl];exact wpS_pure ⟨rfl,x,rfl,by lia,by lia,hu⟩
  ·rw[decide_eq_false hless,if_neg Bool.false_ne_true];have hne:=ap1.ne (i:=lo+x) (j:=lo+x - 1) (by lia) (by lia) (by lia);exact wpS_pure ⟨rfl,rfl,IU (by lia) hu (by lia)⟩
 ·rintro c _ ⟨rfl,rfl,hu⟩;rw[show max m n=n by lia]at hu ⊢;exact⟨rfl,n,rfl,h1,Nat.le_refl _,hu⟩
 rintro c _ ⟨rfl,m2,rfl,g1,g2,hu2⟩
 try dsimp only
 exact wpS_pure (h m2 st1 g1 g2 hr hu2)
end
end L2
namespace L2
open PySem PySem.W PyProof.Rows
def pos:Nat->List (List Keyed)->List (Nat×Nat)
 | _,[]=>[]
 | k,r::rs=>(k,r.length)::pos (k+r.length) rs
theorem wD:∀(k:Nat) (rs1 rs2:List (List Keyed)),pos k (rs1++rs2)=pos k rs1++pos (k+rs1.flatten.length) rs2
 | k,[],rs2=>by simp[pos]
 | k,r::rs1,rs2=>by
  show (k,r.length)::pos (k+r.length) (rs1++rs2)=(k,r.length)::(pos (k+r.length) rs1++_);rw[wD,List.flatten_cons,List.length_append,Nat.add_assoc]
theorem zR:∀(k:Nat) (rs:List (List Keyed)),(pos k rs).length=rs.length
 | _,[]=>rfl
 | k,r::rs=>by show (pos _ rs).length+1=_;rw[zR,List.length_cons]
abbrev se (e:Nat×Nat×Nat):Nat×Nat:=(e.1,e.2.1)
section
variable {prog:Program}{w:World}{A:Around}{E:Value->Shared->Prop}{s:Shared}{κ:SortKind}{D:Keyed->Prop}{ρ:Keyed->Int}{st:SortSt}{a₀:Array Keyed}
structure Gs (ρ:Keyed->Int)(κ:SortKind)(a₀:Array Keyed)(st:SortSt)(rs:List (List Keyed))(rest:List Keyed):Prop where
 ar:(arrOf st).toList=rs.flatten++rest
 rn:∀r∈rs,r≠[]/\cE ρ r
 pn:(pendingOf st).toList.map se=pos 0 rs
 kd:kindOf st=κ
 fl:failedOf st=none
 pm:(arrOf st).Perm a₀
theorem Gs.len {rs:List (List Keyed)}{rest:List Keyed} (g:Gs ρ κ a₀ st rs rest):(pendingOf st).size=rs.length:=by
 have:=congrArg List.length g.pn;rw[List.length_map,Array.length_toList,zR]at this;exact this
theorem HD {l1 l2:List Keyed}{a:Array Keyed} (ap:Apart ρ a) {P Q:List Keyed} (e:a.toList=P++l1++l2++Q):∀x∈l1,∀y∈l2,ρ x≠ρ y:=fun x hx y hy h=>by
 unfold Apart at ap;rw[e,List.map_append,List.map_append,List.map_append]at ap;have h1:=(List.nodup_append.mp (List.nodup_append.mp ap).1).2.2;exact h1 (ρ x) (List.mem_append_right _ (List.mem_map.mpr ⟨x,hx,rfl⟩)) (ρ y) (List.mem_map.mpr ⟨y,hy,rfl⟩) h
theorem P7 (C:mX prog w A E s κ D ρ)(dD:∀x∈a₀.toList,D x)(ap:Apart ρ a₀){rs1 rs2:List (List Keyed)}{L R rest:List Keyed}{i:Nat} (hi:i=rs1.length) (g:Gs ρ κ a₀ st (rs1++L::R::rs2) rest) {Q:Bool->SortSt->Prop}
  (h:∀(st':SortSt) (M:List Keyed),Gs ρ κ a₀ st' (rs1++M::rs2) rest->Q true st'):wpS (model prog w) A E s (mergeAt' i) Q st:=by
 subst hi;obtain⟨nL,rL⟩:=g.rn L (List.mem_append_right _ (.head _));obtain⟨nR,rR⟩:=g.rn R (List.mem_append_right _ (.tail _ (.head _)));have ha:(arrOf st).toList=rs1.flatten++L++R++(rs2.flatten++rest):=by
  rw[g.ar,List.flatten_append,List.flatten_cons,List.flatten_cons];simp only[List.append_assoc]
 have hpos:pos 0 (rs1++L::R::rs2)=pos 0 rs1++(rs1.flatten.length,L.length)::(rs1.flatten.length+L.length,R.length)::pos (rs1.flatten.length+L.length+R.length) rs2:=by
  rw[wD,Nat.zero_add];rfl
 have hsz:(pendingOf st).toList.length=rs1.length+(rs2.length+2):=by
  rw[Array.length_toList,g.len,List.length_append,List.length_cons,List.length_cons]
 obtain⟨ps1,e1,e2,ps2,hps,hl1⟩:∃ps1 e1 e2 ps2,(pendingOf st).toList=ps1++e1::e2::ps2/\ps1.length=rs1.length:=by
  refine⟨(pendingOf st).toList.take rs1.length,(pendingOf st).toList[rs1.length]'(by lia),(pendingOf st).toList[rs1.length+1]'(by lia),(pendingOf st).toList.drop (rs1.length+1+1),?_,by rw[List.length_take];lia⟩;rw[←List.drop_eq_getElem_cons (show rs1.length+1<(pendingOf st).toList.length by lia),←List.drop_eq_getElem_cons (show rs1.length<(pendingOf st).toList.length by lia),List.take_append_drop]
 have hmap:=g.pn;rw[hps,hpos,List.map_append,List.map_cons,List.map_cons]at hmap;have hl1':(ps1.map se).length=(pos 0 rs1).length:=by rw[List.length_map,zR,hl1]
 obtain⟨m1,m2⟩:=List.append_inj hmap hl1';obtain⟨m2a,m2b⟩:=List.cons.inj m2;obtain⟨m2b,m2c⟩:=List.cons.inj m2b;obtain⟨x1,y1,pw1⟩:=e1;obtain⟨x2,y2,pw2⟩:=e2;obtain⟨rfl,rfl⟩:=Prod.mk.inj m2a;obtain⟨rfl,rfl⟩:=Prod.mk.inj m2b;have hp1:(pendingOf st)[rs1.length]? =some (rs1.flatten.length,L.length,pw1):=by
  rw[←Array.getElem?_toList,hps,←hl1,List.getElem?_append_right (Nat.le_refl _),Nat.sub_self];rfl
 have hp2:(pendingOf st)[rs1.length+1]? =some (rs1.flatten.length+L.length,R.length,pw2):=by
  rw[←Array.getElem?_toList,hps,←hl1,List.getElem?_append_right (by lia),Nat.add_sub_cancel_left];rfl
 refine aBx C g.kd ha nL nR rL rR (HD (ap.perm g.pm) ha) (F8 g.pm dD) hp1 hp2 g.fl fun st' M kd fl pn ar rM pM=> ?_;have lM:M.length=L.length+R.length:=by rw[pM.length_eq,List.length_append]
 refine h st' M ⟨?_,fun r hr=> ?_,?_,kd,fl,?_⟩
 ·rw[ar,List.flatten_append,List.flatten_cons];simp only[List.append_assoc]
 ·rcases List.mem_append.mp hr with hr|hr
  ·exact g.rn r (List.mem_append_left _ hr)
  ·rcases List.mem_cons.mp hr with rfl|hr
   ·refine⟨fun z=> ?_,rM⟩;rw[z,List.length_nil]at lM;exact nL (List.length_eq_zero_iff.mp (by lia))
   ·exact g.rn r (List.mem_append_right _ (.tail _ (.tail _ hr)))
 ·have e:(pendingOf st').toList=ps1++(rs1.flatten.length,L.length+R.length,pw1)::ps2:=by
   rw[pn];have hlt:rs1.length+1<((pendingOf st).setIfInBounds rs1.length (rs1.flatten.length,L.length+R.length,pw1)).size:=by rw[Array.size_setIfInBounds,←Array.length_toList];lia
   rw[Array.eraseIdxIfInBounds,dif_pos hlt,Array.toList_eraseIdx,Array.toList_setIfInBounds,hps,←hl1,List.set_append_right _ _ (Nat.le_refl _),Nat.sub_self,List.eraseIdx_append_of_length_le (by lia),Nat.add_sub_cancel_left];rfl
  rw[e,List.map_append,List.map_cons,m1,m2c,wD,Nat.zero_add];show _++(rs1.flatten.length,L.length+R.length)::_=_++(rs1.flatten.length,M.length)::pos (rs1.flatten.length+M.length) rs2;rw[lM,Nat.add_assoc]
 ·refine Array.Perm.trans ?_ g.pm;rw[Array.perm_iff_toList_perm,ar,ha,List.append_assoc rs1.flatten L R];exact List.Perm.append_right _ (List.Perm.append_left _ pM)
end
end L2
namespace L2
open PySem PySem.W PyProof.Rows
section
variable {prog:Program}{w:World}{A:Around}{E:Value->Shared->Prop}{s:Shared}{κ:SortKind}{D:Keyed->Prop}{ρ:Keyed->Int}{st:SortSt}{a₀:Array Keyed}
theorem SK {a:Array Keyed}{lo n:Nat} (h:Up ρ a lo (lo+n)) (hn:lo+n<=a.size):cE ρ ((a.toList.drop lo).take n):=by
 have hl:((a.toList.drop lo).take n).length=n:=by rw[List.length_take,List.length_drop,Array.length_toList];lia
 have e:∀(k:Nat) (hk:k<((a.toList.drop lo).take n).length),ρ (((a.toList.drop lo).take n)[k])=rnk ρ a (lo+k):=fun k hk=>by
  rw[List.getElem_take,List.getElem_drop];unfold rnk;have:lo+k<a.size:=by lia
  simp[Array.getD,this]
 rw[cE,List.pairwise_iff_getElem];intro i j hi hj hij;rw[e i hi,e j hj];exact h _ _ (by lia) (by lia) (by lia)
theorem IB:∀{rs:List (List Keyed)},(∀r∈rs,r≠[])->rs.length<=rs.flatten.length
 | [],_=>Nat.le_refl _
 | r::rs,h=>by
  have h1:=IB (rs:=rs) fun x hx=>h x (.tail _ hx);have h2:0<r.length:=List.length_pos_iff.mpr (h r (.head _));rw[List.flatten_cons,List.length_append,List.length_cons]
  lia
theorem Gs.rn_run {rs:List (List Keyed)}{rest:List Keyed}{lo hi:Nat}{st':SortSt} (g:Gs ρ κ a₀ st rs rest) (h:Rn κ st st' lo hi) (hlo:lo=rs.flatten.length):Gs ρ κ a₀ st' rs ((arrOf st').toList.drop lo):=by
 refine⟨?_,g.rn,by rw[h.pn];exact g.pn,h.kd,h.fl.trans g.fl,h.pm.trans g.pm⟩;have e:(arrOf st').toList.take lo=rs.flatten:=by
  have e2:(arrOf st).toList.take lo=rs.flatten:=by rw[g.ar,hlo,List.take_append_of_le_length (Nat.le_refl _),List.take_length]
  rw[←e2];refine List.ext_getElem? fun i=> ?_;rw[List.getElem?_take,List.getElem?_take]
  by_cases hi:i<lo
  ·rw[if_pos hi,if_pos hi,Array.getElem?_toList,Array.getElem?_toList,h.lw i hi]
  ·rw[if_neg hi,if_neg hi]
 rw[←e,List.take_append_drop]
theorem Gs.push {rs:List (List Keyed)}{rest run rest':List Keyed} (g:Gs ρ κ a₀ st rs rest) (he:rest=run++rest') (hn:run≠[]) (hr:cE ρ run) {lo n:Nat} (hlo:lo=rs.flatten.length) (hl:n=run.length):Gs ρ κ a₀ (setPending st ((pendingOf st).push (lo,n,0))) (rs++[run]) rest':=by
 refine⟨?_,fun r h=> ?_,?_,g.kd,g.fl,g.pm⟩
 ·show (arrOf st).toList=_;rw[g.ar,he,List.flatten_append,List.flatten_cons,List.flatten_nil,List.append_nil,List.append_assoc]
 ·rcases List.mem_append.mp h with h|h
  ·exact g.rn r h
  ·rw[List.mem_singleton.mp h];exact⟨hn,hr⟩
 ·show ((pendingOf st).push (lo,n,0)).toList.map se=_;rw[Array.toList_push,List.map_append,g.pn,wD,Nat.zero_add,hlo,hl];rfl
theorem O5 {p:Array (Nat×Nat×Nat)}{i:Nat} (f:Nat×Nat×Nat->Nat×Nat×Nat) (hf:∀x,se (f x)=se x):(p.modify i f).toList.map se=p.toList.map se:=by
 refine List.ext_getElem? fun j=> ?_;rw[List.getElem?_map,List.getElem?_map,Array.getElem?_toList,Array.getElem?_toList,Array.getElem?_modify]
 by_cases h:i=j
 ·rw[if_pos h];cases p[j]? with
  | none=>rfl
  | some x=>show some (se (f x))=some (se x);rw[hf]
 ·rw[if_neg h]
theorem Gs.pow {rs:List (List Keyed)}{rest:List Keyed} (g:Gs ρ κ a₀ st rs rest) {i:Nat} (f:Nat×Nat×Nat->Nat×Nat×Nat) (hf:∀x,se (f x)=se x):Gs ρ κ a₀ (setPending st ((pendingOf st).modify i f)) rs rest :=
 ⟨g.ar,g.rn,(O5 f hf).trans g.pn,g.kd,g.fl,g.pm⟩
theorem SM {α:Type}{l:List α}{i:Nat} (h:i+1<l.length):∃a x y b,l=a++x::y::b/\i=a.length:=by
 refine⟨l.take i,l[i]'(by lia),l[i+1]'(by lia),l.drop (i+1+1),?_,by rw[List.length_take];lia⟩;rw[←List.drop_eq_getElem_cons (show i+1<l.length by lia),←List.drop_eq_getElem_cons (show i<l.length by lia),List.take_append_drop]
theorem xN (C:mX prog w A E s κ D ρ)(dD:∀x∈a₀.toList,D x)(ap:Apart ρ a₀){rs:List (List Keyed)}{rest:List Keyed}{i:Nat} (hi:i+1<(pendingOf st).size) (g:Gs ρ κ a₀ st rs rest) {Q:Bool->SortSt->Prop}
  (h:∀(st':SortSt) (rs':List (List Keyed)),Gs ρ κ a₀ st' rs' rest->rs'.length+1=rs.length->Q true st'):wpS (model prog w) A E s (mergeAt' i) Q st:=by
 rw[g.len]at hi;obtain⟨a,x,y,b,rfl,hia⟩:=SM hi;refine P7 C dD ap hia g fun st' M g'=>h st' _ g' ?_;simp only[List.length_append,List.length_cons]
 lia
theorem Gs.lenf {rs rs':List (List Keyed)}{rest:List Keyed}{st':SortSt} (g:Gs ρ κ a₀ st rs rest) (g':Gs ρ κ a₀ st' rs' rest):rs'.flatten.length=rs.flatten.length:=by
 have h1:=congrArg List.length g.ar;have h2:=congrArg List.length g'.ar;rw[List.length_append,Array.length_toList]at h1 h2;have:=g.pm.size_eq;have:=g'.pm.size_eq
 lia
theorem Gs.tot {rs:List (List Keyed)}{rest:List Keyed} (g:Gs ρ κ a₀ st rs rest):rs.flatten.length+rest.length=a₀.size:=by
 have h1:=congrArg List.length g.ar;rw[List.length_append,Array.length_toList]at h1;have:=g.pm.size_eq
 lia
theorem UT (C:mX prog w A E s κ D ρ)(dD:∀x∈(arrOf st).toList,D x)(ap:Apart ρ (arrOf st))(hk:kindOf st=κ)(hp:pendingOf st= #[])(hf:failedOf st=none){Q:Unit->SortSt->Prop}
  (h:∀st',(arrOf st').toList.Perm (arrOf st).toList->failedOf st'=none->cE ρ (arrOf st').toList->Q () st'):wpS (model prog w) A E s sortRuns' Q st:=by
 generalize ha:arrOf st=a₀ at *;have g0:Gs ρ κ a₀ st [] a₀.toList:=⟨by rw[ha];rfl,fun r hr=>(List.not_mem_nil hr).elim,by rw[hp];rfl,hk,hf,by rw[ha]⟩
 rw[sortRuns'_eq];refine wpS_bind (wpS_get ?_)
 dsimp only
 rw[ha];generalize hmr:minRun' a₀.size a₀.size 0=mr;refine wpS_bind (wpS_mono (wpS_forRange
  (I:=fun x c st'=>∃(lo:Nat) (rs:List (List Keyed)) (rest:List Keyed),c=(none,lo)/\x<=lo/\lo=rs.flatten.length/\Gs ρ κ a₀ st' rs rest)
  (Q:=fun c st'=>∃(lo:Nat) (rs:List (List Keyed)),c=(none,lo)/\Gs ρ κ a₀ st' rs []) ?step ?fin ⟨0,[],a₀.toList,rfl,Nat.le_refl _,rfl,g0⟩) ?post)
 case fin =>
  rintro c st' ⟨lo,rs,rest,rfl,hx,hlo,g⟩;have:=g.tot;have:rest=[]:=List.length_eq_zero_iff.mp (by lia);subst this;exact⟨lo,rs,rfl,g⟩
 case step =>
  rintro x c st1 _ hx ⟨lo,rs,rest,rfl,hxl,hlo,g⟩;have ht:=g.tot
  dsimp only
  by_cases hge:lo≥a₀.size
  ·rw[if_pos hge];have:rest=[]:=List.length_eq_zero_iff.mp (by lia);subst this;exact wpS_pure ⟨lo,rs,rfl,g⟩
  ·rw[if_neg hge];have sz1:=g.pm.size_eq;have key:∀(n:Nat) (st3:SortSt),1<=n->lo+n<=a₀.size->Rn κ st1 st3 lo a₀.size->Up ρ (arrOf st3) lo (lo+n)->∃run rest',Gs ρ κ a₀ st3 rs (run++rest')/\run≠[]/\cE ρ run/\n=run.length:=fun n st3 h1 h2 hr hu=>by
    have g3:=g.rn_run hr hlo;have sz3:=g3.pm.size_eq;have hl:(((arrOf st3).toList.drop lo).take n).length=n:=by rw[List.length_take,List.length_drop,Array.length_toList];lia
    refine⟨((arrOf st3).toList.drop lo).take n,((arrOf st3).toList.drop lo).drop n,?_,fun z=> ?_,SK hu (by lia),hl.symm⟩
    ·rw[List.take_append_drop];exact g3
    ·rw[z,List.length_nil]at hl;lia
   have tail:∀(n:Nat) (st3:SortSt) (run rest':List Keyed),Gs ρ κ a₀ st3 rs (run++rest')->run≠[]->cE ρ run->n=run.length->∀(st4:SortSt) (rs4:List (List Keyed)),Gs ρ κ a₀ st4 rs4 (run++rest')->∃(lo':Nat) (rs':List (List Keyed)) (rest'':List Keyed),((none,lo+n):Option Unit×Nat)=(none,lo')/\x+1<=lo'/\lo'=rs'.flatten.length/\Gs ρ κ a₀ (setPending st4 ((pendingOf st4).push (lo,n,0))) rs' rest'':=fun n st3 run rest' g3 hn hr hl st4 rs4 g4=>by
    have e4:=g3.lenf g4;have hpos:0<run.length:=List.length_pos_iff.mpr hn;refine⟨lo+n,rs4++[run],rest',rfl,by lia,?_,g4.push rfl hn hr (by lia) hl⟩;rw[List.flatten_append,List.flatten_cons,List.flatten_nil,List.append_nil,List.length_append]
    lia
   refine wpS_bind (M8 C g.kd (F8 g.pm dD) (ap.perm g.pm) (lo:=lo) (n:=a₀.size - lo) (by lia) (by lia) fun m st2 hm1 hm2 hr2 hu2=> ?_);rw[show lo+(a₀.size - lo)=a₀.size by lia]at hr2
   dsimp only
   by_cases hlt:m<mr
   ·rw[if_pos hlt];refine wpS_bind (wpS_lift (wpAny_rule ⟨rfl,?_⟩));have sz2:=hr2.size;refine wpS_bind (WI C hr2.kd (F8 (hr2.pm.trans g.pm) dD) (ap.perm (hr2.pm.trans g.pm)) (lo:=lo) (n:=min (a₀.size - lo) mr) (ok:=m) (by lia) (by lia) hm1 hu2 fun st3 hr3 hu3=> ?_);simp only[Bool.not_true,Bool.false_eq_true,if_false];generalize hfo:min (a₀.size - lo) mr=n at *;obtain⟨run,rest',g3,hne,hri,hln⟩:=key n st3 (by lia) (by lia) (hr2.trans (hr3.wide (by lia))) hu3;refine wpS_bind (wpS_get ?_)
    try dsimp only
    cases hb:(pendingOf st3).back? with
    | none =>
     try dsimp only
     refine wpS_bind (wpS_modify (wpS_pure ?_));exact tail n st3 run rest' g3 hne hri hln st3 rs g3
    | some e =>
     obtain⟨s1,n1,pw1⟩:=e
     try dsimp only
     generalize power' a₀.size (2 * s1+n1) (2 * s1+n1+n1+n) a₀.size=pw;refine wpS_bind (wpS_mono (wpS_forRange (I:=fun _ c st'=>c=(none,())/\∃rs',Gs ρ κ a₀ st' rs' (run++rest')) (Q:=fun c st'=>c=(none,())/\∃rs',Gs ρ κ a₀ st' rs' (run++rest')) ?_ (fun _ _ h=>h) ⟨rfl,rs,g3⟩) ?_)
     ·rintro x c st4 _ _ ⟨rfl,rs4,g4⟩;refine wpS_bind (wpS_get ?_)
      try dsimp only
      by_cases h1:(pendingOf st4).size>1
      ·rw[if_pos h1];cases hq:(pendingOf st4)[(pendingOf st4).size - 2]? with
       | none=>exact wpS_pure ⟨rfl,rs4,g4⟩
       | some e =>
        obtain⟨e1,e2,older⟩:=e
        try dsimp only
        by_cases ho:older<=pw
        ·rw[if_pos ho];exact wpS_pure ⟨rfl,rs4,g4⟩
        ·rw[if_neg ho];refine wpS_bind (xN C dD ap (by lia) g4 fun st5 rs5 g5 _=> ?_);exact wpS_pure ⟨rfl,rs5,g5⟩
      ·rw[if_neg h1];exact wpS_pure ⟨rfl,rs4,g4⟩
     ·rintro c st4 ⟨rfl,rs4,g4⟩
      try dsimp only
      refine wpS_bind (wpS_modify (wpS_bind (wpS_modify (wpS_pure ?_))));exact tail n st3 run rest' g3 hne hri hln _ rs4 (g4.pow (fun x=>(x.1,x.2.1,pw)) fun x=>rfl)
   ·rw[if_neg hlt];obtain⟨run,rest',g3,hne,hri,hln⟩:=key m st2 hm1 (by lia) hr2 hu2;refine wpS_bind (wpS_get ?_)
    try dsimp only
    cases hb:(pendingOf st2).back? with
    | none =>
     try dsimp only
     refine wpS_bind (wpS_modify (wpS_pure ?_));exact tail m st2 run rest' g3 hne hri hln st2 rs g3
    | some e =>
     obtain⟨s1,n1,pw1⟩:=e
     try dsimp only
     generalize power' a₀.size (2 * s1+n1) (2 * s1+n1+n1+m) a₀.size=pw;refine wpS_bind (wpS_mono (wpS_forRange (I:=fun _ c st'=>c=(none,())/\∃rs',Gs ρ κ a₀ st' rs' (run++rest')) (Q:=fun c st'=>c=(none,())/\∃rs',Gs ρ κ a₀ st' rs' (run++rest')) ?_ (fun _ _ h=>h) ⟨rfl,rs,g3⟩) ?_)
     ·rintro x c st4 _ _ ⟨rfl,rs4,g4⟩;refine wpS_bind (wpS_get ?_)
      try dsimp only
      by_cases h1:(pendingOf st4).size>1
      ·rw[if_pos h1];cases hq:(pendingOf st4)[(pendingOf st4).size - 2]? with
       | none=>exact wpS_pure ⟨rfl,rs4,g4⟩
       | some e =>
        obtain⟨e1,e2,older⟩:=e
        try dsimp only
        by_cases ho:older<=pw
        ·rw[if_pos ho];exact wpS_pure ⟨rfl,rs4,g4⟩
        ·rw[if_neg ho];refine wpS_bind (xN C dD ap (by lia) g4 fun st5 rs5 g5 _=> ?_);exact wpS_pure ⟨rfl,rs5,g5⟩
      ·rw[if_neg h1];exact wpS_pure ⟨rfl,rs4,g4⟩
     ·rintro c st4 ⟨rfl,rs4,g4⟩
      try dsimp only
      refine wpS_bind (wpS_modify (wpS_bind (wpS_modify (wpS_pure ?_))));exact tail m st2 run rest' g3 hne hri hln _ rs4 (g4.pow (fun x=>(x.1,x.2.1,pw)) fun x=>rfl)
 case post =>
  rintro c st' ⟨lo,rs,rfl,g⟩
  dsimp only
  refine wpS_bind (wpS_mono (wpS_forRange (I:=fun x c st''=>∃rs:List (List Keyed),c=(none,())/\Gs ρ κ a₀ st'' rs []/\rs.length<=max 1 (a₀.size - x)) (Q:=fun c st''=>∃rs:List (List Keyed),c=(none,())/\Gs ρ κ a₀ st'' rs []/\rs.length<=1) ?_ ?_ ⟨rs,rfl,g,?_⟩) ?_)
  ·rintro x c st'' _ hx ⟨rs,rfl,g,hl⟩;refine wpS_bind (wpS_get ?_)
   try dsimp only
   by_cases h1:(pendingOf st'').size<=1
   ·rw[if_pos h1];exact wpS_pure ⟨rs,rfl,g,by rw[←g.len];exact h1⟩
   ·rw[if_neg h1];have gl:=g.len;have any:∀b:Prop,[Decidable b]->(if b then (pendingOf st'').size - 2 - 1 else (pendingOf st'').size - 2)+1<(pendingOf st'').size:=fun b _=>by
     split<;>lia
    refine wpS_bind (xN C dD ap (any _) g fun st5 rs5 g5 h5=> ?_);exact wpS_pure ⟨rs5,rfl,g5,by lia⟩
  ·rintro c st'' ⟨rs,rfl,g,hl⟩;exact⟨rs,rfl,g,by lia⟩
  ·have:=IB fun r hr=>(g.rn r hr).1;have:=g.tot;simp only[List.length_nil]at this
   lia
  ·rintro c st'' ⟨rs,rfl,g,hl⟩;refine wpS_pure (h st'' (Array.perm_iff_toList_perm.mp g.pm) g.fl ?_);rw[g.ar,List.append_nil]
   match rs,hl,g.rn with
   | [],_,_=>exact List.Pairwise.nil
   | [r],_,hr=>rw[List.flatten_cons,List.flatten_nil,List.append_nil];exact(hr r (.head _)).2
   | _::_::_,hl,_=>simp only[List.length_cons]at hl;lia
end
end L2
namespace L2
open PySem PySem.W PyProof.Rows PySem.Calls
section
variable {prog:Program}{w:World}{A:Around}{E:Value->Shared->Prop}{s:Shared}{α:Type}{f:Value->α}{lt:α->α->Bool}{d:α}{l:List α}
def kQ (f:Value->α)(lt:α->α->Bool)(l:List α)(v:Value):Int:=((l.countP fun y=>lt y (f v):Nat):Int)
theorem DX (o:Ord lt l){x y:Value}(hx:f x∈l)(hy:f y∈l)(h:lt (f x) (f y)=true):kQ f lt l x<kQ f lt l y :=
 Int.ofNat_lt.mpr (uG (l:=l) (p:=fun z=>lt z (f x)) (q:=fun z=>lt z (f y)) (fun z hz h'=>o.tr z hz _ hx _ hy h' h) ⟨f x,hx,h,o.irr _ hx⟩)
theorem TQ (o:Ord lt l){x y:Value}(hx:f x∈l)(hy:f y∈l):decide (kQ f lt l x<kQ f lt l y)=lt (f x) (f y):=by
 cases h:lt (f x) (f y) with
 | true=>exact decide_eq_true (DX o hx hy h)
 | false =>
  refine decide_eq_false fun h1=> ?_
  by_cases e:f x=f y
  ·unfold kQ at h1;rw[e]at h1;exact Int.lt_irrefl _ h1
  ·rcases o.tot _ hx _ hy e with h2|h2
   ·rw[h]at h2;cases h2
   ·have:=DX (f:=f) o hy hx h2
    lia
theorem vC {vs:List Value}{x:Keyed} (h:x∈(vs.toArray.zip vs.toArray).toList):x.1∈vs/\x.2=x.1:=by
 rw[Array.toList_zip]at h;rw[List.zip_eq_zipWith]at h;have:∀l:List Value,x∈List.zipWith Prod.mk l l->x.1∈l/\x.2=x.1:=by
  intro l
  induction l with
  | nil=>intro h;cases h
  | cons a l ih =>
   intro h;rw[List.zipWith_cons_cons]at h;rcases List.mem_cons.mp h with rfl|h
   ·exact⟨.head _,rfl⟩
   ·exact⟨.tail _ (ih h).1,(ih h).2⟩
 exact this _ h
theorem MH {vs:List Value}{b:Array Keyed} (p:b.toList.Perm (vs.toArray.zip vs.toArray).toList):(b.map (·.2)).toList.Perm vs:=by
 rw[Array.toList_map];refine(p.map _).trans ?_;rw[Array.toList_zip,List.map_snd_zip];exact Nat.le_refl _
theorem aAu (o:Ord lt l)(nd:l.Nodup){vs:List Value}(hf:vs.map f=l){out:List Value}(p:out.Perm vs)(up:out.Pairwise fun x y=>kQ f lt l x<kQ f lt l y):out=bX Value.none (fun i j=>lt (l.getD i d) (l.getD j d)) vs:=by
 have hm:∀{x:Value},x∈vs->f x∈l:=fun h=>hf▸List.mem_map.mpr ⟨_,h,rfl⟩;have p2:=oU (d:=Value.none) (l:=vs) (fun i j=>lt (l.getD i d) (l.getD j d));have pw:=LN (d:=d) o nd;rw[←hf,HI f Value.none d,List.pairwise_map,hf]at pw;refine JN (lt:=fun x y=>lt (f x) (f y)) (fun x hx=>o.irr _ (hm (p.mem_iff.mp hx))) (fun x hx y hy z hz h1 h2=>o.tr _ (hm (p.mem_iff.mp hx)) _ (hm (p.mem_iff.mp hy)) _ (hm (p.mem_iff.mp hz)) h1 h2) (p.trans p2.symm) ?_ pw;refine up.imp_of_mem fun {x y} hx hy h=> ?_;rw[←TQ (f:=f) o (hm (p.mem_iff.mp hx)) (hm (p.mem_iff.mp hy))];exact decide_eq_true h
theorem Z4 {vs:List Value}{κ:SortKind} (hf:vs.map f=l) (o:Ord lt l) (nd:l.Nodup)
  (hc:∀i j,i<vs.length->j<vs.length->∀C,C (lt (l.getD i d) (l.getD j d)) s->kas_ask prog w A κ vs i j C s){Q:SortSt->Shared->Prop}
  (h:∀st',(arrOf st').map (·.2)=(bX Value.none (fun i j=>lt (l.getD i d) (l.getD j d)) vs).toArray->failedOf st'=none->Q st' s) :
  wpAny (model prog w) A ((sortRuns').run (SortSt.mk' κ (vs.toArray.zip vs.toArray) #[] 7 none)) (fun r s'=>Q r.2 s') E s:=by
 have hm:∀{x:Value},x∈vs->f x∈l:=fun h=>hf▸List.mem_map.mpr ⟨_,h,rfl⟩;have C:mX prog w A E s κ (fun x=>x.1∈vs/\x.2=x.1) (fun x=>kQ f lt l x.1):=by
  refine⟨fun {x y st Q} hx hy hk hQ=> ?_⟩;rw[lt'_eq];refine wpS_bind (wpS_get ?_);rw[hk];obtain⟨i,hi,ei⟩:=List.getElem_of_mem hx.1;obtain⟨j,hj,ej⟩:=List.getElem_of_mem hy.1;have e:∀(k:Nat) (hk:k<vs.length),l.getD k d=f vs[k]:=fun k hk=>by
   rw[←hf,List.getD_eq_getElem?_getD,List.getElem?_map,List.getElem?_eq_getElem hk];rfl
  have hcc:=hc i j hi hj (fun b s'=>s'=s/\b=decide (kQ f lt l x.1<kQ f lt l y.1)) ⟨rfl,by rw[TQ o (hm hx.1) (hm hy.1),e i hi,e j hj,ei,ej]⟩;unfold kas_ask at hcc;have g:∀(k:Nat) (hk:k<vs.length),vs.getD k Value.none=vs[k]:=fun k hk=>by rw[List.getD_eq_getElem?_getD,List.getElem?_eq_getElem hk];rfl
  rw[g i hi,g j hj,ei,ej]at hcc;refine wpS_bind (wpS_lift (wpAny_attempt (wpAny_mono hcc (fun b s' hb=>⟨hb.1,?_⟩) fun _ _ z=>z.elim)));rw[hb.2];exact wpS_pure hQ
 have ap:Apart (fun x:Keyed=>kQ f lt l x.1) (vs.toArray.zip vs.toArray):=by
  unfold Apart;have e:(vs.toArray.zip vs.toArray).toList.map (fun x:Keyed=>kQ f lt l x.1)=vs.map (kQ f lt l):=by
   show (vs.toArray.zip vs.toArray).toList.map (kQ f lt l∘Prod.fst)=_;rw[←List.map_map,Array.toList_zip,List.map_fst_zip];exact Nat.le_refl _
  rw[e,List.nodup_iff_pairwise_ne,List.pairwise_map];have nd':vs.Pairwise fun x y=>f x≠f y:=by rw[←hf]at nd;exact List.pairwise_map.mp nd
  refine nd'.imp_of_mem fun {x y} hx hy hne h=> ?_;rcases o.tot _ (hm hx) _ (hm hy) hne with h2|h2
  ·have:=DX (f:=f) o (hm hx) (hm hy) h2;lia
  ·have:=DX (f:=f) o (hm hy) (hm hx) h2;lia
 have:=UT (st:=SortSt.mk' κ (vs.toArray.zip vs.toArray) #[] 7 none) (Q:=fun _ st'=>Q st' s) C (fun x hx=>vC hx) ap rfl rfl rfl fun st' p hfl hr=>by
  refine h st' ?_ hfl
  apply Array.toList_inj.mp
  show _=bX Value.none (fun i j=>lt (l.getD i d) (l.getD j d)) vs;refine aAu o nd hf (MH p) ?_;rw[Array.toList_map,List.pairwise_map];refine List.Pairwise.imp_of_mem (fun {x y} hx hy h=> ?_) hr;rw[(vC (p.mem_iff.mp hx)).2,(vC (p.mem_iff.mp hy)).2];exact h
 unfold wpS at this;refine wpAny_mono this (fun r s' hr=> ?_) fun _ _ e=>e;rw[hr.1];exact hr.2
theorem SC {a:Addr}{vs:List Value}{n:Nat}{P:PySem.Fin->Shared->Prop} (f:Value->α) (lt:α->α->Bool) (d:α) {l:List α} (κ:SortKind) (hf:vs.map f=l) (o:Ord lt l) (nd:l.Nodup) (ho:s.heap.get? a=some (seqObj "list" vs.toArray n)) (hz:vs.length<=sizeLine)
  (hk:2<=vs.length->∀h',rF a s.heap h'->∀R:SortKind->Shared->Prop,R κ { s with heap:=h' }->wpAny (model prog w) A (keyKind' vs.toArray) R (fun _ _=>False) { s with heap:=h' })
  (hc:2<=vs.length->∀h',rF a s.heap h'->∀i j,i<vs.length->j<vs.length->∀C,C (lt (l.getD i d) (l.getD j d)) { s with heap:=h' }->kas_ask prog w A κ vs i j C { s with heap:=h' })
  (h:∀h' e,rF a s.heap h'->h'.get? a=some (seqObj "list" (bX Value.none (fun i j=>lt (l.getD i d) (l.getD j d)) vs).toArray e)->P (.done (.ret .none)) { s with heap:=h' }) :
  wpAny (model prog w) A (Builtin.«list.sort» ⟨[.ref a],[]⟩) P E s:=by
 generalize hg1:s.heap.update a (Obj.mapSeq fun _=>(#[]:Array Value))=g1;have sb1:Heap.SameBut a s.heap g1:=hg1▸Heap.SameBut.update s.heap a (Obj.mapSeq fun _=>(#[]:Array Value));obtain⟨e1,o1⟩:∃e1,g1.get? a=some (seqObj "list" #[] e1):=hg1▸⟨_,get?_update_seq ho fun _=> #[]⟩;have lt1:a<g1.objs.size:=Heap.lt_size o1;have kp:rF a s.heap ((g1.push (seqObj "tuple" vs.toArray 0)).push (seqObj "list" #[] 0)):=fun b o hb q =>
  Heap.get?_push_of_some _ (Heap.get?_push_of_some _ ((sb1.2 b hb).trans q))
 have o3:((g1.push (seqObj "tuple" vs.toArray 0)).push (seqObj "list" #[] 0)).get? a=some (seqObj "list" #[] e1):=Heap.get?_push_of_some _ (Heap.get?_push_of_some _ o1);generalize hg3:(g1.push (seqObj "tuple" vs.toArray 0)).push (seqObj "list" #[] 0)=g3 at kp o3;have fin:∀out:List Value,out.length=vs.length->out=bX Value.none (fun i j=>lt (l.getD i d) (l.getD j d)) vs->wpAny (model prog w) A (do
   let touched:=(←seqEpoch a) !=e1
   Builtin.List.listUpdate (.ref a) fun _=>out.toArray
   if let some e:=(none:Option Value) then rule "list.sort.comparison-raised";throw e
   if touched then rule "list.sort.modified";raiseError "ValueError" "list modified during sort"
   ret .none) P E { s with heap:=g3 }:=by
  intro out hl ho';obtain⟨e2,o4⟩:∃e2,(g3.update a (Obj.mapSeq fun _=>out.toArray)).get? a=some (seqObj "list" out.toArray e2):=⟨_,get?_update_seq o3 fun _=>out.toArray⟩
  refine wpAny_bind (seqEpoch_at (s:={ s with heap:=g3 }) o3 rfl ?_);refine wpAny_bind (listUpdate_at (s:={ s with heap:=g3 }) o3 rfl ?_ (Nat.zero_le _) (by rw[List.size_toArray];lia));simp only[bne_self_eq_false,Bool.false_eq_true,if_false];refine wpAny_pure (h _ e2 (fun b o hb q=> ?_) (ho'▸o4));exact((Heap.SameBut.update g3 a (Obj.mapSeq fun _=>out.toArray)).2 b hb).trans (kp b o hb q)
 rw[list_sort_plain];refine wpAny_bind (listItems_at ho rfl (wpAny_bind (listUpdate_at ho rfl ?_ (by rw[List.size_toArray];lia) (Nat.zero_le _))));rw[hg1];refine wpAny_bind (seqEpoch_at (s:={ s with heap:=g1 }) o1 rfl ?_);refine wpAny_bind (wpAny_newTuple ?_ (by exact hz));refine wpAny_bind (wpAny_newList ?_ (Nat.zero_le _));refine wpAny_holding ?_;show wpAny (model prog w) A _ P E { s with heap:=(g1.push (seqObj "tuple" vs.toArray 0)).push (seqObj "list" #[] 0) };rw[hg3]
 dsimp only
 by_cases h2:vs.toArray.size<2
 ·rw[if_pos h2,if_pos h2];have h2':vs.length<2:=by rwa [List.size_toArray]at h2
  refine wpAny_bind (wpAny_pure ?_);rw[StateT.run_pure];refine wpAny_bind (wpAny_pure ?_)
  dsimp only
  have ez:(arrOf (SortSt.mk' general' (vs.toArray.zip vs.toArray) #[] 7 none)).map (·.2)=vs.toArray:=by
   show (vs.toArray.zip vs.toArray).map (·.2)=_
   apply Array.toList_inj.mp
   rw[Array.toList_map,Array.toList_zip,List.map_snd_zip];exact Nat.le_refl _
  rw[ez];exact fin vs rfl (by unfold bX;rw[if_pos h2'])
 ·rw[if_neg h2,if_neg h2];have h2':2<=vs.length:=by rw[List.size_toArray]at h2;lia
  refine wpAny_bind (wpAny_mono (hk h2' _ kp (fun κ' s'=>κ'=κ/\s'={ s with heap:=g3 }) ⟨rfl,rfl⟩) ?_ fun _ _ x=>x.elim);rintro _ _ ⟨rfl,rfl⟩;refine wpAny_bind (wpAny_mono (Z4 (d:=d) (Q:=fun st' s'=>(arrOf st').map (·.2)=(bX Value.none (fun i j=>lt (l.getD i d) (l.getD j d)) vs).toArray/\failedOf st'=none/\s'={ s with heap:=g3 }) hf o nd (hc h2' _ kp) fun st' a1 a2=>⟨a1,a2,rfl⟩) ?_ fun _ _ e=>e);rintro ⟨⟨⟩,st'⟩ _ ⟨har,hfl,rfl⟩
  dsimp only
  rw[har,hfl];exact fin _ (oU _).length_eq rfl
theorem KF {p:Addr}{vs:List Value}{Q:Value->Shared->Prop} (f:Value->α) (lt:α->α->Bool) (d:α) {l:List α} (κ:SortKind) (hf:vs.map f=l) (o:Ord lt l) (nd:l.Nodup) (hl:s.heap.IsList p vs.toArray) (hz64:vs.length<=sizeLine)
  (hk:2<=vs.length->∀h',(∀b o,s.heap.get? b=some o->h'.get? b=some o)->∀R:SortKind->Shared->Prop,R κ { s with heap:=h' }->wpAny (model prog w) A.in1.in1 (keyKind' vs.toArray) R (fun _ _=>False) { s with heap:=h' })
  (hc:2<=vs.length->∀h',(∀b o,s.heap.get? b=some o->h'.get? b=some o)->∀i j,i<vs.length->j<vs.length->∀C,C (lt (l.getD i d) (l.getD j d)) { s with heap:=h' }->kas_ask prog w A.in1.in1 κ vs i j C { s with heap:=h' })
  (h:∀D h' e,s.heap.objs.size<=D->(∀b o,s.heap.get? b=some o->h'.get? b=some o)->h'.get? D=some (seqObj "list" (bX Value.none (fun i j=>lt (l.getD i d) (l.getD j d)) vs).toArray e)->Q (.ref D) { s with heap:=h' }) :
  wpAny (model prog w) A (call (.builtin "sorted") [.ref p]) Q E s:=by
 refine Calls.call_function_entry kind_sorted plain_sorted entry_sorted (args_sorted1 _) ?_;unfold Builtin.«sorted»;refine wpAny_bind (m:=checkCount "sorted" 1 1 _) (wpAny_pure (wpAny_bind (collect_list hl ?_ hz64)));refine wpAny_bind (wpAny_newList ?_ hz64);generalize hq:(s.heap.push (seqObj "list" #[] 0)).update s.heap.objs.size (Obj.mapSeq (·++vs.toArray))=q;have qs:q.objs.size=s.heap.objs.size+1:=by rw[←hq,Heap.size_update,size_push']
 have qk:∀b o,s.heap.get? b=some o->q.get? b=some o:=fun b o e=>by
  have bl:b<s.heap.objs.size:=Heap.lt_size e;rw[←hq,Heap.get?_update_ne _ _ _ _ (Nat.ne_of_lt bl),Heap.get?_push_ne _ _ _ (Nat.ne_of_lt bl)];exact e
 have oD:(q.push (seqObj "list" vs.toArray 0)).get? q.objs.size=some (seqObj "list" vs.toArray 0):=Heap.get?_push_size _ rfl;have kD:∀h',rF q.objs.size (q.push (seqObj "list" vs.toArray 0)) h'->∀b o,s.heap.get? b=some o->h'.get? b=some o:=fun h' k b o e =>
  k b o (Nat.ne_of_lt (by rw[qs];exact Nat.lt_succ_of_lt (Heap.lt_size e))) (Heap.get?_push_of_some _ (qk b o e))
 refine wpAny_bind (wpAny_holding (wpAny_call_entry slot_list_sort ⟨_,oD,rfl⟩ entry_list_sort ?body (args_list_sort _)))
 case body =>
  refine SC (s:={ s with heap:=q.push (seqObj "list" vs.toArray 0) }) f lt d κ hf o nd oD hz64 (fun h2 h' k=>hk h2 h' (kD h' k)) (fun h2 h' k=>hc h2 h' (kD h' k)) fun h' e k o'=> ?_;exact⟨_,rfl,wpAny_pure ⟨_,rfl,h _ h' e (by show s.heap.objs.size<=q.objs.size;rw[qs];exact Nat.le_succ _) (kD h' k) o'⟩⟩
end
end L2
namespace L2
open PySem PySem.W PyProof.Rows PySem.Calls
section
variable {X:Cx}{H:Hp}
def vK:V->Key
 | .int i=> .inl i
 | .str x=> .inr x
 | _=> .inl 0
theorem aA0:∀k:Key,vK (kV k)=k
 | .inl _=>rfl
 | .inr _=>rfl
def KH (H:Hp):Value->List Key
 | .ref p=>match H p with|some (.tup xs)=>xs.map vK|_=>[]
 | _=>[]
theorem Q8 {p:Addr}{r:List Key} (e:H p=some (.tup (r.map kV))):KH H (.ref p)=r:=by
 show (match H p with|some (.tup xs)=>xs.map vK|_=>[])=r;rw[e];show (r.map kV).map vK=r;rw[List.map_map];exact(List.map_congr_left fun k _=>aA0 k).trans (List.map_id _)
theorem E7:∀{vs:List V}{rs:List (List Key)}{us:List Value},KRows H vs rs->Vals vs us->us.map (KH H)=rs
 | _,_,_,.nil,.nil=>rfl
 | _::_,r::_,_::_,.cons ⟨p,hv,e⟩ q,.cons rv rt=>by
  subst hv;cases rv;rw[List.map_cons,Q8 e,E7 q rt]
def F1 (K:PySem.W.Frag):List V->Hp->VK->Prop:=fun xs H Q=>∃p vs rs sh,xs=[.ref p]/\SqL K H p vs/\KRows H vs rs/\rs.Nodup/\(∀r∈rs,r.map d7=sh)/\sh≠[]/\∀l,H l=none->Q (.ref l) (upd H l (.lst (KK rs vs)))
theorem uD:dL X (.builtin "sorted") (F1 X.K):=by
 intro pins s σ H xs us Q I r h;obtain⟨p,vs,rs,sh,rfl,hq,kr,nd,hs,hn,q⟩:=h;obtain⟨u,rfl,rx⟩:=kN r;cases rx;obtain⟨its,rv,pl,hz⟩:=I.list hq;have hl:=rv.length;have hT:∃T:Value,(T==T)=true/\(T !=Value.type "tuple")=true/\∀(h':Heap) (k:Key) (u:Value),sh.head? =some (d7 k)->RelV (kV k) u->Looks (model X.prog X.w) h' (typeOf u) T:=by
  cases sh with
  | nil=>exact absurd rfl hn
  | cons b sh =>
   cases b with
   | true =>
    refine⟨.type "int",rfl,by decide,fun h' k u hk ru=> ?_⟩;cases k with
    | inl i=>obtain⟨t,rfl⟩:=ru;exact Looks.of_pure rfl
    | inr x=>cases hk
   | false =>
    refine⟨.type "str",rfl,by decide,fun h' k u hk ru=> ?_⟩;cases k with
    | inl i=>cases hk
    | inr x=>obtain⟨t,rfl⟩:=ru;exact Looks.of_pure rfl
 obtain⟨T,t1,t2,t3⟩:=hT;refine KF (KH H) f9 [] (tuples' true) (E7 kr rv) (RW ⟨sh,hs⟩) nd pl.isList (by lia) (fun h2 h' kp R hR=> ?_) (fun h2 h' kp i j hi hj C hC=> ?_) fun D h' e hD kp o'=> ?_
 ·obtain⟨fs,f1,f2,f3⟩:=CH I kp (fun k u=>t3 h' k u) kr rv hs hn;refine kat_kind (s:={ s with heap:=h' }) f1 (by lia) f3 t1 ?_;rw[t2];exact hR
 ·obtain⟨p1,r1,x1,y1,z1⟩:=kr.get (i:=i) (List.getElem?_eq_getElem (by lia));obtain⟨p2,r2,x2,y2,z2⟩:=kr.get (i:=j) (List.getElem?_eq_getElem (by lia));obtain⟨u1,v1,w1⟩:=rv.get (List.getElem?_eq_getElem (show i<vs.length by lia));obtain⟨u2,v2,w2⟩:=rv.get (List.getElem?_eq_getElem (show j<vs.length by lia));rw[x1]at w1;rw[x2]at w2;cases w1;cases w2;obtain⟨o1,us1,n1,g1,c1,d1,l1⟩:=rN I z1;obtain⟨o2,us2,n2,g2,c2,d2,l2⟩:=rN I z2;have s1:=hs r1 (List.mem_of_getElem? y1);have s2:=hs r2 (List.mem_of_getElem? y2);have e1:=l1.length;have e2:=l2.length;rw[List.length_map]at e1 e2;have e3:r1.length=r2.length:=by rw[←List.length_map (f:=d7),s1,←s2,List.length_map]
  unfold kas_ask;rw[List.getD_eq_getElem?_getD,List.getD_eq_getElem?_getD,v1,v2];refine kat_lt (s:={ s with heap:=h' }) (kp _ _ g1) d1 (kp _ _ g2) d2 ?_;rw[show decide (us1.toArray.size<us2.toArray.size)=false from decide_eq_false (by rw[List.size_toArray,List.size_toArray];lia)];refine NW 0 (s1.trans s2.symm) l1 l2 ?_;have ec:sI rs i j=f9 r1 r2:=by
   unfold sI;rw[List.getD_eq_getElem?_getD,List.getD_eq_getElem?_getD,y1,y2];rfl
  rw[show f9 (rs.getD i []) (rs.getD j [])=f9 r1 r2 from ec]at hC;exact hC
 ·exact⟨.ref D,_,I.laid (t':=s.toks) kp hD (show ObjOk X.prog X.w _ h' _ (.lst _) from⟨by show (bX _ _ _).length<=_;rw[AK];exact hz,_,e,E4 _ rv,o'⟩),rfl,q _ (I.hok.fresh hD)⟩
end
end L2
namespace L2
open PySem PySem.W PyProof.Rows
section
variable {prog:Program}{w:World}{A:Around}{E:Value->Shared->Prop}{s:Shared}
end
open Sem (wp) in
open AutoSeq1 (wpAny_loadPart') in
section
variable {prog:Program}{w:World}{A:Around}{E:Value->Shared->Prop}{s:Shared}
end
end L2
namespace L2
open PySem PySem.W PyProof.Rows
section
variable {prog:Program}{w:World}{A:Around}{E:Value->Shared->Prop}{s:Shared}
end
section
variable {X:Cx}
end
end L2
namespace L2
open PySem PySem.W PyProof.Rows
section
variable {K:PySem.W.Frag}{H:Hp}{σ:St}{Q:VK}{R:It->Hp->Prop}{nx bk ct:St->Hp->Prop}{rt:VK}
theorem CB {p:Addr}{vs:List V}{rs:List (List Key)}{sh:List Bool} (e:SqL K H p vs) (kr:KRows H vs rs) (nd:rs.Nodup) (hs:∀r∈rs,r.map d7=sh) (hn:sh≠[]) (h:∀l ws H',H l=none->Same H H'->H' l=some (.lst ws)->KRows H' ws (qF rs)->Q (.ref l) H'):F1 K [.ref p] H Q :=
 ⟨p,vs,rs,sh,rfl,e,kr,nd,hs,hn,fB fun l H' n S e=>h l _ H' n S e ((K3 kr).same S)⟩
end
end L2
namespace L2
open PySem PySem.W PyProof.Rows PySem.Calls
section
variable {prog:Program}{w:World}{A:Around}{E:Value->Shared->Prop}{s:Shared}{d:Addr}{α:Type}
end
section
variable {X:Cx}
end
end L2
namespace L2
open PySem PySem.W PyProof.Rows
section
variable {prog:Program}{w:World}{A:Around}{E:Value->Shared->Prop}{s:Shared}
variable {κ:Type}[DecidableEq κ]{knd:HeapKind prog w κ}
end
section
variable {A:Around}{s:Shared}
end
section
variable {prog:Program}{w:World}{A:Around}{E:Value->Shared->Prop}{s:Shared}
variable {κ:Type}[DecidableEq κ]{knd:HeapKind prog w κ}
end
section
variable {X:Cx}{pins:List (Addr×Obj)}{σ:St}{H:Hp}{s:Shared}
end
section
variable {X:Cx}
end
section
variable {X:Cx}
theorem QQ {K:PySem.W.Frag}(h:X.K=K:=by rfl):OpR X (binaryOp .Add) (JS K):=by subst h;exact VQ
theorem RM {K:PySem.W.Frag}{H:Hp}{Q:VK}{l b:Addr}{xs zs:List V} (e:H l=some (.tup xs)) (e2:H b=some (.tup zs)) (h1:xs≠[]) (h2:zs≠[]) (hn:xs.length+zs.length<=sizeLine) (h:∀p H',H p=none->Same H H'->H' p=some (.tup (xs++zs))->Q (.ref p) H'):JS K (.ref l) (.ref b) H Q:=by
 exact⟨l,b,xs,zs,rfl,rfl,SqT.of e,SqT.of e2,h1,hn,(fun z=>absurd z h2),fun _=>fB h⟩
end
end L2
namespace L2
open PySem PySem.W PyProof.Rows
section
variable {X:Cx}
def uJ (v:V)(xs:List V):Nat:=xs.countP fun x=>eqV x v
def ZN:V->List V->Hp->VK->Prop:=fun x vs H Q=>∃p v xs,x= .ref p/\vs=[v]/\H p=some (.lst xs)/\i5 v=true/\(∀y∈xs,i5 y=true)/\Q (.int (uJ v xs)) H
def unV:Value->V
 | .bool b=> .bl b
 | .int i _=> .int i
 | .str x _=> .str x
 | _=> .non
theorem JC {x:V}{u:Value} (h:i5 x=true) (r:RelV x u):unV u=x:=by
 cases x<;>first|(cases h;done)|(obtain⟨t,rfl⟩:=r;rfl)|(cases r;rfl)
theorem w4 (v:V):∀{xs:List V}{us:List Value},Vals xs us->(∀y∈xs,i5 y=true)->us.countP (fun y=>eqV (unV y) v)=xs.countP fun x=>eqV x v
 | _,_,.nil,_=>rfl
 | x::xs,y::us,.cons r t,h=>by
  have ih:=w4 v t fun y hy=>h y (List.mem_cons_of_mem _ hy);rw[List.countP_cons,List.countP_cons,ih,JC (h x (.head _)) r]
theorem xB:MtR X "list.count" ZN:=by
 intro pins s σ H x xs v us Q I rx rs h;obtain⟨p,w,ys,rfl,rfl,hH,hv,hall,q⟩:=h;obtain⟨u,rfl,ru⟩:=kN rs;cases rx;obtain⟨z,its,n,r,hl,e⟩:=I.lstM hH;have key:∃g:Value->Bool,(∀y∈its,MeetsSeq.EqGives y u (g y))/\its.countP g=uJ w ys:=by
  refine⟨fun y=>eqV (unV y) w,fun y hy=> ?_,w4 w r hall⟩;obtain⟨i,hi,rfl⟩:=List.getElem_of_mem hy;obtain⟨y',e1,e2⟩:=r.get (List.getElem?_eq_getElem (show i<ys.length by lia));rw[List.getElem?_eq_getElem hi]at e1;cases e1;have hf:=hall _ (List.getElem_mem (show i<ys.length by lia));show MeetsSeq.EqGives _ _ (eqV (unV its[i]) w);rw[JC hf e2];exact fun prog w' A E s Q hQ=>N6 e2 ru hf hv prog w' E Q hQ
 obtain⟨g,g1,g2⟩:=key;refine call_meets F.slot_list_count ⟨_,e,rfl⟩ F.entry_list_count (F.args_list_count_2 _ _) (MeetsSeq.list_count p its.toArray n u g (fun y hy=>g1 y (by simpa using hy))) ⟨e,?_⟩;rw[List.toList_toArray,g2];exact⟨.int (uJ w ys),H,I.tok _,⟨_,rfl⟩,q⟩
end
end L2
namespace L2
def ZW {α:Type}:Nat->(List α->Prop)->Prop
 | 0,p=>p []
 | n+1,p=>∀a,ZW n (fun l=>p (a::l))
theorem aN {α:Type}:∀(n:Nat) (p:List α->Prop),ZW n p->∀us:List α,us.length=n->p us
 | 0,_,h,[],_=>h
 | n+1,_,h,a::us,e=>aN n _ (h a) us (by simpa using e)
 | 0,_,_,_::_,e=>by simp at e
 | _+1,_,_,[],e=>by simp at e
end L2
namespace Prf
open PySem L2
set_option hygiene false
local macro_rules| `(tactic| walk_at"fs")=> `(tactic| exact⟨rfl,rfl,rfl,by decide +kernel,rfl,by decide +kernel,by decide +kernel⟩)
local macro_rules| `(tactic| walk_at"hu")=> `(tactic| (have hu0:=Room.units0 hr;have hu1:=Room.units1 hr;have hu9:=Room.units9 hr))
set_option hygiene true
def top (i:Nat):Stmt:=PySem.Challenge.pw_firstout_k23_heads_that_go.main.body.getD i (.Pass ⟨0,0,0,0⟩)
abbrev oH:Stmt:=top 0
abbrev hG:Stmt:=top 10
theorem sc_added_up:aX ["plan","going","turn","name","number"] ["plan"] (aD hG):=by walk_at"fs"
abbrev cV:Stmt:=top 11
theorem sc_rows_that_count:aX ["house","plan","doors"] ["house","plan"] (aD cV):=by walk_at"fs"
abbrev iJ:Stmt:=top 12
theorem sc_leaving:aX ["house","plan","numbers","turn","name","number","pair"] ["house","plan"] (aD iJ):=by walk_at"fs"
abbrev jV:Stmt:=top 13
theorem sc_coming:aX ["house","plan","numbers","turn","name","number","door","pair"] ["house","plan"] (aD jV):=by walk_at"fs"
abbrev lQ:Stmt:=top 14
theorem sc_there:aX ["house","plan","leave","come","inside","room","turn","before"] ["house","plan"] (aD lQ):=by walk_at"fs"
abbrev dP:Stmt:=top 15
theorem sc_most_through:aX ["house","turn","name"] ["house","turn","name"] (aD dP):=by walk_at"fs"
abbrev eQ:Stmt:=top 16
theorem sc_door_faults:aX ["house","plan","going"] ["house","plan"] (aD eQ):=by walk_at"fs"
abbrev dN:Stmt:=top 17
theorem sc_leave_faults:aX ["house","plan","inside","leave","below_last"] ["house","plan","inside"] (aD dN):=by walk_at"fs"
abbrev eM:Stmt:=top 18
theorem sc_full_faults:aX ["house","inside"] ["house","inside"] (aD eM):=by walk_at"fs"
abbrev j4:Stmt:=top 19
theorem sc_faults:aX ["house","plan","inside"] ["house","plan"] (aD j4):=by walk_at"fs"
abbrev jW:Stmt:=top 20
theorem sc_out_by:aX ["house","plan","turn","rows"] ["house","plan","turn"] (aD jW):=by walk_at"fs"
abbrev lT:Stmt:=top 21
theorem sc_spent:aX ["house","plan","total"] ["house","plan"] (aD lT):=by walk_at"fs"
abbrev g8:Stmt:=top 23
theorem sc_is_whole:aX ["thing"] ["thing"] (aD g8):=by walk_at"fs"
abbrev iQ:Stmt:=top 26
theorem sc_is_name:aX ["thing"] ["thing"] (aD iQ):=by walk_at"fs"
abbrev fY:Stmt:=top 27
theorem sc_need_name:aX ["part","thing"] ["part","thing"] (aD fY):=by walk_at"fs"
abbrev fE:Stmt:=top 28
theorem sc_need_whole:aX ["part","thing","least"] ["part","thing","least"] (aD fE):=by walk_at"fs"
abbrev cN:Stmt:=cS (top 29) 0
theorem sc_Door___init__:aX ["self","name","start","end","wide"] ["self","name","start","end","wide"] (aD cN):=by walk_at"fs"
abbrev gA:Stmt:=cS (top 29) 1
theorem sc_Door_lets:aX ["self","turn"] ["self","turn"] (aD gA):=by walk_at"fs"
abbrev dQ:Stmt:=cS (top 29) 2
theorem sc_Door_is_exit:aX ["self"] ["self"] (aD dQ):=by walk_at"fs"
abbrev gQ:Stmt:=cS (top 29) 3
abbrev cX:Stmt:=cS (top 30) 0
theorem sc_Marked___init__:aX ["self","name","start","end","wide","bits"] ["self","name","start","end","wide","bits"] (aD cX):=by walk_at"fs"
abbrev eG:Stmt:=cS (top 30) 1
theorem sc_Marked_lets:aX ["self","turn"] ["self","turn"] (aD eG):=by walk_at"fs"
abbrev fC:Stmt:=cS (top 30) 2
abbrev fG:Stmt:=top 32
theorem sc_need_turns:aX ["first","last"] ["first","last"] (aD fG):=by walk_at"fs"
abbrev c4:Stmt:=top 33
theorem sc_need_each_once:aX ["names","seen","name"] ["names"] (aD c4):=by walk_at"fs"
abbrev cW:Stmt:=top 34
theorem sc_rooms_spoken_of:aX ["doors","people","names","door"] ["doors","people"] (aD cW):=by walk_at"fs"
abbrev fJ:Stmt:=top 35
theorem sc_need_rooms:aX ["names","sizes","name"] ["names","sizes"] (aD fJ):=by walk_at"fs"
abbrev dM:Stmt:=top 36
theorem sc_added_people:aX ["sizes","people","inside","room","number"] ["sizes","people"] (aD dM):=by walk_at"fs"
abbrev fO:Stmt:=top 37
theorem sc_need_space:aX ["sizes","people","inside"] ["sizes","people"] (aD fO):=by walk_at"fs"
abbrev cQ:Stmt:=cS (top 38) 0
theorem sc_House___init__:aX ["self","rooms","doors","people","last","first","sizes","door"] ["self","rooms","doors","people","last","first"] (aD cQ):=by walk_at"fs"
abbrev d8:Stmt:=cS (top 38) 1
theorem sc_House_rooms:aX ["self"] ["self"] (aD d8):=by walk_at"fs"
abbrev d9:Stmt:=cS (top 38) 2
theorem sc_House_doors:aX ["self"] ["self"] (aD d9):=by walk_at"fs"
abbrev cU:Stmt:=cS (top 38) 3
theorem sc_House_need_room:aX ["self","room"] ["self","room"] (aD cU):=by walk_at"fs"
abbrev eP:Stmt:=cS (top 38) 4
theorem sc_House_holds:aX ["self","room"] ["self","room"] (aD eP):=by walk_at"fs"
abbrev eI:Stmt:=cS (top 38) 5
theorem sc_House_found:aX ["self","room"] ["self","room"] (aD eI):=by walk_at"fs"
abbrev gG:Stmt:=cS (top 38) 6
abbrev dH:Stmt:=cS (top 38) 7
abbrev fF:Stmt:=cS (top 38) 8
theorem sc_House_door:aX ["self","name"] ["self","name"] (aD fF):=by walk_at"fs"
abbrev fN:Stmt:=cS (top 38) 9
theorem sc_House_lets:aX ["self","name","turn","door"] ["self","name","turn"] (aD fN):=by walk_at"fs"
abbrev eB:Stmt:=cS (top 38) 10
theorem sc_House_total:aX ["self"] ["self"] (aD eB):=by walk_at"fs"
abbrev eJ:Stmt:=cS (top 38) 11
theorem sc_House_pairs:aX ["self","pairs","turn"] ["self"] (aD eJ):=by walk_at"fs"
abbrev fM:Stmt:=top 40
theorem sc__law_whole:aX ["_law_found"] ["_law_found"] (aD fM):=by walk_at"fs"
abbrev dS:Stmt:=top 41
theorem sc__law_cell_at:aX ["_law_script","_law_k"] ["_law_script","_law_k"] (aD dS):=by walk_at"fs"
abbrev fL:Stmt:=top 42
theorem sc__law_drawn:aX ["_law_cell","_law_k","_law_number"] ["_law_cell","_law_k"] (aD fL):=by walk_at"fs"
abbrev fI:Stmt:=top 43
theorem sc__law_house:aX ["_law_script","_law_cell","_law_rooms","_law_first","_law_doors","_law_k","_law_draw","_law_start","_law_end","_law_people"] ["_law_script"] (aD fI):=by walk_at"fs"
abbrev gB:Stmt:=top 44
theorem sc__law_goes:aX ["_law_house_here","_law_room","_law_turn","_law_went","_law_held","_law_draw","_law_names","_law_name","_law_end"] ["_law_house_here","_law_room","_law_turn","_law_went","_law_held","_law_draw"] (aD gB):=by walk_at"fs"
abbrev eA:Stmt:=top 45
theorem sc__law_walked:aX ["_law_house_here","_law_script","_law_heads","_law_room","_law_went","_law_stood","_law_turn","_law_held","_law_k","_law_cell","_law_name"] ["_law_house_here","_law_script"] (aD eA):=by walk_at"fs"
abbrev fK:Stmt:=top 46
theorem sc__law_tells:aX ["_law_house_here","_law_plan","_law_stood","_law_inside","_law_room","_law_turn","_law_many","_law_at","_law_found","_law_row"] ["_law_house_here","_law_plan","_law_stood"] (aD fK):=by walk_at"fs"
abbrev mL:Stmt:=top 47
theorem sc_law:aX ["_law_script","_law_house_here","_law_went","_law_stood","_law_plan","_law_draw","_law_names","_law_name","_law_turn","_law_more"] ["_law_script"] (aD mL):=by walk_at"fs"
theorem SH:("door" :Str).length=4:=by rw[cJ];rfl
theorem P9:("leave" :Str).length=5:=by rw[cJ];rfl
theorem QV:("full" :Str).length=4:=by rw[cJ];rfl
theorem RZ:("name" :Str).length=4:=by rw[cJ];rfl
theorem Q5:("start" :Str).length=5:=by rw[cJ];rfl
theorem SL:("wide" :Str).length=4:=by rw[cJ];rfl
theorem RU:("bits" :Str).length=4:=by rw[cJ];rfl
theorem RI:("the first turn is below 0" :Str).length=25:=by rw[cJ];rfl
theorem RJ:("the last turn is below the first one" :Str).length=36:=by rw[cJ];rfl
theorem RB:("a row of people is below 0" :Str).length=26:=by rw[cJ];rfl
theorem LY:("more are in a room than it holds" :Str).length=32:=by rw[cJ];rfl
theorem LR:(" is no name" :Str).length=11:=by rw[cJ];rfl
theorem LS:(" is no whole number from " :Str).length=25:=by rw[cJ];rfl
theorem KJ:(" on" :Str).length=3:=by rw[cJ];rfl
theorem J0:("end" :Str).length=3:=by rw[cJ];rfl
theorem K5:("fghij" :Str).length=5:=by rw[cJ];rfl
theorem KS:("a" :Str).length=1:=by rw[cJ];rfl
theorem J9:("z" :Str).length=1:=by rw[cJ];rfl
theorem KU:("abcdefg" :Str).length=7:=by rw[cJ];rfl
structure DCls (K:PySem.W.Frag)(C:Addr):Prop where
 ic:ICls K C
 n_name:NoAttr K C "name"
 n_start:NoAttr K C "start"
 n_end:NoAttr K C "end"
 n_wide:NoAttr K C "wide"
 n_bits:NoAttr K C "bits"
 n_first:NoAttr K C "first"
 n_last:NoAttr K C "last"
 n_sizes:NoAttr K C "sizes"
 n_people:NoAttr K C "people"
 n_named_doors:NoAttr K C "named_doors"
set_option genInjectivity false in
set_option genSizeOfSpec false in
structure M (K:PySem.W.Frag)(mg:Str->Option Value) where
 JQ:Addr
 JR:FuncData
 aB5:FunV K "_wall" "_wall" oH JQ JR
 aB6:Binds K JR ["k"] []
 tY:Addr
 t5:FuncData
 oE:FunV K "added_up" "added_up" hG tY t5
 MA:Binds K t5 ["plan"] []
 jE:Addr
 jJ:FuncData
 cK:FunV K "rows_that_count" "rows_that_count" cV jE jJ
 wR:Binds K jJ ["house","plan"] []
 vG:Addr
 vJ:FuncData
 kI:FunV K "leaving" "leaving" iJ vG vJ
 PB:Binds K vJ ["house","plan"] []
 xW:Addr
 yA:FuncData
 t6:FunV K "coming" "coming" jV xW yA
 SR:Binds K yA ["house","plan"] []
 AU:Addr
 A5:FuncData
 oK:FunV K "there" "there" lQ AU A5
 XT:Binds K A5 ["house","plan"] []
 mH:Addr
 l8:FuncData
 i6:FunV K "most_through" "most_through" dP mH l8
 AZ:Binds K l8 ["house","turn","name"] []
 nC:Addr
 m9:FuncData
 jU:FunV K "door_faults" "door_faults" eQ nC m9
 C8:Binds K m9 ["house","plan"] []
 mF:Addr
 lZ:FuncData
 i8:FunV K "leave_faults" "leave_faults" dN mF lZ
 AY:Binds K lZ ["house","plan","inside"] []
 nI:Addr
 nO:FuncData
 jT:FunV K "full_faults" "full_faults" eM nI nO
 DI:Binds K nO ["house","inside"] []
 xX:Addr
 yB:FuncData
 o6:FunV K "faults" "faults" j4 xX yB
 SW:Binds K yB ["house","plan"] []
 xY:Addr
 xV:FuncData
 l7:FunV K "out_by" "out_by" jW xY xV
 SX:Binds K xV ["house","plan","turn"] []
 A2:Addr
 A7:FuncData
 wI:FunV K "spent" "spent" lT A2 A7
 XZ:Binds K A7 ["house","plan"] []
 tZ:Addr
 tW:FuncData
 oB:FunV K "is_whole" "is_whole" g8 tZ tW
 L5:Binds K tW ["thing"] []
 vE:Addr
 vL:FuncData
 qP:FunV K "is_name" "is_name" iQ vE vL
 PD:Binds K vL ["thing"] []
 qV:Addr
 qW:FuncData
 iD:FunV K "need_name" "need_name" fY qV qW
 HR:Binds K qW ["part","thing"] []
 pQ:Addr
 qE:FuncData
 gT:FunV K "need_whole" "need_whole" fE pQ qE
 GT:Binds K qE ["part","thing","least"] []
 pA:Addr
 qD:FuncData
 k6:FunV K "need_turns" "need_turns" fG pA qD
 GF:Binds K qD ["first","last"] []
 j8:Addr
 j7:FuncData
 fP:FunV K "need_each_once" "need_each_once" c4 j8 j7
 xT:Binds K j7 ["names"] []
 jI:Addr
 jF:FuncData
 gF:FunV K "rooms_spoken_of" "rooms_spoken_of" cW jI jF
 wO:Binds K jF ["doors","people"] []
 o9:Addr
 pU:FuncData
 gU:FunV K "need_rooms" "need_rooms" fJ o9 pU
 GI:Binds K pU ["names","sizes"] []
 mE:Addr
 mG:FuncData
 fD:FunV K "added_people" "added_people" dM mE mG
 AW:Binds K mG ["sizes","people"] []
 qC:Addr
 pJ:FuncData
 k7:FunV K "need_space" "need_space" fO qC pJ
 GC:Binds K pJ ["sizes","people"] []
 p0:Addr
 pI:FuncData
 iV:FunV K "_law_whole" "_law_whole" fM p0 pI
 GR:Binds K pI ["_law_found"] []
 l6:Addr
 l9:FuncData
 bZ:FunV K "_law_cell_at" "_law_cell_at" dS l6 l9
 AS:Binds K l9 ["_law_script","_law_k"] []
 o8:Addr
 p9:FuncData
 d0:FunV K "_law_drawn" "_law_drawn" fL o8 p9
 GE:Binds K p9 ["_law_cell","_law_k"] []
 qB:Addr
 o7:FuncData
 kZ:FunV K "_law_house" "_law_house" fI qB o7
 GS:Binds K o7 ["_law_script"] []
 qY:Addr
 qZ:FuncData
 mM:FunV K "_law_goes" "_law_goes" gB qY qZ
 HV:Binds K qZ ["_law_house_here","_law_room","_law_turn","_law_went","_law_held","_law_draw"] []
 nF:Addr
 nQ:FuncData
 jS:FunV K "_law_walked" "_law_walked" eA nF nQ
 DA:Binds K nQ ["_law_house_here","_law_script"] []
 pY:Addr
 qA:FuncData
 k8:FunV K "_law_tells" "_law_tells" fK pY qA
 GU:Binds K qA ["_law_house_here","_law_plan","_law_stood"] []
 L8:Addr
 L1:FuncData
 aBL:FunV K "law" "law" mL L8 L1
 aB7:Binds K L1 ["_law_script"] []
 iH:Addr
 fX:FuncData
 qQ:FunV K "__init__" "Door.__init__" cN iH fX
 qO:Binds K fX ["self","name","start","end","wide"] []
 qX:Addr
 qU:FuncData
 HS:FunV K "lets" "Door.lets" gA qX qU
 HX:Binds K qU ["self","turn"] []
 i7:Addr
 lY:FuncData
 AO:FunV K "is_exit" "Door.is_exit" dQ i7 lY
 r9:Binds K lY ["self"] []
 vI:Addr
 vM:FuncData
 aAU:FunV K "words" "Door.words" gQ vI vM
 aAS:Binds K vM ["self"] []
 jC:Addr
 jG:FuncData
 wV:FunV K "__init__" "Marked.__init__" cX jC jG
 wW:Binds K jG ["self","name","start","end","wide","bits"] []
 nJ:Addr
 nN:FuncData
 DC:FunV K "lets" "Marked.lets" eG nJ nN
 DO:Binds K nN ["self","turn"] []
 r6:Addr
 rZ:FuncData
 XS:FunV K "words" "Marked.words" fC r6 rZ
 XR:Binds K rZ ["self"] []
 j6:Addr
 hJ:FuncData
 xU:FunV K "__init__" "House.__init__" cQ j6 hJ
 x0:Binds K hJ ["self","rooms","doors","people","last","first"] []
 nK:Addr
 nG:FuncData
 DE:FunV K "rooms" "House.rooms" d8 nK nG
 DG:Binds K nG ["self"] []
 m8:Addr
 nB:FuncData
 DM:FunV K "doors" "House.doors" d9 m8 nB
 DJ:Binds K nB ["self"] []
 jD:Addr
 jH:FuncData
 wN:FunV K "need_room" "House.need_room" cU jD jH
 wT:Binds K jH ["self","room"] []
 nH:Addr
 nP:FuncData
 DN:FunV K "holds" "House.holds" eP nH nP
 DK:Binds K nP ["self","room"] []
 nM:Addr
 nE:FuncData
 DB:FunV K "found" "House.found" eI nM nE
 DQ:Binds K nE ["self","room"] []
 vH:Addr
 vD:FuncData
 aAT:FunV K "into" "House.into" gG vH vD
 aAW:Binds K vD ["self","room"] []
 nU:Addr
 nT:FuncData
 PU:FunV K "from_room" "House.from_room" dH nU nT
 PV:Binds K nT ["self","room"] []
 pV:Addr
 pZ:FuncData
 GN:FunV K "door" "House.door" fF pV pZ
 GQ:Binds K pZ ["self","name"] []
 pB:Addr
 p8:FuncData
 GH:FunV K "lets" "House.lets" fN pB p8
 GP:Binds K p8 ["self","name","turn"] []
 mZ:Addr
 nD:FuncData
 DF:FunV K "total" "House.total" eB mZ nD
 DL:Binds K nD ["self"] []
 m7:Addr
 nA:FuncData
 DP:FunV K "pairs" "House.pairs" eJ m7 nA
 C6:Binds K nA ["self"] []
 aB4:mg "_wall" =some (.ref JQ)
 L7:mg "added_up" =some (.ref tY)
 wS:mg "rows_that_count" =some (.ref jE)
 O7:mg "leaving" =some (.ref vG)
 SO:mg "coming" =some (.ref xW)
 XU:mg "there" =some (.ref AU)
 AT:mg "most_through" =some (.ref mH)
 C5:mg "door_faults" =some (.ref nC)
 A3:mg "leave_faults" =some (.ref mF)
 C4:mg "full_faults" =some (.ref nI)
 SS:mg "faults" =some (.ref xX)
 SQ:mg "out_by" =some (.ref xY)
 XV:mg "spent" =some (.ref A2)
 L3:mg "is_whole" =some (.ref tZ)
 PH:mg "is_name" =some (.ref vE)
 HW:mg "need_name" =some (.ref qV)
 GK:mg "need_whole" =some (.ref pQ)
 GM:mg "need_turns" =some (.ref pA)
 xZ:mg "need_each_once" =some (.ref j8)
 wU:mg "rooms_spoken_of" =some (.ref jI)
 GD:mg "need_rooms" =some (.ref o9)
 A6:mg "added_people" =some (.ref mE)
 GG:mg "need_space" =some (.ref qC)
 GO:mg "_law_whole" =some (.ref p0)
 AX:mg "_law_cell_at" =some (.ref l6)
 GV:mg "_law_drawn" =some (.ref o8)
 GL:mg "_law_house" =some (.ref qB)
 HU:mg "_law_goes" =some (.ref qY)
 DR:mg "_law_walked" =some (.ref nF)
 GB:mg "_law_tells" =some (.ref pY)
 aB8:mg "law" =some (.ref L8)
 PM:∃ds,Vals [.int 1] ds/\Binds K fX ["self","name","start","end","wide"] ds
 PK:∃ds,Vals [.non,.int 1] ds/\Binds K fX ["self","name","start","end","wide"] ds
 MB:∃ds,Vals [.int 0] ds/\Binds K hJ ["self","rooms","doors","people","last","first"] ds
 gS:Addr
 PN:mg "Door" =some (.ref gS)
 gD:Addr
 SU:mg "Marked" =some (.ref gD)
 aH:Addr
 XX:mg "House" =some (.ref aH)
 L9:Addr
 aBM:mg "OutError" =some (.ref L9)
 SY:Addr
 aB0:mg "NoDoor" =some (.ref SY)
 O8:Addr
 aBP:mg "NoHouse" =some (.ref O8)
 SN:Addr
 aB2:mg "NoTurn" =some (.ref SN)
 XW:Addr
 aB3:mg "Twice" =some (.ref XW)
 ST:Addr
 aB1:mg "NoRoom" =some (.ref ST)
 O9:Addr
 aBO:mg "Unknown" =some (.ref O9)
 rY:DCls K gS
 XY:Mk K gS iH
 GJ:gY K gS "lets" qX
 zK:gY K gS "is_exit" i7
 X0:gY K gS "words" vI
 mW:DCls K gD
 PQ:Mk K gD jC
 AQ:gY K gD "lets" nJ
 UM:gY K gD "words" r6
 wQ:gY K gD "is_exit" i7
 bE:DCls K aH
 SV:Mk K aH j6
 AN:gY K aH "rooms" nK
 A1:gY K aH "doors" m8
 vF:gY K aH "need_room" jD
 AR:gY K aH "holds" nH
 AV:gY K aH "found" nM
 X1:gY K aH "into" vH
 PJ:gY K aH "from_room" nU
 DD:gY K aH "door" pV
 DH:gY K aH "lets" pB
 A0:gY K aH "total" mZ
 A4:gY K aH "pairs" m7
 j9:PySem.W.specialIn K (.ref gS) "__getattribute__" =some (some (.builtin "type.__getattribute__"))/\PySem.W.readsIn K gS (.type "type")=true/\PySem.W.findCls K (.ref gS) (.type "type") "__init__" =some (.val (.ref iH))
 aAV:mg "ValueError" =none
 GW:mg "sorted" =none
 L4:mg "sum" =none
 UL:mg "any" =none
 kH:mg "range" =none
 iU:mg "isinstance" =none
 UK:mg "int" =none
 aBN:mg "str" =none
 aBK:mg "all" =none
 aAX:mg "dict" =none
 zL:mg "list" =none
 jR:mg "len" =none
 L6:mg "max" =none
 UN:mg "min" =none
 PR:mg "bool" =none
 l0:∃t:Tok,mg "LONGEST_NAME" =some (.int 8 t)
theorem gl_ {G:Prop}(h:∀G':Prop,G'=G->G'):G:=h G rfl
set_option hygiene false
local macro_rules| `(tactic| walk_at"g1")=> `(tactic| (refine gl_ ?_;intro G_ hG_))
local macro_rules| `(tactic| walk_at"g2")=> `(tactic| subst hG_)
local macro_rules| `(tactic| walk_at"cx")=> `(tactic| try dsimp only[cxK,cxP,cxW,cxM,cxB])
set_option hygiene true
local macro_rules| `(tactic| walk_at"hp")=> `(tactic| first|assumption|(refine' Same.at ?s ?h;(case s=>assumption);(case h=>walk_at"hp"))|(refine' SqL.of ?h;(case h=>walk_at"hp"))|(refine' SqT.of ?h;(case h=>walk_at"hp"))|(refine' Same.seq ?s ?h;(case s=>assumption);(case h=>walk_at"hp"))|(refine' Same.sqT ?s ?h;(case s=>assumption);(case h=>walk_at"hp")))
local macro_rules| `(tactic| walk_at"sm")=> `(tactic| first|assumption|exact Same.refl _|(refine' Same.snoc ?s ?h;(case s=>assumption);(case h=>walk_at"sm")))
local macro_rules| `(tactic| walk_at"sb")=> `(tactic| first|assumption|exact SameBut.refl|(refine' SameBut.snoc ?s ?h;(case s=>assumption);(case h=>walk_at"sb"))|(refine' SameBut.snocS ?s ?h;(case s=>assumption);(case h=>walk_at"sb")))
local macro_rules| `(tactic| walk_at"lk")=> `(tactic| first|assumption|exact Z7|(with_reducible exact UX)|(refine' aBz ?d ?h;(case d=>decide +kernel);(case h=>walk_at"lk")))
local macro_rules| `(tactic| walk_at"sz")=> `(tactic| first|with_reducible assumption|lia|omega|(simp only[qR,AJ,SH,P9,QV,RZ,Q5,SL,RU,RI,RJ,RB,LY,LR,LS,KJ,J0,K5,KS,J9,KU,sizeLine_eq,List.length_cons,List.length_nil,List.length_append,List.length_map];done)|(simp only[qR,AJ,SH,P9,QV,RZ,Q5,SL,RU,RI,RJ,RB,LY,LR,LS,KJ,J0,K5,KS,J9,KU,sizeLine_eq,List.length_cons,List.length_nil,List.length_append,List.length_map];omega)|(simp only[qR,AJ,SH,P9,QV,RZ,Q5,SL,RU,RI,RJ,RB,LY,LR,LS,KJ,J0,K5,KS,J9,KU,sizeLine_eq,List.length_cons,List.length_nil,List.length_append,List.length_map]at *;omega))
local macro_rules| `(tactic| walk_at"sd")=> `(tactic| first|with_reducible assumption|lia|omega|decide)
local macro_rules| `(tactic| walk_at"dc")=> `(tactic| first|((with_reducible refine ICls.cl (DCls.ic ?_));assumption)|((with_reducible refine DCls.ic ?_);assumption)|((with_reducible refine DCls.n_name ?_);assumption)|((with_reducible refine DCls.n_start ?_);assumption)|((with_reducible refine DCls.n_end ?_);assumption)|((with_reducible refine DCls.n_wide ?_);assumption)|((with_reducible refine DCls.n_bits ?_);assumption)|((with_reducible refine DCls.n_first ?_);assumption)|((with_reducible refine DCls.n_last ?_);assumption)|((with_reducible refine DCls.n_sizes ?_);assumption)|((with_reducible refine DCls.n_people ?_);assumption)|((with_reducible refine DCls.n_named_doors ?_);assumption))
local macro_rules| `(tactic| walk_at"rd1")=> `(tactic| first|(with_reducible first|refine ZO ?_|refine ZY ?_|refine aBT ?_|refine aBI ?_|refine aBe ?_|refine aA6 ?_|refine aBn ?_|refine aA5 ?_|refine aBG ?_|refine aBi ?_|refine aA8 ?_|refine aBh ?_|refine aBH ?_|refine aA1 ?_|refine Z0 ?_|refine rd_v11 ?_|refine rd_v12 ?_|refine WZ ?_|refine X7 ?_|refine aBq ?_|refine aBc ?_|refine VA ?_|refine aBB ?_|refine aAz ?_|refine XA ?_|refine aBu ?_|refine aAg ?_|refine aA4 ?_|refine EM ?_|refine F9 ?_|refine XB ?_|refine VH ?_|refine rd_s0 ?_|refine aBk ?_|refine aBs ?_|refine aBt ?_|refine aBJ ?_|refine aBw ?_|refine aBp ?_|refine aBC ?_|refine aBF ?_|refine aA7 ?_|refine ZU ?_|refine rd_s11 ?_|refine rd_s12 ?_|refine Y7 ?_|refine XQ ?_|refine WY ?_|refine rd_retN ?_|refine aAP ?_|refine YZ ?_|refine aBy ?_|refine VU ?_|refine rd_orV ?_|refine VM ?_|refine aAy ?_|refine RH ?_|refine aAY ?_|refine aBW ?_|refine YA ?_|refine rd_eqB ?_|refine ZP ?_|refine rd_eqSN ?_|refine rd_eqNS ?_|refine rd_eqNN ?_|refine aAl ?_|refine rd_neB ?_|refine Z9 ?_|refine rd_neNN ?_|refine rd_isNN ?_|refine rd_isNS ?_|refine rd_isNI ?_|refine rd_isNR ?_|refine V4 ?_|refine XG ?_|refine rd_ntNI ?_|refine rd_ntNR ?_|refine VO ?_|refine US ?_|refine aAr ?_|refine aAd ?_|refine XD ?_|refine UW ?_|refine VN ?_|refine aA9 ?_|refine aBj ?_|refine aAL ?_|refine rd_bmS ?_|refine WH ?_|refine QY ?_|refine QR ?_|refine rd_isiBB ?_|refine rd_isiBI ?_|refine rd_isiSS ?_|refine rd_isiNS ?_|refine XJ ?_|refine XI ?_|refine rd_intB ?_|refine rd_intI ?_|refine NK ?_|refine VW ?_|refine ZJ ?_|refine U9 ?_|refine V5 ?_|refine P2 ?_|refine X8 ?_|refine QN ?_|refine rd_iTup ?_|refine RA ?_|refine QT ?_|refine rd_iStr ?_|refine rd_iStrV ?_|refine rd_break ?_|refine rd_cont ?_|refine rd_aug ?_)|((with_reducible refine' Y9 ?s ?_);(case s=>decide))|((with_reducible refine' VE ?s ?_);(case s=>walk_at"sd");intro h0' h1')|((with_reducible refine' JD ?e ?a ?b ?s ?_);(case e=>walk_at"hp");(case a=>decide);(case b=>decide);(case s=>first|(simp;done)|(simp[sizeLine_eq];done)|walk_at"sz");intro p' H' n' S' e')|((with_reducible refine' YQ ?s ?r ?_);(case s=>walk_at"sd");(case r=>walk_at"sd"))|((with_reducible refine' WJ ?s ?r ?_);(case s=>walk_at"sd");(case r=>walk_at"sd"))|((with_reducible refine' W9 ?s ?r ?_);(case s=>walk_at"sd");(case r=>walk_at"sd"))|((with_reducible refine' VD ?s ?_);(case s=>walk_at"sz");intro p' H' n' S' e')|((with_reducible refine' WG ?s ?_);(case s=>walk_at"sz");intro p' H' n' S' e')|((with_reducible refine W3 ?_);intro p' H' n' S' e')|((with_reducible refine' U0 ?e ?c ?n ?l ?_);(case e=>walk_at"hp");(case c=>walk_at"dc");(case n=>walk_at"dc");(case l=>walk_at"lk"))|((with_reducible refine' SJ ?e ?c ?n ?l ?_);(case e=>walk_at"hp");(case c=>walk_at"dc");(case n=>walk_at"dc");(case l=>kernel_rfl);intro H' B' e')|((with_reducible refine' aAA ?e ?l ?F ?_);(case e=>walk_at"hp");(case l=>walk_at"lk");(case F=>assumption))|((with_reducible refine' rd_isiC ?e ?i ?k ?_);(case e=>walk_at"hp");(case i=>walk_at"dc");(case k=>assumption))|((with_reducible refine' rd_ixL ?e ?l ?_);(case e=>walk_at"hp");(case l=>rfl))|((with_reducible refine' rd_ix2i ?e ?s ?r ?_);(case e=>walk_at"hp");(case s=>walk_at"sd");(case r=>walk_at"sd");intro v' hv')|((with_reducible refine' VC ?e ?s ?r ?_);(case e=>walk_at"hp");(case s=>walk_at"sd");(case r=>walk_at"sd");intro v' hv')|((with_reducible refine' EC ?e ?l ?_);(case e=>walk_at"hp");(case l=>rfl);intro H' B' e')|((with_reducible refine' V0 ?e ?_);(case e=>walk_at"hp"))|((with_reducible refine' rd_lenS ?e ?_);(case e=>walk_at"sz"))|((with_reducible refine' rd_addS ?e ?_);(case e=>walk_at"sz"))|((with_reducible refine' rd_slS ?e ?_);(case e=>walk_at"sz");intro hl')|((with_reducible refine' rd_slI ?e ?_);(case e=>walk_at"hp");intro p' H' n' S' e')|((with_reducible refine' aAE ?e ?_);(case e=>walk_at"hp");intro p' H' n' S' e')|((with_reducible refine' vQ ?e ?f ?s ?_);(case e=>walk_at"hp");(case f=>walk_at"hp");(case s=>walk_at"sz");intro p' H' n' S' e')|((with_reducible refine' OL ?e ?_);(case e=>walk_at"hp");intro p' H' n' S' e')|((with_reducible refine' aAe ?e ?_);(case e=>walk_at"hp"))|((with_reducible refine' BJ ?e ?_);(case e=>walk_at"hp"))|((with_reducible refine' MM ?s ?r ?_);(case s=>walk_at"sd");(case r=>walk_at"sd"))|((with_reducible refine' M7 ?s ?r ?t ?u ?_);(case s=>walk_at"sd");(case r=>walk_at"sd");(case t=>walk_at"sd");(case u=>walk_at"sd"))|((with_reducible refine' rd_str ?s ?r ?_);(case s=>walk_at"sd");(case r=>walk_at"sd");intro hl')|((with_reducible refine' rd_gtupL ?e ?l ?_);(case e=>walk_at"hp");(case l=>rfl))|((with_reducible refine' WO ?e ?l ?_);(case e=>walk_at"hp");(case l=>rfl))|((with_reducible refine' rd_ifP ?s ?_);(case s=>walk_at"sd"))|((with_reducible refine' X2 ?s ?_);(case s=>walk_at"sd"))|((with_reducible refine' IL ?s ?_);(case s=>walk_at"sd"))|((with_reducible refine' IE ?s ?_);(case s=>walk_at"sd")))
local macro_rules| `(tactic| walk_at"go")=> `(tactic| repeat walk_at"rd1")
local macro_rules| `(tactic| walk_at"gs")=> `(tactic| repeat ((fail_if_success (with_reducible refine RV ?_));walk_at"rd1"))
local macro_rules| `(tactic| walk_at"nn")=> `(tactic| repeat first|exact nn_nil|refine nn_app ?_ ?_|refine nn_cons (by omega) ?_|exact nn_map (fun n=>by omega))
section
variable {P:Program}{w:World}{K:PySem.W.Frag}{mg:Str->Option Value}{base:Heap}
def YC:V->Bool
 | .int _=>true
 | _=>false
def xH (K:PySem.W.Frag):Sp:=fun vs H Q _=>∃x n,vs=[x]/\BTy K H x n/\Q (.bl (YC x)) H
theorem RL {H:Hp}{Q:VK}{E:XK}{i:Int} (h:Q (.bl true) H):xH K [.int i] H Q E:=⟨_,_,rfl,.int i,h⟩
theorem HG (m:M K mg):bK P w K mg base CX0 1 m.tZ m.tW ["thing"] (xH K):=by
 refine m.oB.ok sc_is_whole (fun vs H Q E h=> ?_) (fun cdv A outer s H vs Q E hr h=> ?_)
 ·walk_at"g1";obtain⟨x,n,rfl,b,k⟩:=h;walk_at"g2";rfl
 ·walk_at"g1";obtain⟨x,n,rfl,b,k⟩:=h;walk_at"g2";have nd:=sc_is_whole.nd;walk_at"hu";refine⟨_,(aF (bC (zE (bJ oQ rfl m.iU hV (aA (pv 0) (aA (yG rfl m.UK NY) aB))) (yY (NV (bJ oQ rfl m.iU hV (aA (pv 0) (aA (yG rfl m.PR JB) aB)))))))),?_⟩;refine aP (σ:=[some (x)]) rfl ?_;walk_at"cx";refine⟨_,rfl,_,_,_,_,_,rfl,b.ty,rfl,DU b "int" (.inl rfl),_,rfl,?_⟩;refine AI (fun h1=>⟨_,rfl,_,_,_,_,_,rfl,b.ty,rfl,DU b "bool" (.inr (.inl rfl)),_,rfl,?_⟩) (fun h1=> ?_)
  ·cases b<;>first|exact k|exact absurd h1 (by decide)
  ·cases b<;>first|exact k|exact absurd (by decide) h1
theorem GX (m:M K mg):Fc P w K mg base "is_whole" 1 ["thing"] (xH K):=⟨_,_,m.L3,m.oB.kp,m.L5,HG m⟩
def nmB:V->Bool
 | .str z=>b5 z
 | _=>false
def AG (K:PySem.W.Frag):Sp:=fun vs H Q _=>∃x n,vs=[x]/\BTy K H x n/\(∀z,x= .str z->z.length<=1000)/\∀H',Same H H'->Q (.bl (nmB x)) H'
theorem WX {H:Hp}{Q:VK}{E:XK}{z:Str} (hz:b5 z=true) (h:∀H',Same H H'->Q (.bl true) H'):AG K [.str z] H Q E :=
 ⟨_,_,rfl,.str z,fun y e=>by cases e;exact Nat.le_trans (M1 hz) (by decide),fun H' s=>by rw[show nmB (.str z)=true from hz];exact h H' s⟩
theorem le1 (a c:Nat):(!decide ([c]<[a]))=decide (a<=c):=by
 have:([c]<[a])↔c<a:=by
  constructor
  ·intro h;cases h with
   | rel h=>exact h
   | cons h=>cases h
  ·exact fun h=> .rel h
 by_cases h:c<a
 ·rw[decide_eq_true (this.mpr h),decide_eq_false (by lia)];rfl
 ·rw[decide_eq_false (fun z=>h (this.mp z)),decide_eq_true (by lia)];rfl
theorem aBA:("a" :Str).cps.toList=[97]:=by decide +kernel
theorem aBr:("z" :Str).cps.toList=[122]:=by decide +kernel
theorem B0 {α:Type}(p:α->Bool)(d:α):∀l:List α,((List.range l.length).map fun i=>p (l.getD i d)).all id=l.all p
 | []=>rfl
 | a::l=>by
  rw[List.length_cons,List.range_succ_eq_map,List.map_cons,List.all_cons,List.map_map,List.all_cons,←B0 p d l];rfl
theorem PY {H:Hp}{p:Addr}{o:HO} (h:H p=none):Same H (upd H p o):=fun b u e=>by rw[aU (bN e h)];exact e
theorem LQ (m:M K mg):bK P w K mg base CX0 1 m.vE m.vL ["thing"] (AG K):=by
 refine m.qP.ok sc_is_name (fun vs H Q E h=> ?_) (fun cdv A outer s H vs Q E hr h=> ?_)
 ·walk_at"g1";obtain⟨x,n,rfl,b,hz,k⟩:=h;walk_at"g2";rfl
 ·walk_at"g1";obtain⟨x,n,rfl,b,hz,k⟩:=h;walk_at"g2";have nd:=sc_is_name.nd;walk_at"hu";obtain⟨tok_LONGEST_NAME,l0⟩:=m.l0;refine⟨_,(aC (cP (oO (jO (bJ oQ rfl m.iU hV (aA (pv 0) (aA (yG rfl m.aBN aAp) aB))))) (aF (bC y9)) bT)
   (aF (bC (zE (ER K0 K0 aG (bJ MN rfl m.jR iA (aA (pv 0) aB)) (VX rfl l0)) (yY (bJ (P4 rfl) rfl m.aBK ZI (aA (dI (N:=["sign"]) (nl:=1) (ci:=[]) rfl (blk (s.heap.objs.size+1) rfl rfl rfl (by kernel_rfl)) (aAj (pv 0)) (fun _ _ _ _=>(aL (i:=0) (show (["sign"]:List Str).Nodup by decide +kernel) rfl (by walk_at"oi"))) (fun _ _ _ _=>iN) (fun _ _ _ _=>(ER MU MU fU (pv 0) fU))) aB))))))),?_⟩
  refine aP (σ:=[some (x)]) rfl ?_;walk_at"cx";refine⟨_,rfl,_,_,_,_,_,rfl,b.ty,rfl,DU b "str" (.inr (.inr rfl)),_,rfl,?_⟩;refine AI (fun h1=> ?_) (fun h1=> ?_)
  ·show Q (.bl false) H;cases b<;>first|exact k H (Same.refl H)|exact absurd h1 (by decide)
  ·have hs:∃z,x= .str z:=by
    cases b<;>first|exact⟨_,rfl⟩|exact absurd (by decide) h1
   obtain⟨z,rfl⟩:=hs;have hl:=hz z rfl;have hl':z.length<=sizeLine:=Nat.le_of_lt (MF hl);refine⟨_,rfl,z,rfl,hl',_,_,rfl,rfl,_,rfl,?_⟩;refine AI (fun h2=>⟨_,_,rfl,rfl,_,rfl,?_⟩) (fun h2=>⟨_,rfl,?_⟩)
   ·refine AI (fun h3=> ?_) (fun h3=> ?_)
    ·refine⟨_,rfl,z,rfl,?_⟩;refine VY z.cps.size (fun i=> .bl (sgB (z.cps.toList.getD i 0))) hl' (fun H'=>H'=H) rfl (fun _ _=>rfl) (fun i _ hi _=>hi) ?_ ?_ ?_ ?_ ?_
     ·rintro i _ x H' hi rfl hq_;walk_at"g1";obtain⟨rfl,c,hc,rfl⟩:=hq_;walk_at"g2";refine⟨⟨rfl,fun j v hv=> ?_⟩,rfl,?_⟩
      ·match j,hv with
       | 0,hv=>cases hv
       | j+1,hv=>cases hv
      ·have hc':z.cps.toList.getD i 0=c:=by
        rw[List.getD_eq_getElem?_getD,Array.getElem?_toList,hc];rfl
       refine⟨_,rfl,_,_,rfl,rfl,_,rfl,?_⟩;rw[aBA,hc'];refine AI (fun h4=>⟨_,_,rfl,rfl,?_,rfl⟩) (fun h4=>⟨?_,rfl⟩)
       ·have h4':97<=c:=by rw[show (⟨#[c]⟩:Str).cps.toList=[c] from rfl,le1]at h4;exact of_decide_eq_true h4
        rw[aBr,show (⟨#[c]⟩:Str).cps.toList=[c] from rfl,le1];unfold sgB;rw[decide_eq_true h4',Bool.true_and]
       ·have h4':¬97<=c:=by rw[show (⟨#[c]⟩:Str).cps.toList=[c] from rfl,le1]at h4;exact fun z=>h4 (decide_eq_true z)
        unfold sgB;rw[decide_eq_false h4',Bool.false_and]
     ·exact fun _ _ _ _ f q=>f _ _ q
     ·rintro σ H Q Q' f hq_;walk_at"g1";obtain⟨v,e,i,j,e1,e2,k,e3,q⟩:=hq_;walk_at"g2";refine⟨v,e,i,j,e1,e2,k,e3,?_⟩;revert q
      split
      ·rintro hq_;walk_at"g1";obtain⟨i,j,e1,e2,q⟩:=hq_;walk_at"g2";exact⟨i,j,e1,e2,f _ _ q⟩
      ·exact fun q=>f _ _ q
     ·exact fun _ _ _ _ _ f q=>f _ _ q
     ·rintro _ rfl p hp;refine⟨p,(List.range z.cps.size).map (fun i=>sgB (z.cps.toList.getD i 0)),rfl,SqL.of ?_,?_⟩
      ·rw[bM,List.map_map];rfl
      ·have e:=B0 sgB 0 z.cps.toList;rw[Array.length_toList]at e;rw[e];have e2:nmB (.str z)=z.cps.toList.all sgB:=by
        show b5 z=_;unfold b5;rw[show decide (1<=(z.length:Int))=true from h2,show decide ((z.length:Int)<=8)=true from h3];rfl
       rw[←e2];exact k _ (PY hp)
    ·have e2:nmB (.str z)=false:=by
      show b5 z=_;unfold b5;rw[show decide ((z.length:Int)<=8)=false from by simpa using h3];simp
     have:=k H (Same.refl H);rw[e2]at this;exact this
   ·have e2:nmB (.str z)=false:=by
     show b5 z=_;unfold b5;rw[show decide (1<=(z.length:Int))=false from by simpa using h2];simp
    have:=k H (Same.refl H);rw[e2]at this;exact this
theorem LF (m:M K mg):Fc P w K mg base "is_name" 1 ["thing"] (AG K):=⟨_,_,m.PH,m.qP.kp,m.PD,LQ m⟩
local macro_rules| `(tactic| walk_at"rd1")=> `(tactic| first|(with_reducible refine RL ?_)|((with_reducible refine' WX ?s ?_);(case s=>assumption);intro H' S'))
inductive kX (K:PySem.W.Frag)(vs:List V)(H:Hp)(Q:VK)(E:XK):Prop
 | mk (part z:Str) (_:vs=[.str part,.str z]) (_:b5 z=true) (_:∀H',Same H H'->Q .non H'):kX K vs H Q E
theorem HM {H:Hp}{Q:VK}{E:XK}{part z:Str} (hz:b5 z=true) (h:∀H',Same H H'->Q .non H'):kX K [.str part,.str z] H Q E:=⟨_,_,rfl,hz,h⟩
theorem D0 (m:M K mg):bK P w K mg base CX0 2 m.qV m.qW ["part","thing"] (kX K):=by
 refine m.iD.ok sc_need_name (fun vs H Q E h=> ?_) (fun cdv A outer s H vs Q E hr h=> ?_)
 ·walk_at"g1";obtain⟨part,z,rfl,hz,k⟩:=h;walk_at"g2";rfl
 ·walk_at"g1";obtain⟨part,z,rfl,hz,k⟩:=h;walk_at"g2";have nd:=sc_need_name.nd;walk_at"hu";have qP:= @LF P w K mg base m;refine⟨_,(aF (cP (oO (jO (bR qP hr (aA (pv 1) aB)))) (aF g7) bT)),?_⟩;refine aP (σ:=[some (.str part),some (.str z)]) rfl ?_;walk_at"cx";walk_at"go";exact k _ (by walk_at"sm")
theorem FV (m:M K mg):Fc P w K mg base "need_name" 2 ["part","thing"] (kX K):=⟨_,_,m.HW,m.iD.kp,m.HR,D0 m⟩
inductive jQ (K:PySem.W.Frag)(vs:List V)(H:Hp)(Q:VK)(E:XK):Prop
 | mk (part:Str) (i l:Int) (_:vs=[.str part,.int i,.int l]) (_:l<=i) (_:Q .non H):jQ K vs H Q E
theorem FI {H:Hp}{Q:VK}{E:XK}{part:Str}{i l:Int} (hz:l<=i) (h:Q .non H):jQ K [.str part,.int i,.int l] H Q E:=⟨_,_,_,rfl,hz,h⟩
theorem CL (m:M K mg):bK P w K mg base CX0 2 m.pQ m.qE ["part","thing","least"] (jQ K):=by
 refine m.gT.ok sc_need_whole (fun vs H Q E h=> ?_) (fun cdv A outer s H vs Q E hr h=> ?_)
 ·walk_at"g1";obtain⟨part,i,l,rfl,hz,k⟩:=h;walk_at"g2";rfl
 ·walk_at"g1";obtain⟨part,i,l,rfl,hz,k⟩:=h;walk_at"g2";have nd:=sc_need_whole.nd;walk_at"hu";have oB:= @GX P w K mg base m;refine⟨_,(aF (cP (PW.pt (yN (oO (jO (bR oB hr (aA (pv 1) aB)))) (uM (bL nW (pv 1) (pv 2) (bO _))))) (aF g7) bT)),?_⟩;refine aP (σ:=[some (.str part),some (.int i),some (.int l)]) rfl ?_;walk_at"cx";walk_at"go";exact k
theorem t7 (m:M K mg):Fc P w K mg base "need_whole" 2 ["part","thing","least"] (jQ K):=⟨_,_,m.GK,m.gT.kp,m.GT,CL m⟩
local macro_rules| `(tactic| walk_at"rd1")=> `(tactic| first|((with_reducible refine' HM ?s ?_);(case s=>assumption);intro H' S')|((with_reducible refine' FI ?s ?_);(case s=>walk_at"sd")))
abbrev u7 (n s e w:V):List (Str×V):=c7 "wide" w (c7 "end" e (c7 "start" s (c7 "name" n [])))
def sF (e:V):Prop:=e= .non∨∃z,e= .str z/\b5 z=true
inductive gM (K:PySem.W.Frag)(vs:List V)(H:Hp)(Q:VK)(E:XK):Prop
 | mk (p C dx:Addr) (n s:Str) (e:V) (wd:Int) (_:vs=[.ref p,.str n,.str s,e,.int wd]) (_:DCls K C) (_:H p=some (.ins C dx [])) (_:b5 n=true) (_:b5 s=true) (_:sF e) (_:0<=wd) (_:∀H',SameBut p H H'->H' p=some (.ins C dx (u7 (.str n) (.str s) e (.int wd)))->Q .non H'):gM K vs H Q E
theorem w5 {H:Hp}{Q:VK}{E:XK}{p C dx:Addr}{n s:Str}{e:V}{wd:Int} (dc:DCls K C) (hp:H p=some (.ins C dx [])) (hn:b5 n=true) (hs:b5 s=true) (he:sF e) (hw:0<=wd)
  (k:∀H',SameBut p H H'->H' p=some (.ins C dx (u7 (.str n) (.str s) e (.int wd)))->Q .non H'):gM K [.ref p,.str n,.str s,e,.int wd] H Q E:=⟨_,_,_,_,_,_,_,rfl,dc,hp,hn,hs,he,hw,k⟩
theorem oN (m:M K mg):bK P w K mg base CX0 3 m.iH m.fX ["self","name","start","end","wide"] (gM K):=by
 refine m.qQ.ok sc_Door___init__ (fun vs H Q E h=> ?_) (fun cdv A outer s H vs Q E hr h=> ?_)
 ·walk_at"g1";obtain⟨p,C,dx,n,st,e,wd,rfl,dc,hp,hn,hs,he,hw,k⟩:=h;walk_at"g2";rfl
 ·walk_at"g1";obtain⟨p,C,dx,n,st,e,wd,rfl,dc,hp,hn,hs,he,hw,k⟩:=h;walk_at"g2";have nd:=sc_Door___init__.nd;walk_at"hu";have iD:= @FV P w K mg base m;have gT:= @t7 P w K mg base m;refine⟨_,(aC (cI (bR iD hr (aA fU (aA (pv 1) aB))))
   (aC (cI (bR iD hr (aA fU (aA (pv 2) aB))))
   (aC (cP (bL oJ (pv 3) hZ (bO _)) (aF (cI (bR iD hr (aA fU (aA (pv 3) aB))))) bT)
   (aC (cI (bR gT hr (aA fU (aA (pv 4) (aA aG aB)))))
   (aC (jL (pv 0) (pv 1) rfl)
   (aC (jL (pv 0) (pv 2) rfl)
   (aC (jL (pv 0) (pv 3) rfl)
   (aF (jL (pv 0) (pv 4) rfl))))))))),?_⟩
  refine aP (σ:=[some (.ref p),some (.str n),some (.str st),some (e),some (.int wd)]) rfl ?_;walk_at"cx";rcases he with rfl|⟨z,rfl,hz⟩
  ·walk_at"go";exact k _ (by walk_at"sb") (by assumption)
  ·walk_at"go";exact k _ (by walk_at"sb") (by assumption)
theorem MQ (m:M K mg):Kc P w K mg base "Door" m.gS 3 [] (gM K):=⟨_,_,_,_,m.PN,m.XY,.nil,m.qO,oN m⟩
theorem uE (m:M K mg):Dc P w K mg base "Door" "__init__" 3 (gM K):=⟨_,_,_,_,m.PN,m.j9.1,m.j9.2.1,m.j9.2.2,m.qQ.kp,m.qO,oN m⟩
theorem R5 {H:Hp}{Q:VK}{E:XK}{C:Addr}{vs dvs:List V}{n s:Str}{e:V}{wd:Int} (ev:vs++dvs=[.str n,.str s,e,.int wd]) (dc:DCls K C) (hn:b5 n=true) (hs:b5 s=true) (he:sF e) (hw:0<=wd)
  (k:∀p dx H',H p=none->Same H H'->H' p=some (.ins C dx (u7 (.str n) (.str s) e (.int wd)))->Q (.ref p) H'):yO C (gM K) dvs E Q vs H :=
 FY (fun p dx H0 Q' h k' s0=>by rw[ev];exact w5 dc h hn hs he hw k') k
local macro_rules| `(tactic| walk_at"rd1")=> `(tactic| ((with_reducible refine' R5 ?v ?d ?hn ?hs ?he ?hw ?_);(case v=>rfl);(case d=>assumption);(case hn=>assumption);(case hs=>assumption);(case he=>first|assumption|exact .inl rfl|exact .inr ⟨_,rfl,by assumption⟩);(case hw=>walk_at"sd");intro p' dx' H' n' S' e'))
inductive kF (K:PySem.W.Frag)(vs:List V)(H:Hp)(Q:VK)(E:XK):Prop
 | mk (p C dx:Addr) (fs:List (Str×V)) (e:V) (_:vs=[.ref p]) (_:DCls K C) (_:H p=some (.ins C dx fs)) (_:fs.lookup ("end" :Str)=some e) (_:Q (.bl (decide (e= .non))) H):kF K vs H Q E
theorem W1 {H:Hp}{Q:VK}{E:XK}{p C dx:Addr}{fs:List (Str×V)} (hp:H p=some (.ins C dx fs)) (dc:DCls K C) (l:fs.lookup ("end" :Str)=some .non) (k:Q (.bl true) H):kF K [.ref p] H Q E:=⟨_,_,_,_,_,rfl,dc,hp,l,k⟩
theorem W0 {H:Hp}{Q:VK}{E:XK}{p C dx:Addr}{fs:List (Str×V)}{z:Str} (hp:H p=some (.ins C dx fs)) (dc:DCls K C) (l:fs.lookup ("end" :Str)=some (.str z)) (k:Q (.bl false) H):kF K [.ref p] H Q E :=
 ⟨_,_,_,_,_,rfl,dc,hp,l,by rw[decide_eq_false (fun z=>by cases z)];exact k⟩
theorem qG (m:M K mg):bK P w K mg base CX0 1 m.i7 m.lY ["self"] (kF K):=by
 refine m.AO.ok sc_Door_is_exit (fun vs H Q E h=> ?_) (fun cdv A outer s H vs Q E hr h=> ?_)
 ·walk_at"g1";obtain⟨p,C,dx,fs,e,rfl,dc,hp,l,k⟩:=h;walk_at"g2";rfl
 ·walk_at"g1";obtain⟨p,C,dx,fs,e,rfl,dc,hp,l,k⟩:=h;walk_at"g2";have nd:=sc_Door_is_exit.nd;walk_at"hu";refine⟨_,(aF (bC (rO YO (bI (pv 0) rfl) hZ (bO _)))),?_⟩;refine aP (σ:=[some (.ref p)]) rfl ?_;walk_at"cx";walk_at"go";exact k
theorem yH (m:M K mg):Mc P w K mg base m.gS "is_exit" 1 (kF K):=⟨_,_,_,m.rY.ic.cl,m.zK,m.r9,qG m⟩
theorem wL (m:M K mg):Mc P w K mg base m.gD "is_exit" 1 (kF K):=⟨_,_,_,m.mW.ic.cl,m.wQ,m.r9,qG m⟩
local macro_rules| `(tactic| walk_at"rd1")=> `(tactic| first|((with_reducible refine' W1 ?e ?d ?l ?_);(case e=>walk_at"hp");(case d=>assumption);(case l=>walk_at"lk"))|((with_reducible refine' W0 ?e ?d ?l ?_);(case e=>walk_at"hp");(case d=>assumption);(case l=>walk_at"lk")))
inductive kT (K:PySem.W.Frag)(vs:List V)(H:Hp)(Q:VK)(E:XK):Prop
 | mk (p C dx:Addr) (fs:List (Str×V)) (t wd:Int) (_:vs=[.ref p,.int t]) (_:DCls K C) (_:H p=some (.ins C dx fs)) (_:fs.lookup ("wide" :Str)=some (.int wd)) (_:Q (.int wd) H):kT K vs H Q E
theorem GY {H:Hp}{Q:VK}{E:XK}{p C dx:Addr}{fs:List (Str×V)}{t wd:Int} (hp:H p=some (.ins C dx fs)) (dc:DCls K C) (l:fs.lookup ("wide" :Str)=some (.int wd)) (k:Q (.int wd) H):kT K [.ref p,.int t] H Q E:=⟨_,_,_,_,_,_,rfl,dc,hp,l,k⟩
theorem FX (m:M K mg):bK P w K mg base CX0 1 m.qX m.qU ["self","turn"] (kT K):=by
 refine m.HS.ok sc_Door_lets (fun vs H Q E h=> ?_) (fun cdv A outer s H vs Q E hr h=> ?_)
 ·walk_at"g1";obtain⟨p,C,dx,fs,t,wd,rfl,dc,hp,l,k⟩:=h;walk_at"g2";rfl
 ·walk_at"g1";obtain⟨p,C,dx,fs,t,wd,rfl,dc,hp,l,k⟩:=h;walk_at"g2";have nd:=sc_Door_lets.nd;walk_at"hu";refine⟨_,(aF (bC (bI (pv 0) rfl))),?_⟩;refine aP (σ:=[some (.ref p),some (.int t)]) rfl ?_;walk_at"cx";walk_at"go";exact k
theorem DZ (m:M K mg):Mc P w K mg base m.gS "lets" 1 (kT K):=⟨_,_,_,m.rY.ic.cl,m.GJ,m.HX,FX m⟩
local macro_rules| `(tactic| walk_at"rd1")=> `(tactic| ((with_reducible refine' w5 ?d ?e ?hn ?hs ?he ?hw ?_);(case d=>assumption);(case e=>walk_at"hp");(case hn=>assumption);(case hs=>assumption);(case he=>assumption);(case hw=>walk_at"sd");intro H' B' e'))
local macro_rules| `(tactic| walk_at"rd1")=> `(tactic| first|(with_reducible refine NZ ?_)|((with_reducible refine' MX ?s ?_);(case s=>walk_at"sd"))|((with_reducible refine' rd_pow ?s ?r ?u ?_);(case s=>walk_at"sd");(case r=>walk_at"sd");(case u=>decide)))
abbrev sS (n s e w i0:V):List (Str×V):=c7 "bits" i0 (u7 n s e w)
inductive gI (K:PySem.W.Frag)(vs:List V)(H:Hp)(Q:VK)(E:XK):Prop
 | mk (p C dx:Addr) (n s:Str) (e:V) (wd i0:Int) (_:vs=[.ref p,.str n,.str s,e,.int wd,.int i0]) (_:DCls K C) (_:H p=some (.ins C dx [])) (_:b5 n=true) (_:b5 s=true) (_:sF e) (_:0<=wd) (_:0<=i0) (_:∀H',SameBut p H H'->H' p=some (.ins C dx (sS (.str n) (.str s) e (.int wd) (.int i0)))->Q .non H'):gI K vs H Q E
theorem CS {H:Hp}{Q:VK}{E:XK}{p C dx:Addr}{n s:Str}{e:V}{wd i0:Int} (dc:DCls K C) (hp:H p=some (.ins C dx [])) (hn:b5 n=true) (hs:b5 s=true) (he:sF e) (hw:0<=wd) (b0:0<=i0)
  (k:∀H',SameBut p H H'->H' p=some (.ins C dx (sS (.str n) (.str s) e (.int wd) (.int i0)))->Q .non H'):gI K [.ref p,.str n,.str s,e,.int wd,.int i0] H Q E:=⟨_,_,_,_,_,_,_,_,rfl,dc,hp,hn,hs,he,hw,b0,k⟩
theorem vB (m:M K mg):bK P w K mg base CX0 4 m.jC m.jG ["self","name","start","end","wide","bits"] (gI K):=by
 refine m.wV.ok sc_Marked___init__ (fun vs H Q E h=> ?_) (fun cdv A outer s H vs Q E hr h=> ?_)
 ·walk_at"g1";obtain⟨p,C,dx,n,st,e,wd,i0,rfl,dc,hp,hn,hs,he,hw,b0,k⟩:=h;walk_at"g2";rfl
 ·walk_at"g1";obtain⟨p,C,dx,n,st,e,wd,i0,rfl,dc,hp,hn,hs,he,hw,b0,k⟩:=h;walk_at"g2";have nd:=sc_Marked___init__.nd;walk_at"hu";have D_Door___init__:= @uE P w K mg base m;have gT:= @t7 P w K mg base m;refine⟨_,(aC (cI (aBE D_Door___init__ hr (aA (pv 0) (aA (pv 1) (aA (pv 2) (aA (pv 3) (aA (pv 4) aB)))))))
   (aC (cI (bR gT hr (aA fU (aA (pv 5) (aA aG aB)))))
   (aF (jL (pv 0) (pv 5) rfl)))),?_⟩
  refine aP (σ:=[some (.ref p),some (.str n),some (.str st),some (e),some (.int wd),some (.int i0)]) rfl ?_;walk_at"cx";walk_at"go";exact k _ (by walk_at"sb") (by assumption)
theorem HN (m:M K mg):Kc P w K mg base "Marked" m.gD 4 [] (gI K):=⟨_,_,_,_,m.SU,m.PQ,.nil,m.wW,vB m⟩
theorem LP {H:Hp}{Q:VK}{E:XK}{C:Addr}{vs dvs:List V}{n s:Str}{e:V}{wd i0:Int} (ev:vs++dvs=[.str n,.str s,e,.int wd,.int i0]) (dc:DCls K C) (hn:b5 n=true) (hs:b5 s=true) (he:sF e) (hw:0<=wd) (b0:0<=i0)
  (k:∀p dx H',H p=none->Same H H'->H' p=some (.ins C dx (sS (.str n) (.str s) e (.int wd) (.int i0)))->Q (.ref p) H'):yO C (gI K) dvs E Q vs H :=
 FY (fun p dx H0 Q' h k' s0=>by rw[ev];exact CS dc h hn hs he hw b0 k') k
local macro_rules| `(tactic| walk_at"rd1")=> `(tactic| ((with_reducible refine' LP ?v ?d ?hn ?hs ?he ?hw ?b0 ?_);(case v=>rfl);(case d=>assumption);(case hn=>assumption);(case hs=>assumption);(case he=>first|assumption|exact .inl rfl|exact .inr ⟨_,rfl,by assumption⟩);(case hw=>walk_at"sd");(case b0=>walk_at"sd");intro p' dx' H' n' S' e'))
def lG (wd i0 t:Int):Int:=if i0/2^t.toNat%2=1 then wd else 0
inductive iX (K:PySem.W.Frag)(vs:List V)(H:Hp)(Q:VK)(E:XK):Prop
 | mk (p C dx:Addr) (fs:List (Str×V)) (t wd i0:Int) (_:vs=[.ref p,.int t]) (_:DCls K C) (_:H p=some (.ins C dx fs)) (_:fs.lookup ("wide" :Str)=some (.int wd)) (_:fs.lookup ("bits" :Str)=some (.int i0)) (_:0<=t) (_:0<=i0) (_:Q (.int (lG wd i0 t)) H):iX K vs H Q E
theorem uB {H:Hp}{Q:VK}{E:XK}{p C dx:Addr}{fs:List (Str×V)}{t wd i0:Int} (hp:H p=some (.ins C dx fs)) (dc:DCls K C) (l:fs.lookup ("wide" :Str)=some (.int wd)) (m0:fs.lookup ("bits" :Str)=some (.int i0)) (ht:0<=t) (b0:0<=i0) (k:Q (.int (lG wd i0 t)) H):iX K [.ref p,.int t] H Q E:=⟨_,_,_,_,_,_,_,rfl,dc,hp,l,m0,ht,b0,k⟩
theorem AL (m:M K mg):bK P w K mg base CX0 1 m.nJ m.nN ["self","turn"] (iX K):=by
 refine m.DC.ok sc_Marked_lets (fun vs H Q E h=> ?_) (fun cdv A outer s H vs Q E hr h=> ?_)
 ·walk_at"g1";obtain⟨p,C,dx,fs,t,wd,i0,rfl,dc,hp,l,m0,ht,b0,k⟩:=h;walk_at"g2";rfl
 ·walk_at"g1";obtain⟨p,C,dx,fs,t,wd,i0,rfl,dc,hp,l,m0,ht,b0,k⟩:=h;walk_at"g2";have nd:=sc_Marked_lets.nd;walk_at"hu";refine⟨_,(aC (cP (bL DT (pv 1) (aAt PySem.F.plainAttrs_int PySem.F.slot_int_bit_length PySem.F.type_int_bit_length OX (bI (pv 0) rfl)) (bO _)) (aF (bC aG)) bT)
   (aF (bC (Q7 (bL vR (aJ cT (aJ ZR (bI (pv 0) rfl) (pv 1)) aG) aG (bO _)) (bI (pv 0) rfl) aG)))),?_⟩
  refine aP (σ:=[some (.ref p),some (.int t)]) rfl ?_;walk_at"cx";unfold lG at k;walk_at"go";refine gO (fun hw=> ?_) (fun hw=> ?_)
  ·walk_at"go";rw[if_neg (by rw[M4 b0 hw];decide)]at k;exact k
  ·walk_at"go";refine gO (fun hv=> ?_) (fun hv=> ?_)
   ·walk_at"go";rw[if_pos hv]at k;exact k
   ·walk_at"go";rw[if_neg hv]at k;exact k
theorem zO (m:M K mg):Mc P w K mg base m.gD "lets" 1 (iX K):=⟨_,_,_,m.mW.ic.cl,m.AQ,m.DO,AL m⟩
local macro_rules| `(tactic| walk_at"rd1")=> `(tactic| ((with_reducible refine' uB ?e ?d ?l ?m0 ?ht ?b0 ?_);(case e=>walk_at"hp");(case d=>assumption);(case l=>walk_at"lk");(case m0=>walk_at"lk");(case ht=>walk_at"sd");(case b0=>walk_at"sd")))
abbrev aE:=Str×Str×V×(Int->Int)
def QF:HO->Prop
 | .lst _=>True
 | .dK _=>True
 | .dT _=>True
 | .tbl _=>True
 | .ins _ _ fs=>fs=[]
 | _=>False
structure bA where
 at':Hp->V->aE->Prop
 same:∀{H H' v d},at' H v d->Same H H'->at' H' v d
 but:∀{H H' v d p o},at' H v d->H p=some o->QF o->SameBut p H H'->at' H' v d
def UH (P:Program)(w:World)(K:PySem.W.Frag)(mg:Str->Option Value)(base:Heap)(kL:Option Nat)(p C dx:Addr)(fs:List (Str×V))(fp:List (Addr×HO))(lt:Int->Int):Prop:=∀kl,kL=some kl →
 ∃sp,Mc P w K mg base C "lets" kl sp/\∀(H':Hp) (t:Int) (Q:VK),H' p=some (.ins C dx fs)->(∀x∈fp,H' x.1=some x.2)->0<=t->(∀H'',Same H' H''->Q (.int (lt t)) H'')->sp [.ref p,.int t] H' Q E0
inductive DoorAt (P:Program)(w:World)(K:PySem.W.Frag)(mg:Str->Option Value)(base:Heap)(kL:Option Nat)(H:Hp)(v:V)(d:aE):Prop
 | mk (p C dx:Addr) (fs:List (Str×V)) (fp:List (Addr×HO)) (_:v= .ref p) (_:H p=some (.ins C dx fs)) (_:DCls K C) (_:fs.lookup ("name" :Str)=some (.str d.1)) (_:fs.lookup ("start" :Str)=some (.str d.2.1)) (_:fs.lookup ("end" :Str)=some d.2.2.1) (_:fs.lookup ("is_exit" :Str)=none) (_:fs.lookup ("lets" :Str)=none) (_:Mc P w K mg base C "is_exit" 1 (kF K)) (_:∀x∈fp,H x.1=some x.2/\¬QF x.2) (_:UH P w K mg base kL p C dx fs fp d.2.2.2):DoorAt P w K mg base kL H v d
inductive TK (P:Program)(w:World)(K:PySem.W.Frag)(mg:Str->Option Value)(base:Heap)(kL:Option Nat)(H:Hp)(v:V)(n st:Str)(e:V)(lt:Int->Int):Prop
 | mk (p C dx:Addr) (fs:List (Str×V)) (fp:List (Addr×HO)) (_:v= .ref p) (_:H p=some (.ins C dx fs)) (_:DCls K C) (_:fs.lookup ("name" :Str)=some (.str n)) (_:fs.lookup ("start" :Str)=some (.str st)) (_:fs.lookup ("end" :Str)=some e) (_:fs.lookup ("is_exit" :Str)=none) (_:fs.lookup ("lets" :Str)=none) (_:Mc P w K mg base C "is_exit" 1 (kF K)) (_:∀x∈fp,H x.1=some x.2/\¬QF x.2) (_:UH P w K mg base kL p C dx fs fp lt):TK P w K mg base kL H v n st e lt
theorem DoorAt.ex {kL:Option Nat}{H:Hp}{v:V}{n st:Str}{e:V}{lt:Int->Int} (h:DoorAt P w K mg base kL H v (n,st,e,lt)):TK P w K mg base kL H v n st e lt:=by
 walk_at"g1";obtain⟨p,C,dx,fs,fp,h1,h2,h3,h4,h5,h6,h7,h8,h9,h10,h11⟩:=h;walk_at"g2";exact⟨p,C,dx,fs,fp,h1,h2,h3,h4,h5,h6,h7,h8,h9,h10,h11⟩
def aR (P:Program)(w:World)(K:PySem.W.Frag)(mg:Str->Option Value)(base:Heap)(kL:Option Nat):bA where
 at':=DoorAt P w K mg base kL
 same:=fun⟨p,C,dx,fs,fp,e,hp,dc,l1,l2,l3,l4,l5,mc,hf,lt⟩ s=>⟨p,C,dx,fs,fp,e,s _ _ hp,dc,l1,l2,l3,l4,l5,mc,fun x hx=>⟨s _ _ (hf x hx).1,(hf x hx).2⟩,lt⟩
 but:=fun {H H' v d q o} ⟨p,C,dx,fs,fp,e,hp,dc,l1,l2,l3,l4,l5,mc,hf,lt⟩ ho so sb=>⟨p,C,dx,fs,fp,e,sb _ _ hp (fun z=>by
   rw[z,ho]at hp;cases hp;have h:fs=[]:=so;rw[h]at l1;cases l1),dc,l1,l2,l3,l4,l5,mc,fun x hx=>⟨sb _ _ (hf x hx).1 (fun z=>by
   have h:=(hf x hx).1;rw[z,ho]at h;cases h;exact(hf x hx).2 so),(hf x hx).2⟩,lt⟩
local macro_rules| `(tactic| walk_at"rd1")=> `(tactic| first|(with_reducible refine XC ?_)|(with_reducible refine W6 ?_)|(with_reducible refine YB ?_)|(with_reducible refine OF ?_)|(with_reducible refine N0 ?_)|(with_reducible refine rd_iItemsK ?_)|(with_reducible refine K9 ?_)|(with_reducible refine QK ?_)|((with_reducible refine Q4 ?_);intro p' H' n' S' e')|((with_reducible refine RE ?_);intro p' H' n' S' e'))
theorem iR {H:Hp}{Q:VK}{l:Addr}{xs:List V}{y:V} (e:H l=some (.lst xs)) (hz:xs.length<sizeLine) (h:∀H',SameBut l H H'->H' l=some (.lst (xs++[y]))->Q .non H'):JK (.ref l) [y] H Q :=
 ⟨l,xs,y,rfl,rfl,e,hz,h _ SameBut.upd bM⟩
inductive sR (vs:List V)(H:Hp)(Q:VK)(E:XK):Prop
 | mk (f l:Int) (_:vs=[.int f,.int l]) (_:0<=f) (_:f<=l) (_:Q .non H):sR vs H Q E
theorem V7 {H:Hp}{Q:VK}{E:XK}{f l:Int} (h0:0<=f) (h1:f<=l) (h:Q .non H):sR [.int f,.int l] H Q E:=⟨_,_,rfl,h0,h1,h⟩
theorem CW (m:M K mg):bK P w K mg base CX0 1 m.pA m.qD ["first","last"] (sR):=by
 refine m.k6.ok sc_need_turns (fun vs H Q E h=> ?_) (fun cdv A outer s H vs Q E hr h=> ?_)
 ·walk_at"g1";obtain⟨f,l,rfl,h0,h1,k⟩:=h;walk_at"g2";rfl
 ·walk_at"g1";obtain⟨f,l,rfl,h0,h1,k⟩:=h;walk_at"g2";have nd:=sc_need_turns.nd;walk_at"hu";refine⟨_,(aC (cP (bL nW (pv 0) aG (bO _)) (aF g7) bT)
   (aF (cP (bL nW (pv 1) (pv 0) (bO _)) (aF g7) bT))),?_⟩
  refine aP (σ:=[some (.int f),some (.int l)]) rfl ?_;walk_at"cx";walk_at"go";exact k
theorem CZ (m:M K mg):Fc P w K mg base "need_turns" 1 ["first","last"] (sR):=⟨_,_,m.GM,m.k6.kp,m.GF,CW m⟩
inductive vY (K:PySem.W.Frag)(vs:List V)(H:Hp)(Q:VK)(E:XK):Prop
 | mk (a:Addr) (ss:List Str) (_:vs=[.ref a]) (_:SqL K H a (ss.map V.str)) (_:ss.Nodup) (_:ss.length<=100) (_:∀H',Same H H'->Q .non H'):vY K vs H Q E
theorem OW {H:Hp}{Q:VK}{E:XK}{a:Addr}{ss:List Str} (hS:SqL K H a (ss.map V.str)) (nd:ss.Nodup) (hl:ss.length<=100) (h:∀H',Same H H'->Q .non H'):vY K [.ref a] H Q E:=⟨_,_,rfl,hS,nd,hl,h⟩
theorem oY {α:Type}{ss:List α} (nd:ss.Nodup) {i:Nat}{z:α} (hz:ss[i]? =some z):z∉ss.take i:=fun h=>by
 obtain⟨hi,e⟩:=List.getElem?_eq_some_iff.mp hz;obtain⟨j,hj,ej⟩:=List.getElem_of_mem h;rw[List.length_take]at hj;rw[List.getElem_take]at ej;exact(List.pairwise_iff_getElem.mp nd) j i (by lia) hi (by lia) (ej.trans e.symm)
theorem cD {α:Type}{ss:List α}{i:Nat}{z:α} (hz:ss[i]? =some z):ss.take (i+1)=ss.take i++[z]:=by rw[List.take_succ,hz];rfl
theorem wK (m:M K mg):bK P w K mg base CX0 1 m.j8 m.j7 ["names"] (vY K):=by
 refine m.fP.ok sc_need_each_once (fun vs H Q E h=> ?_) (fun cdv A outer s H vs Q E hr h=> ?_)
 ·walk_at"g1";obtain⟨a,ss,rfl,hS,hnd,hlen,k⟩:=h;walk_at"g2";rfl
 ·walk_at"g1";obtain⟨a,ss,rfl,hS,hnd,hlen,k⟩:=h;walk_at"g2";have nd:=sc_need_each_once.nd;walk_at"hu";refine⟨_,(aC (aZ (i:=1) nd rfl (by walk_at"oi") tP)
   (aF (dE PassesOwn.never rfl (bW (pv 0)) (aL (i:=2) nd rfl (by walk_at"oi")) (aC (cP (F3 (aAk hu1 (pv 2) (pv 1)) (by with_unfolding_all rfl)) (aF g7) bT)
   (aF (fQ hu1 (pv 1) (pv 2) y9 rfl)))))),?_⟩
  refine aP (σ:=[some (.ref a),none,none]) rfl ?_;walk_at"cx";walk_at"go";rename_i p H1 n1 S1 e1;let Pv1:Nat->St->Hp->Prop:=fun i σ' H'=>SameBut p H1 H'/\∃kvs,H' p=some (.dK kvs)/\kvs.length<=i/\(∀z,(aY kvs (.inr z)).isSome=true->z∈ss.take i)/\∃x,σ'=[some (.ref a),some (.ref p),x];refine eZ (ss.map V.str) Pv1 ⟨SameBut.refl,[],e1,Nat.le_refl _,(fun z h=>by cases h),_,rfl⟩ (fun i σ' H' _ q=>(SameBut.same n1 S1 q.1).seq hS) ?_ ?_
  ·rintro i x _ H' hx hq_;walk_at"g1";obtain⟨sb,kvs,ek,hk,hin,y,rfl⟩:=hq_;walk_at"g2";rw[List.getElem?_map]at hx;obtain⟨z,hz,rfl⟩:=Option.map_eq_some_iff.mp hx;have hi:i<ss.length:=(List.getElem?_eq_some_iff.mp hz).1;have hno:(aY kvs (.inr z)).isSome=false:=by
    cases e:(aY kvs (.inr z)).isSome with
    | false=>rfl
    | true=>exact absurd (hin z e) (oY hnd hz)
   walk_at"go";refine VZ (.inl ek) ?_;rw[hno];walk_at"go";refine lI ek (by rw[sizeLine_eq];lia) fun H9 B9 e9=> ?_;refine⟨by walk_at"sb",_,e9,Nat.le_trans (c8 _ _ _) (by lia),fun y hy=> ?_,_,rfl⟩;rw[gX]at hy;rw[cD hz]
   by_cases e:(Sum.inr y:Key)= .inr z
   ·cases e;exact List.mem_append_right _ (.head _)
   ·rw[if_neg e]at hy;exact List.mem_append_left _ (hin y hy)
  ·rintro _ H' hq_;walk_at"g1";obtain⟨sb,kvs,ek,hk,hin,y,rfl⟩:=hq_;walk_at"g2";exact k _ (SameBut.same n1 S1 sb)
theorem wM (m:M K mg):Fc P w K mg base "need_each_once" 1 ["names"] (vY K):=⟨_,_,m.xZ,m.fP.kp,m.xT,wK m⟩
def dF (rs:List Str)(d:aE):Prop:=d.2.1∈rs/\(d.2.2.1= .non∨∃z,d.2.2.1= .str z/\z∈rs)
def cC (H:Hp)(v:V)(p:Str×Int):Prop:=∃q,v= .ref q/\H q=some (.tup [.str p.1,.int p.2])
theorem kK {H H':Hp}{vs:List V}{ps:List (Str×Int)} (h:Paired (cC H) vs ps) (s:Same H H'):Paired (cC H') vs ps:=Paired.imp' (fun v z ⟨q,e,h⟩=>⟨q,e,s _ _ h⟩) h
inductive qN (K:PySem.W.Frag)(D:bA)(vs:List V)(H:Hp)(Q:VK)(E:XK):Prop
 | mk (a b:Addr) (us:List V) (ds:List aE) (rs:List Str) (ws:List V) (ps:List (Str×Int)) (_:vs=[.ref a,.ref b]) (_:SqL K H a us) (_:Paired (D.at' H) us ds) (_:(∀d∈ds,dF rs d)) (_:ds.length<=20) (_:SqL K H b ws) (_:Paired (cC H) ws ps) (_:(∀p∈ps,p.1∈rs)) (_:ps.length<=40) (_:∀p (ss:List Str) H',Same H H'->H' p=some (.lst (ss.map V.str))->(∀z∈ss,z∈rs)->ss.length<=80->Q (.ref p) H'):qN K D vs H Q E
theorem SE {D:bA}{H:Hp}{Q:VK}{E:XK}{a b:Addr}{us:List V}{ds:List aE}{rs:List Str}{ws:List V}{ps:List (Str×Int)} (hS:SqL K H a us) (hd:Paired (D.at' H) us ds) (hr:∀d∈ds,dF rs d) (hl:ds.length<=20) (hb:SqL K H b ws) (hw:Paired (cC H) ws ps) (hwr:∀p∈ps,p.1∈rs) (hwl:ps.length<=40) (h:∀p (ss:List Str) H',Same H H'->H' p=some (.lst (ss.map V.str))->(∀z∈ss,z∈rs)->ss.length<=80->Q (.ref p) H'):qN K D [.ref a,.ref b] H Q E:=⟨_,_,_,_,_,_,_,rfl,hS,hd,hr,hl,hb,hw,hwr,hwl,h⟩
theorem u8 (m:M K mg):bK P w K mg base CX0 2 m.jI m.jF ["doors","people"] (qN K (aR P w K mg base (some 1))):=by
 refine m.gF.ok sc_rooms_spoken_of (fun vs H Q E h=> ?_) (fun cdv A outer s H vs Q E hr h=> ?_)
 ·walk_at"g1";obtain⟨a,b,us,ds,rs,ws,ps,rfl,hS,hd,hr',hlen,hb,hw,hwr,hwl,k⟩:=h;walk_at"g2";rfl
 ·walk_at"g1";obtain⟨a,b,us,ds,rs,ws,ps,rfl,hS,hd,hr',hlen,hb,hw,hwr,hwl,k⟩:=h;walk_at"g2";have nd:=sc_rooms_spoken_of.nd;walk_at"hu";refine⟨_,(aC (aZ (i:=2) nd rfl (by walk_at"oi") (iB aB))
   (aC (dE PassesOwn.never rfl (bW (pv 0)) (aL (i:=3) nd rfl (by walk_at"oi")) (aC (cI (mK PySem.F.plainAttrs_list PySem.F.slot_list_append PySem.F.type_list_append iS (pv 2) (aA (bI (pv 3) rfl) aB)))
   (aF (cP (oO (jO (fV 1 hr (pv 3)))) (aF (cI (mK PySem.F.plainAttrs_list PySem.F.slot_list_append PySem.F.type_list_append iS (pv 2) (aA (bI (pv 3) rfl) aB)))) bT))))
   (aF (bC (aJ uL (pv 2) (dI (N:=["room","number"]) (nl:=2) (ci:=[]) rfl (blk (s.heap.objs.size+1) rfl rfl rfl (by kernel_rfl)) (bW (pv 1)) (fun _ _ _ _=>(kG (K:=K) (n:=2) rfl (bD (aL (i:=0) (show (["room","number"]:List Str).Nodup by decide +kernel) rfl (by walk_at"oi")) (bD (aL (i:=1) (show (["room","number"]:List Str).Nodup by decide +kernel) rfl (by walk_at"oi")) dO)))) (fun _ _ _ _=>iN) (fun _ _ _ _=>(pv 0)))))))),?_⟩
  refine aP (σ:=[some (.ref a),some (.ref b),none,none]) rfl ?_;walk_at"cx";have hul:us.length=ds.length:=Paired.length hd;walk_at"go";rename_i p H1 n1 S1 e1;let Pv2:Nat->St->Hp->Prop:=fun i σ' H'=>SameBut p H1 H'/\(∃ss:List Str,H' p=some (.lst (ss.map V.str))/\(∀z∈ss,z∈rs)/\ss.length<=2 * i)/\∃x,σ'=[some (.ref a),some (.ref b),some (.ref p),x];refine eZ us Pv2 ⟨SameBut.refl,⟨[],e1,(fun _ z=>nomatch z),Nat.le_refl _⟩,_,rfl⟩ (fun i σ' H' _ q=>(SameBut.same n1 S1 q.1).seq hS) ?_ ?_
  ·rintro i x _ H' hx hq_;walk_at"g1";obtain⟨sb,⟨ss,es,hin,hsl⟩,y,rfl⟩:=hq_;walk_at"g2";have hi:i<us.length:=(List.getElem?_eq_some_iff.mp hx).1;obtain⟨d,hdx⟩:∃d,ds[i]? =some d:=⟨_,List.getElem?_eq_getElem (by lia)⟩
   walk_at"g1";obtain⟨n,st,e,lt⟩:=d;walk_at"g2";walk_at"g1";obtain⟨q,C9,dx,fs,fp,rfl,hq,dcC,l1,l2,l3,l4,l5,mcE,hfp,hlt⟩:=DoorAt.ex (Paired.at2 hd hx hdx);walk_at"g2";obtain⟨r1,r2⟩:=hr' _ (List.mem_of_getElem? hdx);have hqp:q≠p:=fun z=>by rw[z,n1]at hq;cases hq
   have hq':H' q=some (.ins C9 dx fs):=sb _ _ (S1 _ _ hq) hqp;rcases r2 with r2|⟨z,r2,r3⟩
   ·have r2:e= .non:=r2;subst r2;walk_at"go";refine iR es (by rw[sizeLine_eq,List.length_map];lia) fun H8 B8 e8=> ?_;have hq8:=B8 _ _ hq' hqp;walk_at"go";exact⟨by walk_at"sb",⟨ss++[st],by rw[e8,List.map_append];rfl,fun z hz=>(List.mem_append.mp hz).elim (hin z) (fun w=>by cases List.mem_singleton.mp w;exact r1),by rw[List.length_append];show ss.length+1<=_;lia⟩,_,rfl⟩
   ·have r2:e= .str z:=r2;subst r2;walk_at"go";refine iR es (by rw[sizeLine_eq,List.length_map];lia) fun H8 B8 e8=> ?_;have hq8:=B8 _ _ hq' hqp;walk_at"go";refine iR e8 (by rw[sizeLine_eq,List.length_append,List.length_map];show ss.length+1<_;lia) fun H9 B9 e9=> ?_;walk_at"go";refine⟨by walk_at"sb",⟨ss++[st]++[z],by rw[e9,List.map_append,List.map_append];rfl,fun z hz=> ?_,by rw[List.length_append,List.length_append];show ss.length+1+1<=_;lia⟩,_,rfl⟩;rcases List.mem_append.mp hz with hz|hz
    ·exact(List.mem_append.mp hz).elim (hin z) (fun w=>by cases List.mem_singleton.mp w;exact r1)
    ·cases List.mem_singleton.mp hz;exact r3
  ·rintro _ H' hq_;walk_at"g1";obtain⟨sb,⟨ss,es,hin,hsl⟩,y,rfl⟩:=hq_;walk_at"g2";have sH:Same H H':=SameBut.same n1 S1 sb;have hb':=sH.seq hb;walk_at"go";refine rV (α:=Str×Int) (xs:=ps) (vs:=ws) (fun p=> .str p.1) (fun p=> .int p.2) (fun _=>true) (fun p y _=>y= .str p.1) (fun _ _ _ _ h _=>h) (by rw[sizeLine_eq];lia) (rest:=[]) (by rfl) hb' (kK hw sH) (fun x H1 hx s1 R hR=>hR _ (Same.refl _)) (fun x H1 hx _ s1 R hR=> ?_) ?_
   ·walk_at"go";exact hR _ _ rfl (Same.refl _)
   intro ys H2 s2 hys;rw[jZ]at hys;obtain rfl:=kA hys;walk_at"go";rename_i q3 H3 n3 S3 e3 q4 H4 n4 S4 e4;refine k _ (ss++ps.map (·.1)) _ (by walk_at"sm") (by rw[e4,List.map_append,List.map_map];rfl) (fun z hz=> ?_) (by rw[List.length_append,List.length_map];lia);rcases List.mem_append.mp hz with hz|hz
   ·exact hin z hz
   ·obtain⟨p,hp,rfl⟩:=List.mem_map.mp hz;exact hwr p hp
theorem uR (m:M K mg):Fc P w K mg base "rooms_spoken_of" 2 ["doors","people"] (qN K (aR P w K mg base (some 1))):=⟨_,_,m.wU,m.gF.kp,m.wO,u8 m⟩
inductive tO (K:PySem.W.Frag)(vs:List V)(H:Hp)(Q:VK)(E:XK):Prop
 | mk (a b:Addr) (ss:List Str) (kvs:List (Key×V)) (_:vs=[.ref a,.ref b]) (_:SqL K H a (ss.map V.str)) (_:Rd H b (.dK kvs)) (_:(∀z∈ss,(aY kvs (.inr z)).isSome=true)) (_:∀H',Same H H'->Q .non H'):tO K vs H Q E
theorem IM {H:Hp}{Q:VK}{E:XK}{a b:Addr}{ss:List Str}{kvs:List (Key×V)} (hS:SqL K H a (ss.map V.str)) (hb:Rd H b (.dK kvs)) (hk:∀z∈ss,(aY kvs (.inr z)).isSome=true) (h:∀H',Same H H'->Q .non H'):tO K [.ref a,.ref b] H Q E:=⟨_,_,_,_,rfl,hS,hb,hk,h⟩
theorem U7 {H H':Hp}{a:Addr}{u:HO} (s:Same H H') (r:Rd H a u):Rd H' a u:=r.elim (fun e=> .inl (s _ _ e)) fun⟨o,e⟩=> .inr ⟨o,s _ _ e⟩
theorem CP (m:M K mg):bK P w K mg base CX0 1 m.o9 m.pU ["names","sizes"] (tO K):=by
 refine m.gU.ok sc_need_rooms (fun vs H Q E h=> ?_) (fun cdv A outer s H vs Q E hr h=> ?_)
 ·walk_at"g1";obtain⟨a,b,ss,kvs,rfl,hS,hb,hk,k⟩:=h;walk_at"g2";rfl
 ·walk_at"g1";obtain⟨a,b,ss,kvs,rfl,hS,hb,hk,k⟩:=h;walk_at"g2";have nd:=sc_need_rooms.nd;walk_at"hu";refine⟨_,(aF (dE PassesOwn.never rfl (bW (pv 0)) (aL (i:=2) nd rfl (by walk_at"oi")) (aF (cP (F3 (BF hu1 (pv 2) (pv 1)) (by with_unfolding_all rfl)) (aF g7) bT)))),?_⟩;refine aP (σ:=[some (.ref a),some (.ref b),none]) rfl ?_;walk_at"cx";walk_at"go";let Pv3:Nat->St->Hp->Prop:=fun i σ' H'=>Same H H'/\∃x,σ'=[some (.ref a),some (.ref b),x];refine eZ (ss.map V.str) Pv3 ⟨Same.refl _,_,rfl⟩ (fun i σ' H' _ q=>q.1.seq hS) ?_ ?_
  ·rintro i x _ H' hx ⟨s1,y,rfl⟩;rw[List.getElem?_map]at hx;obtain⟨z,hz,rfl⟩:=Option.map_eq_some_iff.mp hx;have hz':=hk z (List.mem_of_getElem? hz);walk_at"go";refine yT (U7 s1 hb) ?_;rw[hz'];walk_at"go";exact⟨s1,_,rfl⟩
  ·rintro _ H' ⟨s1,y,rfl⟩;exact k _ s1
theorem uA (m:M K mg):Fc P w K mg base "need_rooms" 1 ["names","sizes"] (tO K):=⟨_,_,m.GD,m.gU.kp,m.GI,CP m⟩
theorem R9 {H:Hp}{Q:VK}{i j:Int} (h:Q (.int (i+j)) H):YH (.int i) (.int j) H Q:=by
 first|exact h|exact⟨_,_,rfl,rfl,h⟩|exact .inl ⟨_,_,rfl,rfl,h⟩
theorem FT {H H':Hp}{p c:Addr}{kvs:List (Key×V)}{xs:List V} (h:SqL K H c xs) (hp:H p=some (.dK kvs)) (sb:SameBut p H H'):SqL K H' c xs:=by
 rcases h with (h|⟨o,h⟩)|h
 ·exact .inl (.inl (sb _ _ h fun z=>by rw[z,hp]at h;cases h))
 ·exact .inl (.inr ⟨o,sb _ _ h fun z=>by rw[z,hp]at h;cases h⟩)
 ·exact .inr h
def szK (rz:List (Str×Int)):List (Key×V):=rz.map fun e=>((.inr e.1:Key),V.int e.2)
theorem IA (rz:List (Str×Int)):(szK rz).map (·.1)=(rz.map (·.1)).map (Sum.inr:Str->Key):=by unfold szK;rw[List.map_map,List.map_map];rfl
theorem uQ {rs:List Str}(nd:rs.Nodup):(rs.map (Sum.inr:Str->Key)).Nodup:=by
 rw[List.Nodup,List.pairwise_map];exact List.Pairwise.imp (fun h z=>h (Sum.inr.inj z)) nd
theorem xG {rz:List (Str×Int)}(nd:(rz.map (·.1)).Nodup):((szK rz).map (·.1)).Nodup:=by rw[IA];exact uQ nd
theorem z9 {rz:List (Str×Int)}(nd:(rz.map (·.1)).Nodup){e:Str×Int}(h:e∈rz):aY (szK rz) (.inr e.1)=some (.int e.2) :=
 kE (e:=((.inr e.1:Key),V.int e.2)) (xG nd) (List.mem_map.mpr ⟨e,h,rfl⟩)
theorem FS {rz:List (Str×Int)}(nd:(rz.map (·.1)).Nodup){z:Str}(h:z∈rz.map (·.1)):∃i,(z,i)∈rz/\aY (szK rz) (.inr z)=some (.int i):=by
 obtain⟨e,he,rfl⟩:=List.mem_map.mp h;exact⟨e.2,he,z9 nd he⟩
theorem uH {kvs:List (Key×V)}{k:Key} (h:∀e∈kvs,e.1≠k):aY kvs k=none:=by
 induction kvs with
 | nil=>rfl
 | cons a l ih =>
  rw[c6 (h a (.head _))];exact ih fun e he=>h e (List.mem_cons_of_mem _ he)
theorem BO:∀(ps kvs:List (Key×V)),(ps.map (·.1)).Nodup->(∀e∈kvs,∀q∈ps,e.1≠q.1)->kU kvs ps=kvs++ps
 | [],kvs,_,_=>(List.append_nil _).symm
 | (k,v)::ps,kvs,nd,h=>by
  have nd':=List.pairwise_cons.mp nd;show kU (b9 kvs k v) ps=_;rw[o0 v (uH fun e he=>h e he _ (.head _)),BO ps _ nd'.2,List.append_assoc]
  ·rfl
  ·intro e he q hq;rcases List.mem_append.mp he with he|he
   ·exact h e he q (List.mem_cons_of_mem _ hq)
   ·cases List.mem_singleton.mp he;exact nd'.1 q.1 (List.mem_map.mpr ⟨q,hq,rfl⟩)
theorem Q6 {rz:List (Str×Int)}(nd:(rz.map (·.1)).Nodup):kU [] (szK rz)=szK rz:=by
 rw[BO _ _ (xG nd) (fun e he=>absurd he (List.not_mem_nil))];rfl
theorem KZ {kvs:List (Key×V)}:∀(o:Obj) (x:HO),HO.dK kvs≠ .frz o x:=fun _ _ z=>by cases z
def zJ (rz:List (Str×Int))(ps:List (Str×Int))(kvs:List (Key×V)):Prop:=∀z∈rz.map (·.1),aY kvs (.inr z)=some (.int (cG ps z))
inductive sN (K:PySem.W.Frag)(vs:List V)(H:Hp)(Q:VK)(E:XK):Prop
 | mk (a b:Addr) (rz:List (Str×Int)) (ws:List V) (ps:List (Str×Int)) (_:vs=[.ref a,.ref b]) (_:H a=some (.dK (szK rz))) (_:SqL K H b ws) (_:Paired (cC H) ws ps) (_:(∀p∈ps,p.1∈rz.map (·.1))) (_:(rz.map (·.1)).Nodup) (_:rz.length<=100) (_:∀p H' kvs,H p=none->Same H H'->H' p=some (.dK kvs)->kvs.map (·.1)=(szK rz).map (·.1)->zJ rz ps kvs->Q (.ref p) H'):sN K vs H Q E
theorem IO {H:Hp}{Q:VK}{E:XK}{a b:Addr}{rz:List (Str×Int)}{ws:List V}{ps:List (Str×Int)} (ha:H a=some (.dK (szK rz))) (hb:SqL K H b ws) (hw:Paired (cC H) ws ps) (hwr:∀p∈ps,p.1∈rz.map (·.1)) (nd:(rz.map (·.1)).Nodup) (hl:rz.length<=100) (h:∀p H' kvs,H p=none->Same H H'->H' p=some (.dK kvs)->kvs.map (·.1)=(szK rz).map (·.1)->zJ rz ps kvs->Q (.ref p) H'):sN K [.ref a,.ref b] H Q E:=⟨_,_,_,_,_,rfl,ha,hb,hw,hwr,nd,hl,h⟩
theorem QI {kvs:List (Key×V)}{k:Key}{v:V} (h:(aY kvs k).isSome=true):(b9 kvs k v).map (·.1)=kvs.map (·.1):=by
 unfold b9;rw[lN,if_pos h,List.map_map]
 apply List.map_congr_left
 intro x _;show (if x.1=k then (x.1,v) else x).1=x.1
 split<;>rfl
theorem yK (m:M K mg):bK P w K mg base CX0 1 m.mE m.mG ["sizes","people"] (sN K):=by
 refine m.fD.ok sc_added_people (fun vs H Q E h=> ?_) (fun cdv A outer s H vs Q E hr h=> ?_)
 ·walk_at"g1";obtain⟨a,b,rz,ws,ps,rfl,ha,hb,hw,hwr,ndz,hlen,k⟩:=h;walk_at"g2";rfl
 ·walk_at"g1";obtain⟨a,b,rz,ws,ps,rfl,ha,hb,hw,hwr,ndz,hlen,k⟩:=h;walk_at"g2";have nd:=sc_added_people.nd;walk_at"hu";refine⟨_,(aC (aZ (i:=2) nd rfl (by walk_at"oi") tP)
   (aC (W7 (dE PassesOwn.never rfl (xF (pv 0)) (aL (i:=3) nd rfl (by walk_at"oi")) (aF (fQ hu1 (pv 2) (pv 3) aG rfl))))
   (aC (dE PassesOwn.never rfl (bW (pv 1)) (mU (n:=2) rfl (bD (aL (i:=3) nd rfl (by walk_at"oi")) (bD (aL (i:=4) nd rfl (by walk_at"oi")) dO))) (aF (VP hu1 (pv 2) (pv 3) (pv 4) aAa (fun _ _ _=>rfl))))
   (aF (bC (pv 2)))))),?_⟩
  refine aP (σ:=[some (.ref a),some (.ref b),none,none,none]) rfl ?_;walk_at"cx";walk_at"go";rename_i p H1 n1 S1 e1;have hap:a≠p:=fun z=>by rw[z,n1]at ha;cases ha
  have ha1:=S1 _ _ ha;have hl2:(szK rz).length=rz.length:=by unfold szK;rw[List.length_map]
  refine P3 ha1 KZ ?_;walk_at"go";refine xI ha1 fun o H2 B2 e2=> ?_;have ep2:H2 p=some (.dK []):=B2 _ _ e1 (Ne.symm hap);have hwl:ws.length=ps.length:=Paired.length hw;let Pv1:Nat->St->Hp->Prop:=fun i σ' H'=>SameBut p H2 H'/\H' p=some (.dK ((rz.take i).map fun e=>((.inr e.1:Key),V.int 0)))/\∃x,σ'=[some (.ref a),some (.ref b),some (.ref p),x,none];refine QJ (szK rz) Pv1 ⟨SameBut.refl,ep2,_,rfl⟩ (fun i σ' H' q=>q.1 _ _ e2 hap) ?_ ?_
  ·rintro i kk v _ H' hx hq_;walk_at"g1";obtain⟨sb,ek,y,rfl⟩:=hq_;walk_at"g2";unfold szK at hx;rw[List.getElem?_map]at hx;walk_at"g1";obtain⟨⟨z,sz⟩,hz,ez⟩:=Option.map_eq_some_iff.mp hx;walk_at"g2";cases ez;have hi:i<rz.length:=(List.getElem?_eq_some_iff.mp hz).1;have hnone:aY ((rz.take i).map fun e=>((.inr e.1:Key),V.int 0)) (.inr z)=none:=uH fun e he=>by
    obtain⟨d,hd,rfl⟩:=List.mem_map.mp he;intro zz;have hn:z∉(rz.map (·.1)).take i:=oY ndz (by rw[List.getElem?_map,hz];rfl)
    apply hn
    rw[←List.map_take];exact List.mem_map.mpr ⟨d,hd,Sum.inr.inj zz⟩
   show (_:TG) (.str z) _ _ _;walk_at"go";refine lI ek (by rw[sizeLine_eq,List.length_map,List.length_take];lia) fun H9 B9 e9=> ?_;refine⟨by walk_at"sb",?_,_,rfl⟩;rw[e9,o0 _ hnone,cD hz,List.map_append];rfl
  ·rintro _ H' hq_;walk_at"g1";obtain⟨sb,ek,y,rfl⟩:=hq_;walk_at"g2";rw[hl2,List.take_length]at ek;refine mT (sb _ _ e2 hap) fun H3 B3 e3=> ?_;have ep3:=B3 _ _ ek (Ne.symm hap);have sH:Same H H3:=fun x u hx=>by
    by_cases ex:x=a
    ·subst ex;rw[ha]at hx;cases hx;exact e3
    ·have hxp:x≠p:=fun z=>by rw[z,n1]at hx;cases hx
     exact B3 _ _ (sb _ _ (B2 _ _ (S1 _ _ hx) ex) hxp) ex
   have hb3:=sH.seq hb;have hw3:=kK hw sH;have hnb:∀{H':Hp}{v:V}{r:Str×Int},SameBut p H3 H'->cC H3 v r->cC H' v r:=fun sb ⟨q,e,hq⟩=>⟨q,e,sb _ _ hq fun z=>by rw[z,ep3]at hq;cases hq⟩
   walk_at"go";let Pv2:Nat->St->Hp->Prop:=fun i σ' H'=>SameBut p H3 H'/\(∃kvs,H' p=some (.dK kvs)/\kvs.map (·.1)=(szK rz).map (·.1)/\zJ rz (ps.take i) kvs)/\∃x y,σ'=[some (.ref a),some (.ref b),some (.ref p),x,y];refine eZ ws Pv2 ⟨SameBut.refl,⟨_,ep3,?_,?_⟩,_,_,rfl⟩ (fun i σ' H' _ q=>FT hb3 ep3 q.1) ?_ ?_
   ·unfold szK;rw[List.map_map,List.map_map];rfl
   ·intro z hz;obtain⟨e,he,rfl⟩:=List.mem_map.mp hz;exact kE (e:=((.inr e.1:Key),V.int 0)) (by rw[show (rz.map fun e=>((.inr e.1:Key),V.int 0)).map (·.1)=(szK rz).map (·.1) from by unfold szK;rw[List.map_map,List.map_map];rfl];exact xG ndz) (List.mem_map.mpr ⟨e,he,rfl⟩)
   ·rintro i x _ H' hx hq_;walk_at"g1";obtain⟨sb',⟨kvs,ek',hkk,hin⟩,x1,x2,rfl⟩:=hq_;walk_at"g2";have hi:i<ws.length:=(List.getElem?_eq_some_iff.mp hx).1;obtain⟨⟨z,nn⟩,hpx⟩:∃d,ps[i]? =some d:=⟨_,List.getElem?_eq_getElem (by lia)⟩
    obtain⟨q,rfl,hq⟩:=Paired.at2 hw3 hx hpx;have hq':H' q=some (.tup [.str z,.int nn]):=sb' _ _ hq fun zz=>by rw[zz,ep3]at hq;cases hq
    have hzr:z∈rz.map (·.1):=hwr _ (List.mem_of_getElem? hpx);have hkl:kvs.length=rz.length:=by rw[←List.length_map (f:=fun e:Key×V=>e.1),hkk,List.length_map,hl2]
    walk_at"go";refine WK ?_;walk_at"go";refine RK (.inl ek') (hin z hzr) ?_;walk_at"go";refine R9 ?_;refine WL ek' (by rw[sizeLine_eq];lia) fun H9 B9 e9=> ?_;refine⟨by walk_at"sb",⟨_,e9,?_,fun y hy=> ?_⟩,_,_,rfl⟩
    ·rw[QI (by rw[hin z hzr];rfl)];exact hkk
    ·rw[gX,cD hpx,NH]
     by_cases e:(Sum.inr y:Key)= .inr z
     ·cases e;rw[if_pos rfl,if_pos rfl]
     ·rw[if_neg e,if_neg (fun zz=>e (by rw[show z=y from zz])),Int.add_zero];exact hin y hy
   ·rintro _ H' hq_;walk_at"g1";obtain⟨sb',⟨kvs,ek',hkk,hin⟩,x1,x2,rfl⟩:=hq_;walk_at"g2";rw[hwl,List.take_length]at hin;walk_at"go";exact k _ _ _ n1 (SameBut.same n1 (fun x u hx=>sH x u hx) sb') ek' hkk hin
theorem qK (m:M K mg):Fc P w K mg base "added_people" 1 ["sizes","people"] (sN K):=⟨_,_,m.A6,m.fD.kp,m.AW,yK m⟩
def u0 (rz ps:List (Str×Int)):Prop:=(∀p∈ps,0<=p.2)/\∀e∈rz,cG ps e.1<=e.2
inductive tJ (K:PySem.W.Frag)(vs:List V)(H:Hp)(Q:VK)(E:XK):Prop
 | mk (a b:Addr) (rz:List (Str×Int)) (ws:List V) (ps:List (Str×Int)) (_:vs=[.ref a,.ref b]) (_:H a=some (.dK (szK rz))) (_:SqL K H b ws) (_:Paired (cC H) ws ps) (_:(∀p∈ps,p.1∈rz.map (·.1))) (_:(rz.map (·.1)).Nodup) (_:rz.length<=100) (_:ps.length<=100) (_:u0 rz ps) (_:∀H',Same H H'->Q .non H'):tJ K vs H Q E
theorem V6 {H:Hp}{Q:VK}{E:XK}{a b:Addr}{rz:List (Str×Int)}{ws:List V}{ps:List (Str×Int)} (ha:H a=some (.dK (szK rz))) (hb:SqL K H b ws) (hw:Paired (cC H) ws ps) (hwr:∀p∈ps,p.1∈rz.map (·.1)) (nd:(rz.map (·.1)).Nodup) (hl:rz.length<=100) (hpl:ps.length<=100) (hf:u0 rz ps) (h:∀H',Same H H'->Q .non H'):tJ K [.ref a,.ref b] H Q E:=⟨_,_,_,_,_,rfl,ha,hb,hw,hwr,nd,hl,hpl,hf,h⟩
theorem u5 {α:Type}:∀{l:List α}{ys:List V},Paired (fun _ y=>y=V.bl false) l ys->ys=(l.map fun _=>false).map V.bl
 | _,_,.nil=>rfl
 | _,_,.cons h t=>by rw[h,u5 t];rfl
theorem BE {α:Type}(l:List α):(l.map fun _=>false).any id=false:=by simp
theorem CN (m:M K mg):bK P w K mg base CX0 2 m.qC m.pJ ["sizes","people"] (tJ K):=by
 refine m.k7.ok sc_need_space (fun vs H Q E h=> ?_) (fun cdv A outer s H vs Q E hr h=> ?_)
 ·walk_at"g1";obtain⟨a,b,rz,ws,ps,rfl,ha,hb,hw,hwr,ndz,hlen,hpl,hf,k⟩:=h;walk_at"g2";rfl
 ·walk_at"g1";obtain⟨a,b,rz,ws,ps,rfl,ha,hb,hw,hwr,ndz,hlen,hpl,hf,k⟩:=h;walk_at"g2";have nd:=sc_need_space.nd;walk_at"hu";have fD:= @qK P w K mg base m;refine⟨_,(aC (cP (jO (bJ (BH rfl) rfl m.UL OA (aA (dI (N:=["room","number"]) (nl:=2) (ci:=[]) rfl (blk (s.heap.objs.size+1) rfl rfl rfl (by kernel_rfl)) (bW (pv 1)) (fun _ _ _ _=>(kG (K:=K) (n:=2) rfl (bD (aL (i:=0) (show (["room","number"]:List Str).Nodup by decide +kernel) rfl (by walk_at"oi")) (bD (aL (i:=1) (show (["room","number"]:List Str).Nodup by decide +kernel) rfl (by walk_at"oi")) dO)))) (fun _ _ _ _=>iN) (fun _ _ _ _=>(rO nW (pv 1) aG (bO _)))) aB))) (aF g7) bT)
   (aC (aZ (i:=2) nd rfl (by walk_at"oi") (bR fD hr (aA (pv 0) (aA (pv 1) aB))))
   (aF (cP (jO (bJ (BH rfl) rfl m.UL OA (aA (wE (dI (N:=["room","inside","sizes"]) (nl:=1) (ci:=[2,0]) rfl (blk (s.heap.objs.size+1) rfl rfl rfl (by kernel_rfl)) (xF (pv 0)) (fun _ _ _ _=>(aL (i:=0) (show (["room","inside","sizes"]:List Str).Nodup by decide +kernel) rfl (by walk_at"oi"))) (fun _ _ _ _=>iN) (fun _ _ _ _=>(rO DW (fA hu1 (pv 1) (pv 0) (fun _ _=>rfl)) (fA hu1 (pv 2) (pv 0) (fun _ _=>rfl)) (bO _))))) aB))) (aF g7) bT)))),?_⟩
  refine aP (σ:=[some (.ref a),some (.ref b),none]) rfl ?_;walk_at"cx";walk_at"go";refine rV (α:=Str×Int) (xs:=ps) (vs:=ws) (fun p=> .str p.1) (fun p=> .int p.2) (fun _=>true) (fun p y _=>y= .bl false) (fun _ _ _ _ h _=>h) (by rw[sizeLine_eq];lia) (rest:=[]) (by rfl) hb hw (fun x H1 hx s1 R hR=>hR _ (Same.refl _)) (fun x H1 hx _ s1 R hR=> ?_) ?_
  ·have h0:=hf.1 x hx;walk_at"go";exact hR _ _ (by rw[decide_eq_false (by lia)]) (Same.refl _)
  intro ys H2 s2 hys;rw[jZ]at hys;obtain rfl:=u5 hys;walk_at"go";rename_i q H3 n3 S3 e3;refine N7 (SqL.of e3) ?_;rw[BE];walk_at"go";have sA:Same H H3:=s2.trans S3;refine IO (sA _ _ ha) (sA.seq hb) (kK hw sA) hwr ndz hlen fun p H4 kvs n4 S4 e4 hkk hv=> ?_;have ha4:=S4 _ _ (sA _ _ ha);walk_at"go";refine sP ha4 KZ ?_;walk_at"go";refine xI ha4 fun o H5 B5 e5=> ?_;have hpa:p≠a:=fun z=>by rw[z,sA _ _ ha]at n4;cases n4
  have ep5:=B5 _ _ e4 hpa;refine O1 (fun _=>true) (fun _ y _=>y= .bl false) (fun _ _ _ _ h _=>h) (by rw[sizeLine_eq];unfold szK;rw[List.length_map];lia) (rest:=[some (.ref p),some (.ref a)]) (by rfl) e5 (fun x H6 hx s6 R hR=>hR _ (Same.refl _)) ?_ ?_
  ·rintro x H6 hx - s6 R hR;obtain⟨e,he,rfl⟩:=List.mem_map.mp hx;have hfe:=hf.2 e he;show (_:TE) (some (V.str e.1)::[some (.ref p),some (.ref a)]) H6 R;walk_at"go";refine iL (.inl (s6 _ _ ep5)) (hv e.1 (List.mem_map.mpr ⟨e,he,rfl⟩)) ?_;walk_at"go";refine iL (.inr ⟨o,s6 _ _ e5⟩) (z9 ndz he) ?_;walk_at"go";exact hR _ _ (by rw[decide_eq_false (by lia)]) (Same.refl _)
  intro ys H6 s6 hys;rw[jZ]at hys;obtain rfl:=u5 hys;walk_at"go";rename_i q7 H7 n7 S7 e7;refine mT (S7 _ _ (s6 _ _ e5)) fun H8 B8 e8=> ?_;have hq7:q7≠a:=fun z=>by rw[z,s6 _ _ e5]at n7;cases n7
  have e78:=B8 _ _ e7 hq7;walk_at"go";refine N7 (SqL.of e78) ?_;rw[BE];walk_at"go";exact k _ (CD (ha) (fun x u hx hxa=>B5 _ _ (S4 _ _ (sA _ _ hx)) hxa) (Same.but (s6.trans S7)) B8 e8)
theorem CV (m:M K mg):Fc P w K mg base "need_space" 2 ["sizes","people"] (tJ K):=⟨_,_,m.GG,m.k7.kp,m.GC,CN m⟩
def RoomsAt (H:Hp)(vs:List V)(rz:List (Str×Int)):Prop:=Paired (cC H) vs rz
theorem RoomsAt.sm {H H':Hp}{vs:List V}{rs:List (Str×Int)} (h:RoomsAt H vs rs) (s:Same H H'):RoomsAt H' vs rs:=Paired.imp' (fun v z ⟨q,e,h⟩=>⟨q,e,s _ _ h⟩) h
theorem w9 {H:Hp}:∀{vs:List V}{rs:List (Str×Int)},RoomsAt H vs rs->DS H vs (szK rs)
 | _,_,.nil=> .nil
 | _,_,.cons h t=> .cons h (w9 t)
theorem tV {D:bA}{H H':Hp}{us:List V}{ds:List aE} (h:Paired (D.at' H) us ds) (s:Same H H'):Paired (D.at' H') us ds:=Paired.imp' (fun v d h=>D.same h s) h
abbrev JJ (f l:Int)(qs qp qd:Addr):List (Str×V):=c7 "named_doors" (.ref qd) (c7 "people" (.ref qp) (c7 "sizes" (.ref qs) (c7 "last" (.int l) (c7 "first" (.int f) []))))
def sY (D:bA)(H:Hp)(nk:List (Key×V))(ds:List aE):Prop:=Paired (fun e d=>e.1= .inr d.1/\D.at' H e.2 d) nk ds
theorem R3 {D:bA}{H H':Hp}{nk:List (Key×V)}{ds:List aE} (h:sY D H nk ds) (s:Same H H'):sY D H' nk ds:=Paired.imp' (fun e d h=>⟨h.1,D.same h.2 s⟩) h
structure aO (C:Addr)(D:bA)(H:Hp)(h:Addr)(f l:Int)(rz ps:List (Str×Int))(ds:List aE):Prop where
 ex:∃dx qs qp qd nk kvs,H h=some (.ins C dx (JJ f l qs qp qd))/\H qs=some (.dK (szK rz))/\H qp=some (.dK kvs)/\kvs.map (·.1)=(szK rz).map (·.1)/\zJ rz ps kvs/\H qd=some (.dK nk)/\sY D H nk ds
theorem aV {C:Addr}{D:bA}{H H':Hp}{h:Addr}{f l:Int}{rz ps:List (Str×Int)}{ds:List aE} (x:aO C D H h f l rz ps ds) (s:Same H H'):aO C D H' h f l rz ps ds:=by
 walk_at"g1";obtain⟨dx,qs,qp,qd,nk,kvs,e1,e2,e3,e4,e5,e6,e7⟩:=x.ex;walk_at"g2";exact⟨dx,qs,qp,qd,nk,kvs,s _ _ e1,s _ _ e2,s _ _ e3,e4,e5,s _ _ e6,R3 e7 s⟩
theorem ID {H H':Hp}{p c C dx:Addr}{fs:List (Str×V)}{xs:List V} (h:SqL K H c xs) (hp:H p=some (.ins C dx fs)) (sb:SameBut p H H'):SqL K H' c xs:=by
 rcases h with (h|⟨o,h⟩)|h
 ·exact .inl (.inl (sb _ _ h fun z=>by rw[z,hp]at h;cases h))
 ·exact .inl (.inr ⟨o,sb _ _ h fun z=>by rw[z,hp]at h;cases h⟩)
 ·exact .inr h
theorem tU {α β:Type}{F:α->β->Prop}:∀{l:List α}{m:List β}{x:α},Paired F l m->x∈l->∃y∈m,F x y
 | _,_,_,.cons r t,h=>by
  rcases List.mem_cons.mp h with rfl|h
  ·exact⟨_,.head _,r⟩
  ·obtain⟨y,hy,f⟩:=tU t h;exact⟨y,List.mem_cons_of_mem _ hy,f⟩
 | _,_,_,.nil,h=>nomatch h
inductive iC (K:PySem.W.Frag)(D:bA)(vs:List V)(H:Hp)(Q:VK)(E:XK):Prop
 | mk (p C dx a b c:Addr) (ws us cs:List V) (rz ps:List (Str×Int)) (ds:List aE) (f l:Int) (_:vs=[.ref p,.ref a,.ref b,.ref c,.int l,.int f]) (_:DCls K C) (_:H p=some (.ins C dx [])) (_:H a=some (.lst ws)) (_:RoomsAt H ws rz) (_:SqL K H b us) (_:Paired (D.at' H) us ds) (_:SqL K H c cs) (_:Paired (cC H) cs ps) (_:(rz.map (·.1)).Nodup) (_:(ds.map (·.1)).Nodup) (_:(∀d∈ds,dF (rz.map (·.1)) d)) (_:(∀p∈ps,p.1∈rz.map (·.1))) (_:u0 rz ps) (_:rz.length<=20) (_:ds.length<=20) (_:ps.length<=40) (_:0<=f) (_:f<=l) (_:∀H',SameBut p H H'->aO C D H' p f l rz ps ds->Q .non H'):iC K D vs H Q E
theorem EB {D:bA}{H:Hp}{Q:VK}{E:XK}{p C dx a b c:Addr}{ws us cs:List V}{rz ps:List (Str×Int)}{ds:List aE}{f l:Int} (dc:DCls K C) (hp:H p=some (.ins C dx [])) (ha:H a=some (.lst ws)) (hr:RoomsAt H ws rz) (hb:SqL K H b us) (hd:Paired (D.at' H) us ds) (hc:SqL K H c cs) (hcp:Paired (cC H) cs ps) (nr:(rz.map (·.1)).Nodup) (nd:(ds.map (·.1)).Nodup) (hin:∀d∈ds,dF (rz.map (·.1)) d) (hpr:∀p∈ps,p.1∈rz.map (·.1)) (hf:u0 rz ps) (lr:rz.length<=20) (ld:ds.length<=20) (lp:ps.length<=40) (h0:0<=f) (h1:f<=l)
  (k:∀H',SameBut p H H'->aO C D H' p f l rz ps ds->Q .non H'):iC K D [.ref p,.ref a,.ref b,.ref c,.int l,.int f] H Q E:=⟨_,_,_,_,_,_,_,_,_,_,_,_,_,_,rfl,dc,hp,ha,hr,hb,hd,hc,hcp,nr,nd,hin,hpr,hf,lr,ld,lp,h0,h1,k⟩
theorem wJ (m:M K mg):bK P w K mg base CX0 4 m.j6 m.hJ ["self","rooms","doors","people","last","first"] (iC K (aR P w K mg base (some 1))):=by
 refine m.xU.ok sc_House___init__ (fun vs H Q E h=> ?_) (fun cdv A outer s H vs Q E hr h=> ?_)
 ·walk_at"g1";obtain⟨p,C,dx,a,b,c,ws,us,cs,rz,ps,ds,f,l,rfl,dc,hp,ha,hra,hb,hd,hc,hcp,nr,nd',hin,hpr,hf,lr,ld,lp,h0,h1,k⟩:=h;walk_at"g2";rfl
 ·walk_at"g1";obtain⟨p,C,dx,a,b,c,ws,us,cs,rz,ps,ds,f,l,rfl,dc,hp,ha,hra,hb,hd,hc,hcp,nr,nd',hin,hpr,hf,lr,ld,lp,h0,h1,k⟩:=h;walk_at"g2";have nd:=sc_House___init__.nd;walk_at"hu";have fD:= @qK P w K mg base m;have fP:= @wM P w K mg base m;have gU:= @uA P w K mg base m;have k7:= @CV P w K mg base m;have k6:= @CZ P w K mg base m;have gF:= @uR P w K mg base m;refine⟨_,(aC (cI (bR k6 hr (aA (pv 5) (aA (pv 4) aB))))
   (aC (cI (bR fP hr (aA (dI (N:=["name","size"]) (nl:=2) (ci:=[]) rfl (blk (s.heap.objs.size+1) rfl rfl rfl (by kernel_rfl)) (bW (pv 1)) (fun _ _ _ _=>(kG (K:=K) (n:=2) rfl (bD (aL (i:=0) (show (["name","size"]:List Str).Nodup by decide +kernel) rfl (by walk_at"oi")) (bD (aL (i:=1) (show (["name","size"]:List Str).Nodup by decide +kernel) rfl (by walk_at"oi")) dO)))) (fun _ _ _ _=>iN) (fun _ _ _ _=>(pv 0))) aB)))
   (aC (cI (bR fP hr (aA (dI (N:=["door"]) (nl:=1) (ci:=[]) rfl (blk (s.heap.objs.size+1) rfl rfl rfl (by kernel_rfl)) (bW (pv 2)) (fun _ _ _ _=>(aL (i:=0) (show (["door"]:List Str).Nodup by decide +kernel) rfl (by walk_at"oi"))) (fun _ _ _ _=>iN) (fun _ _ _ _=>(rK (K:=K) (pv 0) rfl))) aB)))
   (aC (aZ (i:=6) nd rfl (by walk_at"oi") (mR (KG rfl) rfl m.aAX UR (aA (pv 1) aB)))
   (aC (cI (bR gU hr (aA (bR gF hr (aA (pv 2) (aA (pv 3) aB))) (aA (pv 6) aB))))
   (aC (cI (bR k7 hr (aA (pv 6) (aA (pv 3) aB))))
   (aC (jL (pv 0) (pv 5) rfl)
   (aC (jL (pv 0) (pv 4) rfl)
   (aC (jL (pv 0) (pv 6) rfl)
   (aC (jL (pv 0) (bR fD hr (aA (pv 6) (aA (pv 3) aB))) rfl)
   (aC (jL (pv 0) tP rfl)
   (aF (dE PassesOwn.never rfl (bW (pv 2)) (aL (i:=7) nd rfl (by walk_at"oi")) (aF (fQ hu1 (bI (pv 0) rfl) (bI (pv 7) rfl) (pv 7) rfl))))))))))))))),?_⟩
  refine aP (σ:=[some (.ref p),some (.ref a),some (.ref b),some (.ref c),some (.int l),some (.int f),none,none]) rfl ?_;walk_at"cx";have hul:us.length=ds.length:=Paired.length hd;have hwl:ws.length=rz.length:=Paired.length hra;walk_at"go";refine V7 h0 h1 ?_;walk_at"go";refine rV (α:=Str×Int) (xs:=rz) (vs:=ws) (fun e=> .str e.1) (fun e=> .int e.2) (fun _=>true) (fun z y _=>y= .str z.1) (fun _ _ _ _ h _=>h) (by rw[sizeLine_eq];lia) (rest:=[]) (by rfl) (SqL.of ha) hra (fun x H1 hx s1 R hR=>hR _ (Same.refl _)) (fun x H1 hx _ s1 R hR=> ?_) ?_
  ·walk_at"go";exact hR _ _ rfl (Same.refl _)
  intro ys H1 s1 hys;rw[jZ]at hys;obtain rfl:=kA hys;walk_at"go";rename_i q1 H2 n2 S2 e2;refine OW (ss:=rz.map (·.1)) (SqL.of (by rw[e2,List.map_map];rfl)) nr (by rw[List.length_map];lia) fun H3 S3=> ?_;have sA:Same H H3:=(s1.trans S2).trans S3;walk_at"go";refine rA (α:=aE) (xs:=ds) (vs:=us) ((aR P w K mg base (some 1)).at' H3) (fun _=>true) (fun d y _=>y= .str d.1) (fun _ _ _ _ h _=>h) (by rw[sizeLine_eq];lia) (rest:=[]) (by rfl) (sA.seq hb) (tV hd sA) (fun v x H1 _ hx s1 R hR=>hR _ (Same.refl _)) ?_ ?_
  ·rintro v ⟨n,st,e,lt⟩ H4 hv hm - s4 R hR;walk_at"g1";obtain⟨q,C9,dx',fs,fp,rfl,hq,dcC,l1,l2,l3,l4,l5,mcE,hfp,hlt⟩:=DoorAt.ex hv;walk_at"g2";have hq':=s4 _ _ hq;walk_at"go";exact hR _ _ rfl (Same.refl _)
  intro ys H4 s4 hys;rw[jZ]at hys;obtain rfl:=kA hys;walk_at"go";rename_i q5 H5 n5 S5 e5;refine OW (ss:=ds.map (·.1)) (SqL.of (by rw[e5,List.map_map];rfl)) nd' (by rw[List.length_map];lia) fun H6 S6=> ?_;have sB:Same H H6:=((sA.trans s4).trans S5).trans S6;walk_at"go";refine P5 (sB _ _ ha) (w9 (hra.sm sB)) fun qs H7 n7 S7 e7=> ?_;rw[Q6 nr]at e7;have sC:Same H H7:=sB.trans S7;walk_at"go";refine SE (sC.seq hb) (tV hd sC) hin ld (sC.seq hc) (kK hcp sC) hpr lp fun q8 ss H8 S8 e8 hss lss=> ?_;walk_at"go";refine IM (SqL.of e8) (.inl (S8 _ _ e7)) (fun z hz=>by obtain⟨i,_,e⟩:=FS nr (hss z hz);rw[e];rfl) fun H9 S9=> ?_;have sD:Same H7 H9:=S8.trans S9;walk_at"go";refine V6 (sD _ _ e7) ((sC.trans sD).seq hc) (kK hcp (sC.trans sD)) hpr nr (by lia) (by lia) hf fun H10 S10=> ?_;have sE:Same H H10:=(sC.trans sD).trans S10;have es:H10 qs=some (.dK (szK rz)):=S10 _ _ (sD _ _ e7);have hp10:=sE _ _ hp;have hqp:qs≠p:=fun z=>by rw[z,hp10]at es;cases es
  walk_at"go";rename_i H11 B11 e11 H12 B12 e12 H13 B13 e13;have sb13:SameBut p H10 H13:=by walk_at"sb"
  have es13:=sb13 _ _ es hqp;have hc13:SqL K H13 c cs:=ID (sE.seq hc) hp10 sb13;have hcp13:Paired (cC H13) cs ps:=Paired.imp' (fun v r ⟨q,e,hq⟩=>⟨q,e,sb13 _ _ (sE _ _ hq) fun z=>by rw[z,hp]at hq;cases hq⟩) hcp;refine IO es13 hc13 hcp13 hpr nr (by lia) fun qp H14 kvs n14 S14 e14 hkk hv14=> ?_;have hp14:=S14 _ _ e13;walk_at"go";rename_i H15 B15 e15 qd H16 n16 S16 e16 H17 B17 e17;have hqd:qd≠p:=fun z=>by rw[z,e15]at n16;cases n16
  have sb17:SameBut p H10 H17:=((((sb13.trans S14.but).trans B15).trans S16.but).trans B17)
  have es17:=sb17 _ _ es hqp;have ed17:=B17 _ _ e16 hqd;have hqpp:qp≠p:=fun z=>by rw[z,e13]at n14;cases n14
  have eq17:H17 qp=some (.dK kvs):=B17 _ _ (S16 _ _ (B15 _ _ e14 hqpp)) hqpp;have hqpd:qp≠qd:=fun z=>by rw[←z,B15 _ _ e14 hqpp]at n16;cases n16
  have fresh:∀x u,H10 x=some u->x≠p->x≠qd:=fun x u hx hxp z=>by
   have h15:H15 x=some u:=B15 _ _ (S14 _ _ (sb13 _ _ hx hxp)) hxp;rw[z,n16]at h15;cases h15
  have hb17:SqL K H17 b us:=ID (sE.seq hb) hp10 sb17;have hd17:Paired ((aR P w K mg base (some 1)).at' H17) us ds:=Paired.imp' (fun v d h=>(aR P w K mg base (some 1)).but ((aR P w K mg base (some 1)).same h sE) hp10 rfl sb17) hd;have ddq:∀{H':Hp}{v:V}{d:aE},SameBut qd H17 H'->(aR P w K mg base (some 1)).at' H17 v d->(aR P w K mg base (some 1)).at' H' v d:=fun sb h=>(aR P w K mg base (some 1)).but h ed17 trivial sb;refine BJ hb17 ?_;let Pv1:Nat->St->Hp->Prop:=fun i σ' H'=>SameBut qd H17 H'/\(∃nk,H' qd=some (.dK nk)/\nk.length<=i/\Paired (fun e d=>e.1= .inr d.1/\(aR P w K mg base (some 1)).at' H17 e.2 d) nk (ds.take i))/\∃x,σ'=[some (.ref p),some (.ref a),some (.ref b),some (.ref c),some (.int l),some (.int f),some (.ref qs),x];refine eZ us Pv1 ⟨SameBut.refl,⟨[],ed17,Nat.le_refl _,.nil⟩,_,rfl⟩ (fun i σ' H' _ q=>FT hb17 ed17 q.1) ?_ ?_
  ·rintro i x _ H' hx hq_;walk_at"g1";obtain⟨sb,⟨nk,ek,hk,pr⟩,y,rfl⟩:=hq_;walk_at"g2";have hi:i<us.length:=(List.getElem?_eq_some_iff.mp hx).1;obtain⟨d,hdx⟩:∃d,ds[i]? =some d:=⟨_,List.getElem?_eq_getElem (by lia)⟩
   have hD:=Paired.at2 hd17 hx hdx;walk_at"g1";obtain⟨n,st,e,lt⟩:=d;walk_at"g2";have hD':=ddq sb hD;walk_at"g1";obtain⟨q,C9,dx',fs,fp,rfl,hq',dcC,l1,l2,l3,l4,l5,mcE,hfp,hlt⟩:=DoorAt.ex hD';walk_at"g2";have hpp:H' p=some (.ins C dx (JJ f l qs qp qd)):=sb _ _ e17 (Ne.symm hqd);have hnone:aY nk (.inr n)=none:=uH fun e he=>by
    walk_at"g1";obtain⟨d',hd',h1,_⟩:=tU pr he;walk_at"g2";rw[h1];intro z;have hn:n∉(ds.map (·.1)).take i:=oY nd' (by rw[List.getElem?_map,hdx];rfl)
    apply hn
    rw[←List.map_take];exact List.mem_map.mpr ⟨d',hd',Sum.inr.inj z⟩
   walk_at"go";refine lI ek (by rw[sizeLine_eq];lia) fun H9' B9' e9'=> ?_;rw[o0 _ hnone]at e9';refine⟨by walk_at"sb",⟨_,e9',by rw[List.length_append];show nk.length+1<=_;lia,?_⟩,_,rfl⟩;rw[cD hdx];exact L2.Paired.snoc pr ⟨rfl,hD⟩
  ·rintro _ H' hq_;walk_at"g1";obtain⟨sb,⟨nk,ek,hk,pr⟩,y,rfl⟩:=hq_;walk_at"g2";rw[hul,List.take_length]at pr;refine k _ (fun x u hx hxp=>sb _ _ (sb17 _ _ (sE _ _ hx) hxp) (fresh x u (sE _ _ hx) hxp)) ⟨dx,qs,qp,qd,nk,kvs,sb _ _ e17 (Ne.symm hqd),sb _ _ es17 (fresh _ _ es hqp),sb _ _ eq17 hqpd,hkk,hv14,ek,?_⟩;exact Paired.imp' (fun e d h=>⟨h.1,ddq sb h.2⟩) pr
theorem K6 (m:M K mg):Kc P w K mg base "House" m.aH 4 [] (iC K (aR P w K mg base (some 1))):=⟨_,_,_,_,m.XX,m.SV,.nil,m.x0,wJ m⟩
theorem NU {C:Addr}{D:bA}{H:Hp}{Q:VK}{E:XK}{dvs vs:List V}{a b c:Addr}{ws us cs:List V}{rz ps:List (Str×Int)}{ds:List aE}{f l:Int} (ev:vs++dvs=[.ref a,.ref b,.ref c,.int l,.int f]) (dc:DCls K C) (ha:H a=some (.lst ws)) (hr:RoomsAt H ws rz) (hb:SqL K H b us) (hd:Paired (D.at' H) us ds) (hc:SqL K H c cs) (hcp:Paired (cC H) cs ps) (nr:(rz.map (·.1)).Nodup) (nd:(ds.map (·.1)).Nodup) (hin:∀d∈ds,dF (rz.map (·.1)) d) (hpr:∀p∈ps,p.1∈rz.map (·.1)) (hf:u0 rz ps) (lr:rz.length<=20) (ld:ds.length<=20) (lp:ps.length<=40) (h0:0<=f) (h1:f<=l)
  (k:∀p H',H p=none->Same H H'->aO C D H' p f l rz ps ds->Q (.ref p) H'):yO C (iC K D) dvs E Q vs H:=by
 intro x dx nx nd0 ne;have s0:Same H (upd (upd H dx (.own x)) x (.ins C dx [])):=fun b o e=>by
  rw[aU (bN e nx),aU (bN e nd0)];exact e
 rw[ev];exact EB dc bM (s0 _ _ ha) (hr.sm s0) (s0.seq hb) (tV hd s0) (s0.seq hc) (kK hcp s0) nr nd hin hpr hf lr ld lp h0 h1 fun H' sb hh=>⟨rfl,k x H' nx (fun b o q=>sb b o (s0 b o q) (bN q nx)) hh⟩
theorem XM (rz:List (Str×Int)):((szK rz).map fun e=>kV e.1)=(rz.map (·.1)).map V.str:=by unfold szK;rw[List.map_map,List.map_map];rfl
theorem yR {D:bA}{H:Hp}:∀{nk:List (Key×V)}{ds:List aE},sY D H nk ds->(nk.map fun e=>kV e.1)=(ds.map (·.1)).map V.str
 | _,_,.nil=>rfl
 | (k,v)::_,_,.cons h t=>by
  rw[List.map_cons,yR t,List.map_cons,List.map_cons];have:k= .inr _:=h.1;rw[this];rfl
theorem y0 {D:bA}{H:Hp}:∀{nk:List (Key×V)}{ds:List aE},sY D H nk ds->nk.map (·.1)=(ds.map (·.1)).map (Sum.inr:Str->Key)
 | _,_,.nil=>rfl
 | (k,v)::_,_,.cons h t=>by
  rw[List.map_cons,y0 t,List.map_cons,List.map_cons];have:k= .inr _:=h.1;rw[this]
theorem M3 {D:bA}{H:Hp}{nk:List (Key×V)}{ds:List aE} (h:sY D H nk ds):nk.length=ds.length:=Paired.length h
theorem Q0 {D:bA}{H:Hp}{nk:List (Key×V)}{ds:List aE} (h:sY D H nk ds) (nd:(ds.map (·.1)).Nodup) {d:aE} (hd:d∈ds):∃v,aY nk (.inr d.1)=some v/\D.at' H v d:=by
 obtain⟨i,hi,e⟩:=List.getElem_of_mem hd;have hl:=M3 h;have hx:nk[i]? =some nk[i]:=List.getElem?_eq_getElem (by lia);obtain⟨h1,h2⟩:=Paired.at2 h hx (show ds[i]? =some d by rw[List.getElem?_eq_getElem hi,e]);refine⟨_,?_,h2⟩;rw[←h1];exact kE (by rw[y0 h];exact uQ nd) (List.mem_of_getElem? hx)
inductive lF (C:Addr)(D:bA)(g:List (Str×Int)->List aE->List Str)(vs:List V)(H:Hp)(Q:VK)(E:XK):Prop
 | mk (h:Addr) (f l:Int) (rz ps:List (Str×Int)) (ds:List aE) (_:vs=[.ref h]) (_:aO C D H h f l rz ps ds) (_:∀p H',H p=none->Same H H'->H' p=some (.lst ((g rz ds).map V.str))->Q (.ref p) H'):lF C D g vs H Q E
theorem oF {C:Addr}{D:bA}{g:List (Str×Int)->List aE->List Str}{H:Hp}{Q:VK}{E:XK}{h:Addr}{f l:Int}{rz ps:List (Str×Int)}{ds:List aE} (hh:aO C D H h f l rz ps ds) (k:∀p H',H p=none->Same H H'->H' p=some (.lst ((g rz ds).map V.str))->Q (.ref p) H'):lF C D g [.ref h] H Q E:=⟨_,_,_,_,_,_,rfl,hh,k⟩
theorem AM (m:M K mg):bK P w K mg base CX0 1 m.nK m.nG ["self"] (lF m.aH (aR P w K mg base (some 1)) fun rz _=>rz.map (·.1)):=by
 refine m.DE.ok sc_House_rooms (fun vs H Q E h=> ?_) (fun cdv A outer s H vs Q E hr h=> ?_)
 ·walk_at"g1";obtain⟨h,f,l,rz,ps,ds,rfl,hh,k⟩:=h;walk_at"g2";rfl
 ·walk_at"g1";obtain⟨h,f,l,rz,ps,ds,rfl,hh,k⟩:=h;walk_at"g2";have nd:=sc_House_rooms.nd;walk_at"hu";have w_dc_House:=m.bE;refine⟨_,(aF (bC (mR (yJ rfl) rfl m.zL v8 (aA (bI (pv 0) rfl) aB)))),?_⟩;refine aP (σ:=[some (.ref h)]) rfl ?_;walk_at"cx";walk_at"g1";obtain⟨dx,qs,qp,qd,nk,kvs,e1,e2,e3,e4,e5,e6,e7⟩:=hh.ex;walk_at"g2";walk_at"go";refine FM (.inl e2) fun p H1 n1 S1 e8=> ?_;rw[XM]at e8;walk_at"go";exact k _ _ n1 S1 e8
theorem zU (m:M K mg):Mc P w K mg base m.aH "rooms" 1 (lF m.aH (aR P w K mg base (some 1)) fun rz _=>rz.map (·.1)):=⟨_,_,_,m.bE.ic.cl,m.AN,m.DG,AM m⟩
theorem zS (m:M K mg):bK P w K mg base CX0 1 m.m8 m.nB ["self"] (lF m.aH (aR P w K mg base (some 1)) fun _ ds=>ds.map (·.1)):=by
 refine m.DM.ok sc_House_doors (fun vs H Q E h=> ?_) (fun cdv A outer s H vs Q E hr h=> ?_)
 ·walk_at"g1";obtain⟨h,f,l,rz,ps,ds,rfl,hh,k⟩:=h;walk_at"g2";rfl
 ·walk_at"g1";obtain⟨h,f,l,rz,ps,ds,rfl,hh,k⟩:=h;walk_at"g2";have nd:=sc_House_doors.nd;walk_at"hu";have w_dc_House:=m.bE;refine⟨_,(aF (bC (mR (yJ rfl) rfl m.zL v8 (aA (bI (pv 0) rfl) aB)))),?_⟩;refine aP (σ:=[some (.ref h)]) rfl ?_;walk_at"cx";walk_at"g1";obtain⟨dx,qs,qp,qd,nk,kvs,e1,e2,e3,e4,e5,e6,e7⟩:=hh.ex;walk_at"g2";walk_at"go";refine FM (.inl e6) fun p H1 n1 S1 e8=> ?_;rw[yR e7]at e8;walk_at"go";exact k _ _ n1 S1 e8
theorem gJ (m:M K mg):Mc P w K mg base m.aH "doors" 1 (lF m.aH (aR P w K mg base (some 1)) fun _ ds=>ds.map (·.1)):=⟨_,_,_,m.bE.ic.cl,m.A1,m.DJ,zS m⟩
inductive kP (C:Addr)(D:bA)(vs:List V)(H:Hp)(Q:VK)(E:XK):Prop
 | mk (h:Addr) (z:Str) (f l:Int) (rz ps:List (Str×Int)) (ds:List aE) (_:vs=[.ref h,.str z]) (_:aO C D H h f l rz ps ds) (_:(rz.map (·.1)).Nodup) (_:z∈rz.map (·.1)) (_:∀H',Same H H'->Q .non H'):kP C D vs H Q E
theorem w6 {C:Addr}{D:bA}{H:Hp}{Q:VK}{E:XK}{h:Addr}{z:Str}{f l:Int}{rz ps:List (Str×Int)}{ds:List aE} (hh:aO C D H h f l rz ps ds) (nr:(rz.map (·.1)).Nodup) (hz:z∈rz.map (·.1)) (k:∀H',Same H H'->Q .non H'):kP C D [.ref h,.str z] H Q E:=⟨_,_,_,_,_,_,_,rfl,hh,nr,hz,k⟩
theorem uX (m:M K mg):bK P w K mg base CX0 2 m.jD m.jH ["self","room"] (kP m.aH (aR P w K mg base (some 1))):=by
 refine m.wN.ok sc_House_need_room (fun vs H Q E h=> ?_) (fun cdv A outer s H vs Q E hr h=> ?_)
 ·walk_at"g1";obtain⟨h,z,f,l,rz,ps,ds,rfl,hh,nr,hz,k⟩:=h;walk_at"g2";rfl
 ·walk_at"g1";obtain⟨h,z,f,l,rz,ps,ds,rfl,hh,nr,hz,k⟩:=h;walk_at"g2";have nd:=sc_House_need_room.nd;walk_at"hu";have gU:= @uA P w K mg base m;have w_dc_House:=m.bE;refine⟨_,(aF (cI (bR gU hr (aA (iB (aA (pv 1) aB)) (aA (bI (pv 0) rfl) aB))))),?_⟩;refine aP (σ:=[some (.ref h),some (.str z)]) rfl ?_;walk_at"cx";walk_at"g1";obtain⟨dx,qs,qp,qd,nk,kvs,e1,e2,e3,e4,e5,e6,e7⟩:=hh.ex;walk_at"g2";obtain⟨i,hi,ev⟩:=FS nr hz;walk_at"go";rename_i p H1 n1 S1 e8;refine IM (ss:=[z]) (SqL.of e8) (.inl (S1 _ _ e2)) (fun y hy=>by cases List.mem_singleton.mp hy;rw[ev];rfl) fun H2 S2=> ?_;walk_at"go";exact k _ (S1.trans S2)
theorem mQ (m:M K mg):Mc P w K mg base m.aH "need_room" 2 (kP m.aH (aR P w K mg base (some 1))):=⟨_,_,_,m.bE.ic.cl,m.vF,m.wT,uX m⟩
inductive sQ (C:Addr)(D:bA)(vs:List V)(H:Hp)(Q:VK)(E:XK):Prop
 | mk (h:Addr) (z:Str) (i f l:Int) (rz ps:List (Str×Int)) (ds:List aE) (_:vs=[.ref h,.str z]) (_:aO C D H h f l rz ps ds) (_:(rz.map (·.1)).Nodup) (_:(z,i)∈rz) (_:∀H',Same H H'->Q (.int i) H'):sQ C D vs H Q E
theorem IQ {C:Addr}{D:bA}{H:Hp}{Q:VK}{E:XK}{h:Addr}{z:Str}{i f l:Int}{rz ps:List (Str×Int)}{ds:List aE} (hh:aO C D H h f l rz ps ds) (nr:(rz.map (·.1)).Nodup) (hz:(z,i)∈rz) (k:∀H',Same H H'->Q (.int i) H'):sQ C D [.ref h,.str z] H Q E:=⟨_,_,_,_,_,_,_,_,rfl,hh,nr,hz,k⟩
theorem zP (m:M K mg):bK P w K mg base CX0 3 m.nH m.nP ["self","room"] (sQ m.aH (aR P w K mg base (some 1))):=by
 refine m.DN.ok sc_House_holds (fun vs H Q E h=> ?_) (fun cdv A outer s H vs Q E hr h=> ?_)
 ·walk_at"g1";obtain⟨h,z,i,f,l,rz,ps,ds,rfl,hh,nr,hz,k⟩:=h;walk_at"g2";rfl
 ·walk_at"g1";obtain⟨h,z,i,f,l,rz,ps,ds,rfl,hh,nr,hz,k⟩:=h;walk_at"g2";have nd:=sc_House_holds.nd;walk_at"hu";have w_dc_House:=m.bE;have w_mc_House_need_room:= @mQ P w K mg base m;refine⟨_,(aC (cI (gE 2 hr (pv 0) (aA (pv 1) aB)))
   (aF (bC (fA hu1 (bI (pv 0) rfl) (pv 1) (fun _ _=>rfl))))),?_⟩
  refine aP (σ:=[some (.ref h),some (.str z)]) rfl ?_;walk_at"cx";walk_at"g1";obtain⟨dx,qs,qp,qd,nk,kvs,e1,e2,e3,e4,e5,e6,e7⟩:=hh.ex;walk_at"g2";walk_at"go";refine w6 hh nr (List.mem_map.mpr ⟨_,hz,rfl⟩) fun H1 S1=> ?_;have e11:=S1 _ _ e1;walk_at"go";refine iL (.inl (S1 _ _ e2)) (z9 nr hz) ?_;walk_at"go";exact k _ S1
theorem lB (m:M K mg):Mc P w K mg base m.aH "holds" 3 (sQ m.aH (aR P w K mg base (some 1))):=⟨_,_,_,m.bE.ic.cl,m.AR,m.DK,zP m⟩
inductive sL (C:Addr)(D:bA)(vs:List V)(H:Hp)(Q:VK)(E:XK):Prop
 | mk (h:Addr) (z:Str) (f l:Int) (rz ps:List (Str×Int)) (ds:List aE) (_:vs=[.ref h,.str z]) (_:aO C D H h f l rz ps ds) (_:(rz.map (·.1)).Nodup) (_:z∈rz.map (·.1)) (_:∀H',Same H H'->Q (.int (cG ps z)) H'):sL C D vs H Q E
theorem IZ {C:Addr}{D:bA}{H:Hp}{Q:VK}{E:XK}{h:Addr}{z:Str}{f l:Int}{rz ps:List (Str×Int)}{ds:List aE} (hh:aO C D H h f l rz ps ds) (nr:(rz.map (·.1)).Nodup) (hz:z∈rz.map (·.1)) (k:∀H',Same H H'->Q (.int (cG ps z)) H'):sL C D [.ref h,.str z] H Q E:=⟨_,_,_,_,_,_,_,rfl,hh,nr,hz,k⟩
theorem zX (m:M K mg):bK P w K mg base CX0 3 m.nM m.nE ["self","room"] (sL m.aH (aR P w K mg base (some 1))):=by
 refine m.DB.ok sc_House_found (fun vs H Q E h=> ?_) (fun cdv A outer s H vs Q E hr h=> ?_)
 ·walk_at"g1";obtain⟨h,z,f,l,rz,ps,ds,rfl,hh,nr,hz,k⟩:=h;walk_at"g2";rfl
 ·walk_at"g1";obtain⟨h,z,f,l,rz,ps,ds,rfl,hh,nr,hz,k⟩:=h;walk_at"g2";have nd:=sc_House_found.nd;walk_at"hu";have w_dc_House:=m.bE;have w_mc_House_need_room:= @mQ P w K mg base m;refine⟨_,(aC (cI (gE 2 hr (pv 0) (aA (pv 1) aB)))
   (aF (bC (fA hu1 (bI (pv 0) rfl) (pv 1) (fun _ _=>rfl))))),?_⟩
  refine aP (σ:=[some (.ref h),some (.str z)]) rfl ?_;walk_at"cx";walk_at"g1";obtain⟨dx,qs,qp,qd,nk,kvs,e1,e2,e3,e4,e5,e6,e7⟩:=hh.ex;walk_at"g2";walk_at"go";refine w6 hh nr hz fun H1 S1=> ?_;have e11:=S1 _ _ e1;walk_at"go";refine iL (.inl (S1 _ _ e3)) (e5 z hz) ?_;walk_at"go";exact k _ S1
theorem rQ (m:M K mg):Mc P w K mg base m.aH "found" 3 (sL m.aH (aR P w K mg base (some 1))):=⟨_,_,_,m.bE.ic.cl,m.AV,m.DQ,zX m⟩
inductive vN (C:Addr)(D:bA)(vs:List V)(H:Hp)(Q:VK)(E:XK):Prop
 | mk (h:Addr) (d:aE) (f l:Int) (rz ps:List (Str×Int)) (ds:List aE) (_:vs=[.ref h,.str d.1]) (_:aO C D H h f l rz ps ds) (_:(ds.map (·.1)).Nodup) (_:d∈ds) (_:∀v,D.at' H v d->Q v H):vN C D vs H Q E
theorem mO {C:Addr}{D:bA}{H:Hp}{Q:VK}{E:XK}{h:Addr}{d:aE}{f l:Int}{rz ps:List (Str×Int)}{ds:List aE} (hh:aO C D H h f l rz ps ds) (nd:(ds.map (·.1)).Nodup) (hd:d∈ds) (k:∀v,D.at' H v d->Q v H):vN C D [.ref h,.str d.1] H Q E:=⟨_,_,_,_,_,_,_,rfl,hh,nd,hd,k⟩
theorem CT (m:M K mg):bK P w K mg base CX0 1 m.pV m.pZ ["self","name"] (vN m.aH (aR P w K mg base (some 1))):=by
 refine m.GN.ok sc_House_door (fun vs H Q E h=> ?_) (fun cdv A outer s H vs Q E hr h=> ?_)
 ·walk_at"g1";obtain⟨h,d,f,l,rz,ps,ds,rfl,hh,ndd,hd,k⟩:=h;walk_at"g2";rfl
 ·walk_at"g1";obtain⟨h,d,f,l,rz,ps,ds,rfl,hh,ndd,hd,k⟩:=h;walk_at"g2";have nd:=sc_House_door.nd;walk_at"hu";have w_dc_House:=m.bE;refine⟨_,(aC (cP (F3 (BF hu1 (pv 1) (bI (pv 0) rfl)) (by with_unfolding_all rfl)) (aF g7) bT)
   (aF (bC (fA hu1 (bI (pv 0) rfl) (pv 1) (fun _ _=>rfl))))),?_⟩
  refine aP (σ:=[some (.ref h),some (.str d.1)]) rfl ?_;walk_at"cx";walk_at"g1";obtain⟨dx,qs,qp,qd,nk,kvs,e1,e2,e3,e4,e5,e6,e7⟩:=hh.ex;walk_at"g2";obtain⟨v,ev,hv⟩:=Q0 e7 ndd hd;walk_at"go";refine yT (.inl e6) ?_;rw[show (aY nk (.inr d.1)).isSome=true by rw[ev];rfl];walk_at"go";refine iL (.inl e6) ev ?_;walk_at"go";exact k _ hv
theorem fT (m:M K mg):Mc P w K mg base m.aH "door" 1 (vN m.aH (aR P w K mg base (some 1))):=⟨_,_,_,m.bE.ic.cl,m.DD,m.GQ,CT m⟩
def bB (rz:List (Str×Int))(f:Int)(n:Nat):List (Str×Int):=((List.range n).map fun (i:Nat)=>rz.map fun e=>(e.1,f+(i:Int))).flatten
theorem jN (rz:List (Str×Int))(f:Int)(n:Nat):bB rz f (n+1)=bB rz f n++rz.map fun e=>(e.1,f+(n:Int)):=by
 unfold bB;rw[List.range_succ,List.map_append,List.flatten_append];simp
theorem nX (rz:List (Str×Int))(f:Int):∀n,(bB rz f n).length=n * rz.length
 | 0=>by simp[bB]
 | n+1=>by rw[jN,List.length_append,nX rz f n,List.length_map,Nat.succ_mul]
theorem D1 {H:Hp}{t:Int}:∀{rz:List (Str×Int)}{ys:List V},Paired (fun (e:Key×V) y=>∀z,e.1= .inr z->cC H y (z,t)) (szK rz) ys->Paired (cC H) ys (rz.map fun e=>(e.1,t))
 | [],_,.nil=> .nil
 | _::_,_,.cons h t=> .cons (h _ rfl) (D1 t)
theorem IN {H H':Hp}{p:Addr}{xs ws:List V}{ps:List (Str×Int)} (h:Paired (cC H) ws ps) (e:H p=some (.lst xs)) (sb:SameBut p H H'):Paired (cC H') ws ps:=Paired.imp' (fun v r ⟨q,e1,h⟩=>⟨q,e1,sb _ _ h fun z=>by rw[z,e]at h;cases h⟩) h
theorem kR {α β:Type}{F:α->β->Prop}:∀{l l2:List α}{m m2:List β},Paired F l m->Paired F l2 m2->Paired F (l++l2) (m++m2)
 | _,_,_,_,.nil,h=>h
 | _,_,_,_,.cons r t,h=> .cons r (kR t h)
inductive tD (C:Addr)(D:bA)(vs:List V)(H:Hp)(Q:VK)(E:XK):Prop
 | mk (h:Addr) (f l:Int) (rz ps:List (Str×Int)) (ds:List aE) (_:vs=[.ref h]) (_:aO C D H h f l rz ps ds) (_:0<=f) (_:f<=l) (_:l<1000000000000) (_:l - f<=1000) (_:rz.length<=20) (_:∀p ys H',H p=none->Same H H'->H' p=some (.lst ys)->Paired (cC H') ys (bB rz f (l+1 - f).toNat)->Q (.ref p) H'):tD C D vs H Q E
theorem wC {C:Addr}{D:bA}{H:Hp}{Q:VK}{E:XK}{h:Addr}{f l:Int}{rz ps:List (Str×Int)}{ds:List aE} (hh:aO C D H h f l rz ps ds) (h0:0<=f) (h1:f<=l) (h2:l<1000000000000) (h3:l - f<=1000) (lr:rz.length<=20) (k:∀p ys H',H p=none->Same H H'->H' p=some (.lst ys)->Paired (cC H') ys (bB rz f (l+1 - f).toNat)->Q (.ref p) H'):tD C D [.ref h] H Q E:=⟨_,_,_,_,_,_,rfl,hh,h0,h1,h2,h3,lr,k⟩
theorem zQ (m:M K mg):bK P w K mg base CX0 1 m.m7 m.nA ["self"] (tD m.aH (aR P w K mg base (some 1))):=by
 refine m.DP.ok sc_House_pairs (fun vs H Q E h=> ?_) (fun cdv A outer s H vs Q E hr h=> ?_)
 ·walk_at"g1";obtain⟨h,f,l,rz,ps,ds,rfl,hh,h0,h1,h2,h3,lr,k⟩:=h;walk_at"g2";rfl
 ·walk_at"g1";obtain⟨h,f,l,rz,ps,ds,rfl,hh,h0,h1,h2,h3,lr,k⟩:=h;walk_at"g2";have nd:=sc_House_pairs.nd;walk_at"hu";have w_dc_House:=m.bE;refine⟨_,(aC (aZ (i:=1) nd rfl (by walk_at"oi") (iB aB))
   (aC (dE PassesOwn.never rfl (qM rfl m.kH (aA (bI (pv 0) rfl) (aA (aJ cF (bI (pv 0) rfl) aG) aB))) (aL (i:=2) nd rfl (by walk_at"oi")) (aF (cI (mK PySem.F.plainAttrs_list PySem.F.slot_list_extend PySem.F.type_list_extend NG (pv 1) (aA (wE (dI (N:=["room","turn"]) (nl:=1) (ci:=[2]) rfl (blk (s.heap.objs.size+1) rfl rfl rfl (by kernel_rfl)) (xF (bI (pv 0) rfl)) (fun _ _ _ _=>(aL (i:=0) (show (["room","turn"]:List Str).Nodup by decide +kernel) rfl (by walk_at"oi"))) (fun _ _ _ _=>iN) (fun _ _ _ _=>(cB (aA (pv 0) (aA (pv 1) aB)))))) aB)))))
   (aF (bC (pv 1))))),?_⟩
  refine aP (σ:=[some (.ref h),none,none]) rfl ?_;walk_at"cx";walk_at"g1";obtain⟨dx,qs,qp,qd,nk,kvs,e1,e2,e3,e4,e5,e6,e7⟩:=hh.ex;walk_at"g2";have hl2:(szK rz).length=rz.length:=by unfold szK;rw[List.length_map]
  walk_at"go";rename_i p H1 n1 S1 ep;have e21:=S1 _ _ e2;have e11:=S1 _ _ e1;have hqsp:qs≠p:=fun z=>by rw[z,n1]at e2;cases e2
  have hhp:h≠p:=fun z=>by rw[z,n1]at e1;cases e1
  let Pv1:Nat->St->Hp->Prop:=fun i σ' H'=>SameBut p H1 H'/\(∃ys,H' p=some (.lst ys)/\Paired (cC H') ys (bB rz f i))/\∃x,σ'=[some (.ref h),some (.ref p),x];refine rE Pv1 ⟨SameBut.refl,⟨[],ep,.nil⟩,_,rfl⟩ ?_ ?_
  ·rintro i _ H' hi hq_;walk_at"g1";obtain⟨sb,⟨ys,ey,hys⟩,x,rfl⟩:=hq_;walk_at"g2";have e2':=sb _ _ e21 hqsp;have e1':=sb _ _ e11 hhp;have hyl:ys.length=i * rz.length:=by rw[Paired.length hys,nX]
   have hyb:ys.length<=1001 * 20:=by
    rw[hyl];exact Nat.mul_le_mul (by lia) lr
   walk_at"go";refine sP e2' KZ ?_;walk_at"go";refine xI e2' fun o H2 B2 e22=> ?_;have hpq:p≠qs:=Ne.symm hqsp;refine O1 (fun _=>true) (fun e y H=>∀z,e.1= .inr z->cC H y (z,f+(i:Int))) (fun _ _ _ _ hh s z hz=>let ⟨q,a1,a2⟩:=hh z hz;⟨q,a1,s _ _ a2⟩) (by rw[sizeLine_eq];lia) (rest:=[some (.int (f+(i:Int)))]) (by rfl) e22 (fun x H6 hx s6 R hR=>hR _ (Same.refl _)) ?_ ?_
   ·rintro x H6 hx - s6 R hR;obtain⟨e,he,rfl⟩:=List.mem_map.mp hx;show (_:TE) (some (V.str e.1)::[some (.int (f+(i:Int)))]) H6 R;walk_at"go";rename_i q7 H7 n7 S7 e77;exact hR _ _ (fun z hz=>by cases hz;exact⟨q7,rfl,e77⟩) S7
   intro zs H3 s3 hzs;rw[jZ]at hzs;have hzp:=D1 hzs;walk_at"go";rename_i q4 H4 n4 S4 e44;refine mT (S4 _ _ (s3 _ _ e22)) fun H5 B5 e55=> ?_;have hq4:q4≠qs:=fun z=>by rw[z,s3 _ _ e22]at n4;cases n4
   have ey2:=B2 _ _ ey hpq;have ey5:H5 p=some (.lst ys):=B5 _ _ (S4 _ _ (s3 _ _ ey2)) hpq;have sX:Same H' H5:=CD e2' B2 (Same.but (s3.trans S4)) B5 e55;have hz5:Paired (cC H5) zs (rz.map fun e=>(e.1,f+(i:Int))):=Paired.imp' (fun v r ⟨q,a1,a2⟩=>⟨q,a1,B5 _ _ (S4 _ _ a2) fun z=>by rw[z,s3 _ _ e22]at a2;cases a2⟩) hzp;have hzl:zs.length=rz.length:=by rw[Paired.length hz5,List.length_map]
   walk_at"go";refine NM ey5 (B5 _ _ e44 hq4) (by rw[sizeLine_eq];lia) fun H6 B6 e66=> ?_;walk_at"go";refine⟨(sb.trans sX.but).trans B6,⟨_,e66,?_⟩,_,rfl⟩;rw[jN];exact kR (IN (kK hys sX) ey5 B6) (IN hz5 ey5 B6)
  ·rintro _ H' hq_;walk_at"g1";obtain⟨sb,⟨ys,ey,hys⟩,x,rfl⟩:=hq_;walk_at"g2";walk_at"go";exact k _ _ _ n1 (SameBut.same n1 S1 sb) ey hys
theorem iZ (m:M K mg):Mc P w K mg base m.aH "pairs" 1 (tD m.aH (aR P w K mg base (some 1))):=⟨_,_,_,m.bE.ic.cl,m.A4,m.C6,zQ m⟩
local macro_rules| `(tactic| walk_at"rd1")=> `(tactic| first|(with_reducible refine WE ?_)|(with_reducible refine rd_v13 ?_)|(with_reducible refine rd_s13 ?_)|(with_reducible refine rd_v14 ?_)|(with_reducible refine rd_s14 ?_)|(with_reducible refine rd_v15 ?_)|(with_reducible refine rd_s15 ?_)|(with_reducible refine rd_v16 ?_)|(with_reducible refine rd_s16 ?_)|(with_reducible refine rd_v17 ?_)|(with_reducible refine rd_s17 ?_)|(with_reducible refine rd_v18 ?_)|(with_reducible refine rd_s18 ?_)|(with_reducible refine rd_iEnum ?_)|((with_reducible refine' rd_iEnumV ?e ?_);(case e=>walk_at"hp"))|((with_reducible refine' rd_repS ?a ?b ?c ?_);(case a=>walk_at"sd");(case b=>walk_at"sd");(case c=>walk_at"sz")))
def kS (rz ps:List (Str×Int)):Int:=(rz.map fun e=>cG ps e.1).sum
theorem wY {rz ps:List (Str×Int)}:∀{kvs:List (Key×V)}{l:List (Str×Int)},(kvs.map (·.1)).Nodup->kvs.map (·.1)=(szK l).map (·.1)->(∀e∈l,∀v,(Sum.inr e.1,v)∈kvs->v= .int (cG ps e.1))->kvs.map (·.2)=(l.map fun e=>cG ps e.1).map V.int
 | [],[],_,_,_=>rfl
 | [],_::_,_,h,_=>by cases h
 | _::_,[],_,h,_=>by cases h
 | (k,v)::kvs,e::l,nd,h,hv=>by
  have h1:=(List.cons.inj h).1;have h2:=(List.cons.inj h).2;have nd2:=(List.nodup_cons.mp nd).2;have ih:=wY (rz:=rz) (ps:=ps) (kvs:=kvs) (l:=l) nd2 h2 fun e' he' v' hv'=>hv e' (List.mem_cons_of_mem _ he') v' (List.mem_cons_of_mem _ hv');have hk:k= .inr e.1:=h1;rw[List.map_cons,List.map_cons,List.map_cons,ih]
  congr 1
  exact hv e (.head _) v (by rw[hk];exact .head _)
inductive sZ (C:Addr)(D:bA)(vs:List V)(H:Hp)(Q:VK)(E:XK):Prop
 | mk (h:Addr) (f l:Int) (rz ps:List (Str×Int)) (ds:List aE) (_:vs=[.ref h]) (_:aO C D H h f l rz ps ds) (_:(rz.map (·.1)).Nodup) (_:∀H',Same H H'->Q (.int (kS rz ps)) H'):sZ C D vs H Q E
theorem VI {C:Addr}{D:bA}{H:Hp}{Q:VK}{E:XK}{h:Addr}{f l:Int}{rz ps:List (Str×Int)}{ds:List aE} (hh:aO C D H h f l rz ps ds) (nr:(rz.map (·.1)).Nodup) (k:∀H',Same H H'->Q (.int (kS rz ps)) H'):sZ C D [.ref h] H Q E:=⟨_,_,_,_,_,_,rfl,hh,nr,k⟩
theorem AE (m:M K mg):bK P w K mg base CX0 1 m.mZ m.nD ["self"] (sZ m.aH (aR P w K mg base (some 1))):=by
 refine m.DF.ok sc_House_total (fun vs H Q E h=> ?_) (fun cdv A outer s H vs Q E hr h=> ?_)
 ·walk_at"g1";obtain⟨h,f,l,rz,ps,ds,rfl,hh,nr,k⟩:=h;walk_at"g2";rfl
 ·walk_at"g1";obtain⟨h,f,l,rz,ps,ds,rfl,hh,nr,k⟩:=h;walk_at"g2";have nd:=sc_House_total.nd;walk_at"hu";have w_dc_House:=m.bE;refine⟨_,(aF (bC (bJ (O2 rfl) rfl m.L4 E9 (aA (JU (bI (pv 0) rfl)) aB)))),?_⟩;refine aP (σ:=[some (.ref h)]) rfl ?_;walk_at"cx";walk_at"g1";obtain⟨dx,qs,qp,qd,nk,kvs,e1,e2,e3,e4,e5,e6,e7⟩:=hh.ex;walk_at"g2";have ndk:(kvs.map (·.1)).Nodup:=by rw[e4,IA];exact uQ nr
  have hv:kvs.map (·.2)=(rz.map fun e=>cG ps e.1).map V.int:=wY (rz:=rz) ndk e4 fun e he v hm=>by
   have h1:=kE ndk hm;have h2:=e5 e.1 (List.mem_map.mpr ⟨e,he,rfl⟩);have h3:aY kvs (.inr e.1)=some v:=h1;rw[h2]at h3;exact(Option.some.inj h3).symm
  walk_at"go";refine R7 (.inl e3) fun v H1 n1 S1 ev=> ?_;walk_at"go";refine WU ev (.inl (S1 _ _ e3)) hv ?_;exact k _ S1
theorem zV (m:M K mg):Mc P w K mg base m.aH "total" 1 (sZ m.aH (aR P w K mg base (some 1))):=⟨_,_,_,m.bE.ic.cl,m.A0,m.DL,AE m⟩
def i9 (f l:Int)(d:aE)(t:Int):Int:=if f<=t/\t<l then d.2.2.2 t else 0
inductive tI (C:Addr)(D:bA)(vs:List V)(H:Hp)(Q:VK)(E:XK):Prop
 | mk (h:Addr) (d:aE) (t f l:Int) (rz ps:List (Str×Int)) (ds:List aE) (_:vs=[.ref h,.str d.1,.int t]) (_:aO C D H h f l rz ps ds) (_:(ds.map (·.1)).Nodup) (_:d∈ds) (_:0<=f) (_:∀H',Same H H'->Q (.int (i9 f l d t)) H'):tI C D vs H Q E
theorem JP {C:Addr}{D:bA}{H:Hp}{Q:VK}{E:XK}{h:Addr}{d:aE}{t f l:Int}{rz ps:List (Str×Int)}{ds:List aE} (hh:aO C D H h f l rz ps ds) (nd:(ds.map (·.1)).Nodup) (hd:d∈ds) (hf:0<=f) (k:∀H',Same H H'->Q (.int (i9 f l d t)) H'):tI C D [.ref h,.str d.1,.int t] H Q E:=⟨_,_,_,_,_,_,_,_,rfl,hh,nd,hd,hf,k⟩
theorem CK (m:M K mg):bK P w K mg base CX0 3 m.pB m.p8 ["self","name","turn"] (tI m.aH (aR P w K mg base (some 1))):=by
 refine m.GH.ok sc_House_lets (fun vs H Q E h=> ?_) (fun cdv A outer s H vs Q E hr h=> ?_)
 ·walk_at"g1";obtain⟨h,d,t,f,l,rz,ps,ds,rfl,hh,ndd,hd,hf,k⟩:=h;walk_at"g2";rfl
 ·walk_at"g1";obtain⟨h,d,t,f,l,rz,ps,ds,rfl,hh,ndd,hd,hf,k⟩:=h;walk_at"g2";have nd:=sc_House_lets.nd;walk_at"hu";have w_dc_House:=m.bE;have w_mc_House_door:= @fT P w K mg base m;refine⟨_,(aC (aZ (i:=3) nd rfl (by walk_at"oi") (gE 1 hr (pv 0) (aA (pv 1) aB)))
   (aC (cP (PW.pt (yN (bL nW (pv 2) (bI (pv 0) rfl) (bO _)) (uM (bL DT (pv 2) (bI (pv 0) rfl) (bO _))))) (aF (bC aG)) bT)
   (aF (bC (gE 1 hr (pv 3) (aA (pv 2) aB)))))),?_⟩
  refine aP (σ:=[some (.ref h),some (.str d.1),some (.int t),none]) rfl ?_;walk_at"cx";walk_at"g1";obtain⟨dx,qs,qp,qd,nk,kvs,e1,_⟩:=hh.ex;walk_at"g2";walk_at"g1";obtain⟨n,st,e,lt⟩:=d;walk_at"g2";walk_at"go";refine mO (d:=(n,st,e,lt)) hh ndd hd fun v hv=> ?_;walk_at"g1";obtain⟨q2,C2,dx2,fs2,fp2,rfl,hq2,dcC,l1,l2,l3,l4,l5,mcE,hfp,hlt⟩:=DoorAt.ex hv;walk_at"g2";obtain⟨sp,mcL,hsp⟩:=hlt _ rfl;walk_at"go";refine gO (fun hc=> ?_) (fun hc=> ?_)
  ·have hk:i9 f l (n,st,e,lt) t=0:=by unfold i9;rw[if_neg (by lia)]
   rw[hk]at k;walk_at"go";exact k _ (Same.refl _)
  ·walk_at"go";refine gO (fun hc2=> ?_) (fun hc2=> ?_)
   ·have hk:i9 f l (n,st,e,lt) t=0:=by unfold i9;rw[if_neg (by lia)]
    rw[hk]at k;walk_at"go";exact k _ (Same.refl _)
   ·have hk:i9 f l (n,st,e,lt) t=lt t:=by unfold i9;rw[if_pos (by lia)]
    rw[hk]at k;walk_at"go";exact hsp _ _ _ hq2 (fun x hx=>(hfp x hx).1) (by lia) k
theorem t8 (m:M K mg):Mc P w K mg base m.aH "lets" 3 (tI m.aH (aR P w K mg base (some 1))):=⟨_,_,_,m.bE.ic.cl,m.DH,m.GP,CK m⟩
def FZ (H:Hp)(v:V)(r:aI):Prop:=∃q,v= .ref q/\H q=some (.tup [.int r.1,.str r.2.1,.int r.2.2])
abbrev cA (H:Hp)(vs:List V)(rows:List aI):Prop:=Paired (FZ H) vs rows
theorem fR {H H':Hp}{vs:List V}{rows:List aI} (h:cA H vs rows) (s:Same H H'):cA H' vs rows:=Paired.imp' (fun v r ⟨q,e,h⟩=>⟨q,e,s _ _ h⟩) h
theorem qT {α β:Type}{F:α->β->Prop}:∀{l:List α}{m:List β},Paired F l m->Paired (fun b a=>F a b) m l
 | _,_,.nil=> .nil
 | _,_,.cons h t=> .cons h (qT t)
def cnt (ns:List Str)(f l:Int)(r:aI):Bool:=decide (r.2.1∈ns)&&(decide (f<=r.1)&&decide (r.1<l))
inductive tH (K:PySem.W.Frag)(C:Addr)(D:bA)(vs:List V)(H:Hp)(Q:VK)(E:XK):Prop
 | mk (h a:Addr) (f l:Int) (rz ps:List (Str×Int)) (ds:List aE) (us:List V) (rows:List aI) (_:vs=[.ref h,.ref a]) (_:aO C D H h f l rz ps ds) (_:SqL K H a us) (_:cA H us rows) (_:rows.length<=300) (_:∀p ys H',H p=none->Same H H'->H' p=some (.lst ys)->cA H' ys (rows.filter (cnt (ds.map (·.1)) f l))->Q (.ref p) H'):tH K C D vs H Q E
theorem AC {C:Addr}{D:bA}{H:Hp}{Q:VK}{E:XK}{h a:Addr}{f l:Int}{rz ps:List (Str×Int)}{ds:List aE}{us:List V}{rows:List aI} (hh:aO C D H h f l rz ps ds) (hS:SqL K H a us) (hp:cA H us rows) (hl:rows.length<=300) (k:∀p ys H',H p=none->Same H H'->H' p=some (.lst ys)->cA H' ys (rows.filter (cnt (ds.map (·.1)) f l))->Q (.ref p) H'):tH K C D [.ref h,.ref a] H Q E:=⟨_,_,_,_,_,_,_,_,_,rfl,hh,hS,hp,hl,k⟩
theorem uK (m:M K mg):bK P w K mg base CX0 2 m.jE m.jJ ["house","plan"] (tH K m.aH (aR P w K mg base (some 1))):=by
 refine m.cK.ok sc_rows_that_count (fun vs H Q E h=> ?_) (fun cdv A outer s H vs Q E hr h=> ?_)
 ·walk_at"g1";obtain⟨h,a,f,l,rz,ps,ds,us,rows,rfl,hh,hS,hpl,hlen,k⟩:=h;walk_at"g2";rfl
 ·walk_at"g1";obtain⟨h,a,f,l,rz,ps,ds,us,rows,rfl,hh,hS,hpl,hlen,k⟩:=h;walk_at"g2";have nd:=sc_rows_that_count.nd;walk_at"hu";have w_dc_House:=m.bE;have w_mc_House_doors:= @gJ P w K mg base m;refine⟨_,(aC (aZ (i:=2) nd rfl (by walk_at"oi") (fV 1 hr (pv 0)))
   (aF (bC (dI (N:=["row","doors","house"]) (nl:=1) (ci:=[2,0]) rfl (blk (s.heap.objs.size+1) rfl rfl rfl (by kernel_rfl)) (bW (pv 1)) (fun _ _ _ _=>(aL (i:=0) (show (["row","doors","house"]:List Str).Nodup by decide +kernel) rfl (by walk_at"oi"))) (fun _ _ _ _=>(mP (PW.pt (zF (bL (KO (K:=K)) (cH (rB (K:=K)) (pv 0) aG (fun _ _=>rfl)) (pv 1) (by with_unfolding_all rfl)) (zY (R4 K0 nW (rK (K:=K) (pv 2) rfl) (cH (rB (K:=K)) (pv 0) aG (fun _ _=>rfl)) (rK (K:=K) (pv 2) rfl))))))) (fun _ _ _ _=>(pv 0)))))),?_⟩
  refine aP (σ:=[some (.ref h),some (.ref a),none]) rfl ?_;walk_at"cx";walk_at"g1";obtain⟨dx,qs,qp,qd,nk,kvs,e1,e2,e3,e4,e5,e6,e7⟩:=hh.ex;walk_at"g2";walk_at"go";refine oF hh fun p1 H1 n1 S1 e8=> ?_;have e11:=S1 _ _ e1;walk_at"go";refine rA (α:=aI) (xs:=rows) (vs:=us) (FZ H1) (cnt (ds.map (·.1)) f l) (fun r y H=>FZ H y r) (fun _ _ _ _ ⟨q,h1,h2⟩ s=>⟨q,h1,s _ _ h2⟩) (by rw[sizeLine_eq];lia) (rest:=[some (.ref p1),some (.ref h)]) (by rfl) (S1.seq hS) (fR hpl S1) ?_ ?_ ?_
  ·rintro v ⟨t0,n0,j0⟩ H2 ⟨q,rfl,hq⟩ hm s2 R hR;have hq':H2 q=some (.tup [.int t0,.str n0,.int j0]):=s2 _ _ hq;have ep:=s2 _ _ e8;have eh:=s2 _ _ e11;walk_at"go";refine⟨q,_,1,_,rfl,rfl,SqT.of hq',rfl,?_⟩;walk_at"go";refine NA (SqL.of ep) ?_;have hR':=hR _ (Same.refl _);unfold cnt at hR';walk_at"go";refine gO (fun hc=> ?_) (fun hc=> ?_)
   ·rw[decide_eq_true hc,Bool.true_and]at hR';walk_at"go";refine⟨q,_,0,_,rfl,rfl,SqT.of hq',rfl,?_⟩;walk_at"go";refine gO (fun hc2=> ?_) (fun hc2=> ?_)
    ·rw[decide_eq_true hc2,Bool.true_and]at hR';walk_at"go";exact hR'
    ·rw[decide_eq_false hc2,Bool.false_and]at hR';exact⟨false,rfl,hR'⟩
   ·rw[decide_eq_false hc,Bool.false_and]at hR';exact hR'
  ·rintro v ⟨t0,n0,j0⟩ H2 ⟨q,rfl,hq⟩ hm - s2 R hR;walk_at"go";exact hR _ _ ⟨q,rfl,s2 _ _ hq⟩ (Same.refl _)
  intro ys H2 s2 hys;have hpl2:=qT hys;walk_at"go";rename_i p3 H3 n3 S3 e33;refine k _ _ _ ?_ ((S1.trans s2).trans S3) e33 (fR hpl2 S3);cases hq:H p3 with
  | none=>rfl
  | some u=>rw[s2 _ _ (S1 _ _ hq)]at n3;cases n3
theorem iT (m:M K mg):Fc P w K mg base "rows_that_count" 2 ["house","plan"] (tH K m.aH (aR P w K mg base (some 1))):=⟨_,_,m.wS,m.cK.kp,m.wR,uK m⟩
def uY (key:aI->Option (List Key))(kvs:List (List Key×V))(r:aI):List (List Key×V):=match key r with
 | some k=>b9 kvs k (.int (jP ((aY kvs k).getD (.int 0))+r.2.2))
 | none=>kvs
def jA (key:aI->Option (List Key))(rows:List aI):List (List Key×V):=rows.foldl (uY key) []
theorem kC (key:aI->Option (List Key))(rows:List aI)(r:aI):jA key (rows++[r])=uY key (jA key rows) r:=by unfold jA;rw[List.foldl_append];rfl
def jX (key:aI->Option (List Key))(rows:List aI)(k:List Key):Int:=((rows.filter fun r=>decide (key r=some k)).map (·.2.2)).sum
theorem O3 (key:aI->Option (List Key))(rows:List aI)(r:aI)(k:List Key):jX key (rows++[r]) k=jX key rows k+if key r=some k then r.2.2 else 0:=by
 unfold jX;rw[List.filter_append,List.map_append,List.sum_append]
 congr 1
 by_cases h:key r=some k
 ·rw[if_pos h];simp[h]
 ·rw[if_neg h];simp[h]
theorem QC (key:aI->Option (List Key))(k:List Key)(rows:List aI):jP ((aY (jA key rows) k).getD (.int 0))=jX key rows k:=by
 induction rows using kB with
 | h0=>rfl
 | hs l r ih =>
  rw[kC,O3];unfold uY;cases hk:key r with
  | none =>
   rw[if_neg (by intro z;cases z),Int.add_zero];exact ih
  | some k2 =>
   show jP ((aY (b9 (jA key l) k2 _) k).getD (.int 0))=_;rw[gX]
   by_cases e:k=k2
   ·subst e;rw[if_pos rfl,if_pos rfl,←ih];rfl
   ·rw[if_neg e,if_neg (fun z=>e (Option.some.inj z).symm),Int.add_zero];exact ih
theorem OZ (key:aI->Option (List Key))(rows:List aI):∀e∈jA key rows,∃i,e.2= .int i:=by
 induction rows using kB with
 | h0=>intro e h;nomatch h
 | hs l r ih =>
  rw[kC];unfold uY;cases hk:key r with
  | none=>exact ih
  | some k2 =>
   intro e he;rcases tM he with h|⟨h1,h2⟩
   ·exact ih e h
   ·exact⟨_,h2⟩
theorem xK (key:aI->Option (List Key))(rows:List aI)(k:List Key):∃i,(aY (jA key rows) k).getD (.int 0)= .int i:=by
 cases h:aY (jA key rows) k with
 | none=>exact⟨0,rfl⟩
 | some v =>
  obtain⟨i,e⟩:=OZ key rows _ (iK h);exact⟨i,e⟩
theorem D6 (key:aI->Option (List Key))(rows:List aI):(jA key rows).length<=rows.length:=by
 induction rows using kB with
 | h0=>exact Nat.le_refl _
 | hs l r ih =>
  rw[kC,List.length_append];unfold uY;cases hk:key r with
  | none=>exact Nat.le_trans ih (Nat.le_add_right _ _)
  | some k2=>exact Nat.le_trans (c8 _ _ _) (by simp;lia)
def dY (ds:List aE)(n:Str):Option aE:=ds.find? fun d=>decide (d.1=n)
theorem nV {ds:List aE}{n:Str} (h:n∈ds.map (·.1)):∃d∈ds,d.1=n/\dY ds n=some d:=by
 obtain⟨d,hd,e⟩:=List.mem_map.mp h;cases hf:dY ds n with
 | none =>
  have:=List.find?_eq_none.mp hf d hd;exact absurd (decide_eq_true e) this
 | some d2 =>
  have h1:decide (d2.1=n)=true:=List.find?_some (p:=fun d:aE=>decide (d.1=n)) hf;exact⟨d2,List.mem_of_find?_eq_some hf,of_decide_eq_true h1,rfl⟩
def iF (ds:List aE)(r:aI):Option (List Key):=(dY ds r.2.1).map fun d=>[.inr d.2.1,.inl r.1]
def gK (ds:List aE)(r:aI):Option (List Key):=(dY ds r.2.1).bind fun d=>match d.2.2.1 with
 | .str z=>some [.inr z,.inl r.1]
 | _=>none
inductive lD (K:PySem.W.Frag)(C:Addr)(D:bA)(key:List aE->aI->Option (List Key))(vs:List V)(H:Hp)(Q:VK)(E:XK):Prop
 | mk (h a:Addr) (f l:Int) (rz ps:List (Str×Int)) (ds:List aE) (us:List V) (rows:List aI) (_:vs=[.ref h,.ref a]) (_:aO C D H h f l rz ps ds) (_:(ds.map (·.1)).Nodup) (_:(∀d∈ds,dF (rz.map (·.1)) d)) (_:SqL K H a us) (_:cA H us rows) (_:rows.length<=300) (_:∀p H',H p=none->Same H H'->H' p=some (.dT (jA (key ds) (rows.filter (cnt (ds.map (·.1)) f l))))->Q (.ref p) H'):lD K C D key vs H Q E
theorem AD {C:Addr}{D:bA}{key:List aE->aI->Option (List Key)}{H:Hp}{Q:VK}{E:XK}{h a:Addr}{f l:Int}{rz ps:List (Str×Int)}{ds:List aE}{us:List V}{rows:List aI} (hh:aO C D H h f l rz ps ds) (nd:(ds.map (·.1)).Nodup) (hin:∀d∈ds,dF (rz.map (·.1)) d) (hS:SqL K H a us) (hp:cA H us rows) (hl:rows.length<=300) (k:∀p H',H p=none->Same H H'->H' p=some (.dT (jA (key ds) (rows.filter (cnt (ds.map (·.1)) f l))))->Q (.ref p) H'):lD K C D key [.ref h,.ref a] H Q E:=⟨_,_,_,_,_,_,_,_,_,rfl,hh,nd,hin,hS,hp,hl,k⟩
theorem LC (m:M K mg):bK P w K mg base CX0 3 m.vG m.vJ ["house","plan"] (lD K m.aH (aR P w K mg base (some 1)) iF):=by
 refine m.kI.ok sc_leaving (fun vs H Q E h=> ?_) (fun cdv A outer s H vs Q E hr h=> ?_)
 ·walk_at"g1";obtain⟨h,a,f,l,rz,ps,ds,us,rows,rfl,hh,ndd,hin,hS,hpl,hlen,k⟩:=h;walk_at"g2";rfl
 ·walk_at"g1";obtain⟨h,a,f,l,rz,ps,ds,us,rows,rfl,hh,ndd,hin,hS,hpl,hlen,k⟩:=h;walk_at"g2";have nd:=sc_leaving.nd;walk_at"hu";have cK:= @iT P w K mg base m;have w_dc_House:=m.bE;have w_mc_House_door:= @fT P w K mg base m;refine⟨_,(aC (aZ (i:=2) nd rfl (by walk_at"oi") oP)
   (aC (dE PassesOwn.never rfl (bW (bR cK hr (aA (pv 0) (aA (pv 1) aB)))) (mU (n:=3) rfl (bD (aL (i:=3) nd rfl (by walk_at"oi")) (bD (aL (i:=4) nd rfl (by walk_at"oi")) (bD (aL (i:=5) nd rfl (by walk_at"oi")) dO)))) (aC (aZ (i:=6) nd rfl (by walk_at"oi") (cB (aA (bI (gE 1 hr (pv 0) (aA (pv 4) aB)) rfl) (aA (pv 3) aB))))
   (aF (fQ hu1 (pv 2) (pv 6) (aJ cF (g6 hu1 (pv 2) (pv 6) aG ⟨rfl,rfl,rfl,rfl⟩) (pv 5)) rfl))))
   (aF (bC (pv 2))))),?_⟩
  refine aP (σ:=[some (.ref h),some (.ref a),none,none,none,none,none]) rfl ?_;walk_at"cx";walk_at"go";rename_i p H1 n1 S1 ep;refine AC (aV hh S1) (S1.seq hS) (fR hpl S1) hlen fun q ys H2 n2 S2 eq hcr=> ?_;generalize hce:rows.filter (cnt (ds.map (·.1)) f l)=cr at hcr k;have hcn:∀r∈cr,r.2.1∈ds.map (·.1):=fun r hr=>by
   rw[←hce]at hr;have:=(List.mem_filter.mp hr).2;unfold cnt at this;rw[Bool.and_eq_true]at this;exact of_decide_eq_true this.1
  have hcl:cr.length<=300:=by rw[←hce];exact Nat.le_trans (List.length_filter_le _ _) hlen
  have hyl:ys.length=cr.length:=Paired.length hcr;have ep2:=S2 _ _ ep;have hqp:q≠p:=fun z=>by rw[z,ep]at n2;cases n2
  have hh2:=aV hh (S1.trans S2);have npd:∀x u,H x=some u->x≠p:=fun x u hx z=>by rw[z,n1]at hx;cases hx
  walk_at"go";let Pv1:Nat->St->Hp->Prop:=fun i σ' H'=>SameBut p H2 H'/\H' p=some (.dT (jA (iF ds) (cr.take i)))/\∃x y z u,σ'=[some (.ref h),some (.ref a),some (.ref p),x,y,z,u];refine eZ ys Pv1 ⟨SameBut.refl,ep2,_,_,_,_,rfl⟩ (fun i σ' H' _ g=>SqL.of (g.1 _ _ eq hqp)) ?_ ?_
  ·rintro i x _ H' hx hq_;walk_at"g1";obtain⟨sb,ek,x1,x2,x3,x4,rfl⟩:=hq_;walk_at"g2";have hi:i<ys.length:=(List.getElem?_eq_some_iff.mp hx).1;obtain⟨⟨t,n,j⟩,hrx⟩:∃r,cr[i]? =some r:=⟨_,List.getElem?_eq_getElem (by lia)⟩
   obtain⟨q1,rfl,hq1⟩:=Paired.at2 hcr hx hrx;have hq1':H' q1=some (.tup [.int t,.str n,.int j]):=sb _ _ hq1 fun z=>by rw[z,ep2]at hq1;cases hq1
   have sH:Same H H':=fun x u hx=>sb _ _ (S2 _ _ (S1 _ _ hx)) (npd x u hx);have hh':=aV hh sH;walk_at"g1";obtain⟨dx,qs,qp,qd,nk,kvs,e1,_⟩:=hh'.ex;walk_at"g2";walk_at"g1";obtain⟨⟨dn,dst,de,dw⟩,hd,rfl,hdo⟩:=nV (hcn _ (List.mem_of_getElem? hrx));walk_at"g2";have hkey:iF ds (t,dn,j)=some [.inr dst,.inl t]:=by
    unfold iF;rw[show dY ds ((t,dn,j):aI).2.1=some (dn,dst,de,dw) from hdo];rfl
   obtain⟨i0,ei⟩:=xK (iF ds) (cr.take i) [.inr dst,.inl t];have hkl:=D6 (iF ds) (cr.take i);rw[List.length_take]at hkl;walk_at"go";refine mO (d:=(dn,dst,de,dw)) hh' ndd hd fun v hv=> ?_;walk_at"g1";obtain⟨q2,C2,dx2,fs2,fp2,rfl,hq2,dcC,l1,l2,l3,l4,l5,mcE,hfp,hlt⟩:=DoorAt.ex hv;walk_at"g2";walk_at"go";rename_i b3 H3 n3 S3 e3;refine fW (S3 _ _ ek) ?_;walk_at"go";refine gZ [.inr dst,.inl t] (S3 _ _ ek) e3 ?_;rw[ei];walk_at"go";refine lE [.inr dst,.inl t] (S3 _ _ ek) e3 (by rw[sizeLine_eq];lia) fun H4 B4 e4=> ?_;refine⟨(sb.trans S3.but).trans B4,?_,_,_,_,_,rfl⟩;rw[e4,cD hrx,kC];unfold uY;rw[hkey];show _=some (HO.dT (b9 _ _ (.int (jP ((aY _ _).getD (.int 0))+j))));rw[ei];rfl
  ·rintro _ H' hq_;walk_at"g1";obtain⟨sb,ek,x1,x2,x3,x4,rfl⟩:=hq_;walk_at"g2";rw[hyl,List.take_length]at ek;walk_at"go";exact k _ _ n1 (fun x u hx=>sb _ _ (S2 _ _ (S1 _ _ hx)) (npd x u hx)) ek
theorem yV (m:M K mg):Fc P w K mg base "leaving" 3 ["house","plan"] (lD K m.aH (aR P w K mg base (some 1)) iF):=⟨_,_,m.O7,m.kI.kp,m.PB,LC m⟩
theorem ML (m:M K mg):bK P w K mg base CX0 3 m.xW m.yA ["house","plan"] (lD K m.aH (aR P w K mg base (some 1)) gK):=by
 refine m.t6.ok sc_coming (fun vs H Q E h=> ?_) (fun cdv A outer s H vs Q E hr h=> ?_)
 ·walk_at"g1";obtain⟨h,a,f,l,rz,ps,ds,us,rows,rfl,hh,ndd,hin,hS,hpl,hlen,k⟩:=h;walk_at"g2";rfl
 ·walk_at"g1";obtain⟨h,a,f,l,rz,ps,ds,us,rows,rfl,hh,ndd,hin,hS,hpl,hlen,k⟩:=h;walk_at"g2";have nd:=sc_coming.nd;walk_at"hu";have cK:= @iT P w K mg base m;have w_dc_House:=m.bE;have w_mc_House_door:= @fT P w K mg base m;refine⟨_,(aC (aZ (i:=2) nd rfl (by walk_at"oi") oP)
   (aC (dE PassesOwn.never rfl (bW (bR cK hr (aA (pv 0) (aA (pv 1) aB)))) (mU (n:=3) rfl (bD (aL (i:=3) nd rfl (by walk_at"oi")) (bD (aL (i:=4) nd rfl (by walk_at"oi")) (bD (aL (i:=5) nd rfl (by walk_at"oi")) dO)))) (aC (aZ (i:=6) nd rfl (by walk_at"oi") (gE 1 hr (pv 0) (aA (pv 4) aB)))
   (aF (cP (oO (jO (fV 1 hr (pv 6)))) (aC (aZ (i:=7) nd rfl (by walk_at"oi") (cB (aA (bI (pv 6) rfl) (aA (pv 3) aB))))
   (aF (fQ hu1 (pv 2) (pv 7) (aJ cF (g6 hu1 (pv 2) (pv 7) aG ⟨rfl,rfl,rfl,rfl⟩) (pv 5)) rfl))) bT))))
   (aF (bC (pv 2))))),?_⟩
  refine aP (σ:=[some (.ref h),some (.ref a),none,none,none,none,none,none]) rfl ?_;walk_at"cx";walk_at"go";rename_i p H1 n1 S1 ep;refine AC (aV hh S1) (S1.seq hS) (fR hpl S1) hlen fun q ys H2 n2 S2 eq hcr=> ?_;generalize hce:rows.filter (cnt (ds.map (·.1)) f l)=cr at hcr k;have hcn:∀r∈cr,r.2.1∈ds.map (·.1):=fun r hr=>by
   rw[←hce]at hr;have:=(List.mem_filter.mp hr).2;unfold cnt at this;rw[Bool.and_eq_true]at this;exact of_decide_eq_true this.1
  have hcl:cr.length<=300:=by rw[←hce];exact Nat.le_trans (List.length_filter_le _ _) hlen
  have hyl:ys.length=cr.length:=Paired.length hcr;have ep2:=S2 _ _ ep;have hqp:q≠p:=fun z=>by rw[z,ep]at n2;cases n2
  have hh2:=aV hh (S1.trans S2);have npd:∀x u,H x=some u->x≠p:=fun x u hx z=>by rw[z,n1]at hx;cases hx
  walk_at"go";let Pv2:Nat->St->Hp->Prop:=fun i σ' H'=>SameBut p H2 H'/\H' p=some (.dT (jA (gK ds) (cr.take i)))/\∃x y z u w,σ'=[some (.ref h),some (.ref a),some (.ref p),x,y,z,u,w];refine eZ ys Pv2 ⟨SameBut.refl,ep2,_,_,_,_,_,rfl⟩ (fun i σ' H' _ g=>SqL.of (g.1 _ _ eq hqp)) ?_ ?_
  ·rintro i x _ H' hx hq_;walk_at"g1";obtain⟨sb,ek,x1,x2,x3,x4,x5,rfl⟩:=hq_;walk_at"g2";have hi:i<ys.length:=(List.getElem?_eq_some_iff.mp hx).1;obtain⟨⟨t,n,j⟩,hrx⟩:∃r,cr[i]? =some r:=⟨_,List.getElem?_eq_getElem (by lia)⟩
   obtain⟨q1,rfl,hq1⟩:=Paired.at2 hcr hx hrx;have hq1':H' q1=some (.tup [.int t,.str n,.int j]):=sb _ _ hq1 fun z=>by rw[z,ep2]at hq1;cases hq1
   have sH:Same H H':=fun x u hx=>sb _ _ (S2 _ _ (S1 _ _ hx)) (npd x u hx);have hh':=aV hh sH;walk_at"g1";obtain⟨dx,qs,qp,qd,nk,kvs,e1,_⟩:=hh'.ex;walk_at"g2";walk_at"g1";obtain⟨⟨dn,dst,de,dw⟩,hd,rfl,hdo⟩:=nV (hcn _ (List.mem_of_getElem? hrx));walk_at"g2";have hkl:=D6 (gK ds) (cr.take i);rw[List.length_take]at hkl;have hend:=(hin _ hd).2;walk_at"go";refine mO (d:=(dn,dst,de,dw)) hh' ndd hd fun v hv=> ?_;walk_at"g1";obtain⟨q2,C2,dx2,fs2,fp2,rfl,hq2,dcC,l1,l2,l3,l4,l5,mcE,hfp,hlt⟩:=DoorAt.ex hv;walk_at"g2";rcases hend with hend|⟨z,hend,hz⟩
   ·have hde:de= .non:=hend;subst hde;have hkey:gK ds (t,dn,j)=none:=by
     unfold gK;rw[show dY ds ((t,dn,j):aI).2.1=some (dn,dst,.non,dw) from hdo];rfl
    walk_at"go";refine⟨sb,?_,_,_,_,_,_,rfl⟩;rw[ek,cD hrx,kC];unfold uY;rw[hkey]
   ·have hde:de= .str z:=hend;subst hde;have hkey:gK ds (t,dn,j)=some [.inr z,.inl t]:=by
     unfold gK;rw[show dY ds ((t,dn,j):aI).2.1=some (dn,dst,.str z,dw) from hdo];rfl
    obtain⟨i0,ei⟩:=xK (gK ds) (cr.take i) [.inr z,.inl t];walk_at"go";rename_i b3 H3 n3 S3 e3;refine fW (S3 _ _ ek) ?_;walk_at"go";refine gZ [.inr z,.inl t] (S3 _ _ ek) e3 ?_;rw[ei];walk_at"go";refine lE [.inr z,.inl t] (S3 _ _ ek) e3 (by rw[sizeLine_eq];lia) fun H4 B4 e4=> ?_;refine⟨(sb.trans S3.but).trans B4,?_,_,_,_,_,_,rfl⟩;rw[e4,cD hrx,kC];unfold uY;rw[hkey];show _=some (HO.dT (b9 _ _ (.int (jP ((aY _ _).getD (.int 0))+j))));rw[ei];rfl
  ·rintro _ H' hq_;walk_at"g1";obtain⟨sb,ek,x1,x2,x3,x4,x5,rfl⟩:=hq_;walk_at"g2";rw[hyl,List.take_length]at ek;walk_at"go";exact k _ _ n1 (fun x u hx=>sb _ _ (S2 _ _ (S1 _ _ hx)) (npd x u hx)) ek
theorem MT (m:M K mg):Fc P w K mg base "coming" 3 ["house","plan"] (lD K m.aH (aR P w K mg base (some 1)) gK):=⟨_,_,m.SO,m.t6.kp,m.SR,ML m⟩
theorem xS (key:aI->Option (List Key))(rows:List aI)(k:List Key):(aY (jA key rows) k).getD (.int 0)= .int (jX key rows k):=by
 obtain⟨i,e⟩:=xK key rows k;have h:=QC key k rows;rw[e]at h ⊢;rw[←h];rfl
theorem pairsN_mem {rz:List (Str×Int)}{f:Int}{z:Str}{t:Int}:∀{n:Nat},(z,t)∈bB rz f n↔z∈rz.map (·.1)/\∃i:Nat,i<n/\t=f+i
 | 0=>⟨(fun h=>by cases h),(fun⟨_,i,h,_⟩=>absurd h (Nat.not_lt_zero _))⟩
 | n+1=>by
  rw[jN,List.mem_append,pairsN_mem (n:=n)]
  constructor
  ·rintro (⟨h1,i,h2,h3⟩|h)
   ·exact⟨h1,i,by lia,h3⟩
   ·obtain⟨e,he,ee⟩:=List.mem_map.mp h;cases ee;exact⟨List.mem_map.mpr ⟨e,he,rfl⟩,n,by lia,rfl⟩
  ·rintro hq_;walk_at"g1";obtain⟨h1,i,h2,h3⟩:=hq_;walk_at"g2"
   by_cases hi:i=n
   ·subst hi;obtain⟨e,he,rfl⟩:=List.mem_map.mp h1;exact .inr (List.mem_map.mpr ⟨e,he,by rw[h3]⟩)
   ·exact .inl ⟨h1,i,by lia,h3⟩
theorem gR {rz:List (Str×Int)}(nd:(rz.map (·.1)).Nodup)(f:Int):∀n,(bB rz f n).Nodup
 | 0=>by simp[bB]
 | n+1=>by
  rw[jN,List.nodup_append];refine⟨gR nd f n,?_,?_⟩
  ·rw[List.Nodup,List.pairwise_map]at nd ⊢;exact nd.imp fun h z=>h (Prod.mk.inj z).1
  ·intro a ha b hb e;subst e;obtain⟨z,t⟩:=a;walk_at"g1";obtain⟨_,i,hi,ht⟩:=pairsN_mem.mp ha;walk_at"g2";obtain⟨e,_,ee⟩:=List.mem_map.mp hb;cases ee
   lia
theorem zB (rz:List (Str×Int))(f:Int)(m:Nat):∀k,∃l,bB rz f (m+k)=bB rz f m++l
 | 0=>⟨[],by rw[Nat.add_zero,List.append_nil]⟩
 | k+1=>by
  obtain⟨l,e⟩:=zB rz f m k;exact⟨l++_,by rw[←Nat.add_assoc,jN,e,List.append_assoc]⟩
theorem EJ {rz:List (Str×Int)}{f:Int}{n i:Nat}{z:Str}{t:Int} (h:(bB rz f n)[i]? =some (z,t)) (ht:t≠f):(z,t - 1)∈(bB rz f n).take i/\f<t:=by
 have hi:=(List.getElem?_eq_some_iff.mp h).1;walk_at"g1";obtain⟨hz,m,hm,rfl⟩:=pairsN_mem.mp (List.mem_of_getElem? h);walk_at"g2";have hm0:0<m:=by
  cases m with
  | zero=>exact absurd (by simp) ht
  | succ m=>exact Nat.succ_pos _
 obtain⟨l,el⟩:=zB rz f m (n - m);rw[show m+(n - m)=n by lia]at el;have hge:(bB rz f m).length<=i:=by
  rcases Nat.lt_or_ge i (bB rz f m).length with hlt|hge
  ·rw[el,List.getElem?_append_left hlt]at h;walk_at"g1";obtain⟨_,j,hj,ej⟩:=pairsN_mem.mp (List.mem_of_getElem? h);walk_at"g2"
   lia
  ·exact hge
 refine⟨?_,by lia⟩;have h1:(z,f+(m:Int) - 1)∈bB rz f m:=pairsN_mem.mpr ⟨hz,m - 1,by lia,by lia⟩;rw[el,List.take_append,List.take_of_length_le hge];exact List.mem_append_left _ h1
def bG (p:Str×Int):List Key:=[.inr p.1,.inl p.2]
theorem lK {a b:Str×Int}(h:bG a=bG b):a=b:=by
 unfold bG at h;injection h with h1 h2;injection h2 with h2;exact Prod.ext (Sum.inr.inj h1) (Sum.inl.inj h2)
def gP (ps:List (Str×Int))(L C:List Key->Int)(z:Str)(f:Int):Nat->Int
 | 0=>cG ps z
 | n+1=>gP ps L C z f n - L (bG (z,f+(n:Int)))+C (bG (z,f+(n:Int)))
def jB (ps:List (Str×Int))(L C:List Key->Int)(f:Int)(pp:List (Str×Int)):List (List Key×V):=pp.map fun p=>(bG p,V.int (gP ps L C p.1 f (p.2 - f).toNat))
theorem sT {ps:List (Str×Int)}{L C:List Key->Int}{f:Int}{pp:List (Str×Int)} (nd:pp.Nodup) {p:Str×Int} (h:p∈pp):aY (jB ps L C f pp) (bG p)=some (.int (gP ps L C p.1 f (p.2 - f).toNat)):=by
 refine kE (e:=(bG p,V.int (gP ps L C p.1 f (p.2 - f).toNat))) ?_ (List.mem_map.mpr ⟨p,h,rfl⟩);unfold jB;rw[List.map_map,List.Nodup,List.pairwise_map];exact nd.imp fun hne z=>hne (lK z)
theorem DY {ps:List (Str×Int)}{L C:List Key->Int}{f:Int}{pp:List (Str×Int)}{p:Str×Int} (h:p∉pp):aY (jB ps L C f pp) (bG p)=none:=by
 have:∀e∈jB ps L C f pp,e.1≠bG p:=fun e he z=>by
  obtain⟨q,hq,rfl⟩:=List.mem_map.mp he;exact h (lK z▸hq)
 revert this;generalize jB ps L C f pp=kvs;intro this
 induction kvs with
 | nil=>rfl
 | cons a l ih =>
  rw[c6 (this a (.head _))];exact ih fun e he=>this e (List.mem_cons_of_mem _ he)
inductive xJ (K:PySem.W.Frag)(C:Addr)(D:bA)(vs:List V)(H:Hp)(Q:VK)(E:XK):Prop
 | mk (h a:Addr) (f l:Int) (rz ps:List (Str×Int)) (ds:List aE) (us:List V) (rows:List aI) (_:vs=[.ref h,.ref a]) (_:aO C D H h f l rz ps ds) (_:(rz.map (·.1)).Nodup) (_:(ds.map (·.1)).Nodup) (_:(∀d∈ds,dF (rz.map (·.1)) d)) (_:0<=f) (_:f<=l) (_:l<1000000000000) (_:l - f<=1000) (_:rz.length<=20) (_:SqL K H a us) (_:cA H us rows) (_:rows.length<=300) (_:∀p H',H p=none->Same H H'->H' p=some (.dT (jB ps (jX (iF ds) (rows.filter (cnt (ds.map (·.1)) f l))) (jX (gK ds) (rows.filter (cnt (ds.map (·.1)) f l))) f (bB rz f (l+1 - f).toNat)))->Q (.ref p) H'):xJ K C D vs H Q E
theorem SA (m:M K mg):bK P w K mg base CX0 4 m.AU m.A5 ["house","plan"] (xJ K m.aH (aR P w K mg base (some 1))):=by
 refine m.oK.ok sc_there (fun vs H Q E h=> ?_) (fun cdv A outer s H vs Q E hr h=> ?_)
 ·walk_at"g1";obtain⟨h,a,f,l,rz,ps,ds,us,rows,rfl,hh,nr,ndd,hin,h0,h1,h2,h3,lr,hS,hpl,hlen,k⟩:=h;walk_at"g2";rfl
 ·walk_at"g1";obtain⟨h,a,f,l,rz,ps,ds,us,rows,rfl,hh,nr,ndd,hin,h0,h1,h2,h3,lr,hS,hpl,hlen,k⟩:=h;walk_at"g2";have nd:=sc_there.nd;walk_at"hu";have t6:= @MT P w K mg base m;have kI:= @yV P w K mg base m;have w_dc_House:=m.bE;have w_mc_House_pairs:= @iZ P w K mg base m;have w_mc_House_found:= @rQ P w K mg base m;refine⟨_,(aC (aZ (i:=2) nd rfl (by walk_at"oi") (bR kI hr (aA (pv 0) (aA (pv 1) aB))))
   (aC (aZ (i:=3) nd rfl (by walk_at"oi") (bR t6 hr (aA (pv 0) (aA (pv 1) aB))))
   (aC (aZ (i:=4) nd rfl (by walk_at"oi") oP)
   (aC (dE PassesOwn.never rfl (bW (fV 1 hr (pv 0))) (mU (n:=2) rfl (bD (aL (i:=5) nd rfl (by walk_at"oi")) (bD (aL (i:=6) nd rfl (by walk_at"oi")) dO))) (aF (cP (bL vR (pv 6) (bI (pv 0) rfl) (bO _)) (aF (fQ hu1 (pv 4) (cB (aA (pv 5) (aA (pv 6) aB))) (gE 3 hr (pv 0) (aA (pv 5) aB)) rfl)) (aC (aZ (i:=7) nd rfl (by walk_at"oi") (cB (aA (pv 5) (aA (aJ gH (pv 6) aG) aB))))
   (aF (fQ hu1 (pv 4) (cB (aA (pv 5) (aA (pv 6) aB))) (aJ cF (aJ gH (fA hu1 (pv 4) (pv 7) (fun _ _=>rfl)) (g6 hu1 (pv 2) (pv 7) aG ⟨rfl,rfl,rfl,rfl⟩)) (g6 hu1 (pv 3) (pv 7) aG ⟨rfl,rfl,rfl,rfl⟩)) rfl))))))
   (aF (bC (pv 4))))))),?_⟩
  refine aP (σ:=[some (.ref h),some (.ref a),none,none,none,none,none,none]) rfl ?_;walk_at"cx";walk_at"g1";obtain⟨dx,qs,qp,qd,nk,kvs,e1,_⟩:=hh.ex;walk_at"g2";walk_at"go";refine AD hh ndd hin hS hpl hlen fun pL H1 n1 S1 eL=> ?_;walk_at"go";refine AD (aV hh S1) ndd hin (S1.seq hS) (fR hpl S1) hlen fun pC H2 n2 S2 eC=> ?_;have e12:=S2 _ _ (S1 _ _ e1);walk_at"go";rename_i p H3 n3 S3 ep;have e13:=S3 _ _ e12;walk_at"go";have sA:Same H H3:=(S1.trans S2).trans S3;refine wC (aV hh sA) h0 h1 h2 h3 lr fun q ys H4 n4 S4 eq hpp=> ?_;have ep4:=S4 _ _ ep;have hqp:q≠p:=fun z=>by rw[z,ep]at n4;cases n4
  have npd:∀x u,H2 x=some u->x≠p:=fun x u hx z=>by rw[z,n3]at hx;cases hx
  have pnd:=gR nr f (l+1 - f).toNat;have pll:=nX rz f (l+1 - f).toNat;have plb:(l+1 - f).toNat * rz.length<=1001 * 20:=Nat.mul_le_mul (by lia) lr;have hyl:ys.length=(bB rz f (l+1 - f).toNat).length:=Paired.length hpp;generalize hLe:jX (iF ds) (rows.filter (cnt (ds.map (·.1)) f l))=LL at k;generalize hCe:jX (gK ds) (rows.filter (cnt (ds.map (·.1)) f l))=CC at k;walk_at"go";let Pv1:Nat->St->Hp->Prop:=fun i σ' H'=>SameBut p H4 H'/\H' p=some (.dT (jB ps LL CC f ((bB rz f (l+1 - f).toNat).take i)))/\∃x y z,σ'=[some (.ref h),some (.ref a),some (.ref pL),some (.ref pC),some (.ref p),x,y,z];refine eZ ys Pv1 ⟨SameBut.refl,ep4,_,_,_,rfl⟩ (fun i σ' H' _ g=>SqL.of (g.1 _ _ eq hqp)) ?_ ?_
  ·rintro i x _ H' hx hq_;walk_at"g1";obtain⟨sb,ek,x1,x2,x3,rfl⟩:=hq_;walk_at"g2";have hi:i<ys.length:=(List.getElem?_eq_some_iff.mp hx).1;obtain⟨⟨z,t⟩,hrx⟩:∃r,(bB rz f (l+1 - f).toNat)[i]? =some r:=⟨_,List.getElem?_eq_getElem (by lia)⟩
   obtain⟨q1,rfl,hq1⟩:=Paired.at2 hpp hx hrx;have hq1':H' q1=some (.tup [.str z,.int t]):=sb _ _ hq1 fun zz=>by rw[zz,ep4]at hq1;cases hq1
   have sH2:Same H2 H':=fun x u hx=>sb _ _ (S4 _ _ (S3 _ _ hx)) (npd x u hx);have hh':=aV hh ((S1.trans S2).trans sH2);have e1':=sH2 _ _ e12;have eL':=sH2 _ _ (S2 _ _ eL);have eC':=sH2 _ _ eC;have hz:z∈rz.map (·.1):=(pairsN_mem.mp (List.mem_of_getElem? hrx)).1;have hnew:(z,t)∉(bB rz f (l+1 - f).toNat).take i:=oY pnd hrx;have hkl:(jB ps LL CC f ((bB rz f (l+1 - f).toNat).take i)).length<=20020:=by unfold jB;rw[List.length_map,List.length_take];lia
   have nd':((bB rz f (l+1 - f).toNat).take i).Nodup:=pnd.sublist (List.take_sublist _ _);walk_at"go";refine gO (fun hc=> ?_) (fun hc=> ?_)
   ·subst hc;walk_at"go";refine IZ hh' nr hz fun H5 S5=> ?_;walk_at"go";rename_i b6 H6 n6 S6 e6;have ek6:=S6 _ _ (S5 _ _ ek);refine lE (bG (z,t)) ek6 e6 (by rw[sizeLine_eq];lia) fun H7 B7 e7=> ?_;refine⟨(sb.trans (S5.trans S6).but).trans B7,?_,_,_,_,rfl⟩;rw[e7,o0 _ (DY hnew),cD hrx];unfold jB;rw[List.map_append]
    congr 3
    show [(bG (z,t),V.int (cG ps z))]=[(bG (z,t),V.int (gP ps LL CC z t (t - t).toNat))];rw[show (t - t).toNat=0 by lia];rfl
   ·obtain⟨hah,hft⟩:=EJ hrx hc;have gL:(aY (jA (iF ds) (rows.filter (cnt (ds.map (·.1)) f l))) (bG (z,t - 1))).getD (.int 0)= .int (LL (bG (z,t - 1))):=by rw[←hLe];exact xS _ _ _
    have gC:(aY (jA (gK ds) (rows.filter (cnt (ds.map (·.1)) f l))) (bG (z,t - 1))).getD (.int 0)= .int (CC (bG (z,t - 1))):=by rw[←hCe];exact xS _ _ _
    walk_at"go";rename_i b6 H6 n6 S6 e6;refine oW (bG (z,t - 1)) (.inl (S6 _ _ ek)) e6 (sT nd' hah) ?_;walk_at"go";refine fW (S6 _ _ eL') ?_;walk_at"go";refine gZ (bG (z,t - 1)) (S6 _ _ eL') e6 ?_;rw[gL];walk_at"go";refine fW (S6 _ _ eC') ?_;walk_at"go";refine gZ (bG (z,t - 1)) (S6 _ _ eC') e6 ?_;rw[gC];walk_at"go";rename_i b8 H8 n8 S8 e8;have ek8:=S8 _ _ (S6 _ _ ek);refine lE (bG (z,t)) ek8 e8 (by rw[sizeLine_eq];lia) fun H9 B9 e9=> ?_;refine⟨(sb.trans (S6.trans S8).but).trans B9,?_,_,_,_,rfl⟩;rw[e9,o0 _ (DY hnew),cD hrx];unfold jB;rw[List.map_append]
    congr 3
    show [(bG (z,t),V.int (gP ps LL CC z f (t - 1 - f).toNat - LL (bG (z,t - 1))+CC (bG (z,t - 1))))]=[(bG (z,t),V.int (gP ps LL CC z f (t - f).toNat))];rw[show (t - f).toNat=(t - 1 - f).toNat+1 by lia];show _=[(bG (z,t),V.int (gP ps LL CC z f (t - 1 - f).toNat - LL (bG (z,f+((t - 1 - f).toNat:Int)))+CC (bG (z,f+((t - 1 - f).toNat:Int)))))];rw[show f+((t - 1 - f).toNat:Int)=t - 1 by lia]
  ·rintro _ H' hq_;walk_at"g1";obtain⟨sb,ek,x1,x2,x3,rfl⟩:=hq_;walk_at"g2";rw[hyl,List.take_length]at ek;walk_at"go";refine k _ _ ?_ (fun x u hx=>sb _ _ (S4 _ _ (S3 _ _ (S2 _ _ (S1 _ _ hx)))) (npd x u (S2 _ _ (S1 _ _ hx)))) ek;cases hq:H p with
   | none=>rfl
   | some u=>rw[S2 _ _ (S1 _ _ hq)]at n3;cases n3
theorem FB (m:M K mg):Fc P w K mg base "there" 4 ["house","plan"] (xJ K m.aH (aR P w K mg base (some 1))):=⟨_,_,m.XU,m.oK.kp,m.XT,SA m⟩
def kW (ds:List aE)(n:Str):Bool:=match dY ds n with
 | some d=>decide (d.2.2.1= .non)
 | none=>false
def outF (ds:List aE)(f l:Int)(rows:List aI)(t:Int):Int:=(((rows.filter (cnt (ds.map (·.1)) f l)).filter fun r=>decide (r.1<t)&&kW ds r.2.1).map (·.2.2)).sum
inductive tS (K:PySem.W.Frag)(C:Addr)(D:bA)(vs:List V)(H:Hp)(Q:VK)(E:XK):Prop
 | mk (h a:Addr) (t f l:Int) (rz ps:List (Str×Int)) (ds:List aE) (us:List V) (rows:List aI) (_:vs=[.ref h,.ref a,.int t]) (_:aO C D H h f l rz ps ds) (_:(ds.map (·.1)).Nodup) (_:(∀d∈ds,dF (rz.map (·.1)) d)) (_:SqL K H a us) (_:cA H us rows) (_:rows.length<=300) (_:∀H',Same H H'->Q (.int (outF ds f l rows t)) H'):tS K C D vs H Q E
theorem JL {C:Addr}{D:bA}{H:Hp}{Q:VK}{E:XK}{h a:Addr}{t f l:Int}{rz ps:List (Str×Int)}{ds:List aE}{us:List V}{rows:List aI} (hh:aO C D H h f l rz ps ds) (nd:(ds.map (·.1)).Nodup) (hin:∀d∈ds,dF (rz.map (·.1)) d) (hS:SqL K H a us) (hp:cA H us rows) (hl:rows.length<=300) (k:∀H',Same H H'->Q (.int (outF ds f l rows t)) H'):tS K C D [.ref h,.ref a,.int t] H Q E:=⟨_,_,_,_,_,_,_,_,_,_,rfl,hh,nd,hin,hS,hp,hl,k⟩
theorem NP (m:M K mg):bK P w K mg base CX0 3 m.xY m.xV ["house","plan","turn"] (tS K m.aH (aR P w K mg base (some 1))):=by
 refine m.l7.ok sc_out_by (fun vs H Q E h=> ?_) (fun cdv A outer s H vs Q E hr h=> ?_)
 ·walk_at"g1";obtain⟨h,a,t,f,l,rz,ps,ds,us,rows,rfl,hh,ndd,hin,hS,hpl,hlen,k⟩:=h;walk_at"g2";rfl
 ·walk_at"g1";obtain⟨h,a,t,f,l,rz,ps,ds,us,rows,rfl,hh,ndd,hin,hS,hpl,hlen,k⟩:=h;walk_at"g2";have nd:=sc_out_by.nd;walk_at"hu";have cK:= @iT P w K mg base m;have w_dc_House:=m.bE;have w_mc_House_door:= @fT P w K mg base m;refine⟨_,(aC (aZ (i:=3) nd rfl (by walk_at"oi") (bR cK hr (aA (pv 0) (aA (pv 1) aB))))
   (aF (bC (bJ (BT rfl) rfl m.L4 E9 (aA (dI (N:=["at","name","number","turn","house"]) (nl:=3) (ci:=[2,0]) rfl (blk (s.heap.objs.size+1) rfl rfl rfl (by kernel_rfl)) (bW (pv 3)) (fun _ _ _ _=>(kG (K:=K) (n:=3) rfl (bD (aL (i:=0) (show (["at","name","number","turn","house"]:List Str).Nodup by decide +kernel) rfl (by walk_at"oi")) (bD (aL (i:=1) (show (["at","name","number","turn","house"]:List Str).Nodup by decide +kernel) rfl (by walk_at"oi")) (bD (aL (i:=2) (show (["at","name","number","turn","house"]:List Str).Nodup by decide +kernel) rfl (by walk_at"oi")) dO))))) (fun _ _ _ _=>(mP (PW.pt (zF (bL nW (pv 0) (pv 3) (bO _)) (zY (jO (VS (P:=P) (w:=w) (K:=K) (mg:=mg) (base:=base) 1 hr (GA (P:=P) (w:=w) (K:=K) (mg:=mg) (base:=base) 1 hr (pv 4) (aA (pv 1) aB))))))))) (fun _ _ _ _=>(pv 2))) aB))))),?_⟩
  refine aP (σ:=[some (.ref h),some (.ref a),some (.int t),none]) rfl ?_;walk_at"cx";walk_at"go";refine AC hh hS hpl hlen fun q ys H1 n1 S1 eq hcr=> ?_;unfold outF at k;generalize hce:rows.filter (cnt (ds.map (·.1)) f l)=cr at hcr k;have hcn:∀r∈cr,r.2.1∈ds.map (·.1):=fun r hr=>by
   rw[←hce]at hr;have:=(List.mem_filter.mp hr).2;unfold cnt at this;rw[Bool.and_eq_true]at this;exact of_decide_eq_true this.1
  have hcl:cr.length<=300:=by rw[←hce];exact Nat.le_trans (List.length_filter_le _ _) hlen
  have hyl:ys.length=cr.length:=Paired.length hcr;have hh1:=aV hh S1;walk_at"go";refine XL (α:=aI) (xs:=cr) (vs:=ys) (fun r=> .int r.1) (fun r=> .str r.2.1) (fun r=> .int r.2.2) (fun r=>decide (r.1<t)&&kW ds r.2.1) (fun r y _=>y= .int r.2.2) (fun _ _ _ _ h _=>h) (by rw[sizeLine_eq];lia) (rest:=[some (.int t),some (.ref h)]) (by rfl) (SqL.of eq) hcr ?_ ?_ ?_
  ·rintro ⟨t0,n0,j0⟩ H2 hm s2 R hR;have hR':=hR _ (Same.refl _);have hh2:=aV hh1 s2;walk_at"g1";obtain⟨dx,qs,qp,qd,nk,kvs,e1,_⟩:=hh2.ex;walk_at"g2";walk_at"g1";obtain⟨⟨dn,dst,de,lt⟩,hd,rfl,hdo⟩:=nV (hcn _ hm);walk_at"g2";have hend:=(hin _ hd).2;have hx:kW ds dn=decide (de= .non):=by unfold kW;rw[hdo]
   walk_at"go";refine gO (fun hc=> ?_) (fun hc=> ?_)
   ·rw[show (decide (((t0,dn,j0):aI).1<t))=true from decide_eq_true hc,Bool.true_and,hx]at hR';walk_at"go";refine mO (d:=(dn,dst,de,lt)) hh2 ndd hd fun v hv=> ?_;walk_at"g1";obtain⟨q2,C2,dx2,fs2,fp2,rfl,hq2,dcC,l1,l2,l3,l4,l5,mcE,hfp,hlt⟩:=DoorAt.ex hv;walk_at"g2";rcases hend with hend|⟨z,hend,hz⟩
    ·have hde:de= .non:=hend;subst hde;walk_at"go";exact hR'
    ·have hde:de= .str z:=hend;subst hde;rw[decide_eq_false (fun z=>nomatch z)]at hR';walk_at"go";exact hR'
   ·rw[show (decide (((t0,dn,j0):aI).1<t))=false from decide_eq_false hc,Bool.false_and]at hR';exact hR'
  ·rintro ⟨t0,n0,j0⟩ H2 hm - s2 R hR;walk_at"go";exact hR _ _ rfl (Same.refl _)
  intro ys2 H2 s2 hys2;have ey2:ys2=((cr.filter fun r=>decide (r.1<t)&&kW ds r.2.1).map (·.2.2)).map V.int:=by rw[kA hys2,List.map_map];rfl
  subst ey2;walk_at"go";rename_i q3 H3 n3 S3 e3;refine ON (SqL.of e3) ?_;exact k _ ((S1.trans s2).trans S3)
theorem BX (m:M K mg):Fc P w K mg base "out_by" 3 ["house","plan","turn"] (tS K m.aH (aR P w K mg base (some 1))):=⟨_,_,m.SQ,m.l7.kp,m.SX,NP m⟩
def yM (rz ps:List (Str×Int))(ds:List aE)(f l:Int)(rows:List aI):Int:=((List.range (l - f).toNat).map fun i:Nat=>kS rz ps - outF ds f l rows (f+(i:Int))).sum
inductive tR (K:PySem.W.Frag)(C:Addr)(D:bA)(vs:List V)(H:Hp)(Q:VK)(E:XK):Prop
 | mk (h a:Addr) (f l:Int) (rz ps:List (Str×Int)) (ds:List aE) (us:List V) (rows:List aI) (_:vs=[.ref h,.ref a]) (_:aO C D H h f l rz ps ds) (_:(rz.map (·.1)).Nodup) (_:(ds.map (·.1)).Nodup) (_:(∀d∈ds,dF (rz.map (·.1)) d)) (_:SqL K H a us) (_:cA H us rows) (_:rows.length<=300) (_:l<1000000000000) (_:0<=f) (_:l - f<=1000) (_:f<=l) (_:∀H',Same H H'->Q (.int (yM rz ps ds f l rows)) H'):tR K C D vs H Q E
theorem UY {C:Addr}{D:bA}{H:Hp}{Q:VK}{E:XK}{h a:Addr}{f l:Int}{rz ps:List (Str×Int)}{ds:List aE}{us:List V}{rows:List aI} (hh:aO C D H h f l rz ps ds) (nr:(rz.map (·.1)).Nodup) (nd:(ds.map (·.1)).Nodup) (hin:∀d∈ds,dF (rz.map (·.1)) d) (hS:SqL K H a us) (hp:cA H us rows) (hl:rows.length<=300) (h1:l<1000000000000) (h2:0<=f) (h3:l - f<=1000) (h4:f<=l) (k:∀H',Same H H'->Q (.int (yM rz ps ds f l rows)) H'):tR K C D [.ref h,.ref a] H Q E:=⟨_,_,_,_,_,_,_,_,_,rfl,hh,nr,nd,hin,hS,hp,hl,h1,h2,h3,h4,k⟩
theorem QA (m:M K mg):bK P w K mg base CX0 4 m.A2 m.A7 ["house","plan"] (tR K m.aH (aR P w K mg base (some 1))):=by
 refine m.wI.ok sc_spent (fun vs H Q E h=> ?_) (fun cdv A outer s H vs Q E hr h=> ?_)
 ·walk_at"g1";obtain⟨h,a,f,l,rz,ps,ds,us,rows,rfl,hh,nr,ndd,hin,hS,hpl,hlen,h1,h2,h3,h4,k⟩:=h;walk_at"g2";rfl
 ·walk_at"g1";obtain⟨h,a,f,l,rz,ps,ds,us,rows,rfl,hh,nr,ndd,hin,hS,hpl,hlen,h1,h2,h3,h4,k⟩:=h;walk_at"g2";have nd:=sc_spent.nd;walk_at"hu";have l7:= @BX P w K mg base m;have w_dc_House:=m.bE;have w_mc_House_total:= @zV P w K mg base m;refine⟨_,(aC (aZ (i:=2) nd rfl (by walk_at"oi") (fV 1 hr (pv 0)))
   (aF (bC (bJ (BT rfl) rfl m.L4 E9 (aA (dI (N:=["turn","total","house","plan"]) (nl:=1) (ci:=[2,0,1]) rfl (blk (s.heap.objs.size+1) rfl rfl rfl (by kernel_rfl)) (qM rfl m.kH (aA (bI (pv 0) rfl) (aA (bI (pv 0) rfl) aB))) (fun _ _ _ _=>(aL (i:=0) (show (["turn","total","house","plan"]:List Str).Nodup by decide +kernel) rfl (by walk_at"oi"))) (fun _ _ _ _=>iN) (fun _ _ _ _=>(aJ gH (pv 1) (bR l7 hr (aA (pv 2) (aA (pv 3) (aA (pv 0) aB))))))) aB))))),?_⟩
  refine aP (σ:=[some (.ref h),some (.ref a),none]) rfl ?_;walk_at"cx";walk_at"g1";obtain⟨dx,qs,qp,qd,nk,kvs,e1,_⟩:=hh.ex;walk_at"g2";walk_at"go";refine VI hh nr fun H1 S1=> ?_;have e11:=S1 _ _ e1;walk_at"go";refine R1 (fun i=> .int (kS rz ps - outF ds f l rows (f+(i:Int)))) (by rw[sizeLine_eq];lia) (rest:=[some (.int (kS rz ps)),some (.ref h),some (.ref a)]) (by rfl) ?_ ?_
  ·intro i H2 hi s2 R hR;have s02:=S1.trans s2;walk_at"go";refine JL (aV hh s02) ndd hin (s02.seq hS) (fR hpl s02) hlen fun H3 S3=> ?_;walk_at"go";exact hR _ S3
  intro H2 s2;walk_at"go";rename_i q3 H3 n3 S3 e3;have e3':H3 q3=some (.lst (((List.range (l - f).toNat).map fun i:Nat=>kS rz ps - outF ds f l rows (f+(i:Int))).map V.int)):=by rw[e3,List.map_map];rfl
  refine ON (SqL.of e3') ?_;exact k _ ((S1.trans s2).trans S3)
theorem R0 (m:M K mg):Fc P w K mg base "spent" 4 ["house","plan"] (tR K m.aH (aR P w K mg base (some 1))):=⟨_,_,m.XV,m.wI.kp,m.XZ,QA m⟩
inductive zH (K:PySem.W.Frag)(vs:List V)(H:Hp)(Q:VK)(E:XK):Prop
 | mk (a:Addr) (us:List V) (rows:List aI) (_:vs=[.ref a]) (_:SqL K H a us) (_:cA H us rows) (_:rows.length<=300) (_:∀p H',H p=none->Same H H'->H' p=some (.dT (iG rows))->Q (.ref p) H'):zH K vs H Q E
theorem aBb {H:Hp}{Q:VK}{E:XK}{a:Addr}{us:List V}{rows:List aI} (hS:SqL K H a us) (hr:cA H us rows) (hl:rows.length<=300) (h:∀p H',H p=none->Same H H'->H' p=some (.dT (iG rows))->Q (.ref p) H'):zH K [.ref a] H Q E:=⟨_,_,_,rfl,hS,hr,hl,h⟩
theorem HF (m:M K mg):bK P w K mg base CX0 1 m.tY m.t5 ["plan"] (zH K):=by
 refine m.oE.ok sc_added_up (fun vs H Q E h=> ?_) (fun cdv A outer s H vs Q E hr h=> ?_)
 ·walk_at"g1";obtain⟨a,us,rows,rfl,hS,hpl,hlen,k⟩:=h;walk_at"g2";rfl
 ·walk_at"g1";obtain⟨a,us,rows,rfl,hS,hpl,hlen,k⟩:=h;walk_at"g2";have nd:=sc_added_up.nd;walk_at"hu";refine⟨_,(aC (aZ (i:=1) nd rfl (by walk_at"oi") oP)
   (aC (dE PassesOwn.never rfl (bW (pv 0)) (mU (n:=3) rfl (bD (aL (i:=2) nd rfl (by walk_at"oi")) (bD (aL (i:=3) nd rfl (by walk_at"oi")) (bD (aL (i:=4) nd rfl (by walk_at"oi")) dO)))) (aF (fQ hu1 (pv 1) (cB (aA (pv 2) (aA (pv 3) aB))) (aJ cF (g6 hu1 (pv 1) (cB (aA (pv 2) (aA (pv 3) aB))) aG ⟨rfl,rfl,rfl,rfl⟩) (pv 4)) rfl)))
   (aF (bC (pv 1))))),?_⟩
  refine aP (σ:=[some (.ref a),none,none,none,none]) rfl ?_;walk_at"cx";have hul:us.length=rows.length:=Paired.length hpl;walk_at"go";rename_i p H1 n1 S1 e1;let Pv1:Nat->St->Hp->Prop:=fun i σ' H'=>SameBut p H1 H'/\H' p=some (.dT (iG (rows.take i)))/\∃x y z,σ'=[some (.ref a),some (.ref p),x,y,z];refine eZ us Pv1 ⟨SameBut.refl,e1,_,_,_,rfl⟩ (fun i σ' H' _ q=>(SameBut.same n1 S1 q.1).seq hS) ?_ ?_
  ·rintro i x _ H' hx hq_;walk_at"g1";obtain⟨sb,ek,x1,x2,x3,rfl⟩:=hq_;walk_at"g2";have hi:i<us.length:=(List.getElem?_eq_some_iff.mp hx).1;obtain⟨⟨t,n,j⟩,hrx⟩:∃r,rows[i]? =some r:=⟨_,List.getElem?_eq_getElem (by lia)⟩
   obtain⟨q,rfl,hq⟩:=Paired.at2 hpl hx hrx;have hq':H' q=some (.tup [.int t,.str n,.int j]):=(SameBut.same n1 S1 sb) _ _ hq;obtain⟨i0,ei⟩:=RO (rows.take i) t n;have hkl:=xP (rows.take i);rw[List.length_take]at hkl;walk_at"go";refine fW ek ?_;walk_at"go";rename_i b1 H2 n2 S2 e2;refine gZ (bU t n) (by walk_at"hp") (by assumption) ?_;rw[ei];walk_at"go";rename_i b3 H3 n3 S3 e3;refine lE (bU t n) (by walk_at"hp") (by assumption) (by rw[sizeLine_eq];lia) fun H4 B4 e4=> ?_;refine⟨by walk_at"sb",?_,_,_,_,rfl⟩;rw[e4,cD hrx,iP];unfold zT;rw[ei];rfl
  ·rintro _ H' hq_;walk_at"g1";obtain⟨sb,ek,x1,x2,x3,rfl⟩:=hq_;walk_at"g2";rw[hul,List.take_length]at ek;walk_at"go";exact k _ _ n1 (SameBut.same n1 S1 sb) ek
theorem HJ (m:M K mg):Fc P w K mg base "added_up" 1 ["plan"] (zH K):=⟨_,_,m.L7,m.oE.kp,m.MA,HF m⟩
theorem V9 {a b:Nat}(h:(⟨#[a]⟩:Str)=⟨#[b]⟩):a=b:=by
 have h':=congrArg (fun z:Str=>z.cps.toList) h
 simpa using h'
theorem lU {α β γ:Type}{F:α->γ->Prop} (g:β->γ):∀{l:List β}{m:List α},Paired (fun x y=>F y (g x)) l m->Paired F m (l.map g)
 | _,_,.nil=> .nil
 | _,_,.cons r t=> .cons r (lU g t)
theorem iI {H:Hp}{Q:VK}{p:Addr}{xs:List V}{j:Nat}{v:V} (e:SqL K H p xs) (hx:xs[j]? =some v) (h:Q v H):F7 K (.ref p) (.int (j:Int)) H Q:=⟨p,xs,_,v,rfl,rfl,e,wH hx,h⟩
theorem RC {H:Hp}{ws:List V}{rz:List (Str×Int)} (hr:Paired (cC H) ws rz) {v:V} (hv:v∈ws):∃z i q,v= .ref q/\H q=some (.tup [.str z,.int i])/\(z,i)∈rz:=by
 walk_at"g1";obtain⟨e,he,q,rfl,hq⟩:=tU hr hv;walk_at"g2";exact⟨e.1,e.2,q,rfl,hq,he⟩
theorem TR {kvs:List (List Key×V)}:∀(o:Obj) (x:HO),HO.dT kvs≠ .frz o x:=fun _ _ z=>by cases z
theorem EG {C:Addr}{D:bA}{H H':Hp}{p:Addr}{kvs:List (List Key×V)}{h:Addr}{f l:Int}{rz ps:List (Str×Int)}{ds:List aE} (x:aO C D H h f l rz ps ds) (e:H p=some (.dT kvs)) (s:SameBut p H H'):aO C D H' h f l rz ps ds:=by
 walk_at"g1";obtain⟨dx,qs,qp,qd,nk,kv,e1,e2,e3,e4,e5,e6,e7⟩:=x.ex;walk_at"g2";have ne:∀(q:Addr) (o:HO),H q=some o->(∀k,o≠ .dT k)->q≠p:=fun q o h hn z=>by
  rw[z,e]at h;cases h;exact hn _ rfl
 exact⟨dx,qs,qp,qd,nk,kv,s _ _ e1 (ne _ _ e1 fun _ z=>by cases z),s _ _ e2 (ne _ _ e2 fun _ z=>by cases z),s _ _ e3 (ne _ _ e3 fun _ z=>by cases z),e4,e5,s _ _ e6 (ne _ _ e6 fun _ z=>by cases z),Paired.imp' (fun _ d hd=>⟨hd.1,D.but hd.2 e trivial s⟩) e7⟩
theorem u6 {rz:List (Str×Int)}{f:Int}{n:Nat} (h:rz.length<=20) (hn:n<=1001):(bB rz f n).length<=20100:=by
 rw[nX]
 calc _<=_:=Nat.le_refl _
  _<=20100:=by
   first|exact Nat.le_trans (Nat.mul_le_mul hn h) (by decide)|exact Nat.le_trans (Nat.mul_le_mul h hn) (by decide)
theorem MG {H:Hp}{Q:VK}{p:Addr}{z:Str}{ss:List Str} (e:SqL K H p (ss.map V.str)) (h:Q (.bl (!decide (z∈ss))) H):rIn K true (.str z) (.ref p) H Q:=by
 walk_at"g1";obtain⟨p',xs,e1,e2,e3,e4,e5⟩:=NA (Q:=fun v H'=>v= .bl (decide (z∈ss))/\H'=H) e ⟨rfl,rfl⟩;walk_at"g2";refine⟨p',xs,e1,e2,e3,e4,?_⟩;have e5:V.bl (inV (.str z) xs)= .bl (decide (z∈ss)):=e5.1;have e6:inV (.str z) xs=decide (z∈ss):=by injection e5
 show Q (.bl (!inV (.str z) xs)) H;rw[e6];exact h
def eX (ds:List aE)(f l t:Int)(n:Str):Int:=match dY ds n with
 | some d=>i9 f l d t
 | none=>0
theorem HH {ds:List aE}{n:Str} (h:n∉ds.map (·.1)):dY ds n=none:=by
 unfold dY;rw[List.find?_eq_none];intro d hd z;exact h (List.mem_map.mpr ⟨d,hd,by simpa using z⟩)
inductive v4 (C:Addr)(D:bA)(vs:List V)(H:Hp)(Q:VK)(E:XK):Prop
 | mk (h:Addr) (t:Int) (n:Str) (f l:Int) (rz ps:List (Str×Int)) (ds:List aE) (_:vs=[.ref h,.int t,.str n]) (_:aO C D H h f l rz ps ds) (_:(ds.map (·.1)).Nodup) (_:0<=f) (_:ds.length<=20) (_:∀H',Same H H'->Q (.int (eX ds f l t n)) H'):v4 C D vs H Q E
theorem ZC {C:Addr}{D:bA}{H:Hp}{Q:VK}{E:XK}{h:Addr}{t:Int}{n:Str}{f l:Int}{rz ps:List (Str×Int)}{ds:List aE} (hh:aO C D H h f l rz ps ds) (nd:(ds.map (·.1)).Nodup) (hf:0<=f) (ld:ds.length<=20) (k:∀H',Same H H'->Q (.int (eX ds f l t n)) H'):v4 C D [.ref h,.int t,.str n] H Q E:=⟨_,_,_,_,_,_,_,_,rfl,hh,nd,hf,ld,k⟩
theorem zA (m:M K mg):bK P w K mg base CX0 8 m.mH m.l8 ["house","turn","name"] (v4 m.aH (aR P w K mg base (some 1))):=by
 refine m.i6.ok sc_most_through (fun vs H Q E h=> ?_) (fun cdv A outer s H vs Q E hr h=> ?_)
 ·walk_at"g1";obtain⟨h,t,n,f,l,rz,ps,ds,rfl,hh,ndd,hf,ld,k⟩:=h;walk_at"g2";rfl
 ·walk_at"g1";obtain⟨h,t,n,f,l,rz,ps,ds,rfl,hh,ndd,hf,ld,k⟩:=h;walk_at"g2";have nd:=sc_most_through.nd;walk_at"hu";have w_dc_House:=m.bE;have w_mc_House_doors:= @gJ P w K mg base m;have w_mc_House_lets:= @t8 P w K mg base m;refine⟨_,(aC (cP (bL FN (pv 2) (fV 1 hr (pv 0)) (by with_unfolding_all rfl)) (aF (bC aG)) bT)
   (aF (bC (gE 3 hr (pv 0) (aA (pv 2) (aA (pv 1) aB)))))),?_⟩
  refine aP (σ:=[some (.ref h),some (.int t),some (.str n)]) rfl ?_;walk_at"cx";walk_at"g1";obtain⟨dx,qs,qp,qd,nk,kvs0,e1,_⟩:=hh.ex;walk_at"g2";walk_at"go";refine oF hh fun p1 H1 n1 S1 f1=> ?_;walk_at"go";refine MG (SqL.of f1) ?_;walk_at"go"
  by_cases hm:n∈ds.map (·.1)
  ·walk_at"g1";obtain⟨d,hd,rfl,hdo⟩:=nV hm;walk_at"g2";rw[decide_eq_true hm];have e11:=S1 _ _ e1;have hk:eX ds f l t d.1=i9 f l d t:=by unfold eX;rw[hdo]
   rw[hk]at k;walk_at"go";refine JP (d:=d) (aV hh S1) ndd hd hf fun H2 S2=> ?_;exact k _ (S1.trans S2)
  ·rw[decide_eq_false hm];have hk:eX ds f l t n=0:=by unfold eX;rw[HH hm]
   rw[hk]at k;walk_at"go";exact k _ S1
theorem yP (m:M K mg):Fc P w K mg base "most_through" 8 ["house","turn","name"] (v4 m.aH (aR P w K mg base (some 1))):=⟨_,_,m.AT,m.i6.kp,m.AZ,zA m⟩
def flK (w:Str)(p:Str×Int):List Key:=[.inl p.2,.inr w,.inr p.1]
theorem rG {w w':Str}{a b:Str×Int} (h:flK w a=flK w' b):w=w'/\a=b:=by
 unfold flK at h;injection h with h1 h2;injection h2 with h2 h3;injection h3 with h3;exact⟨Sum.inr.inj h2,Prod.ext (Sum.inr.inj h3) (Sum.inl.inj h1)⟩
def szF (rz:List (Str×Int))(z:Str):Int:=match rz.find? fun e=>decide (e.1=z) with
 | some e=>e.2
 | none=>0
theorem oI:∀{rz:List (Str×Int)},(rz.map (·.1)).Nodup->∀{e:Str×Int},e∈rz->szF rz e.1=e.2
 | a::l,nd,e,h=>by
  have nd':=List.nodup_cons.mp nd;rcases List.mem_cons.mp h with rfl|h
  ·unfold szF;rw[List.find?_cons_of_pos (by simp)]
  ·have hne:¬a.1=e.1:=fun z=>nd'.1 (show a.1∈_ by rw[z];exact List.mem_map.mpr ⟨e,h,rfl⟩);have ih:=oI nd'.2 h;unfold szF at ih ⊢;rw[List.find?_cons_of_neg (by simpa using hne)];exact ih
def D3 (e:List Key×V):Str×Int:=match e.1 with
 | [.inl t,.inr n]=>(n,t)
 | _=>(⟨#[]⟩,0)
def dfB (ds:List aE)(f l:Int)(e:List Key×V):Bool:=decide (jP e.2>eX ds f l (D3 e).2 (D3 e).1)
def dfK (ds:List aE)(f l:Int)(rows:List aI):List (List Key):=((iG rows).filter (dfB ds f l)).map fun e=>flK "door" (D3 e)
abbrev goL (ds:List aE)(f l:Int)(rows:List aI):List Key->Int:=jX (iF ds) (rows.filter (cnt (ds.map (·.1)) f l))
abbrev goC (ds:List aE)(f l:Int)(rows:List aI):List Key->Int:=jX (gK ds) (rows.filter (cnt (ds.map (·.1)) f l))
def lvB (ps:List (Str×Int))(L C LT:List Key->Int)(f:Int)(x:Str×Int):Bool:=decide (LT (bG x)>gP ps L C x.1 f (x.2 - f).toNat)
def lfK (rz ps:List (Str×Int))(L C LT:List Key->Int)(f l:Int):List (List Key):=(((bB rz f (l+1 - f).toNat).filter fun x=>decide (x.2<l)).filter (lvB ps L C LT f)).map (flK "leave")
def fuB (rz ps:List (Str×Int))(L C:List Key->Int)(f:Int)(x:Str×Int):Bool:=decide (gP ps L C x.1 f (x.2 - f).toNat>szF rz x.1)
def ffK (rz ps:List (Str×Int))(L C:List Key->Int)(f l:Int):List (List Key):=((bB rz f (l+1 - f).toNat).filter (fuB rz ps L C f)).map (flK "full")
def oX (rz ps:List (Str×Int))(ds:List aE)(f l:Int)(rows:List aI):List (List Key):=(dfK ds f l rows++lfK rz ps (goL ds f l rows) (goC ds f l rows) (goL ds f l rows) f l)++ffK rz ps (goL ds f l rows) (goC ds f l rows) f l
theorem XE (ds:List aE)(f l:Int)(rows:List aI):(dfK ds f l rows).length<=rows.length:=by
 unfold dfK;rw[List.length_map];exact Nat.le_trans (List.length_filter_le _ _) (xP rows)
theorem XO {rz ps:List (Str×Int)}{L C LT:List Key->Int}{f l:Int} (h:(bB rz f (l+1 - f).toNat).length<=20100):(lfK rz ps L C LT f l).length<=20100:=by
 unfold lfK;rw[List.length_map];exact Nat.le_trans (List.length_filter_le _ _) (Nat.le_trans (List.length_filter_le _ _) h)
theorem VG {rz ps:List (Str×Int)}{L C:List Key->Int}{f l:Int} (h:(bB rz f (l+1 - f).toNat).length<=20100):(ffK rz ps L C f l).length<=20100:=by
 unfold ffK;rw[List.length_map];exact Nat.le_trans (List.length_filter_le _ _) h
theorem QU (rows:List aI){k:List Key}(h:k∈(iG rows).map (·.1)):∃r∈rows,k=bU r.1 r.2.1:=by
 induction rows using kB with
 | h0=>exact nomatch h
 | hs l r ih =>
  rw[iP]at h;obtain⟨e,he,rfl⟩:=List.mem_map.mp h;rcases tM he with h'|⟨h1,h2⟩
  ·obtain⟨r',hr',e'⟩:=ih (List.mem_map.mpr ⟨e,h',rfl⟩);exact⟨r',List.mem_append_left _ hr',e'⟩
  ·exact⟨r,List.mem_append_right _ (.head _),h1⟩
theorem mem_dfK {ds:List aE}{f l:Int}{rows:List aI}{k:List Key}:k∈dfK ds f l rows↔∃r∈rows,k=flK "door" (r.2.1,r.1)/\bP rows r.1 r.2.1>eX ds f l r.1 r.2.1:=by
 unfold dfK
 constructor
 ·intro h;obtain⟨e,he,rfl⟩:=List.mem_map.mp h;obtain⟨h1,h2⟩:=List.mem_filter.mp he;obtain⟨r,hr,er⟩:=QU rows (List.mem_map.mpr ⟨e,h1,rfl⟩);walk_at"g1";obtain⟨t,n,i,rfl⟩:=(gW rows).2 e h1;walk_at"g2";obtain⟨e1,e2⟩:=sO er;have hv:=kE (gW rows).1 h1;have ht:=FR t n rows;rw[hv]at ht;have ht':i=bP rows t n:=ht;refine⟨r,hr,?_,?_⟩
  ·rw[←e1,←e2];rfl
  ·rw[←e1,←e2,←ht'];exact of_decide_eq_true h2
 ·rintro hq_;walk_at"g1";obtain⟨r,hr,rfl,h⟩:=hq_;walk_at"g2";have ht:=FR r.1 r.2.1 rows;cases hv:aY (iG rows) (bU r.1 r.2.1) with
  | none =>
   exfalso
   obtain⟨l1,l2,rfl⟩:=List.append_of_mem hr;have key:∀l2:List aI,(aY (iG (l1++r::l2)) (bU r.1 r.2.1)).isSome=true:=fun l2=>by
    induction l2 using kB with
    | h0 =>
     rw[iP];unfold zT;rw[gX,if_pos rfl];rfl
    | hs l a ih =>
     rw[←List.cons_append,←List.append_assoc,iP];unfold zT;rw[gX]
     split
     ·rfl
     ·exact ih
   have:=key l2;rw[hv]at this;cases this
  | some v =>
   have hm:=iK hv;walk_at"g1";obtain⟨t',n',i,e⟩:=(gW rows).2 _ hm;walk_at"g2";obtain⟨e1,e2⟩:=Prod.mk.inj e;subst e2;rw[hv]at ht;have ht':i=bP rows r.1 r.2.1:=ht;refine List.mem_map.mpr ⟨(bU r.1 r.2.1,.int i),List.mem_filter.mpr ⟨hm,?_⟩,rfl⟩;show decide (i>eX ds f l r.1 r.2.1)=true;rw[ht'];exact decide_eq_true h
theorem M9 (ds:List aE)(f l:Int)(rows:List aI):(dfK ds f l rows).Nodup:=by
 unfold dfK;have h1:((iG rows).filter (dfB ds f l)).Pairwise fun a b=>a.1≠b.1:=by
  have:=(gW rows).1;rw[List.Nodup,List.pairwise_map]at this;exact this.filter _
 rw[List.Nodup,List.pairwise_map];refine List.Pairwise.imp_of_mem ?_ h1;intro a b ha hb h z;walk_at"g1";obtain⟨t,n,i,rfl⟩:=(gW rows).2 a (List.mem_filter.mp ha).1;walk_at"g2";walk_at"g1";obtain⟨t',n',i',rfl⟩:=(gW rows).2 b (List.mem_filter.mp hb).1;walk_at"g2"
 apply h
 have z':((n,t):Str×Int)=(n',t'):=(rG z).2;cases z';rfl
theorem BG {w:Str}{l:List (Str×Int)} (h:l.Nodup):(l.map (flK w)).Nodup:=by
 rw[List.Nodup,List.pairwise_map];exact h.imp fun hne z=>hne (rG z).2
theorem mem_lfK {rz ps:List (Str×Int)}{L C LT:List Key->Int}{f l:Int}{k:List Key}:k∈lfK rz ps L C LT f l↔∃z∈rz.map (·.1),∃i:Nat,f+(i:Int)<l/\k=flK "leave" (z,f+(i:Int))/\LT (bG (z,f+(i:Int)))>gP ps L C z f i:=by
 unfold lfK
 constructor
 ·intro h;walk_at"g1";obtain⟨⟨z,t⟩,he,rfl⟩:=List.mem_map.mp h;walk_at"g2";obtain⟨h1,h2⟩:=List.mem_filter.mp he;obtain⟨h3,h4⟩:=List.mem_filter.mp h1;walk_at"g1";obtain⟨hz,i,hi,rfl⟩:=pairsN_mem.mp h3;walk_at"g2";have h4:f+(i:Int)<l:=by simpa using h4
  have h2:=of_decide_eq_true h2;rw[show ((z,f+(i:Int)).2 - f).toNat=i by show (f+(i:Int) - f).toNat=i;lia]at h2;exact⟨z,hz,i,h4,rfl,h2⟩
 ·rintro hq_;walk_at"g1";obtain⟨z,hz,i,hi,rfl,h⟩:=hq_;walk_at"g2";refine List.mem_map.mpr ⟨(z,f+(i:Int)),List.mem_filter.mpr ⟨List.mem_filter.mpr ⟨pairsN_mem.mpr ⟨hz,i,by lia,rfl⟩,by simpa using hi⟩,?_⟩,rfl⟩;unfold lvB;rw[show ((z,f+(i:Int)).2 - f).toNat=i by show (f+(i:Int) - f).toNat=i;lia];exact decide_eq_true h
theorem z0 {rz ps:List (Str×Int)}(nr:(rz.map (·.1)).Nodup){L C:List Key->Int}{f l:Int}{k:List Key}:k∈ffK rz ps L C f l↔∃e∈rz,∃i:Nat,f+(i:Int)<=l/\k=flK "full" (e.1,f+(i:Int))/\gP ps L C e.1 f i>e.2:=by
 unfold ffK
 constructor
 ·intro h;walk_at"g1";obtain⟨⟨z,t⟩,he,rfl⟩:=List.mem_map.mp h;walk_at"g2";obtain⟨h1,h2⟩:=List.mem_filter.mp he;walk_at"g1";obtain⟨hz,i,hi,rfl⟩:=pairsN_mem.mp h1;walk_at"g2";obtain⟨e,hez,hz'⟩:=List.mem_map.mp hz;have hz':e.1=z:=hz';subst hz';have h2:=of_decide_eq_true h2;rw[show ((e.1,f+(i:Int)).2 - f).toNat=i by show (f+(i:Int) - f).toNat=i;lia,show szF rz ((e.1,f+(i:Int)):Str×Int).1=e.2 from oI nr hez]at h2;exact⟨e,hez,i,by lia,rfl,h2⟩
 ·rintro hq_;walk_at"g1";obtain⟨e,he,i,hi,rfl,h⟩:=hq_;walk_at"g2";refine List.mem_map.mpr ⟨(e.1,f+(i:Int)),List.mem_filter.mpr ⟨pairsN_mem.mpr ⟨List.mem_map.mpr ⟨e,he,rfl⟩,i,by lia,rfl⟩,?_⟩,rfl⟩;unfold fuB;rw[show ((e.1,f+(i:Int)).2 - f).toNat=i by show (f+(i:Int) - f).toNat=i;lia,show szF rz ((e.1,f+(i:Int)):Str×Int).1=e.2 from oI nr he];exact decide_eq_true h
theorem K7 {rz ps:List (Str×Int)}(nr:(rz.map (·.1)).Nodup)(ds:List aE)(f l:Int)(rows:List aI):(oX rz ps ds f l rows).Nodup:=by
 have pn:=gR nr f (l+1 - f).toNat;unfold oX;rw[List.nodup_append,List.nodup_append];refine⟨⟨M9 _ _ _ _,BG ((pn.filter _).filter _),?_⟩,BG (pn.filter _),?_⟩
 ·intro a ha b hb z;subst z;walk_at"g1";obtain⟨r,_,e1,_⟩:=mem_dfK.mp ha;walk_at"g2";walk_at"g1";obtain⟨z,_,i,_,e2,_⟩:=mem_lfK.mp hb;walk_at"g2";exact absurd (rG (e1.symm.trans e2)).1 (by decide)
 ·intro a ha b hb z;subst z;walk_at"g1";obtain⟨e,_,i,_,e2,_⟩:=(z0 nr).mp hb;walk_at"g2";rcases List.mem_append.mp ha with ha|ha
  ·walk_at"g1";obtain⟨r,_,e1,_⟩:=mem_dfK.mp ha;walk_at"g2";exact absurd (rG (e1.symm.trans e2)).1 (by decide)
  ·walk_at"g1";obtain⟨z,_,i,_,e1,_⟩:=mem_lfK.mp ha;walk_at"g2";exact absurd (rG (e1.symm.trans e2)).1 (by decide)
theorem KM {rz ps:List (Str×Int)}(nr:(rz.map (·.1)).Nodup)(ds:List aE)(f l:Int)(rows:List aI):∀r∈oX rz ps ds f l rows,r.map d7=[true,false,false]:=fun k hk=>by
 unfold oX at hk;rcases List.mem_append.mp hk with hk|hk
 ·rcases List.mem_append.mp hk with hk|hk
  ·walk_at"g1";obtain⟨r,_,rfl,_⟩:=mem_dfK.mp hk;walk_at"g2";rfl
  ·walk_at"g1";obtain⟨z,_,i,_,rfl,_⟩:=mem_lfK.mp hk;walk_at"g2";rfl
 ·walk_at"g1";obtain⟨e,_,i,_,rfl,_⟩:=(z0 nr).mp hk;walk_at"g2";rfl
inductive vX (K:PySem.W.Frag)(C:Addr)(D:bA)(vs:List V)(H:Hp)(Q:VK)(E:XK):Prop
 | mk (h a:Addr) (f l:Int) (rz ps:List (Str×Int)) (ds:List aE) (us:List V) (rows:List aI) (_:vs=[.ref h,.ref a]) (_:aO C D H h f l rz ps ds) (_:(ds.map (·.1)).Nodup) (_:0<=f) (_:ds.length<=20) (_:SqL K H a us) (_:cA H us rows) (_:rows.length<=300) (_:∀p ys H',H p=none->Same H H'->H' p=some (.lst ys)->KRows H' ys (dfK ds f l rows)->Q (.ref p) H'):vX K C D vs H Q E
theorem aAN {C:Addr}{D:bA}{H:Hp}{Q:VK}{E:XK}{h a:Addr}{f l:Int}{rz ps:List (Str×Int)}{ds:List aE}{us:List V}{rows:List aI} (hh:aO C D H h f l rz ps ds) (nd:(ds.map (·.1)).Nodup) (hf:0<=f) (ld:ds.length<=20) (hS:SqL K H a us) (hp:cA H us rows) (hl:rows.length<=300) (k:∀p ys H',H p=none->Same H H'->H' p=some (.lst ys)->KRows H' ys (dfK ds f l rows)->Q (.ref p) H'):vX K C D [.ref h,.ref a] H Q E:=⟨_,_,_,_,_,_,_,_,_,rfl,hh,nd,hf,ld,hS,hp,hl,k⟩
theorem z8 (m:M K mg):bK P w K mg base CX0 9 m.nC m.m9 ["house","plan"] (vX K m.aH (aR P w K mg base (some 1))):=by
 refine m.jU.ok sc_door_faults (fun vs H Q E h=> ?_) (fun cdv A outer s H vs Q E hr h=> ?_)
 ·walk_at"g1";obtain⟨h,a,f,l,rz,ps,ds,us,rows,rfl,hh,ndd,hf,ld,hS,hpl,hlen,k⟩:=h;walk_at"g2";rfl
 ·walk_at"g1";obtain⟨h,a,f,l,rz,ps,ds,us,rows,rfl,hh,ndd,hf,ld,hS,hpl,hlen,k⟩:=h;walk_at"g2";have nd:=sc_door_faults.nd;walk_at"hu";have oE:= @HJ P w K mg base m;have i6:= @yP P w K mg base m;have w_dc_House:=m.bE;refine⟨_,(aC (aZ (i:=2) nd rfl (by walk_at"oi") (bR oE hr (aA (pv 1) aB)))
   (aF (bC (wE (dI (N:=["turn","name","going","house"]) (nl:=2) (ci:=[2,0]) rfl (blk (s.heap.objs.size+1) rfl rfl rfl (by kernel_rfl)) (QB (pv 2)) (fun _ _ _ _=>(kG (K:=K) (n:=2) rfl (bD (aL (i:=0) (show (["turn","name","going","house"]:List Str).Nodup by decide +kernel) rfl (by walk_at"oi")) (bD (aL (i:=1) (show (["turn","name","going","house"]:List Str).Nodup by decide +kernel) rfl (by walk_at"oi")) dO)))) (fun _ _ _ _=>(mP (bL DW (fA hu1 (pv 2) (cB (aA (pv 0) (aA (pv 1) aB))) (fun _ _=>rfl)) (bR i6 hr (aA (pv 3) (aA (pv 0) (aA (pv 1) aB)))) (bO _)))) (fun _ _ _ _=>(cB (aA (pv 0) (aA fU (aA (pv 1) aB)))))))))),?_⟩
  refine aP (σ:=[some (.ref h),some (.ref a),none]) rfl ?_;walk_at"cx";walk_at"go";refine aBb hS hpl hlen fun p1 H1 n1 S1 e1=> ?_;walk_at"go";refine sP e1 TR ?_;walk_at"go";refine Q9 ?_;walk_at"go";refine RQ e1 fun o H2 B2 e2=> ?_;have hg:=gW rows;have hln:=xP rows;have hh2:aO m.aH (aR P w K mg base (some 1)) H2 h f l rz ps ds:=EG (aV hh S1) e1 B2;refine YW (dfB ds f l) (fun e y H=>∃q,y= .ref q/\H q=some (.tup ((flK "door" (D3 e)).map kV))) (fun _ _ _ _ ⟨q,h1,h2⟩ s=>⟨q,h1,s _ _ h2⟩) (fun e he=>by
   walk_at"g1";obtain⟨t,n,i,rfl⟩:=hg.2 e he;walk_at"g2";rfl) (by rw[sizeLine_eq];lia) (rest:=[some (.ref p1),some (.ref h)]) (by rfl) e2 ?_ ?_ ?_
  ·intro k1 k2 v H3 hm s3 R hR;walk_at"g1";obtain⟨t,n,i,hte⟩:=hg.2 _ hm;walk_at"g2";have h1:k1= .inl t/\k2= .inr n/\v= .int i:=by
    have e1':=congrArg Prod.fst hte;have e2':=congrArg Prod.snd hte;have e1'':[k1,k2]=bU t n:=e1';unfold bU at e1'';injection e1'' with a1 a2;injection a2 with a2;exact⟨a1,a2,e2'⟩
   obtain⟨rfl,rfl,rfl⟩:=h1;have hv:aY (iG rows) (bU t n)=some (.int i):=kE hg.1 hm;show (_:TT) (some (V.int t)::some (V.str n)::[some (.ref p1),some (.ref h)]) H3 R;walk_at"go";rename_i b4 H4 n4 S4 e4;refine oW (bU t n) (.inr ⟨o,S4 _ _ (s3 _ _ e2)⟩) e4 hv ?_;walk_at"go";refine ZC (aV hh2 (s3.trans S4)) ndd hf ld fun H5 S5=> ?_;walk_at"go";exact hR _ (S4.trans S5)
  ·intro k1 k2 v H3 hm hcc s3 R hR;walk_at"g1";obtain⟨t,n,i,hte⟩:=hg.2 _ hm;walk_at"g2";have h1:k1= .inl t/\k2= .inr n/\v= .int i:=by
    have e1':=congrArg Prod.fst hte;have e2':=congrArg Prod.snd hte;have e1'':[k1,k2]=bU t n:=e1';unfold bU at e1'';injection e1'' with a1 a2;injection a2 with a2;exact⟨a1,a2,e2'⟩
   obtain⟨rfl,rfl,rfl⟩:=h1;show (_:TE) (some (V.int t)::some (V.str n)::[some (.ref p1),some (.ref h)]) H3 R;walk_at"go";rename_i b4 H4 n4 S4 e4;exact hR _ _ ⟨b4,rfl,e4⟩ S4
  intro ys H3 s3 hys;have kr:KRows H3 ys (dfK ds f l rows):=lU (fun e=>flK "door" (D3 e)) hys;walk_at"go";rename_i p4 H4 n4 S4 e4;have eo:H4 p1=some (.frz o (.dT (iG rows))):=S4 _ _ (s3 _ _ e2);refine mT eo fun H5 B5 e5=> ?_;have hpq:p4≠p1:=fun z=>by rw[z,s3 _ _ e2]at n4;cases n4
  have hn:H p4=none:=by
   cases hq:H p4 with
   | none=>rfl
   | some u =>
    have:=s3 _ _ (B2 _ _ (S1 _ _ hq) hpq);rw[n4]at this;cases this
  have fr:∀b u,H b=some u->b≠p1:=fun b u hb z=>by rw[z,n1]at hb;cases hb
  exact k p4 ys H5 hn (fun b u hb=>B5 _ _ (S4 _ _ (s3 _ _ (B2 _ _ (S1 _ _ hb) (fr b u hb)))) (fr b u hb)) (B5 _ _ e4 hpq) (KRows.map (fun q xs hq=>B5 _ _ hq fun z=>by rw[z,eo]at hq;cases hq) (kr.same S4))
theorem z7 (m:M K mg):Fc P w K mg base "door_faults" 9 ["house","plan"] (vX K m.aH (aR P w K mg base (some 1))):=⟨_,_,m.C5,m.jU.kp,m.C8,z8 m⟩
inductive vV (K:PySem.W.Frag)(C:Addr)(D:bA)(vs:List V)(H:Hp)(Q:VK)(E:XK):Prop
 | mk (h a b:Addr) (f l:Int) (rz ps:List (Str×Int)) (ds:List aE) (us:List V) (rows:List aI) (L C':List Key->Int) (_:vs=[.ref h,.ref a,.ref b]) (_:aO C D H h f l rz ps ds) (_:(rz.map (·.1)).Nodup) (_:(ds.map (·.1)).Nodup) (_:(∀d∈ds,dF (rz.map (·.1)) d)) (_:0<=f) (_:f<=l) (_:l<1000000000000) (_:l - f<=1000) (_:rz.length<=20) (_:SqL K H a us) (_:cA H us rows) (_:rows.length<=300) (_:H b=some (.dT (jB ps L C' f (bB rz f (l+1 - f).toNat)))) (_:∀p ys H',H p=none->Same H H'->H' p=some (.lst ys)->KRows H' ys (lfK rz ps L C' (goL ds f l rows) f l)->Q (.ref p) H'):vV K C D vs H Q E
theorem yS (m:M K mg):bK P w K mg base CX0 5 m.mF m.lZ ["house","plan","inside"] (vV K m.aH (aR P w K mg base (some 1))):=by
 refine m.i8.ok sc_leave_faults (fun vs H Q E h=> ?_) (fun cdv A outer s H vs Q E hr h=> ?_)
 ·walk_at"g1";obtain⟨h,a,b,f,l,rz,ps,ds,us,rows,L,C',rfl,hh,nr,ndd,hin,h0,h1,h2,h3,lr,hS,hpl,hlen,eb,k⟩:=h;walk_at"g2";rfl
 ·walk_at"g1";obtain⟨h,a,b,f,l,rz,ps,ds,us,rows,L,C',rfl,hh,nr,ndd,hin,h0,h1,h2,h3,lr,hS,hpl,hlen,eb,k⟩:=h;walk_at"g2";have nd:=sc_leave_faults.nd;walk_at"hu";have kI:= @yV P w K mg base m;have w_dc_House:=m.bE;have w_mc_House_pairs:= @iZ P w K mg base m;refine⟨_,(aC (aZ (i:=3) nd rfl (by walk_at"oi") (bR kI hr (aA (pv 0) (aA (pv 1) aB))))
   (aC (tQ (i:=4) nd rfl (by walk_at"oi") (N:=["pair","house"]) (nl:=1) (ci:=[0]) rfl (blk (s.heap.objs.size+1) rfl rfl rfl (by kernel_rfl)) (bW (fV 1 hr (pv 0))) (fun _ _ _ _=>(aL (i:=0) (show (["pair","house"]:List Str).Nodup by decide +kernel) rfl (by walk_at"oi"))) (fun _ _ _ _=>(mP (bL nW (cH (rB (K:=K)) (pv 0) aG (fun _ _=>rfl)) (rK (K:=K) (pv 1) rfl) (bO _)))) (fun _ _ _ _=>(pv 0)))
   (aF (bC (dI (N:=["room","turn","inside","leave"]) (nl:=2) (ci:=[2,3]) rfl (blk (s.heap.objs.size+1) rfl rfl rfl (by kernel_rfl)) (bW (pv 4)) (fun _ _ _ _=>(kG (K:=K) (n:=2) rfl (bD (aL (i:=0) (show (["room","turn","inside","leave"]:List Str).Nodup by decide +kernel) rfl (by walk_at"oi")) (bD (aL (i:=1) (show (["room","turn","inside","leave"]:List Str).Nodup by decide +kernel) rfl (by walk_at"oi")) dO)))) (fun _ _ _ _=>(mP (bL DW (g6 hu1 (pv 3) (cB (aA (pv 0) (aA (pv 1) aB))) aG ⟨rfl,rfl,rfl,rfl⟩) (fA hu1 (pv 2) (cB (aA (pv 0) (aA (pv 1) aB))) (fun _ _=>rfl)) (bO _)))) (fun _ _ _ _=>(cB (aA (pv 1) (aA fU (aA (pv 0) aB)))))))))),?_⟩
  refine aP (σ:=[some (.ref h),some (.ref a),some (.ref b),none,none]) rfl ?_;walk_at"cx";walk_at"g1";obtain⟨dx,qs,qp,qd,nk,kvs0,e1,_⟩:=hh.ex;walk_at"g2";walk_at"go";refine AD hh ndd hin hS hpl hlen fun p1 H1 n1 S1 f1=> ?_;have e11:=S1 _ _ e1;walk_at"go";refine wC (aV hh S1) h0 h1 h2 h3 lr fun p2 ys H2 n2 S2 f2 hys=> ?_;have e12:=S2 _ _ e11;walk_at"go";have hpn:(bB rz f (l+1 - f).toNat).length<=20100:=u6 lr (by lia);have hyl:ys.length=(bB rz f (l+1 - f).toNat).length:=Paired.length hys;refine rA (α:=Str×Int) (xs:=bB rz f (l+1 - f).toNat) (vs:=ys) (cC H2) (fun x=>decide (x.2<l)) (fun x y H=>cC H y x) (fun _ _ _ _ ⟨q,h1,h2⟩ s=>⟨q,h1,s _ _ h2⟩) (by rw[sizeLine_eq];lia) (rest:=[some (.ref h)]) (by rfl) (SqL.of f2) hys ?_ ?_ ?_
  ·rintro v ⟨z,u⟩ H3 ⟨q3,rfl,hq3⟩ hm s3 R hR;have hq3:H3 q3=some (.tup [.str z,.int u]):=s3 _ _ hq3;have e13:=s3 _ _ e12;walk_at"go";refine⟨q3,_,1,_,rfl,rfl,SqT.of hq3,rfl,?_⟩;walk_at"go";exact hR _ (Same.refl _)
  ·rintro v x H3 ⟨q3,rfl,hq3⟩ hm - s3 R hR;walk_at"go";exact hR _ _ ⟨q3,rfl,s3 _ _ hq3⟩ (Same.refl _)
  intro zs H3 s3 hzs;have hzp:Paired (cC H3) zs ((bB rz f (l+1 - f).toNat).filter fun x=>decide (x.2<l)):=qT hzs;have hfl:((bB rz f (l+1 - f).toNat).filter fun x=>decide (x.2<l)).length<=20100:=Nat.le_trans (List.length_filter_le _ _) hpn;walk_at"go";rename_i p4 H4 n4 S4 e4;have s14:=S2.trans (s3.trans S4);have f14:=s14 _ _ f1;have eb4:=s14 _ _ (S1 _ _ eb);refine rV (α:=Str×Int) (xs:=(bB rz f (l+1 - f).toNat).filter fun x=>decide (x.2<l)) (vs:=zs) (fun x=> .str x.1) (fun x=> .int x.2) (lvB ps L C' (goL ds f l rows) f) (fun x y H=>∃q,y= .ref q/\H q=some (.tup ((flK "leave" x).map kV))) (fun _ _ _ _ ⟨q,h1,h2⟩ s=>⟨q,h1,s _ _ h2⟩) (by rw[sizeLine_eq];lia) (rest:=[some (.ref b),some (.ref p1)]) (by rfl) (SqL.of e4) (kK hzp S4) ?_ ?_ ?_
  ·rintro ⟨z,u⟩ H5 hx s5 R hR;obtain⟨hx1,hx2⟩:=List.mem_filter.mp hx;have f15:=s5 _ _ f14;have eb5:=s5 _ _ eb4;have hpi:=sT (ps:=ps) (L:=L) (C:=C') (f:=f) (gR nr f (l+1 - f).toNat) hx1;show (_:TT) (some (V.str z)::some (V.int u)::[some (.ref b),some (.ref p1)]) H5 R;walk_at"go";refine fW f15 ?_;walk_at"go";rename_i b6 H6 n6 S6 e6;refine gZ (bG (z,u)) (S6 _ _ f15) e6 ?_;rw[xS];walk_at"go";rename_i b7 H7 n7 S7 e7;refine oW (bG (z,u)) (.inl (S7 _ _ (S6 _ _ eb5))) e7 hpi ?_;walk_at"go";exact hR _ (S6.trans S7)
  ·rintro ⟨z,u⟩ H5 hx hcc s5 R hR;show (_:TE) (some (V.str z)::some (V.int u)::[some (.ref b),some (.ref p1)]) H5 R;walk_at"go";rename_i b6 H6 n6 S6 e6;exact hR _ _ ⟨b6,rfl,e6⟩ S6
  intro ws H5 s5 hws;have kr:KRows H5 ws (lfK rz ps L C' (goL ds f l rows) f l):=lU (flK "leave") hws;walk_at"go";rename_i p6 H6 n6 S6 e6;have s06:Same H H6:=S1.trans (s14.trans (s5.trans S6));refine k p6 ws H6 ?_ s06 e6 (kr.same S6);cases hq:H p6 with
  | none=>rfl
  | some u =>
   have:=(S1.trans (s14.trans s5)) _ _ hq;rw[n6]at this;cases this
theorem y8 (m:M K mg):Fc P w K mg base "leave_faults" 5 ["house","plan","inside"] (vV K m.aH (aR P w K mg base (some 1))):=⟨_,_,m.A3,m.i8.kp,m.AY,yS m⟩
theorem aAm {C:Addr}{D:bA}{H:Hp}{Q:VK}{E:XK}{h a b:Addr}{f l:Int}{rz ps:List (Str×Int)}{ds:List aE}{us:List V}{rows:List aI}{L C':List Key->Int} (hh:aO C D H h f l rz ps ds) (nr:(rz.map (·.1)).Nodup) (nd:(ds.map (·.1)).Nodup) (hin:∀d∈ds,dF (rz.map (·.1)) d) (h0:0<=f) (h1:f<=l) (h2:l<1000000000000) (h3:l - f<=1000) (lr:rz.length<=20) (hS:SqL K H a us) (hp:cA H us rows) (hl:rows.length<=300) (eb:H b=some (.dT (jB ps L C' f (bB rz f (l+1 - f).toNat)))) (k:∀p ys H',H p=none->Same H H'->H' p=some (.lst ys)->KRows H' ys (lfK rz ps L C' (goL ds f l rows) f l)->Q (.ref p) H'):vV K C D [.ref h,.ref a,.ref b] H Q E:=⟨_,_,_,_,_,_,_,_,_,_,_,_,rfl,hh,nr,nd,hin,h0,h1,h2,h3,lr,hS,hp,hl,eb,k⟩
inductive vS (C:Addr)(D:bA)(vs:List V)(H:Hp)(Q:VK)(E:XK):Prop
 | mk (h b:Addr) (f l:Int) (rz ps:List (Str×Int)) (ds:List aE) (L C':List Key->Int) (_:vs=[.ref h,.ref b]) (_:aO C D H h f l rz ps ds) (_:(rz.map (·.1)).Nodup) (_:0<=f) (_:f<=l) (_:l<1000000000000) (_:l - f<=1000) (_:rz.length<=20) (_:H b=some (.dT (jB ps L C' f (bB rz f (l+1 - f).toNat)))) (_:∀p ys H',H p=none->Same H H'->H' p=some (.lst ys)->KRows H' ys (ffK rz ps L C' f l)->Q (.ref p) H'):vS C D vs H Q E
theorem YF {C:Addr}{D:bA}{H:Hp}{Q:VK}{E:XK}{h b:Addr}{f l:Int}{rz ps:List (Str×Int)}{ds:List aE}{L C':List Key->Int} (hh:aO C D H h f l rz ps ds) (nr:(rz.map (·.1)).Nodup) (h0:0<=f) (h1:f<=l) (h2:l<1000000000000) (h3:l - f<=1000) (lr:rz.length<=20) (eb:H b=some (.dT (jB ps L C' f (bB rz f (l+1 - f).toNat)))) (k:∀p ys H',H p=none->Same H H'->H' p=some (.lst ys)->KRows H' ys (ffK rz ps L C' f l)->Q (.ref p) H'):vS C D [.ref h,.ref b] H Q E:=⟨_,_,_,_,_,_,_,_,_,rfl,hh,nr,h0,h1,h2,h3,lr,eb,k⟩
theorem AF (m:M K mg):bK P w K mg base CX0 5 m.nI m.nO ["house","inside"] (vS m.aH (aR P w K mg base (some 1))):=by
 refine m.jT.ok sc_full_faults (fun vs H Q E h=> ?_) (fun cdv A outer s H vs Q E hr h=> ?_)
 ·walk_at"g1";obtain⟨h,b,f,l,rz,ps,ds,L,C',rfl,hh,nr,h0,h1,h2,h3,lr,eb,k⟩:=h;walk_at"g2";rfl
 ·walk_at"g1";obtain⟨h,b,f,l,rz,ps,ds,L,C',rfl,hh,nr,h0,h1,h2,h3,lr,eb,k⟩:=h;walk_at"g2";have nd:=sc_full_faults.nd;walk_at"hu";have w_dc_House:=m.bE;have w_mc_House_pairs:= @iZ P w K mg base m;have w_mc_House_holds:= @lB P w K mg base m;refine⟨_,(aF (bC (dI (N:=["room","turn","inside","house"]) (nl:=2) (ci:=[1,0]) rfl (blk (s.heap.objs.size+1) rfl rfl rfl (by kernel_rfl)) (bW (fV 1 hr (pv 0))) (fun _ _ _ _=>(kG (K:=K) (n:=2) rfl (bD (aL (i:=0) (show (["room","turn","inside","house"]:List Str).Nodup by decide +kernel) rfl (by walk_at"oi")) (bD (aL (i:=1) (show (["room","turn","inside","house"]:List Str).Nodup by decide +kernel) rfl (by walk_at"oi")) dO)))) (fun _ _ _ _=>(mP (bL DW (fA hu1 (pv 2) (cB (aA (pv 0) (aA (pv 1) aB))) (fun _ _=>rfl)) (GA (P:=P) (w:=w) (K:=K) (mg:=mg) (base:=base) 3 hr (pv 3) (aA (pv 0) aB)) (bO _)))) (fun _ _ _ _=>(cB (aA (pv 1) (aA fU (aA (pv 0) aB)))))))),?_⟩;refine aP (σ:=[some (.ref h),some (.ref b)]) rfl ?_;walk_at"cx";walk_at"g1";obtain⟨dx,qs,qp,qd,nk,kvs0,e1,_⟩:=hh.ex;walk_at"g2";walk_at"go";refine wC hh h0 h1 h2 h3 lr fun p2 ys H2 n2 S2 f2 hys=> ?_;have hpn:(bB rz f (l+1 - f).toNat).length<=20100:=u6 lr (by lia);have eb2:=S2 _ _ eb;have hh2:=aV hh S2;have e12:=S2 _ _ e1;walk_at"go";refine rV (α:=Str×Int) (xs:=bB rz f (l+1 - f).toNat) (vs:=ys) (fun x=> .str x.1) (fun x=> .int x.2) (fuB rz ps L C' f) (fun x y H=>∃q,y= .ref q/\H q=some (.tup ((flK "full" x).map kV))) (fun _ _ _ _ ⟨q,h1,h2⟩ s=>⟨q,h1,s _ _ h2⟩) (by rw[sizeLine_eq];lia) (rest:=[some (.ref b),some (.ref h)]) (by rfl) (SqL.of f2) hys ?_ ?_ ?_
  ·rintro ⟨z,u⟩ H5 hx1 s5 R hR;walk_at"g1";obtain⟨hz,i,hi,hu⟩:=pairsN_mem.mp hx1;walk_at"g2";walk_at"g1";obtain⟨⟨ez,ej⟩,he,hez⟩:=List.mem_map.mp hz;walk_at"g2";have hez:ez=z:=hez;subst hez;have eb5:=s5 _ _ eb2;have e15:=s5 _ _ e12;have hpi:=sT (ps:=ps) (L:=L) (C:=C') (f:=f) (gR nr f (l+1 - f).toNat) hx1;have hsz:szF rz ez=ej:=oI nr he;unfold fuB at hR;simp only[hsz]at hR;show (_:TT) (some (V.str ez)::some (V.int u)::[some (.ref b),some (.ref h)]) H5 R;walk_at"go";rename_i b7 H7 n7 S7 e7;refine oW (bG (ez,u)) (.inl (S7 _ _ eb5)) e7 hpi ?_;have e17:=S7 _ _ e15;walk_at"go";refine IQ (aV hh2 (s5.trans S7)) nr he fun H8 S8=> ?_;walk_at"go";exact hR _ (S7.trans S8)
  ·rintro ⟨z,u⟩ H5 hx hcc s5 R hR;show (_:TE) (some (V.str z)::some (V.int u)::[some (.ref b),some (.ref h)]) H5 R;walk_at"go";rename_i b6 H6 n6 S6 e6;exact hR _ _ ⟨b6,rfl,e6⟩ S6
  intro ws H5 s5 hws;have kr:KRows H5 ws (ffK rz ps L C' f l):=lU (flK "full") hws;walk_at"go";rename_i p6 H6 n6 S6 e6;refine k p6 ws H6 ?_ (S2.trans (s5.trans S6)) e6 (kr.same S6);cases hq:H p6 with
  | none=>rfl
  | some u =>
   have:=(S2.trans s5) _ _ hq;rw[n6]at this;cases this
theorem AH (m:M K mg):Fc P w K mg base "full_faults" 5 ["house","inside"] (vS m.aH (aR P w K mg base (some 1))):=⟨_,_,m.C4,m.jT.kp,m.DI,AF m⟩
inductive uT (K:PySem.W.Frag)(C:Addr)(D:bA)(vs:List V)(H:Hp)(Q:VK)(E:XK):Prop
 | mk (h a:Addr) (f l:Int) (rz ps:List (Str×Int)) (ds:List aE) (us:List V) (rows:List aI) (_:vs=[.ref h,.ref a]) (_:aO C D H h f l rz ps ds) (_:(rz.map (·.1)).Nodup) (_:(ds.map (·.1)).Nodup) (_:(∀d∈ds,dF (rz.map (·.1)) d)) (_:0<=f) (_:f<=l) (_:l<1000000000000) (_:l - f<=1000) (_:rz.length<=20) (_:ds.length<=20) (_:SqL K H a us) (_:cA H us rows) (_:rows.length<=300) (_:∀p ws H',H p=none->Same H H'->H' p=some (.lst ws)->KRows H' ws (qF (oX rz ps ds f l rows))->Q (.ref p) H'):uT K C D vs H Q E
theorem aBv {C:Addr}{D:bA}{H:Hp}{Q:VK}{E:XK}{h a:Addr}{f l:Int}{rz ps:List (Str×Int)}{ds:List aE}{us:List V}{rows:List aI} (hh:aO C D H h f l rz ps ds) (nr:(rz.map (·.1)).Nodup) (nd:(ds.map (·.1)).Nodup) (hin:∀d∈ds,dF (rz.map (·.1)) d) (h0:0<=f) (h1:f<=l) (h2:l<1000000000000) (h3:l - f<=1000) (lr:rz.length<=20) (ld:ds.length<=20) (hS:SqL K H a us) (hp:cA H us rows) (hl:rows.length<=300) (k:∀p ws H',H p=none->Same H H'->H' p=some (.lst ws)->KRows H' ws (qF (oX rz ps ds f l rows))->Q (.ref p) H'):uT K C D [.ref h,.ref a] H Q E:=⟨_,_,_,_,_,_,_,_,_,rfl,hh,nr,nd,hin,h0,h1,h2,h3,lr,ld,hS,hp,hl,k⟩
theorem O4 (m:M K mg):bK P w K mg base CX0 10 m.xX m.yB ["house","plan"] (uT K m.aH (aR P w K mg base (some 1))):=by
 refine m.o6.ok sc_faults (fun vs H Q E h=> ?_) (fun cdv A outer s H vs Q E hr h=> ?_)
 ·walk_at"g1";obtain⟨h,a,f,l,rz,ps,ds,us,rows,rfl,hh,nr,ndd,hin,h0,h1,h2,h3,lr,ld,hS,hpl,hlen,k⟩:=h;walk_at"g2";rfl
 ·walk_at"g1";obtain⟨h,a,f,l,rz,ps,ds,us,rows,rfl,hh,nr,ndd,hin,h0,h1,h2,h3,lr,ld,hS,hpl,hlen,k⟩:=h;walk_at"g2";have nd:=sc_faults.nd;walk_at"hu";have jU:= @z7 P w K mg base m;have jT:= @AH P w K mg base m;have i8:= @y8 P w K mg base m;have oK:= @FB P w K mg base m;have w_dc_House:=m.bE;refine⟨_,(aC (aZ (i:=2) nd rfl (by walk_at"oi") (bR oK hr (aA (pv 0) (aA (pv 1) aB))))
   (aF (bC (bJ uD rfl m.GW BK (aA (aJ uL (aJ uL (bR jU hr (aA (pv 0) (aA (pv 1) aB))) (bR i8 hr (aA (pv 0) (aA (pv 1) (aA (pv 2) aB))))) (bR jT hr (aA (pv 0) (aA (pv 2) aB)))) aB))))),?_⟩
  refine aP (σ:=[some (.ref h),some (.ref a),none]) rfl ?_;walk_at"cx";have hpn:(bB rz f (l+1 - f).toNat).length<=20100:=u6 lr (by lia);have ln1:=XE ds f l rows;walk_at"go";refine⟨_,_,_,_,_,_,_,_,_,rfl,hh,nr,ndd,hin,h0,h1,h2,h3,lr,hS,hpl,hlen,fun p1 H1 n1 S1 e1=> ?_⟩;walk_at"go";refine aAN (aV hh S1) ndd h0 ld (S1.seq hS) (fR hpl S1) hlen fun p2 y2 H2 n2 S2 e2 k2=> ?_;have s02:=S1.trans S2;walk_at"go";refine aAm (aV hh s02) nr ndd hin h0 h1 h2 h3 lr (s02.seq hS) (fR hpl s02) hlen (S2 _ _ e1) fun p3 y3 H3 n3 S3 e3 k3=> ?_;have s03:=s02.trans S3;have l2:y2.length=_:=Paired.length k2;have l3:y3.length<=20100:=Nat.le_trans (Nat.le_of_eq (Paired.length k3)) (XO hpn);walk_at"go";refine vQ (S3 _ _ e2) e3 (by rw[sizeLine_eq];lia) fun p4 H4 n4 S4 e4=> ?_;have s04:=s03.trans S4;walk_at"go";refine YF (aV hh s04) nr h0 h1 h2 h3 lr ((S2.trans (S3.trans S4)) _ _ e1) fun p5 y5 H5 n5 S5 e5 k5=> ?_;have l5:y5.length<=20100:=Nat.le_trans (Nat.le_of_eq (Paired.length k5)) (VG hpn);walk_at"go";rename_i p6 H6 n6 S6 e6;have s06:=s04.trans (S5.trans S6);have kr:KRows H6 (y2++y3++y5) (oX rz ps ds f l rows):=kR (kR (k2.same (S3.trans (S4.trans (S5.trans S6)))) (k3.same (S4.trans (S5.trans S6)))) (k5.same S6);refine CB (SqL.of e6) kr (K7 nr ds f l rows) (KM nr ds f l rows) (by decide) fun p7 ws H7 n7 S7 e7 hws=> ?_;refine k p7 ws H7 ?_ (s06.trans S7) e7 hws;cases hq:H p7 with
  | none=>rfl
  | some u =>
   have:=s06 _ _ hq;rw[n7]at this;cases this
theorem OY (m:M K mg):Fc P w K mg base "faults" 10 ["house","plan"] (uT K m.aH (aR P w K mg base (some 1))):=⟨_,_,m.SS,m.o6.kp,m.SW,O4 m⟩
def wt (g:Int->Str->Bool)(rows:List aI):Int:=((rows.filter fun r=>g r.1 r.2.1).map (·.2.2)).sum
theorem rH (g:Int->Str->Bool)(r:aI)(rows:List aI):wt g (r::rows)=(if g r.1 r.2.1=true then r.2.2 else 0)+wt g rows:=by
 unfold wt
 by_cases h:g r.1 r.2.1=true
 ·rw[List.filter_cons_of_pos (p:=fun r:aI=>g r.1 r.2.1) h,List.map_cons,List.sum_cons,if_pos h]
 ·rw[List.filter_cons_of_neg (p:=fun r:aI=>g r.1 r.2.1) h,if_neg h,Int.zero_add]
theorem dC (r:aI)(rows:List aI)(t:Int)(n:Str):bP (r::rows) t n=(if (r.1,r.2.1)=(t,n) then r.2.2 else 0)+bP rows t n:=by
 have h:=rH (fun t' n'=>decide (t'=t)&&decide (n'=n)) r rows;have e:((decide (r.1=t)&&decide (r.2.1=n))=true)↔((r.1,r.2.1)=(t,n)):=by
  rw[Bool.and_eq_true,decide_eq_true_eq,decide_eq_true_eq,Prod.mk.injEq]
 by_cases c:(r.1,r.2.1)=(t,n)
 ·rw[if_pos (e.mpr c)]at h;rw[if_pos c];exact h
 ·rw[if_neg (fun z=>c (e.mp z))]at h;rw[if_neg c];exact h
theorem MW (a b:List aI)(t:Int)(n:Str):bP (a++b) t n=bP a t n+bP b t n:=by
 unfold bP;rw[List.filter_append,List.map_append,List.sum_append]
theorem D8 {α:Type}(f g:α->Int):∀l:List α,(l.map fun x=>f x+g x).sum=(l.map f).sum+(l.map g).sum
 | []=>rfl
 | a::l=>by
  have ih:=D8 f g l;simp only[List.map_cons,List.sum_cons]
  lia
theorem xC {α:Type}{f:α->Int}:∀{l:List α},(∀x∈l,f x=0)->(l.map f).sum=0
 | [],_=>rfl
 | a::l,h=>by
  rw[List.map_cons,List.sum_cons,h a (.head _),xC fun x hx=>h x (List.mem_cons_of_mem _ hx)];rfl
theorem JH {α:Type}[DecidableEq α]{a:α}{c:Int}:∀{l:List α},l.Nodup->a∈l->(l.map fun x=>if a=x then c else 0).sum=c
 | b::l,nd,h=>by
  have nd':=List.nodup_cons.mp nd;rw[List.map_cons,List.sum_cons];rcases List.mem_cons.mp h with rfl|h
  ·rw[if_pos rfl,xC (fun x hx=>if_neg fun z=>nd'.1 (by rw[z];exact hx))];exact Int.add_zero _
  ·rw[if_neg (fun z=>nd'.1 (by rw[←z];exact h)),JH nd'.2 h];exact Int.zero_add _
def ded {α:Type}[DecidableEq α]:List α->List α
 | []=>[]
 | a::l=>if a∈ded l then ded l else a::ded l
theorem rD {α:Type}[DecidableEq α]{x:α}:∀{l:List α},x∈l->x∈ded l
 | a::l,h=>by
  unfold ded;rcases List.mem_cons.mp h with rfl|h
  ·split
   ·assumption
   ·exact .head _
  ·split
   ·exact rD h
   ·exact List.mem_cons_of_mem _ (rD h)
theorem qI {α:Type}[DecidableEq α]:∀l:List α,(ded l).Nodup
 | []=>List.nodup_nil
 | a::l=>by
  unfold ded
  split
  ·exact qI l
  ·rename_i h;exact List.nodup_cons.mpr ⟨h,qI l⟩
theorem rT (g:Int->Str->Bool){Ks:List (Int×Str)}(nd:Ks.Nodup):∀{rows:List aI},(∀r∈rows,(r.1,r.2.1)∈Ks)->wt g rows=(Ks.map fun k=>if g k.1 k.2=true then bP rows k.1 k.2 else 0).sum
 | [],_=>by
  rw[xC (fun k _=>by split<;>rfl)];rfl
 | r::rows,h=>by
  have ih:=rT g nd (rows:=rows) fun r hr=>h r (List.mem_cons_of_mem _ hr);have hk:=h r (.head _);rw[rH,ih];have e:(fun k:Int×Str=>if g k.1 k.2=true then bP (r::rows) k.1 k.2 else 0)=fun k=>(if (r.1,r.2.1)=k then (if g r.1 r.2.1=true then r.2.2 else 0) else 0)+(if g k.1 k.2=true then bP rows k.1 k.2 else 0):=by
   funext k
   rw[dC]
   by_cases c:(r.1,r.2.1)=k
   ·subst c;rw[if_pos rfl,if_pos rfl]
    by_cases d:g r.1 r.2.1=true
    ·rw[if_pos d,if_pos d,if_pos d]
    ·rw[if_neg d,if_neg d,if_neg d];rfl
   ·rw[if_neg c,if_neg c,Int.zero_add,Int.zero_add]
  rw[e,D8,JH nd hk]
def SameT (a b:List aI):Prop:=∀t n,bP a t n=bP b t n
theorem SameT.wt {a b:List aI}(h:SameT a b)(g:Int->Str->Bool):wt g a=wt g b:=by
 have nd:=qI ((a++b).map fun r=>(r.1,r.2.1));rw[rT g nd (rows:=a) fun r hr=>rD (List.mem_map.mpr ⟨r,List.mem_append_left _ hr,rfl⟩),rT g nd (rows:=b) fun r hr=>rD (List.mem_map.mpr ⟨r,List.mem_append_right _ hr,rfl⟩)]
 congr 2
 funext k
 rw[h]
theorem SameT.goL {a b:List aI}(h:SameT a b)(ds:List aE)(f l:Int):goL ds f l a=goL ds f l b:=by
 funext k
 have e:=h.wt fun t n=>decide (iF ds (t,n,0)=some k)&&cnt (ds.map (·.1)) f l (t,n,0);unfold wt at e;unfold Prf.goL jX;rw[List.filter_filter,List.filter_filter];exact e
theorem SameT.goC {a b:List aI}(h:SameT a b)(ds:List aE)(f l:Int):goC ds f l a=goC ds f l b:=by
 funext k
 have e:=h.wt fun t n=>decide (gK ds (t,n,0)=some k)&&cnt (ds.map (·.1)) f l (t,n,0);unfold wt at e;unfold Prf.goC jX;rw[List.filter_filter,List.filter_filter];exact e
theorem SameT.outF {a b:List aI}(h:SameT a b)(ds:List aE)(f l t:Int):outF ds f l a t=outF ds f l b t:=by
 have e:=h.wt fun t' n=>(decide (t'<t)&&kW ds n)&&cnt (ds.map (·.1)) f l (t',n,0);unfold wt at e;unfold Prf.outF;rw[List.filter_filter,List.filter_filter];exact e
theorem mN {ds:List aE}(nd:(ds.map (·.1)).Nodup){d:aE}(hd:d∈ds):dY ds d.1=some d:=by
 induction ds with
 | nil=>exact nomatch hd
 | cons a l ih =>
  have nd':=List.nodup_cons.mp nd;unfold dY;rcases List.mem_cons.mp hd with rfl|h
  ·rw[List.find?_cons_of_pos (by simp)]
  ·have hne:¬a.1=d.1:=fun z=>nd'.1 (show a.1∈_ by rw[z];exact List.mem_map.mpr ⟨d,h,rfl⟩);rw[List.find?_cons_of_neg (by simpa using hne)];exact ih nd'.2 h
theorem UP {ds:List aE}{d:aE} (h:dY ds d.1=some d) (rt rj:Int) (z:Str) (t:Int):gK ds (rt,d.1,rj)=some (bG (z,t))↔d.2.2.1= .str z/\rt=t:=by
 unfold gK;rw[show dY ds ((rt,d.1,rj):aI).2.1=some d from h,Option.bind_some];walk_at"g1";obtain⟨dn,dst,de,lt⟩:=d;walk_at"g2";show (match de with| .str z=>some [Sum.inr z,Sum.inl rt]|_=>none)=_↔de= .str z/\rt=t;cases de with
 | str y =>
  show some (bG (y,rt))=_↔_
  constructor
  ·intro h;have h:=lK (Option.some.inj h);cases h;exact⟨rfl,rfl⟩
  ·rintro ⟨h,rfl⟩;cases h;rfl
 | _=>exact⟨(fun h=>nomatch h),(fun h=>nomatch h.1)⟩
def oV:Option Str->V
 | none=> .non
 | some z=> .str z
def cO (o:Option Str)(hs:List (Option Str)):Int:=(hs.countP fun x=>decide (x=o):Nat)
theorem aA2 (o a:Option Str):eqV (oV o) (oV a)=decide (o=a):=by
 cases o with
 | none =>
  cases a with
  | none=>rfl
  | some z=>rfl
 | some y =>
  cases a with
  | none=>rfl
  | some z =>
   show (y==z)=_
   by_cases h:y=z
   ·subst h;simp
   ·rw[beq_false_of_ne h,decide_eq_false (fun e=>h (Option.some.inj e))]
theorem JV (a:Option Str)(hs:List (Option Str)):((uJ (oV a) (hs.map oV):Nat):Int)=cO a hs:=by
 unfold uJ cO;rw[List.countP_map]
 congr 2
 funext x
 exact aA2 x a
theorem E3 (hs:List (Option Str)):∀y∈hs.map oV,i5 y=true:=fun y hy=>by
 obtain⟨o,_,rfl⟩:=List.mem_map.mp hy;cases o<;>rfl
theorem iW (a o:Option Str)(hs:List (Option Str)):cO a (o::hs)=(if o=a then 1 else 0)+cO a hs:=by
 unfold cO;rw[List.countP_cons]
 by_cases h:o=a
 ·rw[if_pos h,decide_eq_true h,if_pos rfl];lia
 ·rw[if_neg h,decide_eq_false h,if_neg Bool.false_ne_true];lia
theorem yU (a:Option Str):∀x y:List (Option Str),cO a (x++y)=cO a x+cO a y
 | [],y=>by show cO a y=0+cO a y;lia
 | o::x,y=>by
  rw[List.cons_append,iW,iW,yU a x y];lia
theorem vA (a o':Option Str):∀{hs:List (Option Str)}{k:Nat}{o:Option Str},hs[k]? =some o->cO a (hs.set k o')=cO a hs - (if o=a then 1 else 0)+(if o'=a then 1 else 0)
 | x::hs,0,o,h=>by
  have h:x=o:=by simpa using h
  subst h;rw[List.set_cons_zero,iW,iW];lia
 | x::hs,k+1,o,h=>by
  have h:hs[k]? =some o:=by simpa using h
  rw[List.set_cons_succ,iW,iW,vA a o' h];lia
theorem uO {a o:Option Str}{hs:List (Option Str)}{k:Nat} (h:hs[k]? =some o):cO a (hs.take (k+1))=cO a (hs.take k)+(if o=a then 1 else 0):=by
 rw[cD h,yU,iW];show _+(_+0)=_
 lia
def prR (e:List Key×V):aI:=match e.1 with
 | [.inl t,.inr n]=>(t,n,jP e.2)
 | _=>(0,⟨#[]⟩,0)
def dJ (kvs:List (List Key×V)):List aI:=kvs.map prR
theorem F6 {kvs:List (List Key×V)}(g:lJ kvs)(t:Int)(n:Str)(i:Int):lJ (b9 kvs (bU t n) (.int i)):=by
 refine⟨BU g.1,fun e he=> ?_⟩;rcases tM he with h|⟨h1,h2⟩
 ·exact g.2 e h
 ·exact⟨_,_,_,Prod.ext h1 h2⟩
theorem jK {t:Int}{n:Str}:∀{kvs:List (List Key×V)},lJ kvs->bP (dJ kvs) t n=jP ((aY kvs (bU t n)).getD (.int 0))
 | [],_=>rfl
 | e::kvs,g=>by
  have nd:=List.nodup_cons.mp g.1;have ih:=jK (t:=t) (n:=n) (kvs:=kvs) ⟨nd.2,fun e he=>g.2 e (List.mem_cons_of_mem _ he)⟩;walk_at"g1";obtain⟨t',n',i,rfl⟩:=g.2 e (.head _);walk_at"g2";show bP ((t',n',i)::dJ kvs) t n=_;rw[dC,ih]
  by_cases h:bU t' n'=bU t n
  ·obtain⟨rfl,rfl⟩:=sO h;have hz:aY kvs (bU t' n')=none:=by
    cases hv:aY kvs (bU t' n') with
    | none=>rfl
    | some v=>exact absurd (List.mem_map.mpr ⟨_,iK hv,rfl⟩) nd.1
   rw[if_pos rfl,dU rfl,hz];show i+0=i
   lia
  ·rw[if_neg (fun z=>h (by have z:(t',n')=(t,n):=z;cases z;rfl)),c6 h,Int.zero_add]
theorem OU {kvs:List (List Key×V)}(g:lJ kvs)(t:Int)(n:Str){v:Int}(hv:(aY kvs (bU t n)).getD (.int 0)= .int v)(c:Int):SameT (dJ (b9 kvs (bU t n) (.int (v+c)))) ((t,n,c)::dJ kvs):=fun t' n'=>by
 rw[jK (F6 g t n _),dC,jK g,gX]
 by_cases h:bU t' n'=bU t n
 ·obtain⟨rfl,rfl⟩:=sO h;rw[if_pos rfl,if_pos rfl,hv];show v+c=c+v
  lia
 ·rw[if_neg h,if_neg (fun z=>h (by have z:(t,n)=(t',n'):=z;cases z;rfl)),Int.zero_add]
theorem v5 {g g':Int->Str->Bool}{rows:List aI} (h:∀t n,bP rows t n≠0->g t n=g' t n):wt g rows=wt g' rows:=by
 have nd:=qI (rows.map fun r=>(r.1,r.2.1));have hm:∀r∈rows,(r.1,r.2.1)∈ded (rows.map fun r=>(r.1,r.2.1)):=fun r hr=>rD (List.mem_map.mpr ⟨r,hr,rfl⟩);rw[rT g nd hm,rT g' nd hm]
 congr 2
 funext k
 by_cases c:bP rows k.1 k.2=0
 ·rw[c,ite_self,ite_self]
 ·rw[h _ _ c]
theorem zM (rows:List aI):wt (fun _ _=>false) rows=0:=by
 unfold wt;rw[List.filter_eq_nil_iff.mpr (fun _ _=>Bool.false_ne_true)];rfl
theorem FA (ds:List aE)(f l:Int)(rows:List aI)(k:List Key):goL ds f l rows k=wt (fun t n=>decide (iF ds (t,n,0)=some k)&&cnt (ds.map (·.1)) f l (t,n,0)) rows:=by
 unfold goL jX;rw[List.filter_filter];rfl
theorem ES (ds:List aE)(f l:Int)(rows:List aI)(k:List Key):goC ds f l rows k=wt (fun t n=>decide (gK ds (t,n,0)=some k)&&cnt (ds.map (·.1)) f l (t,n,0)) rows:=by
 unfold goC jX;rw[List.filter_filter];rfl
theorem q9 (ds:List aE)(f l:Int)(rows:List aI)(T:Int):outF ds f l rows T=wt (fun t n=>(decide (t<T)&&kW ds n)&&cnt (ds.map (·.1)) f l (t,n,0)) rows:=by
 unfold outF;rw[List.filter_filter];rfl
theorem EE {ds:List aE}{f l t:Int}{d:aE} (hd:d∈ds) (h0:f<=t) (h1:t<l):cnt (ds.map (·.1)) f l (t,d.1,0)=true:=by
 unfold cnt;simp only[Bool.and_eq_true,decide_eq_true_eq];exact⟨List.mem_map.mpr ⟨d,hd,rfl⟩,h0,h1⟩
theorem P8 {ds:List aE}(nd:(ds.map (·.1)).Nodup){f l t:Int}{d:aE} (hd:d∈ds) (h0:f<=t) (h1:t<l) (c:Int) (R:List aI) (z:Str) (t':Int):goL ds f l ((t,d.1,c)::R) (bG (z,t'))=(if d.2.1=z/\t=t' then c else 0)+goL ds f l R (bG (z,t')):=by
 rw[FA,FA,rH]
 congr 1
 show (if (decide (iF ds (t,d.1,0)=some (bG (z,t')))&&cnt (ds.map (·.1)) f l (t,d.1,0))=true then c else 0)=_;rw[EE hd h0 h1,Bool.and_true];have e:iF ds (t,d.1,0)=some (bG (d.2.1,t)):=by
  unfold iF;rw[show dY ds ((t,d.1,0):aI).2.1=some d from mN nd hd];rfl
 rw[e]
 by_cases h:d.2.1=z/\t=t'
 ·rw[if_pos h,if_pos (by rw[h.1,h.2];exact decide_eq_true rfl)]
 ·rw[if_neg h,if_neg (fun y=>h (by
   have:=lK (Option.some.inj (of_decide_eq_true y));exact⟨(Prod.mk.inj this).1,(Prod.mk.inj this).2⟩))]
theorem Q2 {ds:List aE}(nd:(ds.map (·.1)).Nodup){f l t:Int}{d:aE} (hd:d∈ds) (h0:f<=t) (h1:t<l) (c:Int) (R:List aI) (z:Str) (t':Int):goC ds f l ((t,d.1,c)::R) (bG (z,t'))=(if d.2.2.1= .str z/\t=t' then c else 0)+goC ds f l R (bG (z,t')):=by
 rw[ES,ES,rH]
 congr 1
 show (if (decide (gK ds (t,d.1,0)=some (bG (z,t')))&&cnt (ds.map (·.1)) f l (t,d.1,0))=true then c else 0)=_;rw[EE hd h0 h1,Bool.and_true];have e:=UP (mN nd hd) t 0 z t'
 by_cases h:d.2.2.1= .str z/\t=t'
 ·rw[if_pos h,if_pos (decide_eq_true (e.mpr h))]
 ·rw[if_neg h,if_neg (fun y=>h (e.mp (of_decide_eq_true y)))]
theorem NT {ds:List aE}(nd:(ds.map (·.1)).Nodup){f l t:Int}{d:aE} (hd:d∈ds) (h0:f<=t) (h1:t<l) (c:Int) (R:List aI) (T:Int):outF ds f l ((t,d.1,c)::R) T=(if t<T/\d.2.2.1= .non then c else 0)+outF ds f l R T:=by
 rw[q9,q9,rH]
 congr 1
 show (if ((decide (t<T)&&kW ds d.1)&&cnt (ds.map (·.1)) f l (t,d.1,0))=true then c else 0)=_;rw[EE hd h0 h1,Bool.and_true];have e:kW ds d.1=decide (d.2.2.1= .non):=by unfold kW;rw[mN nd hd]
 rw[e]
 by_cases h:t<T/\d.2.2.1= .non
 ·rw[if_pos h,if_pos (by rw[decide_eq_true h.1,decide_eq_true h.2];rfl)]
 ·rw[if_neg h,if_neg (fun y=>h (by
   rw[Bool.and_eq_true,decide_eq_true_eq,decide_eq_true_eq]at y;exact y))]
theorem uW {ps:List (Str×Int)}{L C L' C':List Key->Int}{z:Str}{f:Int}:∀{n:Nat},(∀j:Nat,j<n->L (bG (z,f+(j:Int)))=L' (bG (z,f+(j:Int)))/\C (bG (z,f+(j:Int)))=C' (bG (z,f+(j:Int))))->gP ps L C z f n=gP ps L' C' z f n
 | 0,_=>rfl
 | n+1,h=>by
  have ih:=uW (ps:=ps) (n:=n) fun j hj=>h j (by lia);have h1:=h n (by lia);show gP ps L C z f n - L (bG (z,f+(n:Int)))+C (bG (z,f+(n:Int)))=gP ps L' C' z f n - L' (bG (z,f+(n:Int)))+C' (bG (z,f+(n:Int)));rw[ih,h1.1,h1.2]
structure sW (rz ps:List (Str×Int))(ds:List aE)(f l:Int)(N:Nat)(T:Int)(S:List (List (Option Str)))(R:List aI):Prop where
 at':∀(i:Nat) (hs:List (Option Str)),S[i]? =some hs->f+(i:Int)<=T/\(∀z,cO (some z) hs=gP ps (goL ds f l R) (goC ds f l R) z f i)/\cO none hs=outF ds f l R (f+(i:Int))/\(∀e∈rz,cO (some e.1) hs<=e.2)/\hs.length=N
 lv:∀(i:Nat) z,f+(i:Int)<T->goL ds f l R (bG (z,f+(i:Int)))<=gP ps (goL ds f l R) (goC ds f l R) z f i
 nn:∀t n,0<=bP R t n
 le:∀t n,bP R t n<=eX ds f l t n
structure TurnI (rz ps:List (Str×Int))(ds:List aE)(f l:Int)(T:Int)(hs0 hs:List (Option Str))(k:Nat)(R:List aI):Prop where
 len:hs.length=hs0.length
 rest:∀j,k<=j->hs[j]? =hs0[j]?
 mem:∀z,some z∈hs->z∈rz.map (·.1)
 cz:∀z,cO (some z) hs=cO (some z) hs0 - goL ds f l R (bG (z,T))+goC ds f l R (bG (z,T))
 cn:cO none hs=cO none hs0+(outF ds f l R (T+1) - outF ds f l R T)
 lv:∀z,goL ds f l R (bG (z,T))<=cO (some z) (hs0.take k)
 fit:∀e∈rz,cO (some e.1) hs<=e.2
 tm:∀t n,bP R t n≠0->f<=t/\t<=T
theorem OH {ds:List aE}{t c T:Int}{n z:Str} (h:iF ds (t,n,c)=some (bG (z,T))):t=T:=by
 unfold iF at h;obtain⟨d,_,e⟩:=Option.map_eq_some_iff.mp h;exact(Prod.mk.inj (lK (a:=(d.2.1,t)) (b:=(z,T)) e)).2
theorem OK {ds:List aE}{t c T:Int}{n z:Str} (h:gK ds (t,n,c)=some (bG (z,T))):t=T:=by
 unfold gK at h;obtain⟨d,_,e⟩:=Option.bind_eq_some_iff.mp h;walk_at"g1";obtain⟨dn,dst,de,lt⟩:=d;walk_at"g2";cases de<;>first|(cases e;done)|skip
 rename_i y e;have e:some (bG (y,t))=some (bG (z,T)):=e;exact(Prod.mk.inj (lK (Option.some.inj e))).2
theorem FQ {ds:List aE}{f l T:Int}{R:List aI} (tm:∀t n,bP R t n≠0->t<T) (z:Str):goL ds f l R (bG (z,T))=0:=by
 rw[FA,←zM R];refine v5 fun t n hne=> ?_;have:=tm t n hne;rw[decide_eq_false (fun y=>by have:=OH y;lia),Bool.false_and]
theorem QG {ds:List aE}{f l T:Int}{R:List aI} (tm:∀t n,bP R t n≠0->t<T) (z:Str):goC ds f l R (bG (z,T))=0:=by
 rw[ES,←zM R];refine v5 fun t n hne=> ?_;have:=tm t n hne;rw[decide_eq_false (fun y=>by have:=OK y;lia),Bool.false_and]
theorem B1 {ds:List aE}{f l T T':Int}{R:List aI} (tm:∀t n,bP R t n≠0->t<T) (h:T<=T'):outF ds f l R T'=outF ds f l R T:=by
 rw[q9,q9];refine v5 fun t n hne=> ?_;have:=tm t n hne;rw[decide_eq_true (show t<T' by lia),decide_eq_true this]
theorem uS {ds:List aE}{f l T:Int}{R:List aI} (h:T<=f):outF ds f l R T=0:=by
 rw[q9,←zM R];refine v5 fun t n _=> ?_;show ((decide (t<T)&&kW ds n)&&cnt (ds.map (·.1)) f l (t,n,0))=false
 by_cases c:t<T
 ·have:cnt (ds.map (·.1)) f l (t,n,0)=false:=by
   unfold cnt;show (decide (n∈ds.map (·.1))&&(decide (f<=t)&&decide (t<l)))=false;rw[decide_eq_false (show ¬f<=t by lia),Bool.false_and,Bool.and_false]
  rw[this,Bool.and_false]
 ·rw[decide_eq_false c,Bool.false_and,Bool.false_and]
section
variable {rz ps:List (Str×Int)}{ds:List aE}{f l T:Int}{N:Nat}{S:List (List (Option Str))}{R R':List aI}{hs0 hs:List (Option Str)}{k:Nat}
theorem TurnI.start {i:Nat}(p:sW rz ps ds f l N T S R)(h:S[i]? =some hs)(hm:∀z,some z∈hs->z∈rz.map (·.1))(tm:∀t n,bP R t n≠0->f<=t/\t<T):TurnI rz ps ds f l T hs hs 0 R:=by
 have tm':∀t n,bP R t n≠0->t<T:=fun t n h=>(tm t n h).2;refine⟨rfl,fun _ _=>rfl,hm,fun z=>by rw[FQ tm',QG tm'];lia,by rw[B1 tm' (show T<=T+1 by lia)];lia,fun z=> ?_,(p.at' i hs h).2.2.2.1,fun t n h=>⟨(tm t n h).1,by have:=tm' t n h;lia⟩⟩;rw[FQ tm',List.take_zero];exact Int.le_refl _
theorem TurnI.stay (h:TurnI rz ps ds f l T hs0 hs k R)(hk:k<hs0.length):TurnI rz ps ds f l T hs0 hs (k+1) R:=by
 refine⟨h.len,fun j hj=>h.rest j (by lia),h.mem,h.cz,h.cn,fun z=> ?_,h.fit,h.tm⟩;rw[uO (List.getElem?_eq_getElem hk)];have:=h.lv z
 split<;>lia
theorem TurnI.go (h:TurnI rz ps ds f l T hs0 hs k R)(p:sW rz ps ds f l N T S R)(nd:(ds.map (·.1)).Nodup){d:aE}(hd:d∈ds)(h0:f<=T)(h1:T<l){z:Str}(hz:d.2.1=z)(hk:hs[k]? =some (some z)){o:Option Str}(ho:d.2.2.1=oV o)(hor:∀y,o=some y->y∈rz.map (·.1))(hfit:∀e∈rz,o=some e.1->e.1≠z->cO (some e.1) hs<e.2)(hlt:bP R T d.1<eX ds f l T d.1)(hR:SameT R' ((T,d.1,1)::R)) :
  TurnI rz ps ds f l T hs0 (hs.set k o) (k+1) R'/\sW rz ps ds f l N T S R':=by
 have eL:∀y t',goL ds f l R' (bG (y,t'))=(if d.2.1=y/\T=t' then 1 else 0)+goL ds f l R (bG (y,t')):=fun y t'=>by rw[hR.goL];exact P8 nd hd h0 h1 1 R y t'
 have eC:∀y t',goC ds f l R' (bG (y,t'))=(if d.2.2.1= .str y/\T=t' then 1 else 0)+goC ds f l R (bG (y,t')):=fun y t'=>by rw[hR.goC];exact Q2 nd hd h0 h1 1 R y t'
 have eO:∀t',outF ds f l R' t'=(if T<t'/\d.2.2.1= .non then 1 else 0)+outF ds f l R t':=fun t'=>by rw[hR.outF];exact NT nd hd h0 h1 1 R t'
 have eT:∀t n,bP R' t n=(if (T,d.1)=(t,n) then 1 else 0)+bP R t n:=fun t n=>by rw[hR];exact dC _ _ _ _
 have k0:hs0[k]? =some (some z):=by rw[←h.rest k (Nat.le_refl _)];exact hk
 have oe:∀y,(o=some y↔d.2.2.1= .str y):=fun y=>by
  rw[ho];cases o with
  | none=>exact⟨(fun e=>nomatch e),(fun e=>nomatch e)⟩
  | some x=>exact⟨fun e=>by cases e;rfl,fun e=>by cases e;rfl⟩
 have on:(o=none↔d.2.2.1= .non):=by
  rw[ho];cases o with
  | none=>exact⟨fun _=>rfl,fun _=>rfl⟩
  | some x=>exact⟨(fun e=>nomatch e),(fun e=>nomatch e)⟩
 have cs:∀y,cO (some y) (hs.set k o)=cO (some y) hs - (if z=y then 1 else 0)+(if d.2.2.1= .str y then 1 else 0):=fun y=>by
  rw[vA (some y) o hk]
  congr 1
  ·by_cases c:z=y
   ·rw[if_pos c,if_pos (by rw[c])]
   ·rw[if_neg c,if_neg (fun e=>c (Option.some.inj e))]
  ·by_cases c:d.2.2.1= .str y
   ·rw[if_pos c,if_pos ((oe y).mpr c)]
   ·rw[if_neg c,if_neg (fun e=>c ((oe y).mp e))]
 refine⟨⟨by rw[List.length_set];exact h.len,fun j hj=> ?_,fun y hy=> ?_,fun y=> ?_,?_,fun y=> ?_,fun e he=> ?_,fun t n hne=> ?_⟩,⟨fun i hs' hi=> ?_,fun i y hi=> ?_,fun t n=> ?_,fun t n=> ?_⟩⟩
 ·rw[List.getElem?_set_ne (by lia)];exact h.rest j (by lia)
 ·rcases List.mem_or_eq_of_mem_set hy with hy|hy
  ·exact h.mem y hy
  ·exact hor y hy.symm
 ·rw[cs,eL,eC,h.cz y,hz];have e1:(if z=y/\T=T then (1:Int) else 0)=if z=y then 1 else 0:=by simp
  have e2:(if d.2.2.1= .str y/\T=T then (1:Int) else 0)=if d.2.2.1= .str y then 1 else 0:=by simp
  rw[e1,e2];lia
 ·rw[vA none o hk,eO,eO,h.cn,if_neg (fun e=>nomatch e)];have e2:(if T<T/\d.2.2.1= .non then (1:Int) else 0)=0:=if_neg (fun e=>by have:=e.1;lia);rw[e2]
  by_cases c:o=none
  ·rw[if_pos c,if_pos ⟨by lia,on.mp c⟩];lia
  ·rw[if_neg c,if_neg (fun e=>c (on.mpr e.2))];lia
 ·rw[eL,uO k0,hz];have:=h.lv y
  by_cases c:z=y
  ·rw[if_pos ⟨c,rfl⟩,if_pos (by rw[c])];lia
  ·rw[if_neg (fun e=>c e.1),if_neg (fun e=>c (Option.some.inj e))];lia
 ·rw[cs];have h3:=h.fit e he
  by_cases c:d.2.2.1= .str e.1
  ·by_cases c2:z=e.1
   ·rw[if_pos c,if_pos c2];lia
   ·have:=hfit e he ((oe e.1).mpr c) (fun y=>c2 y.symm);rw[if_pos c,if_neg c2];lia
  ·rw[if_neg c]
   split<;>lia
 ·rw[eT]at hne
  by_cases c:(T,d.1)=(t,n)
  ·cases c;exact⟨h0,Int.le_refl _⟩
  ·rw[if_neg c,Int.zero_add]at hne;exact h.tm t n hne
 ·walk_at"g1";obtain⟨a1,a2,a3,a4,a5⟩:=p.at' i hs' hi;walk_at"g2";refine⟨a1,fun y=> ?_,?_,a4,a5⟩
  ·rw[a2];refine uW fun j hj=> ?_;rw[eL,eC,if_neg (fun e=>by have:=e.2;lia),if_neg (fun e=>by have:=e.2;lia)];exact⟨(Int.zero_add _).symm,(Int.zero_add _).symm⟩
  ·rw[a3,eO,if_neg (fun e=>by have:=e.1;lia),Int.zero_add]
 ·have:=p.lv i y hi;rw[eL,if_neg (fun e=>by have:=e.2;lia),Int.zero_add];refine Int.le_trans this (Int.le_of_eq (uW fun j hj=> ?_));rw[eL,eC,if_neg (fun e=>by have:=e.2;lia),if_neg (fun e=>by have:=e.2;lia)];exact⟨(Int.zero_add _).symm,(Int.zero_add _).symm⟩
 ·rw[eT];have:=p.nn t n
  split<;>lia
 ·rw[eT]
  by_cases c:(T,d.1)=(t,n)
  ·cases c;rw[if_pos rfl];lia
  ·rw[if_neg c,Int.zero_add];exact p.le t n
theorem TurnI.done {i:Nat}(h:TurnI rz ps ds f l T hs0 hs hs0.length R)(p:sW rz ps ds f l N T S R)(hT:T=f+(i:Int))(hS:S.length=i+1)(hi:S[i]? =some hs0):sW rz ps ds f l N (T+1) (S++[hs]) R/\∀t n,bP R t n≠0->f<=t/\t<T+1:=by
 walk_at"g1";obtain⟨a1,a2,a3,a4,a5⟩:=p.at' i hs0 hi;walk_at"g2";refine⟨⟨fun j hs' hj=> ?_,fun j z hj=> ?_,p.nn,p.le⟩,fun t n hne=>⟨(h.tm t n hne).1,by have:=(h.tm t n hne).2;lia⟩⟩
 ·by_cases c:j<S.length
  ·rw[List.getElem?_append_left c]at hj;obtain⟨b1,b2⟩:=p.at' j hs' hj;exact⟨by lia,b2⟩
  ·rw[List.getElem?_append_right (by lia)]at hj;have hjl:j - S.length<1:=by
    have:=(List.getElem?_eq_some_iff.mp hj).1
    simpa using this
   have ej:j=i+1:=by lia
   subst ej;rw[show i+1 - S.length=0 by lia]at hj;have hj:hs=hs':=by simpa using hj
   subst hj;refine⟨by lia,fun z=> ?_,?_,h.fit,by rw[h.len];exact a5⟩
   ·rw[h.cz,a2,hT];rfl
   ·rw[h.cn,a3,hT,show f+((i+1:Nat):Int)=f+(i:Int)+1 by lia];lia
 ·by_cases c:f+(j:Int)<T
  ·exact p.lv j z c
  ·have ej:j=i:=by lia
   subst ej;have:=h.lv z;rw[List.take_length,a2]at this;rw[hT]at this;exact this
end
local macro_rules| `(tactic| walk_at"rd1")=> `(tactic| first|(with_reducible refine rd_keyV ?_)|(with_reducible refine rd_clearT ?_)|(with_reducible refine rd_iEnum ?_)|((with_reducible refine' rd_iEnumV ?e ?_);(case e=>walk_at"hp"))|((with_reducible refine' rd_isiDT ?e ?_);(case e=>walk_at"hp")))
def uZ:Sp:=fun vs H Q _=>∃i,vs=[.int i]/\Q (.bl true) H
theorem SI {H:Hp}{Q:VK}{E:XK}{i:Int} (h:Q (.bl true) H):uZ [.int i] H Q E:=⟨_,rfl,h⟩
theorem C3 (m:M K mg):bK P w K mg base CX0 1 m.p0 m.pI ["_law_found"] (uZ):=by
 refine m.iV.ok sc__law_whole (fun vs H Q E h=> ?_) (fun cdv A outer s H vs Q E hr h=> ?_)
 ·obtain⟨i,rfl,k⟩:=h;rfl
 ·obtain⟨i,rfl,k⟩:=h;have nd:=sc__law_whole.nd;walk_at"hu";refine⟨_,(aF (bC (zE (bJ oQ rfl m.iU hV (aA (pv 0) (aA (yG rfl m.UK NY) aB))) (yY (NV (bJ oQ rfl m.iU hV (aA (pv 0) (aA (yG rfl m.PR JB) aB)))))))),?_⟩;refine aP (σ:=[some (.int i)]) rfl ?_;walk_at"cx";walk_at"go";exact k
theorem CU (m:M K mg):Fc P w K mg base "_law_whole" 1 ["_law_found"] (uZ):=⟨_,_,m.GO,m.iV.kp,m.GR,C3 m⟩
def oA (ns:List Int)(k:Int):Int:=ns.getD k.toNat 0
inductive vW (K:PySem.W.Frag)(vs:List V)(H:Hp)(Q:VK)(E:XK):Prop
 | mk (a:Addr) (ns:List Int) (k:Int) (_:vs=[.ref a,.int k]) (_:SqL K H a (ns.map V.int)) (_:0<=k) (_:Q (.int (oA ns k)) H):vW K vs H Q E
theorem ZA {H:Hp}{Q:VK}{E:XK}{a:Addr}{ns:List Int}{i:Int} (hS:SqL K H a (ns.map V.int)) (hi:0<=i) (h:Q (.int (oA ns i)) H):vW K [.ref a,.int i] H Q E:=⟨_,_,_,rfl,hS,hi,h⟩
theorem y6 (m:M K mg):bK P w K mg base CX0 1 m.l6 m.l9 ["_law_script","_law_k"] (vW K):=by
 refine m.bZ.ok sc__law_cell_at (fun vs H Q E h=> ?_) (fun cdv A outer s H vs Q E hr h=> ?_)
 ·walk_at"g1";obtain⟨a,ns,i,rfl,hS,hi,k⟩:=h;walk_at"g2";rfl
 ·walk_at"g1";obtain⟨a,ns,i,rfl,hS,hi,k⟩:=h;walk_at"g2";have nd:=sc__law_cell_at.nd;walk_at"hu";refine⟨_,(aC (cP (bL nW (pv 1) (bJ dZ rfl m.jR iA (aA (pv 0) aB)) (bO _)) (aF (bC (cH cZ (pv 0) (pv 1) (fun _ _=>rfl)))) bT)
   (aF (bC aG))),?_⟩
  refine aP (σ:=[some (.ref a),some (.int i)]) rfl ?_;walk_at"cx";walk_at"go";rw[List.length_map];refine gO (fun h1=> ?_) (fun h1=> ?_)
  ·have hlt:i.toNat<ns.length:=by lia
   have e:=wH (xs:=ns.map V.int) (j:=i.toNat) (v:= .int (oA ns i)) (by
    rw[List.getElem?_map,List.getElem?_eq_getElem hlt];unfold oA;rw[List.getD_eq_getElem?_getD,List.getElem?_eq_getElem hlt];rfl)
   rw[show ((i.toNat:Nat):Int)=i by lia]at e;exact⟨_,rfl,_,rfl,a,_,i,_,rfl,rfl,hS,e,k⟩
  ·have e:oA ns i=0:=by
    unfold oA;rw[List.getD_eq_getElem?_getD,List.getElem?_eq_none (by lia)];rfl
   rw[e]at k;exact k
theorem kY (m:M K mg):Fc P w K mg base "_law_cell_at" 1 ["_law_script","_law_k"] (vW K):=⟨_,_,m.AX,m.bZ.kp,m.AS,y6 m⟩
inductive sV (vs:List V)(H:Hp)(Q:VK)(E:XK):Prop
 | mk (c k:Int) (_:vs=[.int c,.int k]) (_:∀n,0<=n->n<2147483648->Q (.int n) H):sV vs H Q E
theorem W2 {H:Hp}{Q:VK}{E:XK}{c k:Int} (h:∀n,0<=n->n<2147483648->Q (.int n) H):sV [.int c,.int k] H Q E:=⟨_,_,rfl,h⟩
theorem C1 (m:M K mg):bK P w K mg base CX0 1 m.o8 m.p9 ["_law_cell","_law_k"] (sV):=by
 refine m.d0.ok sc__law_drawn (fun vs H Q E h=> ?_) (fun cdv A outer s H vs Q E hr h=> ?_)
 ·walk_at"g1";obtain⟨c,j,rfl,k⟩:=h;walk_at"g2";rfl
 ·walk_at"g1";obtain⟨c,j,rfl,k⟩:=h;walk_at"g2";have nd:=sc__law_drawn.nd;walk_at"hu";refine⟨_,(aC (aZ (i:=2) nd rfl (by walk_at"oi") (aJ cT (aJ yE (aJ cF (aJ cF (pv 0) (aJ yE aG (pv 1))) aG) aG) aG))
   (aF (bC (aJ cT (aJ yE (pv 2) (aJ cF (aJ dX (pv 2) aG) aG)) aG)))),?_⟩
  refine aP (σ:=[some (.int c),some (.int j),none]) rfl ?_;walk_at"cx";walk_at"go";refine k _ ?_ ?_
  ·exact Int.emod_nonneg _ (by decide)
  ·exact Int.lt_trans (Int.emod_lt_of_pos _ (by decide)) (by decide)
theorem mY (m:M K mg):Fc P w K mg base "_law_drawn" 1 ["_law_cell","_law_k"] (sV):=⟨_,_,m.GV,m.d0.kp,m.GE,C1 m⟩
local macro_rules| `(tactic| walk_at"rd1")=> `(tactic| first|(with_reducible refine SI ?_)|((with_reducible refine' ZA ?e ?s ?_);(case e=>walk_at"hp");(case s=>walk_at"sd"))|((with_reducible refine W2 ?_);intro n' h0' h1'))
theorem XF {H:Hp}{p dx:Addr}{n st:Str}{e:V}{wd:Int} (m:M K mg) (h:H p=some (.ins m.gS dx (u7 (.str n) (.str st) e (.int wd)))):(aR P w K mg base (some 1)).at' H (.ref p) (n,st,e,fun _=>wd) :=
 ⟨p,_,dx,_,[],rfl,h,m.rY,by walk_at"lk",by walk_at"lk",by walk_at"lk",by walk_at"lk",by walk_at"lk",yH m,(fun _ z=>nomatch z),fun kl hk=>by
  cases hk;exact⟨_,DZ m,fun H' t Q hp _ ht k=>GY hp m.rY (by walk_at"lk") (k _ (Same.refl _))⟩⟩
theorem NO {H:Hp}{p dx:Addr}{n st:Str}{e:V}{wd i0:Int} (m:M K mg) (b0:0<=i0) (h:H p=some (.ins m.gD dx (sS (.str n) (.str st) e (.int wd) (.int i0)))):(aR P w K mg base (some 1)).at' H (.ref p) (n,st,e,lG wd i0) :=
 ⟨p,_,dx,_,[],rfl,h,m.mW,by walk_at"lk",by walk_at"lk",by walk_at"lk",by walk_at"lk",by walk_at"lk",wL m,(fun _ z=>nomatch z),fun kl hk=>by
  cases hk;exact⟨_,zO m,fun H' t Q hp _ ht k=>uB hp m.mW (by walk_at"lk") (by walk_at"lk") ht b0 (k _ (Same.refl _))⟩⟩
def ltr (x:Str)(i:Nat):Str:=⟨#[x.cps.toList.getD i 0]⟩
theorem FJ {x:Str}{i:Int} (h0:0<=i) (h1:i<x.cps.toList.length):atI x.cps.toList i=some (x.cps.toList.getD i.toNat 0):=by
 have e:=wH (xs:=x.cps.toList) (j:=i.toNat) (v:=x.cps.toList.getD i.toNat 0) (by rw[List.getD_eq_getElem?_getD,List.getElem?_eq_getElem (by lia)];rfl);rw[show ((i.toNat:Nat):Int)=i by lia]at e;exact e
theorem AB {l:List Nat}{i:Nat} (h:i<l.length):l.getD i 0=l[i]:=by rw[List.getD_eq_getElem?_getD,List.getElem?_eq_getElem h];rfl
theorem EV {x:Str}(hl:u4 x=true){i:Nat}(h1:i<x.cps.toList.length):b5 (ltr x i)=true:=by
 refine QL (show 1<=1 from Nat.le_refl _) (show 1<=8 by decide) (SG hl ?_);rw[AB h1];exact List.getElem_mem h1
theorem uN {x:Str}(hx:x.cps.toList.Nodup){n:Nat}(hn:n<=x.cps.toList.length):((List.range n).map (ltr x)).Nodup:=by
 rw[List.Nodup,List.pairwise_map];refine List.Pairwise.imp_of_mem ?_ (List.nodup_range (n:=n));intro a b ha hb hne z;have ha:=List.mem_range.mp ha;have hb:=List.mem_range.mp hb;have e:=V9 z;rw[AB (by lia),AB (by lia)]at e;have pw:=List.pairwise_iff_getElem.mp hx;rcases Nat.lt_or_gt_of_ne hne with h|h
 ·exact pw a b (by lia) (by lia) h e
 ·exact pw b a (by lia) (by lia) h e.symm
theorem WF {α:Type}(nm:α->Str)(sz pp:α->Int):∀{l:List α},(l.map nm).Nodup->(∀i∈l,0<=pp i/\pp i<=sz i)->u0 (l.map fun i=>(nm i,sz i)) (l.map fun i=>(nm i,pp i)):=fun {l} nd h=>by
 refine⟨fun p hp=> ?_,fun e he=> ?_⟩
 ·obtain⟨e,he,rfl⟩:=List.mem_map.mp hp;exact(h e he).1
 ·obtain⟨j,hj,rfl⟩:=List.mem_map.mp he;have key:∀l:List α,(l.map nm).Nodup->j∈l->cG (l.map fun i=>(nm i,pp i)) (nm j)=pp j:=fun l=>by
   induction l with
   | nil=>exact fun _ h=>nomatch h
   | cons a l ih =>
    intro nd hm;have nd':=List.nodup_cons.mp nd;have hz:∀l:List α,nm a∉l.map nm->cG (l.map fun i=>(nm i,pp i)) (nm a)=0:=fun l=>by
     induction l with
     | nil=>exact fun _=>rfl
     | cons b l ih =>
      intro hn;rw[List.map_cons,List.mem_cons,not_or]at hn;have:=ih hn.2;unfold cG at this ⊢;rw[List.map_cons,List.filter_cons_of_neg (by simpa using fun z=>hn.1 z.symm),this]
    rcases List.mem_cons.mp hm with h|h
    ·subst h;have:=hz l nd'.1;unfold cG at this ⊢;rw[List.map_cons,List.filter_cons_of_pos (by simp),List.map_cons,List.sum_cons,this];exact Int.add_zero _
    ·have hne:¬nm a=nm j:=fun z=>nd'.1 (show nm a∈_ by rw[z];exact List.mem_map.mpr ⟨j,h,rfl⟩);have:=ih nd'.2 h;unfold cG at this ⊢;rw[List.map_cons,List.filter_cons_of_neg (by simpa using hne),this]
  show cG _ (nm j)<=sz j;rw[key l nd hj];exact(h j hj).2
theorem Y0:("fghij" :Str).cps.toList.length=5:=by decide +kernel
theorem YV:("abcdefg" :Str).cps.toList.length=7:=by decide +kernel
theorem aAq:u4 "fghij" =true:=by decide +kernel
theorem aAM:u4 "abcdefg" =true:=by decide +kernel
theorem TD:("fghij" :Str).cps.toList.Nodup:=by decide +kernel
theorem aBD:("abcdefg" :Str).cps.toList.Nodup:=by decide +kernel
def eV (c:Int)(i:Nat):Str×Int:=(ltr "fghij" i,1+c/(7+(i:Int))%6)
def z6 (c c2:Int)(i:Nat):Str×Int:=(ltr "fghij" i,c2/((i:Int)+1)%(1+c/(7+(i:Int))%6+1))
structure DrawnH (rz ps:List (Str×Int))(ds:List aE)(f l:Int):Prop where
 nr:(rz.map (·.1)).Nodup
 nd:(ds.map (·.1)).Nodup
 hin:∀d∈ds,dF (rz.map (·.1)) d
 lt0:∀d∈ds,∀t,0<=d.2.2.2 t
 hpr:∀p∈ps,p.1∈rz.map (·.1)
 fit:u0 rz ps
 sz:∀e∈rz,0<=e.2/\e.2<=6
 lr:rz.length<=5
 ld:ds.length<=7
 ld0:0<ds.length
 f0:0<=f
 f1:f+2<=l
 f2:l<=f+8
 f3:f<100000000000
theorem DrawnH.most {rz ps:List (Str×Int)}{ds:List aE}{f l:Int} (h:DrawnH rz ps ds f l) (t:Int) (n:Str):0<=eX ds f l t n:=by
 unfold eX;cases hd:dY ds n with
 | none=>exact Int.le_refl _
 | some d =>
  show 0<=i9 f l d t;unfold i9
  split
  ·exact h.lt0 d (List.mem_of_find?_eq_some hd) t
  ·exact Int.le_refl _
theorem VT {H:Hp}{Q:VK}{i j:Int} (c:F5 i j) (h:∀b,b=i * 2^j.toNat->Q (.int b) H):rI F5 (fun i j=>V.int (i * 2^j.toNat)) (.int i) (.int j) H Q:=⟨_,_,rfl,rfl,c,h _ rfl⟩
inductive qL (K:PySem.W.Frag)(C:Addr)(D:bA)(vs:List V)(H:Hp)(Q:VK)(E:XK):Prop
 | mk (a:Addr) (ns:List Int) (_:vs=[.ref a]) (_:SqL K H a (ns.map V.int)) (_:∀h H' f l rz ps ds,Same H H'->aO C D H' h f l rz ps ds->DrawnH rz ps ds f l->Q (.ref h) H'):qL K C D vs H Q E
theorem QD {C:Addr}{D:bA}{H:Hp}{Q:VK}{E:XK}{a:Addr}{ns:List Int} (hS:SqL K H a (ns.map V.int)) (k:∀h H' f l rz ps ds,Same H H'->aO C D H' h f l rz ps ds->DrawnH rz ps ds f l->Q (.ref h) H'):qL K C D [.ref a] H Q E:=⟨_,_,rfl,hS,k⟩
theorem CM (m:M K mg):bK P w K mg base CX0 8 m.qB m.o7 ["_law_script"] (qL K m.aH (aR P w K mg base (some 1))):=by
 refine m.kZ.ok sc__law_house (fun vs H Q E h=> ?_) (fun cdv A outer s H vs Q E hr h=> ?_)
 ·walk_at"g1";obtain⟨a,ns,rfl,hS,k⟩:=h;walk_at"g2";rfl
 ·walk_at"g1";obtain⟨a,ns,rfl,hS,k⟩:=h;walk_at"g2";have nd:=sc__law_house.nd;walk_at"hu";have bZ:= @kY P w K mg base m;have d0:= @mY P w K mg base m;have K_Door_0:= @MQ P w K mg base m;have K_House_0:= @K6 P w K mg base m;have K_Marked_0:= @HN P w K mg base m;have w_dc_House:=m.bE;have w_dc_Door:=m.rY;have w_dc_Marked:=m.mW;refine⟨_,(aC (aZ (i:=1) nd rfl (by walk_at"oi") (bR bZ hr (aA (pv 0) (aA aG aB))))
   (aC (aZ (i:=2) nd rfl (by walk_at"oi") (dI (N:=["_law_k","_law_cell"]) (nl:=1) (ci:=[1]) rfl (blk (s.heap.objs.size+1) rfl rfl rfl (by kernel_rfl)) (qH rfl m.kH (aA (aJ cF aG (aJ cT (pv 1) aG)) aB)) (fun _ _ _ _=>(aL (i:=0) (show (["_law_k","_law_cell"]:List Str).Nodup by decide +kernel) rfl (by walk_at"oi"))) (fun _ _ _ _=>iN) (fun _ _ _ _=>(cB (aA (cH ET fU (pv 0) (fun _ _=>rfl)) (aA (aJ cF aG (aJ cT (aJ dX (pv 1) (aJ cF aG (pv 0))) aG)) aB))))))
   (aC (aZ (i:=3) nd rfl (by walk_at"oi") (cH cZ (iB (aA aG (aA aG (aA (aJ cT (aJ dX (pv 1) aG) (WN 100000000000 (by decide) ⟨by decide,by decide,by decide⟩)) aB)))) (aJ cT (aJ dX (pv 1) aG) aG) (fun _ _=>rfl)))
   (aC (aZ (i:=4) nd rfl (by walk_at"oi") (iB aB))
   (aC (dE PassesOwn.never rfl (qH rfl m.kH (aA (aJ cF aG (aJ cT (bR bZ hr (aA (pv 0) (aA aG aB))) aG)) aB)) (aL (i:=5) nd rfl (by walk_at"oi")) (aC (aZ (i:=6) nd rfl (by walk_at"oi") (bR d0 hr (aA (bR bZ hr (aA (pv 0) (aA aG aB))) (aA (pv 5) aB))))
   (aC (aZ (i:=7) nd rfl (by walk_at"oi") (cH yZ (cH cZ (pv 2) (aJ cT (pv 6) (bJ dZ rfl m.jR iA (aA (pv 2) aB))) (fun _ _=>rfl)) aG (fun _ _=>rfl)))
   (aC (aZ (i:=8) nd rfl (by walk_at"oi") (cH cZ (iB (aA hZ (aA (cH yZ (cH cZ (pv 2) (aJ cT (aJ dX (pv 6) aG) (bJ dZ rfl m.jR iA (aA (pv 2) aB))) (fun _ _=>rfl)) aG (fun _ _=>rfl)) (aA (cH yZ (cH cZ (pv 2) (aJ cT (aJ dX (pv 6) aG) (bJ dZ rfl m.jR iA (aA (pv 2) aB))) (fun _ _=>rfl)) aG (fun _ _=>rfl)) aB)))) (aJ cT (aJ dX (pv 6) aG) aG) (fun _ _=>rfl)))
   (aF (cP (bL vR (aJ cT (aJ dX (pv 6) aG) aG) aG (bO _)) (aF (cI (mK PySem.F.plainAttrs_list PySem.F.slot_list_append PySem.F.type_list_append iS (pv 4) (aA (LB K_Marked_0 hr (aA (cH ET fU (pv 5) (fun _ _=>rfl)) (aA (pv 7) (aA (pv 8) (aA (aJ cT (aJ dX (pv 6) aG) aG) (aA (aJ YM (aJ dX (pv 6) aG) (bJ (BA rfl) rfl m.UN MS (aA (pv 3) (aA aG aB)))) aB)))))) aB)))) (aF (cI (mK PySem.F.plainAttrs_list PySem.F.slot_list_append PySem.F.type_list_append iS (pv 4) (aA (LB K_Door_0 hr (aA (cH ET fU (pv 5) (fun _ _=>rfl)) (aA (pv 7) (aA (pv 8) (aA (aJ cT (aJ dX (pv 6) aG) aG) aB))))) aB))))))))))
   (aC (tQ (i:=9) nd rfl (by walk_at"oi") (N:=["_law_k","_law_rooms","_law_script"]) (nl:=1) (ci:=[2,0]) rfl (blk (s.heap.objs.size+1) rfl rfl rfl (by kernel_rfl)) (qH rfl m.kH (aA (bJ dZ rfl m.jR iA (aA (pv 2) aB)) aB)) (fun _ _ _ _=>(aL (i:=0) (show (["_law_k","_law_rooms","_law_script"]:List Str).Nodup by decide +kernel) rfl (by walk_at"oi"))) (fun _ _ _ _=>iN) (fun _ _ _ _=>(cB (aA (cH (rB (K:=K)) (cH (FU (K:=K)) (pv 1) (pv 0) (fun _ _=>rfl)) aG (fun _ _=>rfl)) (aA (aJ cT (aJ dX (bR bZ hr (aA (pv 2) (aA aG aB))) (aJ cF (pv 0) aG)) (aJ cF (cH (rB (K:=K)) (cH (FU (K:=K)) (pv 1) (pv 0) (fun _ _=>rfl)) aG (fun _ _=>rfl)) aG)) aB)))))
   (aF (bC (LB K_House_0 hr (aA (pv 2) (aA (pv 4) (aA (pv 9) (aA (aJ cF (aJ cF (pv 3) aG) (aJ cT (aJ dX (pv 1) aG) aG)) (aA (pv 3) aB)))))))))))))),?_⟩
  refine aP (σ:=[some (.ref a),none,none,none,none,none,none,none,none,none]) rfl ?_;walk_at"cx";have hl5:("fghij" :Str).length=5:=by rw[cJ];rfl
  have hl7:("abcdefg" :Str).length=7:=by rw[cJ];rfl
  have hc5:=Y0;have hc7:=YV;walk_at"go";generalize hcc:oA ns 0=c0;refine OM (fun i y H=>cC H y (eV c0 i)) (fun _ _ _ _ ⟨q,e,h⟩ s=>⟨q,e,s _ _ h⟩) (by rw[sizeLine_eq];lia) (rest:=[some (.int c0)]) (by rfl) ?_ ?_
  ·intro i H1 hi s1 R hR;walk_at"go";rw[Int.zero_add];refine⟨_,_,_,rfl,rfl,(by walk_at"sz"),FJ (by lia) (by lia),?_⟩;walk_at"go";rename_i q2 H2 n2 S2 e2;exact hR _ _ ⟨q2,rfl,by rw[e2];rfl⟩ S2
  intro ws H1 s1 hws;generalize hne:(1+c0%5).toNat=n at hws;have hn0:0<n:=by lia
  have hn5:n<=5:=by lia
  have hra:RoomsAt H1 ws ((List.range n).map (eV c0)):=lU (eV c0) hws;have hwl:ws.length=n:=by rw[Paired.length hra,List.length_map,List.length_range]
  have hrn:((List.range n).map (eV c0)).map (·.1)=(List.range n).map (ltr "fghij"):=by rw[List.map_map];rfl
  have hnr:(((List.range n).map (eV c0)).map (·.1)).Nodup:=by rw[hrn];exact uN TD (by lia)
  have hnm:∀e∈(List.range n).map (eV c0),b5 e.1=true:=fun e he=>by
   obtain⟨i,hi,rfl⟩:=List.mem_map.mp he;exact EV aAq (by have:=List.mem_range.mp hi;lia)
  have hmem:∀{H':Hp},RoomsAt H' ws ((List.range n).map (eV c0))->∀v∈ws,∃z i q,v= .ref q/\H' q=some (.tup [.str z,.int i])/\z∈((List.range n).map (eV c0)).map (·.1)/\b5 z=true:=fun hr v hv=>by
   walk_at"g1";obtain⟨z,i,q,e1,e2,e3⟩:=RC hr hv;walk_at"g2";exact⟨z,i,q,e1,e2,List.mem_map.mpr ⟨_,e3,rfl⟩,hnm _ e3⟩
  walk_at"go";rename_i pW H2 n2 S2 eW pF H3 n3 S3 eF f hf p H4 n4 S4 ep;have hf0:0<=f/\f<100000000000:=by lia
  have s24:Same H2 H3:=S3;let Pv1:Nat->St->Hp->Prop:=fun i σ' H'=>SameBut p H4 H'/\(∃us ds,H' p=some (.lst us)/\Paired ((aR P w K mg base (some 1)).at' H') us ds/\(∀d∈ds,dF (((List.range n).map (eV c0)).map (·.1)) d)/\(∀d∈ds,∀t,0<=d.2.2.2 t)/\ds.map (·.1)=(List.range i).map (ltr "abcdefg"))/\∃x y z u,σ'=[some (.ref a),some (.int c0),some (.ref pW),some (.int f),some (.ref p),x,y,z,u,none];refine rE Pv1 ⟨SameBut.refl,⟨[],[],ep,.nil,(fun _ z=>nomatch z),(fun _ z=>nomatch z),rfl⟩,_,_,_,_,rfl⟩ ?_ ?_
  ·rintro i _ H' hi hq_;walk_at"g1";obtain⟨sb,⟨us,ds,eu,hud,hds,hdt,hnm2⟩,x1,x2,x3,x4,rfl⟩:=hq_;walk_at"g2";have hi7:i<7:=by lia
   have hul:us.length=i:=by
    have h5:ds.length=i:=by rw[←List.length_map (f:=fun d:aE=>d.1),hnm2,List.length_map,List.length_range]
    rw[Paired.length hud];exact h5
   have s3':Same H3 H':=SameBut.same n4 S4 sb;have eW':=s3' _ _ (S3 _ _ eW);have hra':=hra.sm ((S2.trans S3).trans s3');have hS':SqL K H' a (ns.map V.int):=((s1.trans (S2.trans S3)).trans s3').seq hS;have hb0:b5 (ltr "abcdefg" i)=true:=EV aAM (by lia);have hb0':b5 ⟨#[("abcdefg" :Str).cps.toList.getD i 0]⟩=true:=hb0;walk_at"go";rename_i dd hd0 hd1 ha0 ha1;refine rP (SqL.of eW') ha0 ha1 fun v1 hv1=> ?_;walk_at"g1";obtain⟨z1,j1,q1,rfl,hq1,hz1,hb1⟩:=hmem hra' v1 hv1;walk_at"g2";walk_at"go";refine⟨q1,_,0,_,rfl,rfl,SqT.of hq1,rfl,?_⟩;walk_at"go";rename_i hc0 hc1;refine rP (SqL.of eW') hc0 hc1 fun v2 hv2=> ?_;walk_at"g1";obtain⟨z2,j2,q2,rfl,hq2,hz2,hb2⟩:=hmem hra' v2 hv2;walk_at"g2";walk_at"go";refine⟨q2,_,0,_,rfl,rfl,SqT.of hq2,rfl,?_⟩;walk_at"go";rename_i he0 he1;refine rP (SqL.of eW') he0 he1 fun v3 hv3=> ?_;walk_at"g1";obtain⟨z3,j3,q3,rfl,hq3,hz3,hb3⟩:=hmem hra' v3 hv3;walk_at"g2";walk_at"go";refine⟨q3,_,0,_,rfl,rfl,SqT.of hq3,rfl,?_⟩;walk_at"go";rename_i pE H5 n5 S5 eE;refine rP (SqL.of eE) (by lia) (by show _<(3:Int);lia) fun v hv=> ?_;have hve:sF v/\(v= .non∨∃z,v= .str z/\z∈((List.range n).map (eV c0)).map (·.1)):=by
    simp only[List.mem_cons,List.not_mem_nil,or_false]at hv;rcases hv with rfl|rfl|rfl
    ·exact⟨.inl rfl,.inl rfl⟩
    ·exact⟨.inr ⟨_,rfl,hb2⟩,.inr ⟨_,rfl,hz2⟩⟩
    ·exact⟨.inr ⟨_,rfl,hb3⟩,.inr ⟨_,rfl,hz3⟩⟩
   obtain⟨hve,hvi⟩:=hve;have eu5:H5 p=some (.lst us):=S5 _ _ eu;have fin:∀(q6:V) (d6:aE) (H6:Hp),Same H5 H6->(aR P w K mg base (some 1)).at' H6 q6 d6->d6.1=ltr "abcdefg" i->d6.2.1=z1->d6.2.2.1=v->(∀t,0<=d6.2.2.2 t)->∀H7,SameBut p H6 H7->H7 p=some (.lst (us++[q6]))->SameBut p H4 H7/\∃us ds,H7 p=some (.lst us)/\Paired ((aR P w K mg base (some 1)).at' H7) us ds/\(∀d∈ds,dF (((List.range n).map (eV c0)).map (·.1)) d)/\(∀d∈ds,∀t,0<=d.2.2.2 t)/\ds.map (·.1)=(List.range (i+1)).map (ltr "abcdefg"):=fun q6 d6 H6 S6 hd6 g1 g2 g3 g4 H7 B7 e7=>by
    have eu6:=S6 _ _ eu5;refine⟨(sb.trans (S5.trans S6).but).trans B7,us++[q6],ds++[d6],e7,L2.Paired.snoc (Paired.imp' (fun _ _ h=>(aR P w K mg base (some 1)).but ((aR P w K mg base (some 1)).same h (S5.trans S6)) eu6 trivial B7) hud) ((aR P w K mg base (some 1)).but hd6 eu6 trivial B7),?_,?_,?_⟩
    ·intro d' hd';rcases List.mem_append.mp hd' with hd'|hd'
     ·exact hds d' hd'
     ·cases List.mem_singleton.mp hd';exact⟨by rw[g2];exact hz1,by rw[g3];exact hvi⟩
    ·intro d' hd';rcases List.mem_append.mp hd' with hd'|hd'
     ·exact hdt d' hd'
     ·cases List.mem_singleton.mp hd';exact g4
    ·rw[List.map_append,hnm2,List.range_succ,List.map_append,List.map_singleton,List.map_singleton,g1]
   clear hv;walk_at"go";refine gO (fun hcM=> ?_) (fun hcM=> ?_)
   ·walk_at"go";rw[Int.zero_add];refine⟨_,_,_,rfl,rfl,(by walk_at"sz"),FJ (by lia) (by lia),?_⟩;rw[Int.toNat_natCast];walk_at"go";have hp2:0<=dd/64 * 2^(min f 3).toNat:=Int.mul_nonneg (by lia) (Int.le_of_lt (Int.pow_pos (by decide)));refine VT ⟨by lia,by lia,by lia⟩ fun bt hbt=> ?_;rw[←hbt]at hp2;clear hbt;walk_at"go";rename_i q6 dx6 H6 n6 S6 e6;have hd6:(aR P w K mg base (some 1)).at' H6 (.ref q6) (ltr "abcdefg" i,z1,v,lG (dd/512%4) bt):=NO (P:=P) (w:=w) (base:=base) m hp2 e6;refine iR (S6 _ _ eu5) (by rw[sizeLine_eq];lia) fun H7 B7 e7=> ?_;obtain⟨r1,r2⟩:=fin _ _ H6 S6 hd6 rfl rfl rfl (fun t=>by
     show 0<=lG (dd/512%4) bt t;unfold lG
     split
     ·exact Int.emod_nonneg _ (by decide)
     ·exact Int.le_refl _) H7 B7 e7
    exact⟨r1,r2,_,_,_,_,rfl⟩
   ·walk_at"go";rw[Int.zero_add];refine⟨_,_,_,rfl,rfl,(by walk_at"sz"),FJ (by lia) (by lia),?_⟩;rw[Int.toNat_natCast];walk_at"go";rename_i q6 dx6 H6 n6 S6 e6;have hd6:(aR P w K mg base (some 1)).at' H6 (.ref q6) (ltr "abcdefg" i,z1,v,fun _=>dd/512%4):=XF (P:=P) (w:=w) (base:=base) m e6;refine iR (S6 _ _ eu5) (by rw[sizeLine_eq];lia) fun H7 B7 e7=> ?_;obtain⟨r1,r2⟩:=fin _ _ H6 S6 hd6 rfl rfl rfl (fun t=>Int.emod_nonneg _ (by decide)) H7 B7 e7;exact⟨r1,r2,_,_,_,_,rfl⟩
  ·rintro _ H' hq_;walk_at"g1";obtain⟨sb,⟨us,ds,eu,hud,hds,hdt,hnm2⟩,x1,x2,x3,x4,rfl⟩:=hq_;walk_at"g2";have s3':Same H3 H':=SameBut.same n4 S4 sb;have eW':=s3' _ _ (S3 _ _ eW);have hra':=hra.sm ((S2.trans S3).trans s3');have hS':SqL K H' a (ns.map V.int):=((s1.trans (S2.trans S3)).trans s3').seq hS;walk_at"go";generalize hc2:oA ns 2=c2;refine OM (fun i y H=>cC H y (z6 c0 c2 i)) (fun _ _ _ _ ⟨q,e,h⟩ s=>⟨q,e,s _ _ h⟩) (by rw[sizeLine_eq];lia) (rest:=[some (.ref pW),some (.ref a)]) (by rfl) ?_ ?_
   ·intro i G1 hi g1 R hR;have hin':i<n:=by lia
    have hwi:ws[i]? =some ws[i]:=List.getElem?_eq_getElem (by lia);have hri:((List.range n).map (eV c0))[i]? =some (eV c0 i):=by rw[List.getElem?_map,List.getElem?_range hin'];rfl
    obtain⟨q,hq,hqt⟩:=Paired.at2 (hra'.sm g1) hwi hri;rw[hq]at hwi;have eWG:=g1 _ _ eW';have hSG:=g1.seq hS';have hqt':G1 q=some (.tup [.str (ltr "fghij" i),.int (1+c0/(7+(i:Int))%6)]):=hqt;have hm0:0<=c0/(7+(i:Int))%6:=Int.emod_nonneg _ (by decide);walk_at"go";rw[Int.zero_add];refine iI (SqL.of eWG) hwi ?_;walk_at"go";refine⟨q,_,0,_,rfl,rfl,SqT.of hqt',rfl,?_⟩;walk_at"go";refine iI (SqL.of eWG) hwi ?_;walk_at"go";refine⟨q,_,1,_,rfl,rfl,SqT.of hqt',rfl,?_⟩;walk_at"go";rename_i q7 G7 n7 S7 e7;exact hR _ _ ⟨q7,rfl,by rw[e7,←hc2];rfl⟩ S7
   intro cs G1 g1 hcs;have hcp:Paired (cC G1) cs ((List.range (ws.length:Int).toNat).map (z6 c0 c2)):=lU (z6 c0 c2) hcs;rw[show (ws.length:Int).toNat=n by lia]at hcp;have hdl:ds.length=(1+oA ns 1%7).toNat:=by
    rw[←List.length_map (f:=fun d:aE=>d.1),hnm2,List.length_map,List.length_range]
   walk_at"go";rename_i pC G2 m2 T2 eC;have tX:Same H' G2:=g1.trans T2;have hrl:((List.range n).map (eV c0)).length=n:=by rw[List.length_map,List.length_range]
   have hnd:(ds.map (·.1)).Nodup:=by rw[hnm2];exact uN aBD (by lia)
   have hszs:∀e∈(List.range n).map (eV c0),0<=e.2/\e.2<=6:=fun e he=>by
    obtain⟨i,_,rfl⟩:=List.mem_map.mp he;have h0:=Int.emod_nonneg (c0/(7+(i:Int))) (show (6:Int)≠0 by decide);have h1:=Int.emod_lt_of_pos (c0/(7+(i:Int))) (show (0:Int)<6 by decide);show 0<=1+c0/(7+(i:Int))%6/\1+c0/(7+(i:Int))%6<=6
    lia
   have hfit:u0 ((List.range n).map (eV c0)) ((List.range n).map (z6 c0 c2)):=WF (ltr "fghij") (fun i=>1+c0/(7+(i:Int))%6) (fun i=>c2/((i:Int)+1)%(1+c0/(7+(i:Int))%6+1)) (uN TD (by lia)) fun i _=>by
    have h0:=Int.emod_nonneg (c0/(7+(i:Int))) (show (6:Int)≠0 by decide);have h1:=Int.emod_nonneg (c2/((i:Int)+1)) (show 1+c0/(7+(i:Int))%6+1≠0 by lia);have h2:=Int.emod_lt_of_pos (c2/((i:Int)+1)) (show 0<1+c0/(7+(i:Int))%6+1 by lia);exact⟨h1,by show _<=1+c0/(7+(i:Int))%6;lia⟩
   have hpr:∀p∈(List.range n).map (z6 c0 c2),p.1∈((List.range n).map (eV c0)).map (·.1):=fun p hp=>by
    obtain⟨i,hi,rfl⟩:=List.mem_map.mp hp;exact List.mem_map.mpr ⟨eV c0 i,List.mem_map.mpr ⟨i,hi,rfl⟩,rfl⟩
   refine NU (rz:=(List.range n).map (eV c0)) (ds:=ds) (ps:=(List.range n).map (z6 c0 c2)) rfl (by assumption) (tX _ _ eW') (hra'.sm tX) (SqL.of (tX _ _ eu)) (tV hud tX) (SqL.of eC) (kK hcp T2) hnr hnd hds hpr hfit (by lia) (by lia) (by rw[List.length_map,List.length_range];lia) (by lia) (by lia) fun h G4 m4 T4 hh=> ?_;exact k _ _ _ _ _ _ _ ((s1.trans (S2.trans S3)).trans (s3'.trans (tX.trans T4))) hh ⟨hnr,hnd,hds,hdt,hpr,hfit,hszs,by lia,by lia,by lia,by lia,by lia,by lia,by lia⟩
theorem CO (m:M K mg):Fc P w K mg base "_law_house" 8 ["_law_script"] (qL K m.aH (aR P w K mg base (some 1))):=⟨_,_,m.GL,m.kZ.kp,m.GS,CM m⟩
theorem yD:∀ds:List aE,Paired (fun (v:V) (d:aE)=>v= .str d.1) ((ds.map (·.1)).map V.str) ds
 | []=> .nil
 | _::ds=> .cons rfl (yD ds)
def UB (rz:List (Str×Int))(ds:List aE)(z:Str)(t:Int)(kvs:List (List Key×V))(c:Str->Int)(r:V):Prop:=r= .non∨∃d∈ds,r= .str d.1/\d.2.1=z/\jP ((aY kvs (bU t d.1)).getD (.int 0))<d.2.2.2 t/\∀e∈rz,d.2.2.1= .str e.1->e.1≠z->c e.1<e.2
inductive vT (C:Addr)(D:bA)(vs:List V)(H:Hp)(Q:VK)(E:XK):Prop
 | mk (h w g:Addr) (z:Str) (t d f l:Int) (rz ps:List (Str×Int)) (ds:List aE) (kvs:List (List Key×V)) (hk:List (Key×V)) (c:Str->Int) (_:vs=[.ref h,.str z,.int t,.ref w,.ref g,.int d]) (_:aO C D H h f l rz ps ds) (_:DrawnH rz ps ds f l) (_:lJ kvs) (_:H w=some (.dT kvs)) (_:H g=some (.dK hk)) (_:(∀y∈rz.map (·.1),aY hk (.inr y)=some (.int (c y)))) (_:0<=t) (_:0<=d) (_:∀r H',Same H H'->UB rz ds z t kvs c r->Q r H'):vT C D vs H Q E
theorem Z5 {C:Addr}{D:bA}{H:Hp}{Q:VK}{E:XK}{h w g:Addr}{z:Str}{t d f l:Int}{rz ps:List (Str×Int)}{ds:List aE}{kvs:List (List Key×V)}{hk:List (Key×V)}{c:Str->Int} (hh:aO C D H h f l rz ps ds) (dh:DrawnH rz ps ds f l) (gd:lJ kvs) (ew:H w=some (.dT kvs)) (eg:H g=some (.dK hk)) (hc:∀y∈rz.map (·.1),aY hk (.inr y)=some (.int (c y))) (h0:0<=t) (h1:0<=d) (k:∀r H',Same H H'->UB rz ds z t kvs c r->Q r H'):vT C D [.ref h,.str z,.int t,.ref w,.ref g,.int d] H Q E:=⟨_,_,_,_,_,_,_,_,_,_,_,_,_,_,rfl,hh,dh,gd,ew,eg,hc,h0,h1,k⟩
theorem F2 (m:M K mg):bK P w K mg base CX0 6 m.qY m.qZ ["_law_house_here","_law_room","_law_turn","_law_went","_law_held","_law_draw"] (vT m.aH (aR P w K mg base (some 1))):=by
 refine m.mM.ok sc__law_goes (fun vs H Q E h=> ?_) (fun cdv A outer s H vs Q E hr h=> ?_)
 ·walk_at"g1";obtain⟨h,wA,g,z,t,dd,f,l,rz,ps,ds,kvs,hk,c,rfl,hh,dh,gd,ew,eg,hc,h0,h1,k⟩:=h;walk_at"g2";rfl
 ·walk_at"g1";obtain⟨h,wA,g,z,t,dd,f,l,rz,ps,ds,kvs,hk,c,rfl,hh,dh,gd,ew,eg,hc,h0,h1,k⟩:=h;walk_at"g2";have nd:=sc__law_goes.nd;walk_at"hu";have w_dc_House:=m.bE;have w_mc_House_doors:= @gJ P w K mg base m;have w_mc_House_door:= @fT P w K mg base m;have w_mc_House_holds:= @lB P w K mg base m;refine⟨_,(aC (tQ (i:=6) nd rfl (by walk_at"oi") (N:=["_law_name","_law_room","_law_house_here"]) (nl:=1) (ci:=[1,0]) rfl (blk (s.heap.objs.size+1) rfl rfl rfl (by kernel_rfl)) (bW (fV 1 hr (pv 0))) (fun _ _ _ _=>(aL (i:=0) (show (["_law_name","_law_room","_law_house_here"]:List Str).Nodup by decide +kernel) rfl (by walk_at"oi"))) (fun _ _ _ _=>(mP (bL vR (rK (K:=K) (GA (P:=P) (w:=w) (K:=K) (mg:=mg) (base:=base) 1 hr (pv 2) (aA (pv 0) aB)) rfl) (pv 1) (bO _)))) (fun _ _ _ _=>(pv 0)))
   (aC (cP (PW.pt (yN (bL (YI hu0) (pv 6) (iB aB) (bO _)) (uM (bL vR (aJ cT (pv 5) aG) aG (bO _))))) (aF (bC hZ)) bT)
   (aC (aZ (i:=7) nd rfl (by walk_at"oi") (cH cZ (pv 6) (aJ cT (aJ dX (pv 5) aG) (bJ dZ rfl m.jR iA (aA (pv 6) aB))) (fun _ _=>rfl)))
   (aC (aZ (i:=8) nd rfl (by walk_at"oi") (bI (gE 1 hr (pv 0) (aA (pv 7) aB)) rfl))
   (aC (cP (bL DT (g6 hu1 (pv 3) (cB (aA (pv 2) (aA (pv 7) aB))) aG ⟨rfl,rfl,rfl,rfl⟩) (gE 1 hr (gE 1 hr (pv 0) (aA (pv 7) aB)) (aA (pv 2) aB)) (bO _)) (aF (bC hZ)) bT)
   (aC (cP (PW.pt (zF (bL oJ (pv 8) hZ (bO _)) (zF (bL K8 (pv 8) (pv 1) (bO _)) (zY (bL DT (fA hu1 (pv 4) (pv 8) (fun _ _=>rfl)) (gE 3 hr (pv 0) (aA (pv 8) aB)) (bO _)))))) (aF (bC hZ)) bT)
   (aF (bC (pv 7))))))))),?_⟩
  refine aP (σ:=[some (.ref h),some (.str z),some (.int t),some (.ref wA),some (.ref g),some (.int dd),none,none,none]) rfl ?_;walk_at"cx";walk_at"g1";obtain⟨dnr,dnd,dhin,dlt,hpr,dfit,dsz,dlr,dld,dld0,df0,df1,df2,df3⟩:=id dh;walk_at"g2";walk_at"g1";obtain⟨dx,qs,qp,qd,nk,kvs0,e1,_⟩:=hh.ex;walk_at"g2";walk_at"go";refine oF hh fun pD G2 m2 T2 eD=> ?_;have hh2:=aV hh T2;walk_at"go";refine rA (α:=aE) (xs:=ds) (vs:=(ds.map (·.1)).map V.str) (fun v d=>v= .str d.1) (fun d=>decide (d.2.1=z)) (fun d y _=>y= .str d.1) (fun _ _ _ _ h _=>h) (by rw[sizeLine_eq];lia) (rest:=[some (.str z),some (.ref h)]) (by rfl) (SqL.of eD) (yD ds) ?_ ?_ ?_
  ·rintro v ⟨dn,dst,de,lt⟩ G3 rfl hd s3 R hR;have hh3:=aV hh2 s3;walk_at"g1";obtain⟨dx3,qs3,qp3,qd3,nk3,kvs3,e13,_⟩:=hh3.ex;walk_at"g2";walk_at"go";refine mO (d:=(dn,dst,de,lt)) hh3 dnd hd fun v hv=> ?_;walk_at"g1";obtain⟨q2,C2,dx2,fs2,fp2,rfl,hq2,dcC,l1,l2,l3,l4,l5,mcE,hfp,hlt⟩:=DoorAt.ex hv;walk_at"g2";walk_at"go";exact hR _ (Same.refl _)
  ·rintro v d G3 rfl hd - s3 R hR;walk_at"go";exact hR _ _ rfl (Same.refl _)
  intro o1 G3 s3 ho1;have eo1:o1=((ds.filter fun d=>decide (d.2.1=z)).map (·.1)).map V.str:=by rw[kA ho1,List.map_map];rfl
  subst eo1;have hsub:∀d∈ds.filter (fun d=>decide (d.2.1=z)),d∈ds/\d.2.1=z:=fun d hd=>⟨(List.mem_filter.mp hd).1,of_decide_eq_true (List.mem_filter.mp hd).2⟩
  generalize ds.filter (fun d=>decide (d.2.1=z))=os at hsub ho1;have e13:=(T2.trans s3) _ _ e1;walk_at"go";rename_i pO G4 m4 T4 eO pN G5 m5 T5 eN;refine aAf (SqL.of (T5 _ _ eO)) (SqL.of eN) ?_;have s05:Same H G5:=T2.trans (s3.trans (T4.trans T5));have hh5:=aV hh s05;have e15:=s05 _ _ e1;have eO5:=T5 _ _ eO
  by_cases hos:os=[]
  ·rw[show (((os.map (·.1)).map V.str).isEmpty)=true by rw[hos];rfl];walk_at"go";exact k _ _ s05 (.inl rfl)
  ·have hop:0<os.length:=List.length_pos_iff.mpr hos;have hol:0<((os.map (·.1)).map V.str).length:=by rw[List.length_map,List.length_map];exact hop
   rw[show (((os.map (·.1)).map V.str).isEmpty)=false by cases os with|nil=>exact absurd rfl hos|cons x y=>rfl];walk_at"go";refine gO (fun hc4=> ?_) (fun hc4=> ?_)
   ·walk_at"go";exact k _ _ s05 (.inl rfl)
   ·walk_at"go";rename_i hm0 hm1;refine rP (SqL.of eO5) hm0 hm1 fun v1 hv1=> ?_;obtain⟨n',hn',rfl⟩:=List.mem_map.mp hv1;walk_at"g1";obtain⟨⟨dn,dst,de,lt⟩,hdo,rfl⟩:=List.mem_map.mp hn';walk_at"g2";obtain⟨hd,hdz⟩:=hsub _ hdo;have hdz:dst=z:=hdz;have hend:=(dhin _ hd).2;clear hv1 hn' hdo;walk_at"go";refine mO (d:=(dn,dst,de,lt)) hh5 dnd hd fun v hv=> ?_;walk_at"g1";obtain⟨q2,C2,dx2,fs2,fp2,rfl,hq2,dcC,l1,l2,l3,l4,l5,mcE,hfp,hlt⟩:=DoorAt.ex hv;walk_at"g2";walk_at"go";have ew5:=s05 _ _ ew;obtain⟨w0,hw0⟩:∃i,(aY kvs (bU t dn)).getD (.int 0)= .int i:=by
     cases hv':aY kvs (bU t dn) with
     | none=>exact⟨0,rfl⟩
     | some v =>
      walk_at"g1";obtain⟨t',n',i,e⟩:=gd.2 _ (iK hv');walk_at"g2";cases e;exact⟨i,rfl⟩
    refine fW ew5 ?_;walk_at"go";rename_i b6 G6 m6 T6 e6;refine gZ (bU t dn) (T6 _ _ ew5) e6 ?_;rw[hw0];have s06:=s05.trans T6;have hh6:=aV hh s06;have e16:=s06 _ _ e1;walk_at"go";refine mO (d:=(dn,dst,de,lt)) hh6 dnd hd fun v6 hv6=> ?_;walk_at"g1";obtain⟨q7,C7,dx7,fs7,fp7,rfl,hq7,dcC7,k1,k2,k3,k4,k5,mcE7,hfp7,hlt7⟩:=DoorAt.ex hv6;walk_at"g2";obtain⟨sp,mcL,hsp⟩:=hlt7 _ rfl;walk_at"go";refine hsp _ _ _ hq7 (fun x hx=>(hfp7 x hx).1) h0 fun G8 T8=> ?_;have s08:=s06.trans T8;have hh8:=aV hh s08;have e18:=s08 _ _ e1;walk_at"go";refine gO (fun hc5=> ?_) (fun hc5=> ?_)
    ·walk_at"go";exact k _ _ s08 (.inl rfl)
    ·have hlt':w0<lt t:=by lia
     rcases hend with hend|⟨y,hend,hy⟩
     ·have hde:de= .non:=hend;subst hde;walk_at"go";exact k _ _ s08 (.inr ⟨_,hd,rfl,hdz,by rw[hw0];exact hlt',fun e _ he=>nomatch he⟩)
     ·have hde:de= .str y:=hend;subst hde;walk_at"g1";obtain⟨⟨y',sz⟩,hye,hyy⟩:=List.mem_map.mp hy;walk_at"g2";have hyy:y'=y:=hyy;subst hyy;walk_at"go";refine VL (fun hc6=> ?_) (fun hc6=> ?_)
      ·walk_at"go";refine iL (.inl (s08 _ _ eg)) (hc y' hy) ?_;walk_at"go";refine IQ hh8 dnr hye fun G9 T9=> ?_;walk_at"go";refine gO (fun hc7=> ?_) (fun hc7=> ?_)
       ·walk_at"go";exact k _ _ (s08.trans T9) (.inl rfl)
       ·walk_at"go";refine k _ _ (s08.trans T9) (.inr ⟨_,hd,rfl,hdz,by rw[hw0];exact hlt',fun e he hee hne=> ?_⟩);have hee:y'=e.1:=V.str.inj hee;have h2:e.2=sz:=by rw[←oI dnr he,←hee];exact oI dnr hye
        rw[←hee,h2];lia
      ·walk_at"go";refine k _ _ s08 (.inr ⟨_,hd,rfl,hdz,by rw[hw0];exact hlt',fun e he hee hne=> ?_⟩);have hee:y'=e.1:=V.str.inj hee;exact absurd (hee.symm.trans hc6) hne
theorem EZ (m:M K mg):Fc P w K mg base "_law_goes" 6 ["_law_house_here","_law_room","_law_turn","_law_went","_law_held","_law_draw"] (vT m.aH (aR P w K mg base (some 1))):=⟨_,_,m.HU,m.mM.kp,m.HV,F2 m⟩
theorem NB (a:Option Str)(z:Str)(n:Nat):cO a (List.replicate n (some z))=if some z=a then (n:Int) else 0:=by
 induction n with
 | zero=>by_cases h:some z=a<;>simp[cO,h]
 | succ n ih =>
  rw[List.replicate_succ,iW,ih]
  by_cases h:some z=a
  ·rw[if_pos h,if_pos h,if_pos h];lia
  ·rw[if_neg h,if_neg h,if_neg h];lia
theorem WW (n:Nat)(z:Str):(List.replicate n [V.str z]).flatten=(List.replicate n (some z)).map oV:=by
 induction n with
 | zero=>rfl
 | succ n ih=>rw[List.replicate_succ,List.flatten_cons,ih,List.replicate_succ];rfl
theorem WA {ps:List (Str×Int)}(h:∀p∈ps,0<=p.2)(z:Str):0<=cG ps z:=by
 induction ps with
 | nil=>exact Int.le_refl _
 | cons a l ih =>
  have h1:=ih fun p hp=>h p (List.mem_cons_of_mem _ hp);have h2:=h a (.head _);unfold cG at h1 ⊢
  by_cases e:a.1=z
  ·rw[List.filter_cons_of_pos (by simpa using e),List.map_cons,List.sum_cons];lia
  ·rw[List.filter_cons_of_neg (by simpa using e)];exact h1
structure HeadsAt (ps rs:List (Str×Int))(hs:List (Option Str)):Prop where
 cz:∀z,cO (some z) hs=if z∈rs.map (·.1) then cG ps z else 0
 cn:cO none hs=0
 len:(hs.length:Int)=(rs.map fun e=>cG ps e.1).sum
 mem:∀z,some z∈hs->z∈rs.map (·.1)
theorem HeadsAt.nil {ps:List (Str×Int)}:HeadsAt ps ([]:List (Str×Int)) []:=⟨fun _=>rfl,rfl,rfl,fun _ h=>nomatch h⟩
theorem HeadsAt.snoc {ps rs:List (Str×Int)}{hs:List (Option Str)} (h:HeadsAt ps rs hs) {e:Str×Int} (hn:e.1∉rs.map (·.1)) (h0:0<=cG ps e.1):HeadsAt ps (rs++[e]) (hs++List.replicate (cG ps e.1).toNat (some e.1)):=by
 refine⟨fun z=> ?_,?_,?_,fun z hz=> ?_⟩
 ·rw[yU,NB,h.cz,List.map_append]
  by_cases c:e.1=z
  ·subst c;rw[if_neg hn,if_pos rfl,if_pos (List.mem_append_right _ (show e.1∈[e.1] from .head _):e.1∈rs.map (·.1)++[e].map (·.1))];lia
  ·rw[if_neg (fun y=>c (Option.some.inj y))]
   by_cases d:z∈rs.map (·.1)
   ·rw[if_pos d,if_pos (List.mem_append_left _ d)];lia
   ·rw[if_neg d,if_neg (fun y:z∈rs.map (·.1)++[e].map (·.1)=>(List.mem_append.mp y).elim d fun y=>c (List.mem_singleton.mp y).symm)];rfl
 ·rw[yU,NB,h.cn,if_neg (fun y=>nomatch y)];rfl
 ·rw[List.length_append,List.length_replicate,List.map_append,List.sum_append,←h.len];show _=(hs.length:Int)+(cG ps e.1+0)
  lia
 ·rw[List.map_append];rcases List.mem_append.mp hz with hz|hz
  ·exact List.mem_append_left _ (h.mem z hz)
  ·have:=(List.mem_replicate.mp hz).2;rw[Option.some.inj this];exact List.mem_append_right _ (.head _)
theorem IH {ps:List (Str×Int)}:∀{rs:List (Str×Int)},(∀e∈rs,cG ps e.1<=6)->(rs.map fun e=>cG ps e.1).sum<=6 * (rs.length:Int)
 | [],_=>Int.le_refl _
 | a::l,h=>by
  have h1:=IH fun e he=>h e (List.mem_cons_of_mem _ he);have h2:=h a (.head _);rw[List.map_cons,List.sum_cons,List.length_cons];lia
theorem HeadsAt.small {ps rs:List (Str×Int)}{hs:List (Option Str)} (h:HeadsAt ps rs hs) (h6:∀e∈rs,cG ps e.1<=6) {n:Nat} (hn:rs.length<=n):hs.length<=6 * n:=by
 have h1:=IH h6;have h2:=h.len
 lia
abbrev gN (H:Hp)(vs:List V)(S:List (List (Option Str))):Prop:=Paired (fun v hs=>∃q,v= .ref q/\H q=some (.lst (hs.map oV))) vs S
abbrev oS (p q:Addr)(H:Hp)(vs:List V)(S:List (List (Option Str))):Prop:=Paired (fun v hs=>∃r,v= .ref r/\r≠p/\r≠q/\H r=some (.lst (hs.map oV))) vs S
theorem none_of {H J:Hp}{r:Addr} (s:Same H J) (h:J r=none):H r=none:=by
 cases hq:H r with
 | none=>rfl
 | some u=>rw[s _ _ hq]at h;cases h
theorem Q1 {rz ps:List (Str×Int)}(h:∀p∈ps,p.1∈rz.map (·.1)){z:Str}(hz:z∉rz.map (·.1)):cG ps z=0:=by
 unfold cG;rw[List.filter_eq_nil_iff.mpr fun p hp y=>hz (by
  have y:p.1=z:=by simpa using y
  rw[←y];exact h p hp)];rfl
theorem aAG {n k:Nat}(h:k<n):ixN n (k:Int)=some k:=by
 unfold ixN;rw[if_pos (by lia),if_pos (by lia),Int.toNat_natCast]
theorem EI {hk:List (Key×V)}{rs:List Str}{c c':Str->Int}{z:Str}{v:Int} (h:∀x∈rs,aY hk (.inr x)=some (.int (c x))) (h':∀x,c' x=if x=z then v else c x):∀x∈rs,aY (b9 hk (.inr z) (.int v)) (.inr x)=some (.int (c' x)):=fun x hx=>by
 rw[gX,h' x]
 by_cases e:x=z
 ·rw[if_pos (by rw[e]),if_pos e]
 ·rw[if_neg (fun y=>e (Sum.inr.inj y)),if_neg e];exact h x hx
structure Walked (rz ps:List (Str×Int))(ds:List aE)(f l:Int)(N:Nat)(kvs:List (List Key×V))(S:List (List (Option Str))):Prop where
 good:lJ kvs
 past:sW rz ps ds f l N l S (dJ kvs)
 tm:∀t n,bP (dJ kvs) t n≠0->f<=t/\t<l
 len:S.length=(l+1 - f).toNat
 tot:(N:Int)=kS rz ps
 small:kvs.length<=240
 few:N<=30
inductive qJ (K:PySem.W.Frag)(C:Addr)(D:bA)(vs:List V)(H:Hp)(Q:VK)(E:XK):Prop
 | mk (h a:Addr) (f l:Int) (rz ps:List (Str×Int)) (ds:List aE) (ns:List Int) (_:vs=[.ref h,.ref a]) (_:aO C D H h f l rz ps ds) (_:DrawnH rz ps ds f l) (_:SqL K H a (ns.map V.int)) (_:ns.length<=63) (_:∀p pw pS kvs vs S N H',Same H H'->H pw=none->H' p=some (.tup [.ref pw,.ref pS])->H' pw=some (.dT kvs)->H' pS=some (.lst vs)->gN H' vs S->Walked rz ps ds f l N kvs S->Q (.ref p) H'):qJ K C D vs H Q E
theorem RT {C:Addr}{D:bA}{H:Hp}{Q:VK}{E:XK}{h a:Addr}{f l:Int}{rz ps:List (Str×Int)}{ds:List aE}{ns:List Int} (hh:aO C D H h f l rz ps ds) (dh:DrawnH rz ps ds f l) (hS:SqL K H a (ns.map V.int)) (hl:ns.length<=63) (k:∀p pw pS kvs vs S N H',Same H H'->H pw=none->H' p=some (.tup [.ref pw,.ref pS])->H' pw=some (.dT kvs)->H' pS=some (.lst vs)->gN H' vs S->Walked rz ps ds f l N kvs S->Q (.ref p) H'):qJ K C D [.ref h,.ref a] H Q E:=⟨_,_,_,_,_,_,_,_,rfl,hh,dh,hS,hl,k⟩
theorem z4 (m:M K mg):bK P w K mg base CX0 8 m.nF m.nQ ["_law_house_here","_law_script"] (qJ K m.aH (aR P w K mg base (some 1))):=by
 refine m.jS.ok sc__law_walked (fun vs H Q E h=> ?_) (fun cdv A outer s H vs Q E hr h=> ?_)
 ·walk_at"g1";obtain⟨h,a,f,l,rz,ps,ds,ns,rfl,hh,dh,hS,hlen,k⟩:=h;walk_at"g2";rfl
 ·walk_at"g1";obtain⟨h,a,f,l,rz,ps,ds,ns,rfl,hh,dh,hS,hlen,k⟩:=h;walk_at"g2";have nd:=sc__law_walked.nd;walk_at"hu";have bZ:= @kY P w K mg base m;have d0:= @mY P w K mg base m;have mM:= @EZ P w K mg base m;have w_dc_House:=m.bE;have w_mc_House_doors:= @gJ P w K mg base m;have w_mc_House_rooms:= @zU P w K mg base m;have w_mc_House_door:= @fT P w K mg base m;have w_mc_House_holds:= @lB P w K mg base m;have w_mc_House_found:= @rQ P w K mg base m;refine⟨_,(aC (aZ (i:=2) nd rfl (by walk_at"oi") (iB aB))
   (aC (dE PassesOwn.never rfl (bW (fV 1 hr (pv 0))) (aL (i:=3) nd rfl (by walk_at"oi")) (aF (aZ (i:=2) nd rfl (by walk_at"oi") (aJ uL (pv 2) (aJ aAn (iB (aA (pv 3) aB)) (gE 3 hr (pv 0) (aA (pv 3) aB)))))))
   (aC (aZ (i:=4) nd rfl (by walk_at"oi") oP)
   (aC (aZ (i:=5) nd rfl (by walk_at"oi") (iB aB))
   (aC (dE PassesOwn.never rfl (qM rfl m.kH (aA (bI (pv 0) rfl) (aA (bI (pv 0) rfl) aB))) (aL (i:=6) nd rfl (by walk_at"oi")) (aC (cI (mK PySem.F.plainAttrs_list PySem.F.slot_list_append PySem.F.type_list_append iS (pv 5) (aA (mR yW rfl m.zL v8 (aA (pv 2) aB)) aB)))
   (aC (aZ (i:=7) nd rfl (by walk_at"oi") tP)
   (aC (dE PassesOwn.never rfl (bW (fV 1 hr (pv 0))) (aL (i:=3) nd rfl (by walk_at"oi")) (aF (fQ hu1 (pv 7) (pv 3) (mK PySem.F.plainAttrs_list PySem.F.slot_list_count PySem.F.type_list_count xB (pv 2) (aA (pv 3) aB)) rfl)))
   (aF (dE PassesOwn.never rfl (qH rfl m.kH (aA (bJ dZ rfl m.jR iA (aA (pv 2) aB)) aB)) (aL (i:=8) nd rfl (by walk_at"oi")) (aC (aZ (i:=9) nd rfl (by walk_at"oi") (bR bZ hr (aA (pv 1) (aA (aJ cF aG (aJ cT (aJ cF (aJ gH (pv 6) (bI (pv 0) rfl)) (pv 8)) (bJ (uV rfl) rfl m.L6 FL (aA aG (aA (aJ gH (bJ dZ rfl m.jR iA (aA (pv 1) aB)) aG) aB))))) aB))))
   (aF (cP (bL oJ (cH cZ (pv 2) (pv 8) (fun _ _=>rfl)) hZ (bO _)) (aC (aZ (i:=10) nd rfl (by walk_at"oi") (bR mM hr (aA (pv 0) (aA (cH cZ (pv 2) (pv 8) (fun _ _=>rfl)) (aA (pv 6) (aA (pv 4) (aA (pv 7) (aA (bR d0 hr (aA (pv 9) (aA (aJ cF (aJ yE aG (aJ gH (pv 6) (bI (pv 0) rfl))) (pv 8)) aB))) aB))))))))
   (aF (cP (bL oJ (pv 10) hZ (bO _)) (aC (fQ hu1 (pv 4) (cB (aA (pv 6) (aA (pv 10) aB))) (aJ cF (g6 hu1 (pv 4) (cB (aA (pv 6) (aA (pv 10) aB))) aG ⟨rfl,rfl,rfl,rfl⟩) aG) rfl)
   (aC (fQ hu1 (pv 7) (cH cZ (pv 2) (pv 8) (fun _ _=>rfl)) (aJ gH (fA hu1 (pv 7) (cH cZ (pv 2) (pv 8) (fun _ _=>rfl)) (fun _ _=>rfl)) aG) rfl)
   (aC (NN (bI (gE 1 hr (pv 0) (aA (pv 10) aB)) rfl) (YR (pv 2) (pv 8) Q3))
   (aF (cP (bL oJ (cH cZ (pv 2) (pv 8) (fun _ _=>rfl)) hZ (bO _)) (aF (fQ hu1 (pv 7) (cH cZ (pv 2) (pv 8) (fun _ _=>rfl)) (aJ cF (fA hu1 (pv 7) (cH cZ (pv 2) (pv 8) (fun _ _=>rfl)) (fun _ _=>rfl)) aG) rfl)) bT))))) bT))) bT)))))))))
   (aC (cI (mK PySem.F.plainAttrs_list PySem.F.slot_list_append PySem.F.type_list_append iS (pv 5) (aA (mR yW rfl m.zL v8 (aA (pv 2) aB)) aB)))
   (aF (bC (cB (aA (pv 4) (aA (pv 5) aB))))))))))),?_⟩
  refine aP (σ:=[some (.ref h),some (.ref a),none,none,none,none,none,none,none,none,none]) rfl ?_;walk_at"cx";walk_at"g1";obtain⟨dnr,dnd,dhin,dlt,hpr,dfit,dsz,dlr,dld,dld0,df0,df1,df2,df3⟩:=id dh;walk_at"g2";walk_at"g1";obtain⟨dx,qs,qp,qd,nk,kvs0,e1,_⟩:=hh.ex;walk_at"g2";have pn0:∀z,0<=cG ps z:=fun z=>WA dfit.1 z;have pn6:∀e∈rz,cG ps e.1<=6:=fun e he=>Int.le_trans (dfit.2 e he) (dsz e he).2;walk_at"go";rename_i p H1 n1 S1 ep;refine oF (aV hh S1) fun p3 H3 n3 S3 e3=> ?_;walk_at"go";let Pv1:Nat->St->Hp->Prop:=fun i σ' G=>Same H3 G/\∃p' hs,G p'=some (.lst (hs.map oV))/\H p'=none/\HeadsAt ps (rz.take i) hs/\∃x,σ'=[some (.ref h),some (.ref a),some (.ref p'),x,none,none,none,none,none,none,none];refine eZ ((rz.map (·.1)).map V.str) Pv1 ⟨Same.refl _,p,[],S3 _ _ ep,n1,HeadsAt.nil,_,rfl⟩ (fun i σ' G _ q=>SqL.of (q.1 _ _ e3)) ?_ ?_
  ·rintro i x _ G hx hq_;walk_at"g1";obtain⟨sG,p',hs,ew,np,hA,x1,rfl⟩:=hq_;walk_at"g2";have hi:i<((rz.map (·.1)).map V.str).length:=(List.getElem?_eq_some_iff.mp hx).1;rw[List.length_map,List.length_map]at hi;obtain⟨⟨z,sz⟩,hrz⟩:∃e,rz[i]? =some e:=⟨_,List.getElem?_eq_getElem hi⟩
   rw[List.getElem?_map,List.getElem?_map,hrz]at hx;cases hx;have hez:(z,sz)∈rz:=List.mem_of_getElem? hrz;have hz:z∈rz.map (·.1):=List.mem_map.mpr ⟨_,hez,rfl⟩;have sHG:Same H G:=(S1.trans S3).trans sG;have hhG:=aV hh sHG;have e1G:=sHG _ _ e1;have hb6:cG ps z<=6:=pn6 _ hez;have hb0:=pn0 z;have hhl:hs.length<=6 * i:=hA.small (fun e he=>pn6 e (List.mem_of_mem_take he)) (by rw[List.length_take];lia);walk_at"go";rename_i q1 J1 m1 U1 d1;refine IZ (aV hhG U1) dnr hz fun J2 U2=> ?_;walk_at"go";have d1':J2 q1=some (.lst [V.str z]):=U2 _ _ d1;refine JD (k:=cG ps z) d1' (by lia) (by lia) (by rw[sizeLine_eq];show 1 * _<=_;lia) fun q2 J3 m3 U3 d3=> ?_;have d3':J3 q2=some (.lst ((List.replicate (cG ps z).toNat (some z)).map oV)):=by rw[d3,WW]
   have U13:=U1.trans (U2.trans U3);refine vQ (U13 _ _ ew) d3' (by rw[sizeLine_eq,List.length_map,List.length_map,List.length_replicate];lia) fun q4 J4 m4 U4 d4=> ?_;have hnew:z∉(rz.take i).map (·.1):=by
    have:=oY (i:=i) (z:=z) dnr (by rw[List.getElem?_map,hrz];rfl)
    rwa [←List.map_take]at this
   refine⟨sG.trans (U13.trans U4),q4,hs++List.replicate (cG ps z).toNat (some z),by rw[d4,List.map_append],?_,by rw[cD hrz];exact hA.snoc (e:=(z,sz)) hnew hb0,_,rfl⟩;exact none_of (sHG.trans U13) m4
  ·rintro _ G hq_;walk_at"g1";obtain⟨sG,pH,hs0,ew,np,hA,x1,rfl⟩:=hq_;walk_at"g2";rw[List.length_map,List.length_map,List.take_length]at hA;have hN:hs0.length<=30:=Nat.le_trans (hA.small pn6 (Nat.le_refl _)) (by lia);have sHG:Same H G:=(S1.trans S3).trans sG;walk_at"go";rename_i pw J1 m1 U1 d1 pS J2 m2 U2 d2;have e12:=(sHG.trans (U1.trans U2)) _ _ e1;have ew2:=(U1.trans U2) _ _ ew;have hHS:pH≠pS:=fun z=>by have:=U1 _ _ ew;rw[z,m2]at this;cases this
   have nw:H pw=none:=none_of sHG m1;have nS:H pS=none:=none_of (sHG.trans U1) m2;have past0:sW rz ps ds f l hs0.length f ([]++[hs0]) (dJ []):=by
    refine⟨fun i hs hi=> ?_,fun i z hi=>by lia,fun _ _=>Int.le_refl _,fun t n=>dh.most t n⟩;have hil:=(List.getElem?_eq_some_iff.mp hi).1;have e0:i=0:=by have:i<1:=hil;lia
    subst e0;have hi:hs0=hs:=by simpa using hi
    subst hi;refine⟨by lia,fun z=> ?_,?_,fun e he=> ?_,rfl⟩
    ·rw[hA.cz];show _=cG ps z
     by_cases c:z∈rz.map (·.1)
     ·rw[if_pos c]
     ·rw[if_neg c,Q1 hpr c]
    ·rw[hA.cn,uS (by lia)]
    ·rw[hA.cz,if_pos (List.mem_map.mpr ⟨e,he,rfl⟩)];exact dfit.2 e he
   walk_at"go";let Pv2:Nat->St->Hp->Prop:=fun i σ' G=>Same H G/\∃hs kvs vs S,G pH=some (.lst (hs.map oV))/\G pw=some (.dT kvs)/\G pS=some (.lst vs)/\oS pH pS G vs S/\lJ kvs/\sW rz ps ds f l hs0.length (f+(i:Int)) (S++[hs]) (dJ kvs)/\S.length=i/\(∀t n,bP (dJ kvs) t n≠0->f<=t/\t<f+(i:Int))/\(∀z,some z∈hs->z∈rz.map (·.1))/\kvs.length<=30 * i/\∃x y z u v w',σ'=[some (.ref h),some (.ref a),some (.ref pH),x,some (.ref pw),some (.ref pS),y,z,u,v,w'];refine rE Pv2 ⟨sHG.trans (U1.trans U2),hs0,[],[],[],ew2,U2 _ _ d1,d2,.nil,⟨.nil,fun _ z=>nomatch z⟩,by rw[show f+((0:Nat):Int)=f by lia];exact past0,rfl,(fun t n z=>absurd rfl z),hA.mem,Nat.le_refl _,_,_,_,_,_,_,rfl⟩ ?_ ?_
   ·rintro i _ G hi hq_;walk_at"g1";obtain⟨sHG,hs,kvs,vs,S,eH,eW,eS,hSt,gd,past,hSl,tm,hmem,hkl,x1,x2,x3,x4,x5,x6,rfl⟩:=hq_;walk_at"g2";have hhG:=aV hh sHG;have e1G:=sHG _ _ e1;have hi8:i<8:=by lia
    have hvl:vs.length=S.length:=Paired.length hSt;walk_at"go";rename_i qc J1 m1 U1 d1;have hcH:qc≠pH:=fun z=>by rw[z,eH]at m1;cases m1
    have hcS:qc≠pS:=fun z=>by rw[z,eS]at m1;cases m1
    refine iR (U1 _ _ eS) (by rw[sizeLine_eq];lia) fun J2 B2 d2=> ?_;have fS:∀x u,H x=some u->x≠pS:=fun x u hx z=>by rw[z,nS]at hx;cases hx
    have sH2:Same H J2:=fun x u hx=>B2 _ _ (U1 _ _ (sHG _ _ hx)) (fS x u hx);have hSt2:oS pH pS J2 (vs++[.ref qc]) (S++[hs]):=L2.Paired.snoc (Paired.imp' (fun _ _ ⟨r,e,r1,r2,r3⟩=>⟨r,e,r1,r2,B2 _ _ (U1 _ _ r3) r2⟩) hSt) ⟨qc,rfl,hcH,hcS,B2 _ _ d1 hcS⟩;have eH2:=B2 _ _ (U1 _ _ eH) hHS;have eW2:=B2 _ _ (U1 _ _ eW) (fun z=>by rw[z,eS]at eW;cases eW);have e12:=sH2 _ _ e1;walk_at"go";rename_i pg J3 m3 U3 d3;refine oF (aV hh (sH2.trans U3)) fun p5 J5 m5 U5 d5=> ?_;have hgp:p5≠pg:=fun z=>by rw[z,d3]at m5;cases m5
    have U25:=U3.trans U5;have eH5:=U25 _ _ eH2;have ng:J2 pg=none:=m3;walk_at"go";let Pv3:Nat->St->Hp->Prop:=fun j σ' G1=>SameBut pg J5 G1/\(∃hk,G1 pg=some (.dK hk)/\(∀z∈(rz.take j).map (·.1),aY hk (.inr z)=some (.int (cO (some z) hs)))/\hk.length<=j)/\∃x y z u,σ'=[some (.ref h),some (.ref a),some (.ref pH),x,some (.ref pw),some (.ref pS),some (.int (f+(i:Int))),some (.ref pg),y,z,u];refine eZ ((rz.map (·.1)).map V.str) Pv3 ⟨SameBut.refl,⟨[],U5 _ _ d3,(fun z hz=>nomatch hz),Nat.le_refl _⟩,_,_,_,_,rfl⟩ (fun j σ' G1 _ q=>SqL.of (q.1 _ _ d5 hgp)) ?_ ?_
    ·rintro j x _ G1 hx hq_;walk_at"g1";obtain⟨sb,⟨hk,ek,hkv,hkl2⟩,y1,y2,y3,y4,rfl⟩:=hq_;walk_at"g2";have hj:j<((rz.map (·.1)).map V.str).length:=(List.getElem?_eq_some_iff.mp hx).1;rw[List.length_map,List.length_map]at hj;obtain⟨⟨z,sz⟩,hrz⟩:∃e,rz[j]? =some e:=⟨_,List.getElem?_eq_getElem hj⟩
     rw[List.getElem?_map,List.getElem?_map,hrz]at hx;cases hx;have eHG:=sb _ _ eH5 (fun z=>by rw[z,U5 _ _ d3]at eH5;cases eH5);walk_at"go";refine⟨pH,.str z,hs.map oV,rfl,rfl,eHG,rfl,E3 hs,?_⟩;rw[show ((uJ (.str z) (hs.map oV):Nat):Int)=cO (some z) hs from JV (some z) hs];walk_at"go";refine lI ek (by rw[sizeLine_eq];lia) fun G2 B2' e2'=> ?_;refine⟨sb.trans B2',⟨_,e2',fun y hy=> ?_,Nat.le_trans (c8 _ _ _) (by lia)⟩,_,_,_,_,rfl⟩;rw[gX]
     by_cases c:(Sum.inr y:Key)=Sum.inr z
     ·rw[if_pos c];have c:y=z:=Sum.inr.inj c;rw[c]
     ·rw[if_neg c];rw[cD hrz,List.map_append]at hy;rcases List.mem_append.mp hy with hy|hy
      ·exact hkv y hy
      ·exact absurd (congrArg Sum.inr (List.mem_singleton.mp hy)) c
    ·rintro _ G1 hq_;walk_at"g1";obtain⟨sb,⟨hk,ek,hkv,hkl2⟩,y1,y2,y3,y4,rfl⟩:=hq_;walk_at"g2";rw[List.length_map,List.length_map,List.take_length]at hkv;rw[List.length_map,List.length_map]at hkl2;have fg:∀x u,J2 x=some u->x≠pg:=fun x u hx z=>by rw[z,ng]at hx;cases hx
     have s21:Same J2 G1:=fun x u hx=>sb _ _ (U25 _ _ hx) (fg x u hx);have sH1:=sH2.trans s21;have hSt1:oS pH pS G1 (vs++[.ref qc]) (S++[hs]):=Paired.imp' (fun _ _ ⟨r,e,r1,r2,r3⟩=>⟨r,e,r1,r2,s21 _ _ r3⟩) hSt2;have hlast:(S++[hs])[i]? =some hs:=by rw[List.getElem?_append_right (by lia),hSl,Nat.sub_self];rfl
     have hN2:hs.length=hs0.length:=(past.at' i hs hlast).2.2.2.2;have eHG1:=s21 _ _ eH2;have hml:(hs.map oV).length<=30:=by rw[List.length_map];lia
     walk_at"go";let Pv4:Nat->St->Hp->Prop:=fun k' σ' J=>Same H J/\∃hc kvs hk,J pH=some (.lst (hc.map oV))/\J pw=some (.dT kvs)/\J pS=some (.lst (vs++[.ref qc]))/\oS pH pS J (vs++[.ref qc]) (S++[hs])/\J pg=some (.dK hk)/\lJ kvs/\sW rz ps ds f l hs0.length (f+(i:Int)) (S++[hs]) (dJ kvs)/\TurnI rz ps ds f l (f+(i:Int)) hs hc k' (dJ kvs)/\(∀z∈rz.map (·.1),aY hk (.inr z)=some (.int (cO (some z) hc)))/\kvs.length<=30 * i+k'/\hk.length<=5+2 * k'/\∃x y z u,σ'=[some (.ref h),some (.ref a),some (.ref pH),x,some (.ref pw),some (.ref pS),some (.int (f+(i:Int))),some (.ref pg),y,z,u];refine rE Pv4 ⟨sH1,hs,kvs,hk,s21 _ _ eH2,s21 _ _ eW2,s21 _ _ d2,hSt1,ek,gd,past,TurnI.start past hlast hmem tm,hkv,by lia,by lia,_,_,_,_,rfl⟩ ?_ ?_
     ·rintro k' _ J hk' hq_;walk_at"g1";obtain⟨sJ,hc,kvs,hk,eHJ,eWJ,eSJ,hStJ,ekJ,gdJ,pastJ,turnJ,hkvJ,hklJ,hkl3,y1,y2,y3,y4,rfl⟩:=hq_;walk_at"g2";rw[List.length_map]at hk';have hhJ:=aV hh sJ;have e1J:=sJ _ _ e1;have hSJ:=sJ.seq hS;have hlc:=turnJ.len;obtain⟨o,hco⟩:∃o,hc[k']? =some o:=⟨_,List.getElem?_eq_getElem (by lia)⟩
      have hcoV:(hc.map oV)[k']? =some (oV o):=by rw[List.getElem?_map,hco];rfl
      have hst:=turnJ.stay (by lia);have fw:∀x u,H x=some u->x≠pw:=fun x u hx z=>by rw[z,nw]at hx;cases hx
      have fH:∀x u,H x=some u->x≠pH:=fun x u hx z=>by rw[z,np]at hx;cases hx
      walk_at"go";rw[Int.zero_add];refine iI (SqL.of eHJ) hcoV ?_;cases o with
      | none =>
       walk_at"go";exact⟨sJ,hc,kvs,hk,eHJ,eWJ,eSJ,hStJ,ekJ,gdJ,pastJ,hst,hkvJ,by lia,by lia,_,_,_,_,rfl⟩
      | some z =>
       have hz:z∈rz.map (·.1):=turnJ.mem z (List.mem_of_getElem? hco);have hcoV':(hc.map oV)[k']? =some (.str z):=hcoV;walk_at"go"
       first|(rw[decide_eq_false (fun y:oV (some z)=V.non=>nomatch y)];walk_at"go")|skip
       refine iI (SqL.of eHJ) hcoV' ?_;walk_at"go";rename_i dd hd0 hd1;refine Z5 hhJ dh gdJ eWJ ekJ hkvJ (by lia) hd0 fun r J1 V1 hr=> ?_;rcases hr with rfl|⟨⟨dn,dst,de,lt⟩,hd,rfl,hdz,hlt,hcap⟩
       ·walk_at"go";exact⟨sJ.trans V1,hc,kvs,hk,V1 _ _ eHJ,V1 _ _ eWJ,V1 _ _ eSJ,Paired.imp' (fun _ _ ⟨r,e,r1,r2,r3⟩=>⟨r,e,r1,r2,V1 _ _ r3⟩) hStJ,V1 _ _ ekJ,gdJ,pastJ,hst,hkvJ,by lia,by lia,_,_,_,_,rfl⟩
       ·have hdz:dst=z:=hdz;have eW1:=V1 _ _ eWJ;obtain⟨w0,hw0⟩:∃i',(aY kvs (bU (f+(i:Int)) dn)).getD (.int 0)= .int i':=by
         cases hv':aY kvs (bU (f+(i:Int)) dn) with
         | none=>exact⟨0,rfl⟩
         | some v =>
          walk_at"g1";obtain⟨t',n',i',e⟩:=gdJ.2 _ (iK hv');walk_at"g2";cases e;exact⟨i',rfl⟩
        walk_at"go";refine fW eW1 ?_;walk_at"go";rename_i b2 J2 k2 V2 f2;refine gZ (bU (f+(i:Int)) dn) (V2 _ _ eW1) f2 ?_;rw[hw0];walk_at"go";rename_i b3 J3 k3 V3 f3;have V13:=V1.trans (V2.trans V3);refine lE (bU (f+(i:Int)) dn) (V13 _ _ eWJ) f3 (by rw[sizeLine_eq];lia) fun J4 B4 e4=> ?_;have hHw:pH≠pw:=fun z=>by rw[z,eWJ]at eHJ;cases eHJ
        have hSw:pS≠pw:=fun z=>by rw[z,eWJ]at eSJ;cases eSJ
        have hgw:pg≠pw:=fun z=>by rw[z,eWJ]at ekJ;cases ekJ
        have hgH:pg≠pH:=fun z=>by rw[z,eHJ]at ekJ;cases ekJ
        have hgS:pg≠pS:=fun z=>by rw[z,eSJ]at ekJ;cases ekJ
        have eH4:=B4 _ _ (V13 _ _ eHJ) hHw;have eS4:=B4 _ _ (V13 _ _ eSJ) hSw;have ek4:=B4 _ _ (V13 _ _ ekJ) hgw;have sH4:Same H J4:=fun x u hx=>B4 _ _ (V13 _ _ (sJ _ _ hx)) (fw x u hx);have hSt4:oS pH pS J4 (vs++[.ref qc]) (S++[hs]):=Paired.imp' (fun _ _ ⟨r,e,r1,r2,r3⟩=>⟨r,e,r1,r2,B4 _ _ (V13 _ _ r3) (fun z=>by rw[z,eWJ]at r3;cases r3)⟩) hStJ;have e14:=sH4 _ _ e1;walk_at"go";refine iI (SqL.of eH4) hcoV' ?_;refine iL (.inl ek4) (hkvJ z hz) ?_;walk_at"go";refine iI (SqL.of eH4) hcoV' ?_;refine lI ek4 (by rw[sizeLine_eq];lia) fun J5 B5 e5=> ?_;have eH5':=B5 _ _ eH4 (fun z=>hgH z.symm);have sH5:Same H J5:=fun x u hx=>B5 _ _ (sH4 _ _ hx) (fun z=>by
         have h2:=sH2 _ _ hx;rw[z,ng]at h2;cases h2)
        have e15:=sH5 _ _ e1;walk_at"go";refine mO (d:=(dn,dst,de,lt)) (aV hh sH5) dnd hd fun v6 hv6=> ?_;walk_at"g1";obtain⟨q7,C7,dx7,fs7,fp7,rfl,hq7,dcC7,k1',k2',k3',k4',k5',mcE7,hfp7,hlt7⟩:=DoorAt.ex hv6;walk_at"g2";walk_at"go";have hkl':k'<(hc.map oV).length:=by rw[List.length_map];lia
        obtain⟨o',ho',hor⟩:∃o',de=oV o'/\∀y,o'=some y->y∈rz.map (·.1):=by
         rcases (dhin _ hd).2 with hend|⟨y,hend,hy⟩
         ·exact⟨none,hend,fun y h=>nomatch h⟩
         ·exact⟨some y,hend,fun y' h=>by cases h;exact hy⟩
        subst ho';have hmo:eX ds f l (f+(i:Int)) dn=lt (f+(i:Int)):=by
         unfold eX;rw[mN (d:=(dn,dst,oV o',lt)) dnd hd];show i9 f l _ _=_;unfold i9;rw[if_pos ⟨by lia,by lia⟩]
        obtain⟨tG,pG⟩:=turnJ.go pastJ dnd hd (by lia) (by lia) hdz hco rfl hor (fun e he ho hne=>hcap e he (by show oV o'=_;rw[ho];rfl) hne) (by show bP _ _ dn<eX _ _ _ _ dn;rw[jK gdJ,hmo];exact hlt) (OU gdJ _ _ hw0 1);have gd':=F6 gdJ (f+(i:Int)) dn (w0+1);have hkn:=c8 kvs (bU (f+(i:Int)) dn) (.int (w0+1));have hkn2:=c8 hk (.inr z) (.int (cO (some z) hc - 1));have eW5:=B5 _ _ e4 (fun z=>hgw z.symm);have eS5:=B5 _ _ eS4 (fun z=>hgS z.symm);have hSt5:oS pH pS J5 (vs++[.ref qc]) (S++[hs]):=Paired.imp' (fun _ _ ⟨r,e,r1,r2,r3⟩=>⟨r,e,r1,r2,B5 _ _ r3 (fun z=>by rw[z,ek4]at r3;cases r3)⟩) hSt4;have hv1:=EI (v:=cO (some z) hc - 1) (z:=z) (c':=fun x=>cO (some x) hc - if z=x then 1 else 0) hkvJ (fun x=>by
         by_cases c:x=z
         ·rw[if_pos c,if_pos c.symm,c]
         ·rw[if_neg c,if_neg (fun y=>c y.symm)];lia)
        generalize b9 kvs (bU (f+(i:Int)) dn) (.int (w0+1))=kvs' at *;generalize b9 hk (.inr z) (.int (cO (some z) hc - 1))=hk' at *;clear hst turnJ pastJ hcap hlt hkvJ hq7 dcC7 k1' k2' k3' k4' k5' mcE7 hfp7 hlt7 hv6 eW1 hw0 f2 f3 eHJ eWJ eSJ hStJ ekJ;refine EC (j:=k') eH5' (aAG hkl') fun J6 B6 e6=> ?_;rw[←List.map_set]at e6;have hc6:(hc.set k' o')[k']? =some o':=by rw[List.getElem?_set_self (by lia)]
        have hc6V:((hc.set k' o').map oV)[k']? =some (oV o'):=by rw[List.getElem?_map,hc6];rfl
        have sH6:Same H J6:=fun x u hx=>B6 _ _ (sH5 _ _ hx) (fH x u hx);have eW6:=B6 _ _ eW5 (fun z=>hHw z.symm);have eS6:=B6 _ _ eS5 (fun z=>hHS z.symm);have ek6:=B6 _ _ e5 hgH;have hSt6:oS pH pS J6 (vs++[.ref qc]) (S++[hs]):=Paired.imp' (fun _ _ ⟨r,e,r1,r2,r3⟩=>⟨r,e,r1,r2,B6 _ _ r3 r1⟩) hSt5;walk_at"go";refine iI (SqL.of e6) hc6V ?_;cases o' with
        | none =>
         walk_at"go";refine⟨sH6,_,kvs',hk',e6,eW6,eS6,hSt6,ek6,gd',pG,tG,fun x hx=> ?_,by lia,by lia,_,_,_,_,rfl⟩;rw[hv1 x hx,vA (some x) none hco,if_neg (fun y:none=some x=>nomatch y),Int.add_zero]
         congr 3
         by_cases c:z=x
         ·rw[if_pos c,if_pos (by rw[c])]
         ·rw[if_neg c,if_neg (fun y=>c (Option.some.inj y))]
        | some y =>
         have hy:y∈rz.map (·.1):=hor y rfl;have hc6V':((hc.set k' (some y)).map oV)[k']? =some (.str y):=hc6V;walk_at"go"
         first|(rw[decide_eq_false (fun x:oV (some y)=V.non=>nomatch x)];walk_at"go")|skip
         refine iI (SqL.of e6) hc6V' ?_;refine iL (.inl ek6) (hv1 y hy) ?_;walk_at"go";refine iI (SqL.of e6) hc6V' ?_;refine lI ek6 (by rw[sizeLine_eq];lia) fun J7 B7 e7=> ?_;have hkn3:=c8 hk' (.inr y) (.int (cO (some y) hc - (if z=y then 1 else 0)+1));refine⟨fun x u hx=>B7 _ _ (sH6 _ _ hx) (fun z=>by
          have h2:=sH2 _ _ hx;rw[z,ng]at h2;cases h2),_,kvs',_,B7 _ _ e6 (fun z=>hgH z.symm),B7 _ _ eW6 (fun z=>hgw z.symm),B7 _ _ eS6 (fun z=>hgS z.symm),Paired.imp' (fun _ _ ⟨r,e,r1,r2,r3⟩=>⟨r,e,r1,r2,B7 _ _ r3 (fun z=>by rw[z,ek6]at r3;cases r3)⟩) hSt6,e7,gd',pG,tG,EI (c':=fun x=>cO (some x) (hc.set k' (some y))) hv1 (fun x=> ?_),by lia,by lia,_,_,_,_,rfl⟩
         show cO (some x) (hc.set k' (some y))=_;rw[vA (some x) (some y) hco]
         by_cases c:x=y
         ·subst c;rw[if_pos rfl,if_pos rfl]
          congr 2
          by_cases d:z=x
          ·rw[if_pos d,if_pos (by rw[d])]
          ·rw[if_neg d,if_neg (fun q=>d (Option.some.inj q))]
         ·rw[if_neg c,if_neg (fun q=>c (Option.some.inj q).symm),Int.add_zero]
          congr 1
          by_cases d:z=x
          ·rw[if_pos d,if_pos (by rw[d])]
          ·rw[if_neg d,if_neg (fun q=>d (Option.some.inj q))]
     ·rintro _ J hq_;walk_at"g1";obtain⟨sJ,hc,kvs,hk,eHJ,eWJ,eSJ,hStJ,ekJ,gdJ,pastJ,turnJ,hkvJ,hklJ,hkl3,y1,y2,y3,y4,rfl⟩:=hq_;walk_at"g2";have hlen1:((hs.map oV).length:Int).toNat=hs.length:=by rw[List.length_map];lia
      rw[hlen1]at turnJ hklJ;obtain⟨pN,tN⟩:=turnJ.done pastJ rfl (by rw[List.length_append,hSl];rfl) hlast;have ei:f+((i+1:Nat):Int)=f+(i:Int)+1:=by lia
      walk_at"go";refine⟨sJ,hc,kvs,_,_,eHJ,eWJ,eSJ,hStJ,gdJ,by rw[ei];exact pN,by rw[List.length_append,hSl];rfl,by rw[ei];exact tN,turnJ.mem,by lia,_,_,_,_,_,_,rfl⟩
   ·rintro _ G hq_;walk_at"g1";obtain⟨sHG,hs,kvs,vs,S,eH,eW,eS,hSt,gd,past,hSl,tm,hmem,hkl,x1,x2,x3,x4,x5,x6,rfl⟩:=hq_;walk_at"g2";have hvl:vs.length=S.length:=Paired.length hSt;have el:f+((l - f).toNat:Int)=l:=by lia
    rw[el]at past tm;walk_at"go";rename_i qc J1 m1 U1 d1;have hcS:qc≠pS:=fun z=>by rw[z,eS]at m1;cases m1
    refine iR (U1 _ _ eS) (by rw[sizeLine_eq];lia) fun J2 B2 d2=> ?_;have fS:∀x u,H x=some u->x≠pS:=fun x u hx z=>by rw[z,nS]at hx;cases hx
    have sH2:Same H J2:=fun x u hx=>B2 _ _ (U1 _ _ (sHG _ _ hx)) (fS x u hx);have hSt2:gN J2 (vs++[.ref qc]) (S++[hs]):=L2.Paired.snoc (Paired.imp' (fun _ _ ⟨r,e,r1,r2,r3⟩=>⟨r,e,B2 _ _ (U1 _ _ r3) r2⟩) hSt) ⟨qc,rfl,B2 _ _ d1 hcS⟩;have eW2:=B2 _ _ (U1 _ _ eW) (fun z=>by rw[z,eS]at eW;cases eW);walk_at"go";rename_i pT J3 m3 U3 d3;refine k pT pw pS kvs _ (S++[hs]) hs0.length J3 (sH2.trans U3) nw d3 (U3 _ _ eW2) (U3 _ _ d2) (Paired.imp' (fun _ _ ⟨r,e,r3⟩=>⟨r,e,U3 _ _ r3⟩) hSt2) ⟨gd,past,tm,by rw[List.length_append,hSl];show _+1=_;lia,hA.len,by lia,hN⟩
theorem zN (m:M K mg):Fc P w K mg base "_law_walked" 8 ["_law_house_here","_law_script"] (qJ K m.aH (aR P w K mg base (some 1))):=⟨_,_,m.DR,m.jS.kp,m.DA,z4 m⟩
theorem E1:∀hs:List (Option Str),((hs.filter fun o=>decide (o≠none)).length:Int)=(hs.length:Int) - cO none hs
 | []=>rfl
 | o::hs=>by
  have ih:=E1 hs;rw[iW];cases o with
  | none =>
   rw[List.filter_cons_of_neg (by simp),if_pos rfl,List.length_cons];lia
  | some z =>
   rw[List.filter_cons_of_pos (by simp),if_neg (fun y=>nomatch y),List.length_cons,List.length_cons];lia
theorem y7:∀hs:List (Option Str),Paired (fun (v:V) (o:Option Str)=>v=oV o) (hs.map oV) hs
 | []=> .nil
 | _::hs=> .cons rfl (y7 hs)
theorem Walked.inn {rz ps:List (Str×Int)}{ds:List aE}{f l:Int}{N:Nat}{kvs:List (List Key×V)}{S:List (List (Option Str))} (W:Walked rz ps ds f l N kvs S) {P:List aI} (hs:SameT P (dJ kvs)) {i:Nat}{hd:List (Option Str)} (hi:S[i]? =some hd) (z:Str):gP ps (goL ds f l P) (goC ds f l P) z f i=cO (some z) hd:=by
 rw[hs.goL,hs.goC];exact((W.past.at' i hd hi).2.1 z).symm
theorem Walked.out {rz ps:List (Str×Int)}{ds:List aE}{f l:Int}{N:Nat}{kvs:List (List Key×V)}{S:List (List (Option Str))} (W:Walked rz ps ds f l N kvs S) {P:List aI} (hs:SameT P (dJ kvs)) {t:Int}{hd:List (Option Str)} (hfl:f<=l) (hi:S[(min (max (t - f) 0) ((S.length:Int) - 1)).toNat]? =some hd):outF ds f l P t=cO none hd:=by
 have hl:=W.len;rw[hs.outF,(W.past.at' _ hd hi).2.2.1]
 by_cases c1:t<f
 ·rw[uS (by lia),uS (by lia)]
 ·by_cases c2:t<=l
  ·rw[show f+(((min (max (t - f) 0) ((S.length:Int) - 1)).toNat:Nat):Int)=t by lia]
  ·rw[show f+(((min (max (t - f) 0) ((S.length:Int) - 1)).toNat:Nat):Int)=l by lia];exact B1 (fun t n h=>(W.tm t n h).2) (by lia)
theorem RS (ws:List V):xM ws none (some (-1))=ws.take (ws.length - 1):=by
 unfold xM;show (ws.drop 0).take (HT.sIx ws.length ws.length (some (-1)) - 0)=_;rw[List.drop_zero,Nat.sub_zero]
 congr 1
 show (if (-1:Int)<0 then ((-1:Int)+(ws.length:Int)).toNat else min (-1:Int).toNat ws.length)=ws.length - 1;rw[if_pos (by decide)]
 lia
def nY (S:List (List (Option Str)))(N:Nat)(j:Nat):Int:=((S.take j).map fun hd=>(N:Int) - cO none hd).sum
theorem yI {rz ps:List (Str×Int)}{ds:List aE}{f l:Int}{N:Nat}{kvs:List (List Key×V)}{S:List (List (Option Str))} (W:Walked rz ps ds f l N kvs S) {P:List aI} (hs:SameT P (dJ kvs)) (hfl:f<=l):∀n:Nat,n<=(l - f).toNat->((List.range n).map fun i:Nat=>kS rz ps - outF ds f l P (f+(i:Int))).sum=nY S N n
 | 0,_=>rfl
 | n+1,h=>by
  have hl:=W.len;obtain⟨hd,hn⟩:∃hd,S[n]? =some hd:=⟨_,List.getElem?_eq_getElem (by lia)⟩
  have ih:=yI W hs hfl n (by lia);have h3:=(W.past.at' n hd hn).2.2.1;unfold nY at ih ⊢;rw[List.range_succ,List.map_append,List.sum_append,ih,cD hn,List.map_append,List.sum_append];show _+(kS rz ps - outF ds f l P (f+(n:Int))+0)=_+((N:Int) - cO none hd+0);rw[hs.outF,←W.tot,h3]
inductive sK (K:PySem.W.Frag)(C:Addr)(D:bA)(vs:List V)(H:Hp)(Q:VK)(E:XK):Prop
 | mk (h a q:Addr) (f l:Int) (rz ps:List (Str×Int)) (ds:List aE) (us ws:List V) (P:List aI) (N:Nat) (kvs:List (List Key×V)) (S:List (List (Option Str))) (_:vs=[.ref h,.ref a,.ref q]) (_:aO C D H h f l rz ps ds) (_:DrawnH rz ps ds f l) (_:SqL K H a us) (_:cA H us P) (_:P.length<=300) (_:H q=some (.lst ws)) (_:gN H ws S) (_:Walked rz ps ds f l N kvs S) (_:SameT P (dJ kvs)) (_:∀H',Same H H'->Q (.bl true) H'):sK K C D vs H Q E
theorem WS {C:Addr}{D:bA}{H:Hp}{Q:VK}{E:XK}{h a q:Addr}{f l:Int}{rz ps:List (Str×Int)}{ds:List aE}{us ws:List V}{P:List aI}{N:Nat}{kvs:List (List Key×V)}{S:List (List (Option Str))} (hh:aO C D H h f l rz ps ds) (dh:DrawnH rz ps ds f l) (hS:SqL K H a us) (hp:cA H us P) (hl:P.length<=300) (eq:H q=some (.lst ws)) (hst:gN H ws S) (W:Walked rz ps ds f l N kvs S) (hs:SameT P (dJ kvs)) (k:∀H',Same H H'->Q (.bl true) H'):sK K C D [.ref h,.ref a,.ref q] H Q E:=⟨_,_,_,_,_,_,_,_,_,_,_,_,_,_,rfl,hh,dh,hS,hp,hl,eq,hst,W,hs,k⟩
theorem CJ (m:M K mg):bK P w K mg base CX0 8 m.pY m.qA ["_law_house_here","_law_plan","_law_stood"] (sK K m.aH (aR P w K mg base (some 1))):=by
 refine m.k8.ok sc__law_tells (fun vs H Q E h=> ?_) (fun cdv A outer s H vs Q E hr h=> ?_)
 ·walk_at"g1";obtain⟨h,a,q,f,l,rz,ps,ds,us,ws,PP,N,kvs,S,rfl,hh,dh,hS,hpl,hlen,eq,hst,W,hs,k⟩:=h;walk_at"g2";rfl
 ·walk_at"g1";obtain⟨h,a,q,f,l,rz,ps,ds,us,ws,PP,N,kvs,S,rfl,hh,dh,hS,hpl,hlen,eq,hst,W,hs,k⟩:=h;walk_at"g2";have nd:=sc__law_tells.nd;walk_at"hu";have iV:= @CU P w K mg base m;have l7:= @BX P w K mg base m;have wI:= @R0 P w K mg base m;have oK:= @FB P w K mg base m;have w_dc_House:=m.bE;have w_mc_House_pairs:= @iZ P w K mg base m;refine⟨_,(aC (aZ (i:=3) nd rfl (by walk_at"oi") (bR oK hr (aA (pv 0) (aA (pv 1) aB))))
   (aC (dE PassesOwn.never rfl (bW (fV 1 hr (pv 0))) (mU (n:=2) rfl (bD (aL (i:=4) nd rfl (by walk_at"oi")) (bD (aL (i:=5) nd rfl (by walk_at"oi")) dO))) (aF (cP (bL K8 (fA hu1 (pv 3) (cB (aA (pv 4) (aA (pv 5) aB))) (fun _ _=>rfl)) (mK PySem.F.plainAttrs_list PySem.F.slot_list_count PySem.F.type_list_count xB (cH cZ (pv 2) (aJ gH (pv 5) (bI (pv 0) rfl)) (fun _ _=>rfl)) (aA (pv 4) aB)) (bO _)) (aF (bC y9)) bT)))
   (aC (aZ (i:=6) nd rfl (by walk_at"oi") aG)
   (aC (dE PassesOwn.never rfl (qM rfl m.kH (aA (bJ (uV rfl) rfl m.L6 FL (aA aG (aA (aJ gH (bI (pv 0) rfl) aG) aB))) (aA (aJ cF (bI (pv 0) rfl) aG) aB))) (aL (i:=5) nd rfl (by walk_at"oi")) (aC (aZ (i:=7) nd rfl (by walk_at"oi") (bJ (BA rfl) rfl m.UN MS (aA (bJ (uV rfl) rfl m.L6 FL (aA (aJ gH (pv 5) (bI (pv 0) rfl)) (aA aG aB))) (aA (aJ gH (bJ dZ rfl m.jR iA (aA (pv 2) aB)) aG) aB))))
   (aC (aZ (i:=8) nd rfl (by walk_at"oi") (bR l7 hr (aA (pv 0) (aA (pv 1) (aA (pv 5) aB)))))
   (aF (cP (PW.pt (yN (oO (jO (bR iV hr (aA (pv 8) aB)))) (uM (bL K8 (pv 8) (mK PySem.F.plainAttrs_list PySem.F.slot_list_count PySem.F.type_list_count xB (cH cZ (pv 2) (pv 7) (fun _ _=>rfl)) (aA hZ aB)) (bO _))))) (aF (bC y9)) bT)))))
   (aC (dE PassesOwn.never rfl (bW (P6 VJ (pv 2) XH (WT (aBd ZM aG)))) (aL (i:=9) nd rfl (by walk_at"oi")) (aF (aZ (i:=6) nd rfl (by walk_at"oi") (aJ cF (pv 6) (bJ dZ rfl m.jR iA (aA (dI (N:=["_law_room"]) (nl:=1) (ci:=[]) rfl (blk (s.heap.objs.size+1) rfl rfl rfl (by kernel_rfl)) (bW (pv 9)) (fun _ _ _ _=>(aL (i:=0) (show (["_law_room"]:List Str).Nodup by decide +kernel) rfl (by walk_at"oi"))) (fun _ _ _ _=>(mP (bL oJ (pv 0) hZ (bO _)))) (fun _ _ _ _=>(pv 0))) aB))))))
   (aC (aZ (i:=8) nd rfl (by walk_at"oi") (bR wI hr (aA (pv 0) (aA (pv 1) aB))))
   (aF (bC (zE (bR iV hr (aA (pv 8) aB)) (yY (rO vR (pv 8) (pv 6) (bO _)))))))))))),?_⟩
  refine aP (σ:=[some (.ref h),some (.ref a),some (.ref q),none,none,none,none,none,none,none]) rfl ?_;walk_at"cx";walk_at"g1";obtain⟨dnr,dnd,dhin,dlt,hpr,dfit,dsz,dlr,dld,dld0,df0,df1,df2,df3⟩:=id dh;walk_at"g2";have hwl:ws.length=S.length:=Paired.length hst;have hSl:=W.len;walk_at"go";refine⟨_,_,_,_,_,_,_,_,_,rfl,hh,dnr,dnd,dhin,df0,by lia,by lia,by lia,by lia,hS,hpl,hlen,fun pt H1 n1 S1 et=> ?_⟩;have hh1:=aV hh S1;walk_at"g1";obtain⟨dx,qs,qp,qd,nk,kvs0,e1,_⟩:=hh1.ex;walk_at"g2";walk_at"go";refine wC hh1 df0 (by lia) (by lia) (by lia) (by lia) fun p5 ys H5 n5 S5 e5 hpp=> ?_;have hyl:ys.length=(bB rz f (l+1 - f).toNat).length:=Paired.length hpp;have et5:=S5 _ _ et;have eq5:=(S1.trans S5) _ _ eq;have hst5:gN H5 ws S:=Paired.imp' (fun _ _ ⟨r,e,r3⟩=>⟨r,e,(S1.trans S5) _ _ r3⟩) hst;have pnd:=gR dnr f (l+1 - f).toNat;have e15:=S5 _ _ e1;walk_at"go";let Pv1:Nat->St->Hp->Prop:=fun i σ' G=>Same H5 G/\∃x y,σ'=[some (.ref h),some (.ref a),some (.ref q),some (.ref pt),x,y,none,none,none,none];refine eZ ys Pv1 ⟨Same.refl _,_,_,rfl⟩ (fun i σ' G _ g=>SqL.of (g.1 _ _ e5)) ?_ ?_
  ·rintro i x _ G hx hq_;walk_at"g1";obtain⟨sG,x1,x2,rfl⟩:=hq_;walk_at"g2";have hi:i<ys.length:=(List.getElem?_eq_some_iff.mp hx).1;obtain⟨⟨z,t⟩,hrx⟩:∃r,(bB rz f (l+1 - f).toNat)[i]? =some r:=⟨_,List.getElem?_eq_getElem (by lia)⟩
   obtain⟨q1,rfl,hq1⟩:=Paired.at2 hpp hx hrx;have hq1':G q1=some (.tup [.str z,.int t]):=sG _ _ hq1;have hmem:=List.mem_of_getElem? hrx;walk_at"g1";obtain⟨hz,j,hj,ht⟩:=pairsN_mem.mp hmem;walk_at"g2";obtain⟨hd,hdj⟩:∃hd,S[j]? =some hd:=⟨_,List.getElem?_eq_getElem (by lia)⟩
   have hwj:ws[j]? =some ws[j]:=List.getElem?_eq_getElem (by lia);obtain⟨r,hr,er⟩:=Paired.at2 hst5 hwj hdj;rw[hr]at hwj;have erG:=sG _ _ er;have eqG:=sG _ _ eq5;have etG:=sG _ _ et5;have e1G:=sG _ _ e15;have hval:aY (jB ps (goL ds f l PP) (goC ds f l PP) f (bB rz f (l+1 - f).toNat)) (bG (z,t))=some (.int (cO (some z) hd)):=by
    rw[sT pnd hmem];show some (V.int (gP ps _ _ z f (t - f).toNat))=_;rw[show (t - f).toNat=j by lia,W.inn hs hdj z]
   walk_at"go";rename_i b7 G7 n7 S7 e7;refine oW (bG (z,t)) (.inl (S7 _ _ etG)) e7 hval ?_;have eqG7:=S7 _ _ eqG;have e1G7:=S7 _ _ e1G;have hix:t - f=(j:Int):=by lia
   have erG7:=S7 _ _ erG;walk_at"go";rw[hix];refine iI (SqL.of eqG7) hwj ?_;walk_at"go";refine⟨r,.str z,hd.map oV,rfl,rfl,erG7,rfl,E3 hd,?_⟩;rw[show ((uJ (.str z) (hd.map oV):Nat):Int)=cO (some z) hd from JV (some z) hd];walk_at"go";exact⟨sG.trans S7,_,_,rfl⟩
  ·rintro _ G hq_;walk_at"g1";obtain⟨sG,x1,x2,rfl⟩:=hq_;walk_at"g2";have sHG:=S1.trans (S5.trans sG);have hhG:=aV hh sHG;have e1G:=sG _ _ e15;have eqG:=sG _ _ eq5;have hstG:gN G ws S:=Paired.imp' (fun _ _ ⟨r,e,r3⟩=>⟨r,e,sG _ _ r3⟩) hst5;have hws0:0<ws.length:=by lia
   walk_at"go";let Pv2:Nat->St->Hp->Prop:=fun i σ' G1=>Same G G1/\∃x y z u,σ'=[some (.ref h),some (.ref a),some (.ref q),some (.ref pt),x,y,some (.int 0),z,u,none];refine rE Pv2 ⟨Same.refl _,_,_,_,_,rfl⟩ ?_ ?_
   ·rintro i _ G1 hi hq_;walk_at"g1";obtain⟨s1,x3,x4,x5,x6,rfl⟩:=hq_;walk_at"g2";have hh1':=aV hhG s1;have e11:=s1 _ _ e1G;have eq1:=s1 _ _ eqG;generalize hT:max 0 (f - 1)+(i:Int)=T;have hkk:(min (max (T - f) 0) ((ws.length:Int) - 1))=(((min (max (T - f) 0) ((ws.length:Int) - 1)).toNat:Nat):Int):=by lia
    obtain⟨hd,hdj⟩:∃hd,S[(min (max (T - f) 0) ((ws.length:Int) - 1)).toNat]? =some hd:=⟨_,List.getElem?_eq_getElem (by lia)⟩
    have hwj:ws[(min (max (T - f) 0) ((ws.length:Int) - 1)).toNat]? =some ws[(min (max (T - f) 0) ((ws.length:Int) - 1)).toNat]:=List.getElem?_eq_getElem (by lia);obtain⟨r,hr,er⟩:=Paired.at2 hstG hwj hdj;rw[hr]at hwj;have hout:=W.out hs (t:=T) (hd:=hd) (by lia) (by rw[←hwl];exact hdj);walk_at"go";refine JL hh1' dnd dhin ((sHG.trans s1).seq hS) (fR hpl (sHG.trans s1)) hlen fun G2 S2=> ?_;have eq2:=S2 _ _ eq1;have er2:=(s1.trans S2) _ _ er;rw[hout];walk_at"go";rw[hkk];refine iI (SqL.of eq2) hwj ?_;walk_at"go";refine⟨r,.non,hd.map oV,rfl,rfl,er2,rfl,E3 hd,?_⟩;rw[show ((uJ .non (hd.map oV):Nat):Int)=cO none hd from JV none hd];walk_at"go";exact⟨s1.trans S2,_,_,_,_,rfl⟩
   ·rintro _ G1 hq_;walk_at"g1";obtain⟨s1,x3,x4,x5,x6,rfl⟩:=hq_;walk_at"g2";have eq1:=s1 _ _ eqG;walk_at"go";rename_i pR G2 m2 T2 eR;rw[RS]at eR;have s12:=s1.trans T2;have hst2:gN G2 ws S:=Paired.imp' (fun _ _ ⟨r,e,r3⟩=>⟨r,e,s12 _ _ r3⟩) hstG;let Pv3:Nat->St->Hp->Prop:=fun j σ' G3=>Same G2 G3/\∃x y z u v,σ'=[some (.ref h),some (.ref a),some (.ref q),some (.ref pt),x,y,some (.int (nY S N j)),z,u,v];refine eZ (ws.take (ws.length - 1)) Pv3 ⟨Same.refl _,_,_,_,_,_,rfl⟩ (fun j σ' G3 _ g=>SqL.of (g.1 _ _ eR)) ?_ ?_
    ·rintro j x _ G3 hx hq_;walk_at"g1";obtain⟨s3,x7,x8,x9,x10,x11,rfl⟩:=hq_;walk_at"g2";have hj:j<(ws.take (ws.length - 1)).length:=(List.getElem?_eq_some_iff.mp hx).1;rw[List.length_take]at hj;rw[List.getElem?_take_of_lt (by lia)]at hx;obtain⟨hd,hdj⟩:∃hd,S[j]? =some hd:=⟨_,List.getElem?_eq_getElem (by lia)⟩
     obtain⟨r,rfl,er⟩:=Paired.at2 hst2 hx hdj;have er3:=s3 _ _ er;have hN:hd.length=N:=(W.past.at' j hd hdj).2.2.2.2;have hNs:N<=30:=W.few;have hm:nY S N (j+1)=nY S N j+((N:Int) - cO none hd):=by
      unfold nY;rw[cD hdj,List.map_append,List.sum_append];show _+((N:Int) - cO none hd+0)=_
      lia
     walk_at"go";refine rA (α:=Option Str) (xs:=hd) (vs:=hd.map oV) (fun v o=>v=oV o) (fun o=>decide (o≠none)) (fun o y _=>y=oV o) (fun _ _ _ _ h _=>h) (by rw[sizeLine_eq];lia) (rest:=[]) (by rfl) (SqL.of er3) (y7 hd) ?_ ?_ ?_
     ·rintro v o G4 rfl ho s4 R hR;have hR':=hR _ (Same.refl _);cases o with
      | none =>
       walk_at"go";exact hR'
      | some z =>
       walk_at"go";exact hR'
     ·rintro v o G4 rfl ho - s4 R hR;walk_at"go";exact hR _ _ rfl (Same.refl _)
     intro o1 G4 s4 ho1;have hol:(o1.length:Int)=(N:Int) - cO none hd:=by
      rw[←Paired.length ho1,←hN];exact E1 hd
     walk_at"go";rename_i pK G5 m5 T5 eK;have hfin:nY S N j+(o1.length:Int)=nY S N (j+1):=by rw[hm,hol]
     rw[hfin];exact⟨s3.trans (s4.trans T5),_,_,_,_,_,rfl⟩
    ·rintro _ G3 hq_;walk_at"g1";obtain⟨s3,x7,x8,x9,x10,x11,rfl⟩:=hq_;walk_at"g2";have s13:=sHG.trans (s12.trans s3);walk_at"go";refine UY (aV hh s13) dnr dnd dhin (s13.seq hS) (fR hpl s13) hlen (by lia) df0 (by lia) (by lia) fun G4 S4=> ?_;have hsp:yM rz ps ds f l PP=nY S N (ws.take (ws.length - 1)).length:=by
      rw[List.length_take];unfold yM;rw[yI W hs (by lia) (l - f).toNat (Nat.le_refl _)]
      congr 1
      lia
     rw[hsp];walk_at"go";rw[decide_eq_true rfl];exact k _ (s13.trans S4)
theorem CQ (m:M K mg):Fc P w K mg base "_law_tells" 8 ["_law_house_here","_law_plan","_law_stood"] (sK K m.aH (aR P w K mg base (some 1))):=⟨_,_,m.GB,m.k8.kp,m.GU,CJ m⟩
theorem LU {a b:List aI}(h:a.Perm b)(t:Int)(n:Str):bP a t n=bP b t n:=by
 induction h with
 | nil=>rfl
 | cons x _ ih=>rw[dC,dC,ih]
 | swap x y l=>rw[dC,dC,dC,dC];lia
 | trans _ _ h1 h2=>rw[h1,h2]
def unK:List Key->aI
 | [.inl t,.inr n,.inl i]=>(t,n,i)
 | _=>(0,⟨#[]⟩,0)
theorem II (xs:List aI):(xs.map oR).map unK=xs:=by
 rw[List.map_map];exact(List.map_congr_left fun r _=>rfl).trans (List.map_id _)
theorem BZ {kvs:List (List Key×V)}(g:lJ kvs):kvs.map tF=(dJ kvs).map oR:=by
 unfold dJ;rw[List.map_map];refine List.map_congr_left fun e he=> ?_;walk_at"g1";obtain⟨t,n,i,rfl⟩:=g.2 e he;walk_at"g2";rfl
theorem LI {kvs:List (List Key×V)}(g:lJ kvs):(kvs.map tF).Nodup:=by
 have h1:=g.1;rw[List.Nodup,List.pairwise_map]at h1 ⊢;refine List.Pairwise.imp_of_mem ?_ h1;intro a b ha hb h z;walk_at"g1";obtain⟨t,n,i,rfl⟩:=g.2 a ha;walk_at"g2";walk_at"g1";obtain⟨t',n',i',rfl⟩:=g.2 b hb;walk_at"g2"
 apply h
 have z':=RN (a:=(t,n,i)) (b:=(t',n',i')) z;cases z';rfl
theorem MV {kvs:List (List Key×V)}(g:lJ kvs){xs:List aI}(h:xs.map oR=qF (kvs.map tF)):SameT xs (dJ kvs):=by
 have hp:(xs.map oR).Perm ((dJ kvs).map oR):=by rw[h,←BZ g];exact nZ _
 have hp:=hp.map unK;rw[II,II]at hp;exact LU hp
theorem BY {H:Hp}:∀{es:List (List Key×V)}{ys:List V},Paired (fun e y=>∃q,y= .ref q/\H q=some (.tup ((tF e).map kV))) es ys->KRows H ys (es.map tF)
 | _,_,.nil=> .nil
 | _,_,.cons h t=> .cons h (BY t)
theorem yF {H:Hp}:∀{ws:List V}{ks:List (List Key)},KRows H ws ks->(∀k∈ks,∃r:aI,k=oR r)->∃xs,cA H ws xs/\xs.map oR=ks
 | _,_,.nil,_=>⟨[],.nil,rfl⟩
 | _,_,.cons ⟨p,e,h⟩ t,hk=>by
  obtain⟨xs,h1,h2⟩:=yF t fun k hk'=>hk k (List.mem_cons_of_mem _ hk');obtain⟨r,rfl⟩:=hk _ (.head _);exact⟨r::xs,.cons ⟨p,e,h⟩ h1,by rw[List.map_cons,h2]⟩
theorem Walked.lawful {rz ps:List (Str×Int)}{ds:List aE}{f l:Int}{N:Nat}{kvs:List (List Key×V)}{S:List (List (Option Str))} (W:Walked rz ps ds f l N kvs S) {P:List aI} (hs:SameT P (dJ kvs)) (nr:(rz.map (·.1)).Nodup):oX rz ps ds f l P=[]:=by
 have hl:=W.len;rw[List.eq_nil_iff_forall_not_mem];intro k hk;unfold oX at hk;rw[hs.goL,hs.goC]at hk;rcases List.mem_append.mp hk with hk|hk
 ·rcases List.mem_append.mp hk with hk|hk
  ·walk_at"g1";obtain⟨r,_,_,h⟩:=mem_dfK.mp hk;walk_at"g2";rw[hs]at h;have:=W.past.le r.1 r.2.1
   lia
  ·walk_at"g1";obtain⟨z,_,i,hi,_,h⟩:=mem_lfK.mp hk;walk_at"g2";have:=W.past.lv i z hi
   lia
 ·walk_at"g1";obtain⟨e,he,i,hi,_,h⟩:=(z0 nr).mp hk;walk_at"g2";obtain⟨hd,hn⟩:∃hd,S[i]? =some hd:=⟨_,List.getElem?_eq_getElem (by lia)⟩
  walk_at"g1";obtain⟨_,a2,_,a4,_⟩:=W.past.at' i hd hn;walk_at"g2";have:=a4 e he;rw[a2]at this
  lia
theorem MJ {C:Addr}{D:bA}{H:Hp}{Q:VK}{E:XK}{h a:Addr}{f l:Int}{rz ps:List (Str×Int)}{ds:List aE}{us:List V}{rows:List aI} (hh:aO C D H h f l rz ps ds) (dh:DrawnH rz ps ds f l) (hS:SqL K H a us) (hp:cA H us rows) (hl:rows.length<=300) (k:∀p ws H',H p=none->Same H H'->H' p=some (.lst ws)->KRows H' ws (qF (oX rz ps ds f l rows))->Q (.ref p) H'):uT K C D [.ref h,.ref a] H Q E:=by
 walk_at"g1";obtain⟨dnr,dnd,dhin,dlt,hpr,dfit,dsz,dlr,dld,dld0,df0,df1,df2,df3⟩:=dh;walk_at"g2";exact aBv hh dnr dnd dhin df0 (by lia) (by lia) (by lia) (by lia) (by lia) hS hp (by lia) k
inductive uU (K:PySem.W.Frag)(vs:List V)(H:Hp)(Q:VK)(E:XK):Prop
 | mk (a:Addr) (ns:List Int) (_:vs=[.ref a]) (_:SqL K H a (ns.map V.int)) (_:ns.length<=63) (_:∀H',Q (.bl true) H'):uU K vs H Q E
theorem YY (m:M K mg):bK P w K mg base CX0 20 m.L8 m.L1 ["_law_script"] (uU K):=by
 refine m.aBL.ok sc_law (fun vs H Q E h=> ?_) (fun cdv A outer s H vs Q E hr h=> ?_)
 ·walk_at"g1";obtain⟨a,ns,rfl,hS,hlen,k⟩:=h;walk_at"g2";rfl
 ·walk_at"g1";obtain⟨a,ns,rfl,hS,hlen,k⟩:=h;walk_at"g2";have nd:=sc_law.nd;walk_at"hu";have bZ:= @kY P w K mg base m;have d0:= @mY P w K mg base m;have kZ:= @CO P w K mg base m;have k8:= @CQ P w K mg base m;have jS:= @zN P w K mg base m;have o6:= @OY P w K mg base m;have w_dc_House:=m.bE;have w_mc_House_doors:= @gJ P w K mg base m;have w_mc_House_lets:= @t8 P w K mg base m;refine⟨_,(aC (aZ (i:=1) nd rfl (by walk_at"oi") (bR kZ hr (aA (pv 0) aB)))
   (aC (NN (bR jS hr (aA (pv 1) (aA (pv 0) aB))) (mU (n:=2) rfl (bD (aL (i:=2) nd rfl (by walk_at"oi")) (bD (aL (i:=3) nd rfl (by walk_at"oi")) dO))))
   (aC (aZ (i:=4) nd rfl (by walk_at"oi") (bJ uD rfl m.GW BK (aA (wE (dI (N:=["_law_key","_law_number"]) (nl:=2) (ci:=[]) rfl (blk (s.heap.objs.size+1) rfl rfl rfl (by kernel_rfl)) (NX (pv 2)) (fun _ _ _ _=>(kG (K:=K) (n:=2) rfl (bD (aL (i:=0) (show (["_law_key","_law_number"]:List Str).Nodup by decide +kernel) rfl (by walk_at"oi")) (bD (aL (i:=1) (show (["_law_key","_law_number"]:List Str).Nodup by decide +kernel) rfl (by walk_at"oi")) dO)))) (fun _ _ _ _=>iN) (fun _ _ _ _=>(aJ (QQ (K:=K)) (pv 0) (cB (aA (pv 1) aB)))))) aB)))
   (aC (cP (PW.pt (yN (bL (ZV hu0) (bR o6 hr (aA (pv 1) (aA (pv 4) aB))) (iB aB) (bO _)) (uM (oO (jO (bR k8 hr (aA (pv 1) (aA (pv 4) (aA (pv 3) aB))))))))) (aF (bC y9)) bT)
   (aC (aZ (i:=5) nd rfl (by walk_at"oi") (bR d0 hr (aA (bR bZ hr (aA (pv 0) (aA aG aB))) (aA aG aB))))
   (aC (aZ (i:=6) nd rfl (by walk_at"oi") (fV 1 hr (pv 1)))
   (aC (aZ (i:=7) nd rfl (by walk_at"oi") (cH cZ (pv 6) (aJ cT (pv 5) (bJ dZ rfl m.jR iA (aA (pv 6) aB))) (fun _ _=>rfl)))
   (aC (aZ (i:=8) nd rfl (by walk_at"oi") (aJ cF (bI (pv 1) rfl) (aJ cT (aJ dX (pv 5) aG) (aJ gH (bI (pv 1) rfl) (bI (pv 1) rfl)))))
   (aC (aZ (i:=9) nd rfl (by walk_at"oi") (aJ cF (aJ gH (gE 3 hr (pv 1) (aA (pv 7) (aA (pv 8) aB))) (g6 hu1 (pv 2) (cB (aA (pv 8) (aA (pv 7) aB))) aG ⟨rfl,rfl,rfl,rfl⟩)) aG))
   (aF (bC (rO (X5 (K:=K) hu1) (cB (aA (pv 8) (aA fU (aA (pv 7) aB)))) (bR o6 hr (aA (pv 1) (aA (aJ uL (pv 4) (iB (aA (cB (aA (pv 8) (aA (pv 7) (aA (pv 9) aB)))) aB))) aB))) (by with_unfolding_all rfl))))))))))))),?_⟩
  refine aP (σ:=[some (.ref a),none,none,none,none,none,none,none,none,none]) rfl ?_;walk_at"cx";walk_at"go";refine QD hS fun h H1 f l rz ps ds S1 hh dh=> ?_;walk_at"go";refine RT hh dh (S1.seq hS) hlen fun p pw pS kvs vs S N H2 S2 nw ep ew eS hst W=> ?_;have g:=W.good;have hkl:kvs.length<=240:=W.small;walk_at"go";refine sP ew TR ?_;walk_at"go";refine N3 ew fun o H3 B3 e3=> ?_;refine aAb (fun _=>true) (fun e y H=>∃q,y= .ref q/\H q=some (.tup ((tF e).map kV))) (fun _ _ _ _ ⟨q,h1,h2⟩ s=>⟨q,h1,s _ _ h2⟩) (by rw[sizeLine_eq];lia) (rest:=[]) (by rfl) e3 ?_ ?_ ?_
  ·exact fun x H4 q hm s4 hq R hR=>hR _ (Same.refl _)
  ·rintro ⟨kk,v⟩ H4 q hm - s4 hq R hR;walk_at"g1";obtain⟨t,n,i,e⟩:=g.2 _ hm;walk_at"g2";cases e;have hq':H4 q=some (.tup [.int t,.str n]):=hq;show (_:TE) (some (V.ref q)::some (V.int i)::[]) H4 R;walk_at"go";rename_i q5 H5 n5 S5 e5;refine RM (S5 _ _ hq') e5 (List.cons_ne_nil _ _) (List.cons_ne_nil _ _) (by rw[sizeLine_eq];show 2+1<=_;decide) fun q6 H6 n6 S6 e6=> ?_;exact hR _ _ ⟨q6,rfl,e6⟩ (S5.trans S6)
  intro ys H4 s4 hys;have kr:KRows H4 ys (kvs.map tF):=by
   have:=BY hys
   rwa [List.filter_eq_self.mpr (fun _ _=>rfl)]at this
  walk_at"go";rename_i q5 H5 n5 S5 e5;have eo:H5 pw=some (.frz o (.dT kvs)):=S5 _ _ (s4 _ _ e3);refine mT eo fun H6 B6 e6=> ?_;have hpq:q5≠pw:=fun z=>by rw[z,s4 _ _ e3]at n5;cases n5
  have kr6:KRows H6 ys (kvs.map tF):=KRows.map (fun q xs hq=>B6 _ _ hq fun z=>by rw[z,eo]at hq;cases hq) (kr.same S5);have s26:∀x u,H2 x=some u->x≠pw->H6 x=some u:=fun x u hx hn=>B6 _ _ (S5 _ _ (s4 _ _ (B3 _ _ hx hn))) hn;have hh6:aO m.aH (aR P w K mg base (some 1)) H6 h f l rz ps ds:=EG (aV hh S2) ew s26;have hst6:gN H6 vs S:=Paired.imp' (fun _ _ ⟨r,e,r3⟩=>⟨r,e,s26 _ _ r3 (fun z=>by rw[z,ew]at r3;cases r3)⟩) hst;have eS6:=s26 _ _ eS (fun z=>by rw[z,ew]at eS;cases eS);walk_at"go";refine CB (sh:=[true,false,true]) (SqL.of (B6 _ _ e5 hpq)) kr6 (LI g) (fun r hr=>by
   obtain⟨e,he,rfl⟩:=List.mem_map.mp hr;walk_at"g1";obtain⟨t,n,i,rfl⟩:=g.2 e he;walk_at"g2";rfl) (by decide) fun pP wP H7 n7 S7 e7 kr7=> ?_
  obtain⟨xs,h1,h2⟩:=yF kr7 fun kk hk=>by
   have hk:=(nZ _).mem_iff.mp hk;rw[BZ g]at hk;obtain⟨r,_,e⟩:=List.mem_map.mp hk;exact⟨r,e.symm⟩
  have hs:SameT xs (dJ kvs):=MV g h2;have hxl:xs.length<=240:=by
   have h3:xs.length=(kvs.map tF).length:=by rw[←List.length_map (f:=oR),h2];exact(nZ _).length_eq
   rw[List.length_map]at h3
   lia
  have hh7:=aV hh6 S7;walk_at"go";refine MJ hh7 dh (SqL.of e7) h1 (by lia) fun pF wF H8 n8 S8 e8 kr8=> ?_;rw[W.lawful hs dh.nr]at kr8;cases kr8;have hst7:gN H7 vs S:=Paired.imp' (fun _ _ ⟨r,e,r3⟩=>⟨r,e,S7 _ _ r3⟩) hst6;walk_at"go";rename_i pN H9 n9 S9 e9;refine YE (SqL.of (S9 _ _ e8)) (SqL.of e9) ?_;rw[show (!(([]:List V).isEmpty))=false from rfl];have s79:=S8.trans S9;have hst9:gN H9 vs S:=Paired.imp' (fun _ _ ⟨r,e,r3⟩=>⟨r,e,s79 _ _ r3⟩) hst7;walk_at"go";refine WS (aV hh7 s79) dh (SqL.of (s79 _ _ e7)) (fR h1 s79) (by lia) (s79 _ _ (S7 _ _ eS6)) hst9 W hs fun H10 S10=> ?_;have s710:=s79.trans S10;have s16:Same H1 H6:=fun x u hx=>s26 _ _ (S2 _ _ hx) (fun z=>by rw[z,nw]at hx;cases hx);have s110:=s16.trans (S7.trans s710);have hS10:=(S1.trans s110).seq hS;have hh10:=aV hh s110;walk_at"g1";obtain⟨dnr,dnd,dhin,dlt,hpr,dfit,dsz,dlr,dld,dld0,df0,df1,df2,df3⟩:=id dh;walk_at"g2";walk_at"g1";obtain⟨dx,qs,qp,qd,nk,kvs0,e110,_⟩:=hh10.ex;walk_at"g2";have ew10:=(S7.trans s710) _ _ e6;walk_at"go";rename_i dd hd0 hd1;refine oF hh10 fun p11 H11 n11 S11 e11=> ?_;have hml:0<((ds.map (·.1)).map V.str).length:=by rw[List.length_map,List.length_map];exact dld0
  have e111:=S11 _ _ e110;walk_at"go";rename_i hm0 hm1;refine rP (SqL.of e11) hm0 hm1 fun v1 hv1=> ?_;obtain⟨n',hn',rfl⟩:=List.mem_map.mp hv1;walk_at"g1";obtain⟨⟨dn,dst,de,lt⟩,hd,rfl⟩:=List.mem_map.mp hn';walk_at"g2";clear hv1 hn';walk_at"go";rename_i ht0 ht1;generalize hTe:f+dd/16%(l - f)=T;have hTf:f<=T/\T<l:=by lia
  refine JP (d:=(dn,dst,de,lt)) (aV hh10 S11) dnd hd df0 fun H12 S12=> ?_;have hlf:i9 f l (dn,dst,de,lt) T=lt T:=by unfold i9;rw[if_pos hTf]
  rw[hlf];have s1012:=S11.trans S12;have ew12:=s1012 _ _ ew10;obtain⟨w0,hw0⟩:∃i',(aY kvs (bU T dn)).getD (.int 0)= .int i':=by
   cases hv':aY kvs (bU T dn) with
   | none=>exact⟨0,rfl⟩
   | some v =>
    walk_at"g1";obtain⟨t',n',i',e⟩:=g.2 _ (iK hv');walk_at"g2";cases e;exact⟨i',rfl⟩
  walk_at"go";refine fW ew12 ?_;walk_at"go";rename_i b13 H13 n13 S13 e13;refine gZ (bU T dn) (S13 _ _ ew12) e13 ?_;rw[hw0];have s713:=s710.trans (s1012.trans S13);have e713:=s713 _ _ e7;walk_at"go";rename_i pt J1 m1 U1 d1 pr J2 m2 U2 d2 pl J3 m3 U3 d3;have U13:=U1.trans (U2.trans U3);have hwx:wP.length=xs.length:=Paired.length h1;refine vQ (U13 _ _ e713) d3 (by rw[sizeLine_eq];show _+1<=_;lia) fun pq J4 m4 U4 d4=> ?_;have s7J:=s713.trans (U13.trans U4);have hp4:cA J4 (wP++[.ref pr]) (xs++[(T,dn,lt T - w0+1)]):=kR (fR h1 s7J) (.cons ⟨pr,rfl,(U3.trans U4) _ _ d2⟩ .nil);walk_at"go";refine MJ (aV hh7 s7J) dh (SqL.of d4) hp4 (by rw[List.length_append];show _+1<=_;lia) fun pX wX J5 m5 U5 d5 kr5=> ?_;have d15:J5 pt=some (.tup ((flK "door" (dn,T)).map kV)):=(U2.trans (U3.trans (U4.trans U5))) _ _ d1;have hmo:eX ds f l T dn=lt T:=by
   unfold eX;rw[mN (d:=(dn,dst,de,lt)) dnd hd];exact hlf
  have htot:bP (xs++[(T,dn,lt T - w0+1)]) T dn=lt T+1:=by
   rw[MW,hs,jK g,hw0,dC,if_pos rfl];show w0+(lt T - w0+1+0)=_
   lia
  refine ZK (flK "door" (dn,T)) true d15 (SqL.of d5) kr5 ⟨fun _=> ?_,fun _=>rfl⟩ (k _);refine(nZ _).mem_iff.mpr ?_;unfold oX;exact List.mem_append_left _ (List.mem_append_left _ (mem_dfK.mpr ⟨(T,dn,lt T - w0+1),List.mem_append_right _ (.head _),rfl,by show bP _ T dn>eX ds f l T dn;rw[htot,hmo];lia⟩))
end
theorem all_mk {l:PySem.W.OpenLaw}{w:World}{K:PySem.W.Frag}{h:Heap}{mg:Str->Option Value}{fa:Addr} (X:K.In h) (G:h.Ns mainGlobals mg) (hfa:mg "law" =some (.ref fa))
  {zaa zab zac zad zae zaf zag zah zai zaj zak zal zam zan zao zap zaq zar zas zat zau zav zaw zax zay zaz zba zbb zbc zbd zbe zbf zbg zbh zbi zbj zbk zbl zbm zbn zbo zbp zbq zbr zbs zbt zbu zbv zbw zbx zby zbz zca zcb zcc zcd zce zcf zcg zch:Addr}
  {zci zcj:Option Addr}{zck:Array (Option Value)}{zcl zcm zcn zco zcp zcq:Value}
  {zcr zcs:Option Addr}{zct:Array (Option Value)}{zcu zcv zcw zcx zcy zcz:Value}
  {zda zdb:Option Addr}{zdc:Array (Option Value)}{zdd zde zdf zdg zdh zdi:Value}
  {zdj zdk:Option Addr}{zdl:Array (Option Value)}{zdm zdn zdo zdp zdq zdr:Value}
  {zds zdt:Option Addr}{zdu:Array (Option Value)}{zdv zdw zdx zdy zdz zea:Value}
  {zeb zec:Option Addr}{zed:Array (Option Value)}{zee zef zeg zeh zei zej:Value}
  {zek zel:Option Addr}{zem:Array (Option Value)}{zen zeo zep zeq zer zes:Value}
  {zet zeu:Option Addr}{zev:Array (Option Value)}{zew zex zey zez zfa zfb:Value}
  {zfc zfd:Option Addr}{zfe:Array (Option Value)}{zff zfg zfh zfi zfj zfk:Value}
  {zfl zfm:Option Addr}{zfn:Array (Option Value)}{zfo zfp zfq zfr zfs zft:Value}
  {zfu zfv:Option Addr}{zfw:Array (Option Value)}{zfx zfy zfz zga zgb zgc:Value}
  {zgd zge:Option Addr}{zgf:Array (Option Value)}{zgg zgh zgi zgj zgk zgl:Value}
  {zgm zgn:Option Addr}{zgo:Array (Option Value)}{zgp zgq zgr zgs zgt zgu:Value}
  {zgv zgw:Option Addr}{zgx:Array (Option Value)}{zgy zgz zha zhb zhc zhd:Value}
  {zhe zhf:Option Addr}{zhg:Array (Option Value)}{zhh zhi zhj zhk zhl zhm:Value}
  {zhn zho:Option Addr}{zhp:Array (Option Value)}{zhq zhr zhs zht zhu zhv:Value}
  {zhw zhx:Option Addr}{zhy:Array (Option Value)}{zhz zia zib zic zid zie:Value}
  {zif zig:Option Addr}{zih:Array (Option Value)}{zii zij zik zil zim zin:Value}
  {zio ziq:Option Addr}{zir:Array (Option Value)}{zis zit ziu ziv ziw zix:Value}
  {ziy ziz:Option Addr}{zja:Array (Option Value)}{zjb zjc zjd zje zjf zjg:Value}
  {zjh zji:Option Addr}{zjj:Array (Option Value)}{zjk zjl zjm zjn zjo zjp:Value}
  {zjq zjr:Option Addr}{zjs:Array (Option Value)}{zjt zju zjv zjw zjx zjy:Value}
  {zjz zka:Option Addr}{zkb:Array (Option Value)}{zkc zkd zke zkf zkg zkh:Value}
  {zki zkj:Option Addr}{zkk:Array (Option Value)}{zkl zkm zkn zko zkp zkq:Value}
  {zkr zks:Option Addr}{zkt:Array (Option Value)}{zku zkv zkw zkx zky zkz:Value}
  {zla zlb:Option Addr}{zlc:Array (Option Value)}{zld zle zlf zlg zlh zli:Value}
  {zlj zlk:Option Addr}{zll:Array (Option Value)}{zlm zln zlo zlp zlq zlr:Value}
  {zls zlt:Option Addr}{zlu:Array (Option Value)}{zlv zlw zlx zly zlz zma:Value}
  {zmb zmc:Option Addr}{zmd:Array (Option Value)}{zme zmf zmg zmh zmi zmj:Value}
  {zmk zml:Option Addr}{zmm:Array (Option Value)}{zmn zmo zmp zmq zmr zms:Value}
  {zmt zmu:Option Addr}{zmv:Array (Option Value)}{zmw zmx zmy zmz zna znb:Value}
  {znc znd:Option Addr}{zne:Array (Option Value)}{znf zng znh zni znj znk:Value}
  {znl:Addr}
  {znm:Tok}
  {znn:Value}{zno:Option Addr}{znp:Nat}{znq:Array (Option Value)}
  {znr zns:Option Addr}{znt:Array (Option Value)}{znu znv znw znx zny znz:Value}
  {zoa zob:Option Addr}{zoc:Array (Option Value)}{zod zoe zof zog zoh zoi:Value}
  {zoj zok:Option Addr}{zol:Array (Option Value)}{zom zon zoo zop zoq zor:Value}
  {zos zot:Option Addr}{zou:Array (Option Value)}{zov zow zox zoy zoz zpa:Value}
  {zpb zpc:Option Addr}{zpd:Array (Option Value)}{zpe zpf zpg zph zpi zpj:Value}
  {zpk zpl:Option Addr}{zpm:Array (Option Value)}{zpn zpo zpp zpq zpr zps:Value}
  {zpt zpu:Option Addr}{zpv:Array (Option Value)}{zpw zpx zpy zpz zqa zqb:Value}
  {zqc:Addr}
  {zqd:Tok}
  {zqe:Value}{zqf:Option Addr}{zqg:Nat}{zqh:Array (Option Value)}
  {zqi zqj:Option Addr}{zqk:Array (Option Value)}{zql zqm zqn zqo zqp zqq:Value}
  {zqr zqs:Option Addr}{zqt:Array (Option Value)}{zqu zqv zqw zqx zqy zqz:Value}
  {zra zrb:Option Addr}{zrc:Array (Option Value)}{zrd zre zrf zrg zrh zri:Value}
  {zrj zrk:Option Addr}{zrl:Array (Option Value)}{zrm zrn zro zrp zrq zrr:Value}
  {zrs zrt:Option Addr}{zru:Array (Option Value)}{zrv zrw zrx zry zrz zsa:Value}
  {zsb zsc:Option Addr}{zsd:Array (Option Value)}{zse zsf zsg zsh zsi zsj:Value}
  {zsk zsl:Option Addr}{zsm:Array (Option Value)}{zsn zso zsp zsq zsr zss:Value}
  {zst zsu:Option Addr}{zsv:Array (Option Value)}{zsw zsx zsy zsz zta ztb:Value}
  {ztc ztd:Option Addr}{zte:Array (Option Value)}{ztf ztg zth zti ztj ztk:Value}
  {ztl ztm:Option Addr}{ztn:Array (Option Value)}{zto ztp ztq ztr zts ztt:Value}
  {ztu ztv:Option Addr}{ztw:Array (Option Value)}{ztx zty ztz zua zub zuc:Value}
  {zud:Tok}
  (zue:PySem.W.nsIn K mainGlobals "_wall" =some (some (.ref zaa)))
  (zuf:PySem.W.nsIn K mainGlobals "added_up" =some (some (.ref zab)))
  (zug:PySem.W.nsIn K mainGlobals "rows_that_count" =some (some (.ref zac)))
  (zuh:PySem.W.nsIn K mainGlobals "leaving" =some (some (.ref zad)))
  (zui:PySem.W.nsIn K mainGlobals "coming" =some (some (.ref zae)))
  (zuj:PySem.W.nsIn K mainGlobals "there" =some (some (.ref zaf)))
  (zuk:PySem.W.nsIn K mainGlobals "most_through" =some (some (.ref zag)))
  (zul:PySem.W.nsIn K mainGlobals "door_faults" =some (some (.ref zah)))
  (zum:PySem.W.nsIn K mainGlobals "leave_faults" =some (some (.ref zai)))
  (zun:PySem.W.nsIn K mainGlobals "full_faults" =some (some (.ref zaj)))
  (zuo:PySem.W.nsIn K mainGlobals "faults" =some (some (.ref zak)))
  (zup:PySem.W.nsIn K mainGlobals "out_by" =some (some (.ref zal)))
  (zuq:PySem.W.nsIn K mainGlobals "spent" =some (some (.ref zam)))
  (zur:PySem.W.nsIn K mainGlobals "is_whole" =some (some (.ref zan)))
  (zus:PySem.W.nsIn K mainGlobals "is_name" =some (some (.ref zao)))
  (zut:PySem.W.nsIn K mainGlobals "need_name" =some (some (.ref zap)))
  (zuu:PySem.W.nsIn K mainGlobals "need_whole" =some (some (.ref zaq)))
  (zuv:PySem.W.nsIn K mainGlobals "need_turns" =some (some (.ref zar)))
  (zuw:PySem.W.nsIn K mainGlobals "need_each_once" =some (some (.ref zas)))
  (zux:PySem.W.nsIn K mainGlobals "rooms_spoken_of" =some (some (.ref zat)))
  (zuy:PySem.W.nsIn K mainGlobals "need_rooms" =some (some (.ref zau)))
  (zuz:PySem.W.nsIn K mainGlobals "added_people" =some (some (.ref zav)))
  (zva:PySem.W.nsIn K mainGlobals "need_space" =some (some (.ref zaw)))
  (zvb:PySem.W.nsIn K mainGlobals "_law_whole" =some (some (.ref zax)))
  (zvc:PySem.W.nsIn K mainGlobals "_law_cell_at" =some (some (.ref zay)))
  (zvd:PySem.W.nsIn K mainGlobals "_law_drawn" =some (some (.ref zaz)))
  (zve:PySem.W.nsIn K mainGlobals "_law_house" =some (some (.ref zba)))
  (zvf:PySem.W.nsIn K mainGlobals "_law_goes" =some (some (.ref zbb)))
  (zvg:PySem.W.nsIn K mainGlobals "_law_walked" =some (some (.ref zbc)))
  (zvh:PySem.W.nsIn K mainGlobals "_law_tells" =some (some (.ref zbd)))
  (zvi:PySem.W.nsIn K mainGlobals "law" =some (some (.ref zbe)))
  (zvj:PySem.W.nsIn K mainGlobals "Door" =some (some (.ref zbf)))
  (zvk:PySem.W.nsIn K mainGlobals "Marked" =some (some (.ref zbg)))
  (zvl:PySem.W.nsIn K mainGlobals "House" =some (some (.ref zbh)))
  (zvm:PySem.W.nsIn K mainGlobals "OutError" =some (some (.ref zbi)))
  (zvn:PySem.W.nsIn K mainGlobals "NoDoor" =some (some (.ref zbj)))
  (zvo:PySem.W.nsIn K mainGlobals "NoHouse" =some (some (.ref zbk)))
  (zvp:PySem.W.nsIn K mainGlobals "NoTurn" =some (some (.ref zbl)))
  (zvq:PySem.W.nsIn K mainGlobals "Twice" =some (some (.ref zbm)))
  (zvr:PySem.W.nsIn K mainGlobals "NoRoom" =some (some (.ref zbn)))
  (zvs:PySem.W.nsIn K mainGlobals "Unknown" =some (some (.ref zbo)))
  (zvt:PySem.W.findIn K (.ref zbf) "__init__" =some (some (.ref zbp)))
  (zvu:PySem.W.findIn K (.ref zbf) "lets" =some (some (.ref zbq)))
  (zvv:PySem.W.findIn K (.ref zbf) "is_exit" =some (some (.ref zbr)))
  (zvw:PySem.W.findIn K (.ref zbf) "words" =some (some (.ref zbs)))
  (zvx:PySem.W.findIn K (.ref zbg) "__init__" =some (some (.ref zbt)))
  (zvy:PySem.W.findIn K (.ref zbg) "lets" =some (some (.ref zbu)))
  (zvz:PySem.W.findIn K (.ref zbg) "words" =some (some (.ref zbv)))
  (zwa:PySem.W.findIn K (.ref zbh) "__init__" =some (some (.ref zbw)))
  (zwb:PySem.W.findIn K (.ref zbh) "rooms" =some (some (.ref zbx)))
  (zwc:PySem.W.findIn K (.ref zbh) "doors" =some (some (.ref zby)))
  (zwd:PySem.W.findIn K (.ref zbh) "need_room" =some (some (.ref zbz)))
  (zwe:PySem.W.findIn K (.ref zbh) "holds" =some (some (.ref zca)))
  (zwf:PySem.W.findIn K (.ref zbh) "found" =some (some (.ref zcb)))
  (zwg:PySem.W.findIn K (.ref zbh) "into" =some (some (.ref zcc)))
  (zwh:PySem.W.findIn K (.ref zbh) "from_room" =some (some (.ref zcd)))
  (zwi:PySem.W.findIn K (.ref zbh) "door" =some (some (.ref zce)))
  (zwj:PySem.W.findIn K (.ref zbh) "lets" =some (some (.ref zcf)))
  (zwk:PySem.W.findIn K (.ref zbh) "total" =some (some (.ref zcg)))
  (zwl:PySem.W.findIn K (.ref zbh) "pairs" =some (some (.ref zch)))
  (zwm:K.lookup zaa=some ⟨zcl,zci,.func (PySem.W.fnOf "_wall" "_wall" (aM oH) (aK oH) (aD oH) .none zcm zcn zco zcj zcp zcq),zck⟩)
  (zwn:PySem.W.codeIn K zcp "_wall" =true)
  (zwo:PySem.W.keepIn K (.ref zaa)=true)
  (zwp:K.lookup zab=some ⟨zcu,zcr,.func (PySem.W.fnOf "added_up" "added_up" (aM hG) (aK hG) (aD hG) .none zcv zcw zcx zcs zcy zcz),zct⟩)
  (zwq:PySem.W.codeIn K zcy "added_up" =true)
  (zwr:PySem.W.keepIn K (.ref zab)=true)
  (zws:K.lookup zac=some ⟨zdd,zda,.func (PySem.W.fnOf "rows_that_count" "rows_that_count" (aM cV) (aK cV) (aD cV) .none zde zdf zdg zdb zdh zdi),zdc⟩)
  (zwt:PySem.W.codeIn K zdh "rows_that_count" =true)
  (zwu:PySem.W.keepIn K (.ref zac)=true)
  (zwv:K.lookup zad=some ⟨zdm,zdj,.func (PySem.W.fnOf "leaving" "leaving" (aM iJ) (aK iJ) (aD iJ) .none zdn zdo zdp zdk zdq zdr),zdl⟩)
  (zww:PySem.W.codeIn K zdq "leaving" =true)
  (zwx:PySem.W.keepIn K (.ref zad)=true)
  (zwy:K.lookup zae=some ⟨zdv,zds,.func (PySem.W.fnOf "coming" "coming" (aM jV) (aK jV) (aD jV) .none zdw zdx zdy zdt zdz zea),zdu⟩)
  (zwz:PySem.W.codeIn K zdz "coming" =true)
  (zxa:PySem.W.keepIn K (.ref zae)=true)
  (zxb:K.lookup zaf=some ⟨zee,zeb,.func (PySem.W.fnOf "there" "there" (aM lQ) (aK lQ) (aD lQ) .none zef zeg zeh zec zei zej),zed⟩)
  (zxc:PySem.W.codeIn K zei "there" =true)
  (zxd:PySem.W.keepIn K (.ref zaf)=true)
  (zxe:K.lookup zag=some ⟨zen,zek,.func (PySem.W.fnOf "most_through" "most_through" (aM dP) (aK dP) (aD dP) .none zeo zep zeq zel zer zes),zem⟩)
  (zxf:PySem.W.codeIn K zer "most_through" =true)
  (zxg:PySem.W.keepIn K (.ref zag)=true)
  (zxh:K.lookup zah=some ⟨zew,zet,.func (PySem.W.fnOf "door_faults" "door_faults" (aM eQ) (aK eQ) (aD eQ) .none zex zey zez zeu zfa zfb),zev⟩)
  (zxi:PySem.W.codeIn K zfa "door_faults" =true)
  (zxj:PySem.W.keepIn K (.ref zah)=true)
  (zxk:K.lookup zai=some ⟨zff,zfc,.func (PySem.W.fnOf "leave_faults" "leave_faults" (aM dN) (aK dN) (aD dN) .none zfg zfh zfi zfd zfj zfk),zfe⟩)
  (zxl:PySem.W.codeIn K zfj "leave_faults" =true)
  (zxm:PySem.W.keepIn K (.ref zai)=true)
  (zxn:K.lookup zaj=some ⟨zfo,zfl,.func (PySem.W.fnOf "full_faults" "full_faults" (aM eM) (aK eM) (aD eM) .none zfp zfq zfr zfm zfs zft),zfn⟩)
  (zxo:PySem.W.codeIn K zfs "full_faults" =true)
  (zxp:PySem.W.keepIn K (.ref zaj)=true)
  (zxq:K.lookup zak=some ⟨zfx,zfu,.func (PySem.W.fnOf "faults" "faults" (aM j4) (aK j4) (aD j4) .none zfy zfz zga zfv zgb zgc),zfw⟩)
  (zxr:PySem.W.codeIn K zgb "faults" =true)
  (zxs:PySem.W.keepIn K (.ref zak)=true)
  (zxt:K.lookup zal=some ⟨zgg,zgd,.func (PySem.W.fnOf "out_by" "out_by" (aM jW) (aK jW) (aD jW) .none zgh zgi zgj zge zgk zgl),zgf⟩)
  (zxu:PySem.W.codeIn K zgk "out_by" =true)
  (zxv:PySem.W.keepIn K (.ref zal)=true)
  (zxw:K.lookup zam=some ⟨zgp,zgm,.func (PySem.W.fnOf "spent" "spent" (aM lT) (aK lT) (aD lT) .none zgq zgr zgs zgn zgt zgu),zgo⟩)
  (zxx:PySem.W.codeIn K zgt "spent" =true)
  (zxy:PySem.W.keepIn K (.ref zam)=true)
  (zxz:K.lookup zan=some ⟨zgy,zgv,.func (PySem.W.fnOf "is_whole" "is_whole" (aM g8) (aK g8) (aD g8) .none zgz zha zhb zgw zhc zhd),zgx⟩)
  (zya:PySem.W.codeIn K zhc "is_whole" =true)
  (zyb:PySem.W.keepIn K (.ref zan)=true)
  (zyc:K.lookup zao=some ⟨zhh,zhe,.func (PySem.W.fnOf "is_name" "is_name" (aM iQ) (aK iQ) (aD iQ) .none zhi zhj zhk zhf zhl zhm),zhg⟩)
  (zyd:PySem.W.codeIn K zhl "is_name" =true)
  (zye:PySem.W.keepIn K (.ref zao)=true)
  (zyf:K.lookup zap=some ⟨zhq,zhn,.func (PySem.W.fnOf "need_name" "need_name" (aM fY) (aK fY) (aD fY) .none zhr zhs zht zho zhu zhv),zhp⟩)
  (zyg:PySem.W.codeIn K zhu "need_name" =true)
  (zyh:PySem.W.keepIn K (.ref zap)=true)
  (zyi:K.lookup zaq=some ⟨zhz,zhw,.func (PySem.W.fnOf "need_whole" "need_whole" (aM fE) (aK fE) (aD fE) .none zia zib zic zhx zid zie),zhy⟩)
  (zyj:PySem.W.codeIn K zid "need_whole" =true)
  (zyk:PySem.W.keepIn K (.ref zaq)=true)
  (zyl:K.lookup zar=some ⟨zii,zif,.func (PySem.W.fnOf "need_turns" "need_turns" (aM fG) (aK fG) (aD fG) .none zij zik zil zig zim zin),zih⟩)
  (zym:PySem.W.codeIn K zim "need_turns" =true)
  (zyn:PySem.W.keepIn K (.ref zar)=true)
  (zyo:K.lookup zas=some ⟨zis,zio,.func (PySem.W.fnOf "need_each_once" "need_each_once" (aM c4) (aK c4) (aD c4) .none zit ziu ziv ziq ziw zix),zir⟩)
  (zyp:PySem.W.codeIn K ziw "need_each_once" =true)
  (zyq:PySem.W.keepIn K (.ref zas)=true)
  (zyr:K.lookup zat=some ⟨zjb,ziy,.func (PySem.W.fnOf "rooms_spoken_of" "rooms_spoken_of" (aM cW) (aK cW) (aD cW) .none zjc zjd zje ziz zjf zjg),zja⟩)
  (zys:PySem.W.codeIn K zjf "rooms_spoken_of" =true)
  (zyt:PySem.W.keepIn K (.ref zat)=true)
  (zyu:K.lookup zau=some ⟨zjk,zjh,.func (PySem.W.fnOf "need_rooms" "need_rooms" (aM fJ) (aK fJ) (aD fJ) .none zjl zjm zjn zji zjo zjp),zjj⟩)
  (zyv:PySem.W.codeIn K zjo "need_rooms" =true)
  (zyw:PySem.W.keepIn K (.ref zau)=true)
  (zyx:K.lookup zav=some ⟨zjt,zjq,.func (PySem.W.fnOf "added_people" "added_people" (aM dM) (aK dM) (aD dM) .none zju zjv zjw zjr zjx zjy),zjs⟩)
  (zyy:PySem.W.codeIn K zjx "added_people" =true)
  (zyz:PySem.W.keepIn K (.ref zav)=true)
  (zza:K.lookup zaw=some ⟨zkc,zjz,.func (PySem.W.fnOf "need_space" "need_space" (aM fO) (aK fO) (aD fO) .none zkd zke zkf zka zkg zkh),zkb⟩)
  (zzb:PySem.W.codeIn K zkg "need_space" =true)
  (zzc:PySem.W.keepIn K (.ref zaw)=true)
  (zzd:K.lookup zax=some ⟨zkl,zki,.func (PySem.W.fnOf "_law_whole" "_law_whole" (aM fM) (aK fM) (aD fM) .none zkm zkn zko zkj zkp zkq),zkk⟩)
  (zze:PySem.W.codeIn K zkp "_law_whole" =true)
  (zzf:PySem.W.keepIn K (.ref zax)=true)
  (zzg:K.lookup zay=some ⟨zku,zkr,.func (PySem.W.fnOf "_law_cell_at" "_law_cell_at" (aM dS) (aK dS) (aD dS) .none zkv zkw zkx zks zky zkz),zkt⟩)
  (zzh:PySem.W.codeIn K zky "_law_cell_at" =true)
  (zzi:PySem.W.keepIn K (.ref zay)=true)
  (zzj:K.lookup zaz=some ⟨zld,zla,.func (PySem.W.fnOf "_law_drawn" "_law_drawn" (aM fL) (aK fL) (aD fL) .none zle zlf zlg zlb zlh zli),zlc⟩)
  (zzk:PySem.W.codeIn K zlh "_law_drawn" =true)
  (zzl:PySem.W.keepIn K (.ref zaz)=true)
  (zzm:K.lookup zba=some ⟨zlm,zlj,.func (PySem.W.fnOf "_law_house" "_law_house" (aM fI) (aK fI) (aD fI) .none zln zlo zlp zlk zlq zlr),zll⟩)
  (zzn:PySem.W.codeIn K zlq "_law_house" =true)
  (zzo:PySem.W.keepIn K (.ref zba)=true)
  (zzp:K.lookup zbb=some ⟨zlv,zls,.func (PySem.W.fnOf "_law_goes" "_law_goes" (aM gB) (aK gB) (aD gB) .none zlw zlx zly zlt zlz zma),zlu⟩)
  (zzq:PySem.W.codeIn K zlz "_law_goes" =true)
  (zzr:PySem.W.keepIn K (.ref zbb)=true)
  (zzs:K.lookup zbc=some ⟨zme,zmb,.func (PySem.W.fnOf "_law_walked" "_law_walked" (aM eA) (aK eA) (aD eA) .none zmf zmg zmh zmc zmi zmj),zmd⟩)
  (zzt:PySem.W.codeIn K zmi "_law_walked" =true)
  (zzu:PySem.W.keepIn K (.ref zbc)=true)
  (zzv:K.lookup zbd=some ⟨zmn,zmk,.func (PySem.W.fnOf "_law_tells" "_law_tells" (aM fK) (aK fK) (aD fK) .none zmo zmp zmq zml zmr zms),zmm⟩)
  (zzw:PySem.W.codeIn K zmr "_law_tells" =true)
  (zzx:PySem.W.keepIn K (.ref zbd)=true)
  (zzy:K.lookup zbe=some ⟨zmw,zmt,.func (PySem.W.fnOf "law" "law" (aM mL) (aK mL) (aD mL) .none zmx zmy zmz zmu zna znb),zmv⟩)
  (zzz:PySem.W.codeIn K zna "law" =true)
  (zbaa:PySem.W.keepIn K (.ref zbe)=true)
  (zbab:K.lookup zbp=some ⟨znf,znc,.func (PySem.W.fnOf "__init__" "Door.__init__" (aM cN) (aK cN) (aD cN) (.ref znl) zng znh zni znd znj znk),zne⟩)
  (zbac:PySem.W.codeIn K znj "Door.__init__" =true)
  (zbad:PySem.W.keepIn K (.ref zbp)=true)
  (zbae:K.lookup znl=some ⟨znn,zno,.seq #[.none,.int 1 znm] znp,znq⟩)
  (zbaf:K.lookup zbq=some ⟨znu,znr,.func (PySem.W.fnOf "lets" "Door.lets" (aM gA) (aK gA) (aD gA) .none znv znw znx zns zny znz),znt⟩)
  (zbag:PySem.W.codeIn K zny "Door.lets" =true)
  (zbah:PySem.W.keepIn K (.ref zbq)=true)
  (zbai:K.lookup zbr=some ⟨zod,zoa,.func (PySem.W.fnOf "is_exit" "Door.is_exit" (aM dQ) (aK dQ) (aD dQ) .none zoe zof zog zob zoh zoi),zoc⟩)
  (zbaj:PySem.W.codeIn K zoh "Door.is_exit" =true)
  (zbak:PySem.W.keepIn K (.ref zbr)=true)
  (zbal:K.lookup zbs=some ⟨zom,zoj,.func (PySem.W.fnOf "words" "Door.words" (aM gQ) (aK gQ) (aD gQ) .none zon zoo zop zok zoq zor),zol⟩)
  (zbam:PySem.W.codeIn K zoq "Door.words" =true)
  (zban:PySem.W.keepIn K (.ref zbs)=true)
  (zbao:K.lookup zbt=some ⟨zov,zos,.func (PySem.W.fnOf "__init__" "Marked.__init__" (aM cX) (aK cX) (aD cX) .none zow zox zoy zot zoz zpa),zou⟩)
  (zbap:PySem.W.codeIn K zoz "Marked.__init__" =true)
  (zbaq:PySem.W.keepIn K (.ref zbt)=true)
  (zbar:K.lookup zbu=some ⟨zpe,zpb,.func (PySem.W.fnOf "lets" "Marked.lets" (aM eG) (aK eG) (aD eG) .none zpf zpg zph zpc zpi zpj),zpd⟩)
  (zbas:PySem.W.codeIn K zpi "Marked.lets" =true)
  (zbat:PySem.W.keepIn K (.ref zbu)=true)
  (zbau:K.lookup zbv=some ⟨zpn,zpk,.func (PySem.W.fnOf "words" "Marked.words" (aM fC) (aK fC) (aD fC) .none zpo zpp zpq zpl zpr zps),zpm⟩)
  (zbav:PySem.W.codeIn K zpr "Marked.words" =true)
  (zbaw:PySem.W.keepIn K (.ref zbv)=true)
  (zbax:K.lookup zbw=some ⟨zpw,zpt,.func (PySem.W.fnOf "__init__" "House.__init__" (aM cQ) (aK cQ) (aD cQ) (.ref zqc) zpx zpy zpz zpu zqa zqb),zpv⟩)
  (zbay:PySem.W.codeIn K zqa "House.__init__" =true)
  (zbaz:PySem.W.keepIn K (.ref zbw)=true)
  (zbba:K.lookup zqc=some ⟨zqe,zqf,.seq #[.int 0 zqd] zqg,zqh⟩)
  (zbbb:K.lookup zbx=some ⟨zql,zqi,.func (PySem.W.fnOf "rooms" "House.rooms" (aM d8) (aK d8) (aD d8) .none zqm zqn zqo zqj zqp zqq),zqk⟩)
  (zbbc:PySem.W.codeIn K zqp "House.rooms" =true)
  (zbbd:PySem.W.keepIn K (.ref zbx)=true)
  (zbbe:K.lookup zby=some ⟨zqu,zqr,.func (PySem.W.fnOf "doors" "House.doors" (aM d9) (aK d9) (aD d9) .none zqv zqw zqx zqs zqy zqz),zqt⟩)
  (zbbf:PySem.W.codeIn K zqy "House.doors" =true)
  (zbbg:PySem.W.keepIn K (.ref zby)=true)
  (zbbh:K.lookup zbz=some ⟨zrd,zra,.func (PySem.W.fnOf "need_room" "House.need_room" (aM cU) (aK cU) (aD cU) .none zre zrf zrg zrb zrh zri),zrc⟩)
  (zbbi:PySem.W.codeIn K zrh "House.need_room" =true)
  (zbbj:PySem.W.keepIn K (.ref zbz)=true)
  (zbbk:K.lookup zca=some ⟨zrm,zrj,.func (PySem.W.fnOf "holds" "House.holds" (aM eP) (aK eP) (aD eP) .none zrn zro zrp zrk zrq zrr),zrl⟩)
  (zbbl:PySem.W.codeIn K zrq "House.holds" =true)
  (zbbm:PySem.W.keepIn K (.ref zca)=true)
  (zbbn:K.lookup zcb=some ⟨zrv,zrs,.func (PySem.W.fnOf "found" "House.found" (aM eI) (aK eI) (aD eI) .none zrw zrx zry zrt zrz zsa),zru⟩)
  (zbbo:PySem.W.codeIn K zrz "House.found" =true)
  (zbbp:PySem.W.keepIn K (.ref zcb)=true)
  (zbbq:K.lookup zcc=some ⟨zse,zsb,.func (PySem.W.fnOf "into" "House.into" (aM gG) (aK gG) (aD gG) .none zsf zsg zsh zsc zsi zsj),zsd⟩)
  (zbbr:PySem.W.codeIn K zsi "House.into" =true)
  (zbbs:PySem.W.keepIn K (.ref zcc)=true)
  (zbbt:K.lookup zcd=some ⟨zsn,zsk,.func (PySem.W.fnOf "from_room" "House.from_room" (aM dH) (aK dH) (aD dH) .none zso zsp zsq zsl zsr zss),zsm⟩)
  (zbbu:PySem.W.codeIn K zsr "House.from_room" =true)
  (zbbv:PySem.W.keepIn K (.ref zcd)=true)
  (zbbw:K.lookup zce=some ⟨zsw,zst,.func (PySem.W.fnOf "door" "House.door" (aM fF) (aK fF) (aD fF) .none zsx zsy zsz zsu zta ztb),zsv⟩)
  (zbbx:PySem.W.codeIn K zta "House.door" =true)
  (zbby:PySem.W.keepIn K (.ref zce)=true)
  (zbbz:K.lookup zcf=some ⟨ztf,ztc,.func (PySem.W.fnOf "lets" "House.lets" (aM fN) (aK fN) (aD fN) .none ztg zth zti ztd ztj ztk),zte⟩)
  (zbca:PySem.W.codeIn K ztj "House.lets" =true)
  (zbcb:PySem.W.keepIn K (.ref zcf)=true)
  (zbcc:K.lookup zcg=some ⟨zto,ztl,.func (PySem.W.fnOf "total" "House.total" (aM eB) (aK eB) (aD eB) .none ztp ztq ztr ztm zts ztt),ztn⟩)
  (zbcd:PySem.W.codeIn K zts "House.total" =true)
  (zbce:PySem.W.keepIn K (.ref zcg)=true)
  (zbcf:K.lookup zch=some ⟨ztx,ztu,.func (PySem.W.fnOf "pairs" "House.pairs" (aM eJ) (aK eJ) (aD eJ) .none zty ztz zua ztv zub zuc),ztw⟩)
  (zbcg:PySem.W.codeIn K zub "House.pairs" =true)
  (zbch:PySem.W.keepIn K (.ref zch)=true)
  (zbci:PySem.W.plainGet K zbf Str.empty=true)
  (zbcj:PySem.W.hasDictIn K zbf=true)
  (zbck:PySem.W.plainOver K zbf=true)
  (zbcl:PySem.W.findIn K (.ref zbf) "__setattr__" =some (some (.builtin "object.__setattr__")))
  (zbcm:PySem.W.makesIn K zbf=true)
  (zbcn:PySem.W.keepIn K (.ref zbf)=true)
  (zbco:PySem.W.findIn K (.ref zbf) "__class__" =some (some (.builtin "object.__class__")))
  (zbcp:PySem.W.mroIn K zbf (.type "object")=some true)
  (zbcq:PySem.W.findIn K (.ref zbf) "name" =some none)
  (zbcr:PySem.W.findIn K (.ref zbf) "start" =some none)
  (zbcs:PySem.W.findIn K (.ref zbf) "end" =some none)
  (zbct:PySem.W.findIn K (.ref zbf) "wide" =some none)
  (zbcu:PySem.W.findIn K (.ref zbf) "bits" =some none)
  (zbcv:PySem.W.findIn K (.ref zbf) "first" =some none)
  (zbcw:PySem.W.findIn K (.ref zbf) "last" =some none)
  (zbcx:PySem.W.findIn K (.ref zbf) "sizes" =some none)
  (zbcy:PySem.W.findIn K (.ref zbf) "people" =some none)
  (zbcz:PySem.W.findIn K (.ref zbf) "named_doors" =some none)
  (zbda:PySem.W.findIn K (.ref zbf) "__init__" =some (some (.ref zbp)))
  (zbdb:PySem.W.isFn K (.ref zbp)=true)
  (zbdc:PySem.W.findIn K (.ref zbf) "lets" =some (some (.ref zbq)))
  (zbdd:PySem.W.isFn K (.ref zbq)=true)
  (zbde:PySem.W.findIn K (.ref zbf) "is_exit" =some (some (.ref zbr)))
  (zbdf:PySem.W.isFn K (.ref zbr)=true)
  (zbdg:PySem.W.findIn K (.ref zbf) "words" =some (some (.ref zbs)))
  (zbdh:PySem.W.isFn K (.ref zbs)=true)
  (zbdi:PySem.W.plainGet K zbg Str.empty=true)
  (zbdj:PySem.W.hasDictIn K zbg=true)
  (zbdk:PySem.W.plainOver K zbg=true)
  (zbdl:PySem.W.findIn K (.ref zbg) "__setattr__" =some (some (.builtin "object.__setattr__")))
  (zbdm:PySem.W.makesIn K zbg=true)
  (zbdn:PySem.W.keepIn K (.ref zbg)=true)
  (zbdo:PySem.W.findIn K (.ref zbg) "__class__" =some (some (.builtin "object.__class__")))
  (zbdp:PySem.W.mroIn K zbg (.type "object")=some true)
  (zbdq:PySem.W.findIn K (.ref zbg) "name" =some none)
  (zbdr:PySem.W.findIn K (.ref zbg) "start" =some none)
  (zbds:PySem.W.findIn K (.ref zbg) "end" =some none)
  (zbdt:PySem.W.findIn K (.ref zbg) "wide" =some none)
  (zbdu:PySem.W.findIn K (.ref zbg) "bits" =some none)
  (zbdv:PySem.W.findIn K (.ref zbg) "first" =some none)
  (zbdw:PySem.W.findIn K (.ref zbg) "last" =some none)
  (zbdx:PySem.W.findIn K (.ref zbg) "sizes" =some none)
  (zbdy:PySem.W.findIn K (.ref zbg) "people" =some none)
  (zbdz:PySem.W.findIn K (.ref zbg) "named_doors" =some none)
  (zbea:PySem.W.findIn K (.ref zbg) "__init__" =some (some (.ref zbt)))
  (zbeb:PySem.W.isFn K (.ref zbt)=true)
  (zbec:PySem.W.findIn K (.ref zbg) "lets" =some (some (.ref zbu)))
  (zbed:PySem.W.isFn K (.ref zbu)=true)
  (zbee:PySem.W.findIn K (.ref zbg) "words" =some (some (.ref zbv)))
  (zbef:PySem.W.isFn K (.ref zbv)=true)
  (zbeg:PySem.W.findIn K (.ref zbg) "is_exit" =some (some (.ref zbr)))
  (zbeh:PySem.W.isFn K (.ref zbr)=true)
  (zbei:PySem.W.plainGet K zbh Str.empty=true)
  (zbej:PySem.W.hasDictIn K zbh=true)
  (zbek:PySem.W.plainOver K zbh=true)
  (zbel:PySem.W.findIn K (.ref zbh) "__setattr__" =some (some (.builtin "object.__setattr__")))
  (zbem:PySem.W.makesIn K zbh=true)
  (zben:PySem.W.keepIn K (.ref zbh)=true)
  (zbeo:PySem.W.findIn K (.ref zbh) "__class__" =some (some (.builtin "object.__class__")))
  (zbep:PySem.W.mroIn K zbh (.type "object")=some true)
  (zbeq:PySem.W.findIn K (.ref zbh) "name" =some none)
  (zber:PySem.W.findIn K (.ref zbh) "start" =some none)
  (zbes:PySem.W.findIn K (.ref zbh) "end" =some none)
  (zbet:PySem.W.findIn K (.ref zbh) "wide" =some none)
  (zbeu:PySem.W.findIn K (.ref zbh) "bits" =some none)
  (zbev:PySem.W.findIn K (.ref zbh) "first" =some none)
  (zbew:PySem.W.findIn K (.ref zbh) "last" =some none)
  (zbex:PySem.W.findIn K (.ref zbh) "sizes" =some none)
  (zbey:PySem.W.findIn K (.ref zbh) "people" =some none)
  (zbez:PySem.W.findIn K (.ref zbh) "named_doors" =some none)
  (zbfa:PySem.W.findIn K (.ref zbh) "__init__" =some (some (.ref zbw)))
  (zbfb:PySem.W.isFn K (.ref zbw)=true)
  (zbfc:PySem.W.findIn K (.ref zbh) "rooms" =some (some (.ref zbx)))
  (zbfd:PySem.W.isFn K (.ref zbx)=true)
  (zbfe:PySem.W.findIn K (.ref zbh) "doors" =some (some (.ref zby)))
  (zbff:PySem.W.isFn K (.ref zby)=true)
  (zbfg:PySem.W.findIn K (.ref zbh) "need_room" =some (some (.ref zbz)))
  (zbfh:PySem.W.isFn K (.ref zbz)=true)
  (zbfi:PySem.W.findIn K (.ref zbh) "holds" =some (some (.ref zca)))
  (zbfj:PySem.W.isFn K (.ref zca)=true)
  (zbfk:PySem.W.findIn K (.ref zbh) "found" =some (some (.ref zcb)))
  (zbfl:PySem.W.isFn K (.ref zcb)=true)
  (zbfm:PySem.W.findIn K (.ref zbh) "into" =some (some (.ref zcc)))
  (zbfn:PySem.W.isFn K (.ref zcc)=true)
  (zbfo:PySem.W.findIn K (.ref zbh) "from_room" =some (some (.ref zcd)))
  (zbfp:PySem.W.isFn K (.ref zcd)=true)
  (zbfq:PySem.W.findIn K (.ref zbh) "door" =some (some (.ref zce)))
  (zbfr:PySem.W.isFn K (.ref zce)=true)
  (zbfs:PySem.W.findIn K (.ref zbh) "lets" =some (some (.ref zcf)))
  (zbft:PySem.W.isFn K (.ref zcf)=true)
  (zbfu:PySem.W.findIn K (.ref zbh) "total" =some (some (.ref zcg)))
  (zbfv:PySem.W.isFn K (.ref zcg)=true)
  (zbfw:PySem.W.findIn K (.ref zbh) "pairs" =some (some (.ref zch)))
  (zbfx:PySem.W.isFn K (.ref zch)=true)
  (zbfy:PySem.W.specialIn K (.builtin "object.__class__") "__get__" =some (some (.builtin "getset_descriptor.__get__")))
  (zbfz:PySem.W.takesIn K (.builtin "object.__class__")=some true)
  (zbga:PySem.W.specialIn K (.ref zbf) "__getattribute__" =some (some (.builtin "type.__getattribute__")))
  (zbgb:PySem.W.readsIn K zbf (.type "type")=true)
  (zbgc:PySem.W.findCls K (.ref zbf) (.type "type") "__init__" =some (.val (.ref zbp)))
  (zbgd:PySem.W.nsIn K mainGlobals "ValueError" =some none)
  (zbge:PySem.W.nsIn K mainGlobals "sorted" =some none)
  (zbgf:PySem.W.nsIn K mainGlobals "sum" =some none)
  (zbgg:PySem.W.nsIn K mainGlobals "any" =some none)
  (zbgh:PySem.W.nsIn K mainGlobals "range" =some none)
  (zbgi:PySem.W.nsIn K mainGlobals "isinstance" =some none)
  (zbgj:PySem.W.nsIn K mainGlobals "int" =some none)
  (zbgk:PySem.W.nsIn K mainGlobals "str" =some none)
  (zbgl:PySem.W.nsIn K mainGlobals "all" =some none)
  (zbgm:PySem.W.nsIn K mainGlobals "dict" =some none)
  (zbgn:PySem.W.nsIn K mainGlobals "list" =some none)
  (zbgo:PySem.W.nsIn K mainGlobals "len" =some none)
  (zbgp:PySem.W.nsIn K mainGlobals "max" =some none)
  (zbgq:PySem.W.nsIn K mainGlobals "min" =some none)
  (zbgr:PySem.W.nsIn K mainGlobals "bool" =some none)
  (zbgs:PySem.W.nsIn K mainGlobals "LONGEST_NAME" =some (some (.int 8 zud))) :
  ∃fd:FuncData,(∀(s:Shared) (v:Value),BindsTo s fd ⟨[v],[]⟩ [("_law_script",v)])/\∀base:Heap,K.In base->base.Ns mainGlobals mg->bK l.prog w K mg base CX0 20 fa fd ["_law_script"] (uU K):=by
 have e:=hfa.symm.trans (PySem.W.mg_of X G zvi);cases e;have zbgt:=aT (st:=oH) zwm zwn zwo;have zbgu:=aW (K:=K) (x:= "_wall") (qual:= "_wall") (st:=oH) (kV:=zcm) (doc:=zcn) (pm:=zco) (an:=zcj) (cdv:=zcp) (ct:=zcq) (ps:=["k"])<|aN 1 _ fun _=>rfl
 have zbgv:=aT (st:=hG) zwp zwq zwr;have zbgw:=aW (K:=K) (x:= "added_up") (qual:= "added_up") (st:=hG) (kV:=zcv) (doc:=zcw) (pm:=zcx) (an:=zcs) (cdv:=zcy) (ct:=zcz) (ps:=["plan"])<|aN 1 _ fun _=>rfl
 have zbgx:=aT (st:=cV) zws zwt zwu;have zbgy:=aW (K:=K) (x:= "rows_that_count") (qual:= "rows_that_count") (st:=cV) (kV:=zde) (doc:=zdf) (pm:=zdg) (an:=zdb) (cdv:=zdh) (ct:=zdi) (ps:=["house","plan"])<|aN 2 _ fun _ _=>rfl
 have zbgz:=aT (st:=iJ) zwv zww zwx;have zbha:=aW (K:=K) (x:= "leaving") (qual:= "leaving") (st:=iJ) (kV:=zdn) (doc:=zdo) (pm:=zdp) (an:=zdk) (cdv:=zdq) (ct:=zdr) (ps:=["house","plan"])<|aN 2 _ fun _ _=>rfl
 have zbhb:=aT (st:=jV) zwy zwz zxa;have zbhc:=aW (K:=K) (x:= "coming") (qual:= "coming") (st:=jV) (kV:=zdw) (doc:=zdx) (pm:=zdy) (an:=zdt) (cdv:=zdz) (ct:=zea) (ps:=["house","plan"])<|aN 2 _ fun _ _=>rfl
 have zbhd:=aT (st:=lQ) zxb zxc zxd;have zbhe:=aW (K:=K) (x:= "there") (qual:= "there") (st:=lQ) (kV:=zef) (doc:=zeg) (pm:=zeh) (an:=zec) (cdv:=zei) (ct:=zej) (ps:=["house","plan"])<|aN 2 _ fun _ _=>rfl
 have zbhf:=aT (st:=dP) zxe zxf zxg;have zbhg:=aW (K:=K) (x:= "most_through") (qual:= "most_through") (st:=dP) (kV:=zeo) (doc:=zep) (pm:=zeq) (an:=zel) (cdv:=zer) (ct:=zes) (ps:=["house","turn","name"])<|aN 3 _ fun _ _ _=>rfl
 have zbhh:=aT (st:=eQ) zxh zxi zxj;have zbhi:=aW (K:=K) (x:= "door_faults") (qual:= "door_faults") (st:=eQ) (kV:=zex) (doc:=zey) (pm:=zez) (an:=zeu) (cdv:=zfa) (ct:=zfb) (ps:=["house","plan"])<|aN 2 _ fun _ _=>rfl
 have zbhj:=aT (st:=dN) zxk zxl zxm;have zbhk:=aW (K:=K) (x:= "leave_faults") (qual:= "leave_faults") (st:=dN) (kV:=zfg) (doc:=zfh) (pm:=zfi) (an:=zfd) (cdv:=zfj) (ct:=zfk) (ps:=["house","plan","inside"])<|aN 3 _ fun _ _ _=>rfl
 have zbhl:=aT (st:=eM) zxn zxo zxp;have zbhm:=aW (K:=K) (x:= "full_faults") (qual:= "full_faults") (st:=eM) (kV:=zfp) (doc:=zfq) (pm:=zfr) (an:=zfm) (cdv:=zfs) (ct:=zft) (ps:=["house","inside"])<|aN 2 _ fun _ _=>rfl
 have zbhn:=aT (st:=j4) zxq zxr zxs;have zbho:=aW (K:=K) (x:= "faults") (qual:= "faults") (st:=j4) (kV:=zfy) (doc:=zfz) (pm:=zga) (an:=zfv) (cdv:=zgb) (ct:=zgc) (ps:=["house","plan"])<|aN 2 _ fun _ _=>rfl
 have zbhp:=aT (st:=jW) zxt zxu zxv;have zbhq:=aW (K:=K) (x:= "out_by") (qual:= "out_by") (st:=jW) (kV:=zgh) (doc:=zgi) (pm:=zgj) (an:=zge) (cdv:=zgk) (ct:=zgl) (ps:=["house","plan","turn"])<|aN 3 _ fun _ _ _=>rfl
 have zbhr:=aT (st:=lT) zxw zxx zxy;have zbhs:=aW (K:=K) (x:= "spent") (qual:= "spent") (st:=lT) (kV:=zgq) (doc:=zgr) (pm:=zgs) (an:=zgn) (cdv:=zgt) (ct:=zgu) (ps:=["house","plan"])<|aN 2 _ fun _ _=>rfl
 have zbht:=aT (st:=g8) zxz zya zyb;have zbhu:=aW (K:=K) (x:= "is_whole") (qual:= "is_whole") (st:=g8) (kV:=zgz) (doc:=zha) (pm:=zhb) (an:=zgw) (cdv:=zhc) (ct:=zhd) (ps:=["thing"])<|aN 1 _ fun _=>rfl
 have zbhv:=aT (st:=iQ) zyc zyd zye;have zbhw:=aW (K:=K) (x:= "is_name") (qual:= "is_name") (st:=iQ) (kV:=zhi) (doc:=zhj) (pm:=zhk) (an:=zhf) (cdv:=zhl) (ct:=zhm) (ps:=["thing"])<|aN 1 _ fun _=>rfl
 have zbhx:=aT (st:=fY) zyf zyg zyh;have zbhy:=aW (K:=K) (x:= "need_name") (qual:= "need_name") (st:=fY) (kV:=zhr) (doc:=zhs) (pm:=zht) (an:=zho) (cdv:=zhu) (ct:=zhv) (ps:=["part","thing"])<|aN 2 _ fun _ _=>rfl
 have zbhz:=aT (st:=fE) zyi zyj zyk;have zbia:=aW (K:=K) (x:= "need_whole") (qual:= "need_whole") (st:=fE) (kV:=zia) (doc:=zib) (pm:=zic) (an:=zhx) (cdv:=zid) (ct:=zie) (ps:=["part","thing","least"])<|aN 3 _ fun _ _ _=>rfl
 have zbib:=aT (st:=fG) zyl zym zyn;have zbic:=aW (K:=K) (x:= "need_turns") (qual:= "need_turns") (st:=fG) (kV:=zij) (doc:=zik) (pm:=zil) (an:=zig) (cdv:=zim) (ct:=zin) (ps:=["first","last"])<|aN 2 _ fun _ _=>rfl
 have zbid:=aT (st:=c4) zyo zyp zyq;have zbie:=aW (K:=K) (x:= "need_each_once") (qual:= "need_each_once") (st:=c4) (kV:=zit) (doc:=ziu) (pm:=ziv) (an:=ziq) (cdv:=ziw) (ct:=zix) (ps:=["names"])<|aN 1 _ fun _=>rfl
 have zbif:=aT (st:=cW) zyr zys zyt;have zbig:=aW (K:=K) (x:= "rooms_spoken_of") (qual:= "rooms_spoken_of") (st:=cW) (kV:=zjc) (doc:=zjd) (pm:=zje) (an:=ziz) (cdv:=zjf) (ct:=zjg) (ps:=["doors","people"])<|aN 2 _ fun _ _=>rfl
 have zbih:=aT (st:=fJ) zyu zyv zyw;have zbii:=aW (K:=K) (x:= "need_rooms") (qual:= "need_rooms") (st:=fJ) (kV:=zjl) (doc:=zjm) (pm:=zjn) (an:=zji) (cdv:=zjo) (ct:=zjp) (ps:=["names","sizes"])<|aN 2 _ fun _ _=>rfl
 have zbij:=aT (st:=dM) zyx zyy zyz;have zbik:=aW (K:=K) (x:= "added_people") (qual:= "added_people") (st:=dM) (kV:=zju) (doc:=zjv) (pm:=zjw) (an:=zjr) (cdv:=zjx) (ct:=zjy) (ps:=["sizes","people"])<|aN 2 _ fun _ _=>rfl
 have zbil:=aT (st:=fO) zza zzb zzc;have zbim:=aW (K:=K) (x:= "need_space") (qual:= "need_space") (st:=fO) (kV:=zkd) (doc:=zke) (pm:=zkf) (an:=zka) (cdv:=zkg) (ct:=zkh) (ps:=["sizes","people"])<|aN 2 _ fun _ _=>rfl
 have zbin:=aT (st:=fM) zzd zze zzf;have zbio:=aW (K:=K) (x:= "_law_whole") (qual:= "_law_whole") (st:=fM) (kV:=zkm) (doc:=zkn) (pm:=zko) (an:=zkj) (cdv:=zkp) (ct:=zkq) (ps:=["_law_found"])<|aN 1 _ fun _=>rfl
 have zbip:=aT (st:=dS) zzg zzh zzi;have zbiq:=aW (K:=K) (x:= "_law_cell_at") (qual:= "_law_cell_at") (st:=dS) (kV:=zkv) (doc:=zkw) (pm:=zkx) (an:=zks) (cdv:=zky) (ct:=zkz) (ps:=["_law_script","_law_k"])<|aN 2 _ fun _ _=>rfl
 have zbir:=aT (st:=fL) zzj zzk zzl;have zbis:=aW (K:=K) (x:= "_law_drawn") (qual:= "_law_drawn") (st:=fL) (kV:=zle) (doc:=zlf) (pm:=zlg) (an:=zlb) (cdv:=zlh) (ct:=zli) (ps:=["_law_cell","_law_k"])<|aN 2 _ fun _ _=>rfl
 have zbit:=aT (st:=fI) zzm zzn zzo;have zbiu:=aW (K:=K) (x:= "_law_house") (qual:= "_law_house") (st:=fI) (kV:=zln) (doc:=zlo) (pm:=zlp) (an:=zlk) (cdv:=zlq) (ct:=zlr) (ps:=["_law_script"])<|aN 1 _ fun _=>rfl
 have zbiv:=aT (st:=gB) zzp zzq zzr;have zbiw:=aW (K:=K) (x:= "_law_goes") (qual:= "_law_goes") (st:=gB) (kV:=zlw) (doc:=zlx) (pm:=zly) (an:=zlt) (cdv:=zlz) (ct:=zma) (ps:=["_law_house_here","_law_room","_law_turn","_law_went","_law_held","_law_draw"])<|aN 6 _ fun _ _ _ _ _ _=>rfl
 have zbix:=aT (st:=eA) zzs zzt zzu;have zbiy:=aW (K:=K) (x:= "_law_walked") (qual:= "_law_walked") (st:=eA) (kV:=zmf) (doc:=zmg) (pm:=zmh) (an:=zmc) (cdv:=zmi) (ct:=zmj) (ps:=["_law_house_here","_law_script"])<|aN 2 _ fun _ _=>rfl
 have zbiz:=aT (st:=fK) zzv zzw zzx;have zbja:=aW (K:=K) (x:= "_law_tells") (qual:= "_law_tells") (st:=fK) (kV:=zmo) (doc:=zmp) (pm:=zmq) (an:=zml) (cdv:=zmr) (ct:=zms) (ps:=["_law_house_here","_law_plan","_law_stood"])<|aN 3 _ fun _ _ _=>rfl
 have zbjb:=aT (st:=mL) zzy zzz zbaa;have zbjc:=aW (K:=K) (x:= "law") (qual:= "law") (st:=mL) (kV:=zmx) (doc:=zmy) (pm:=zmz) (an:=zmu) (cdv:=zna) (ct:=znb) (ps:=["_law_script"])<|aN 1 _ fun _=>rfl
 have zbjd:=aT (st:=cN) zbab zbac zbad;have zbje:=rJ 5 (K:=K) (x:= "__init__") (qual:= "Door.__init__") (st:=cN) (kV:=zng) (doc:=znh) (pm:=zni) (an:=znd) (cdv:=znj) (ct:=znk) (ps:=["self","name","start","end","wide"]) (ds:=[]) zbae<|aN 5 _ fun _ _ _ _ _=>⟨_,rfl,rfl⟩
 have zbjf:=rJ 4 (K:=K) (x:= "__init__") (qual:= "Door.__init__") (st:=cN) (kV:=zng) (doc:=znh) (pm:=zni) (an:=znd) (cdv:=znj) (ct:=znk) (ps:=["self","name","start","end","wide"]) (ds:=[.int 1 znm]) zbae<|aN 4 _ fun _ _ _ _=>⟨_,rfl,rfl⟩
 have zbjg:=rJ 3 (K:=K) (x:= "__init__") (qual:= "Door.__init__") (st:=cN) (kV:=zng) (doc:=znh) (pm:=zni) (an:=znd) (cdv:=znj) (ct:=znk) (ps:=["self","name","start","end","wide"]) (ds:=[.none,.int 1 znm]) zbae<|aN 3 _ fun _ _ _=>⟨_,rfl,rfl⟩
 have zbjh:=aT (st:=gA) zbaf zbag zbah;have zbji:=aW (K:=K) (x:= "lets") (qual:= "Door.lets") (st:=gA) (kV:=znv) (doc:=znw) (pm:=znx) (an:=zns) (cdv:=zny) (ct:=znz) (ps:=["self","turn"])<|aN 2 _ fun _ _=>rfl
 have zbjj:=aT (st:=dQ) zbai zbaj zbak;have zbjk:=aW (K:=K) (x:= "is_exit") (qual:= "Door.is_exit") (st:=dQ) (kV:=zoe) (doc:=zof) (pm:=zog) (an:=zob) (cdv:=zoh) (ct:=zoi) (ps:=["self"])<|aN 1 _ fun _=>rfl
 have zbjl:=aT (st:=gQ) zbal zbam zban;have zbjm:=aW (K:=K) (x:= "words") (qual:= "Door.words") (st:=gQ) (kV:=zon) (doc:=zoo) (pm:=zop) (an:=zok) (cdv:=zoq) (ct:=zor) (ps:=["self"])<|aN 1 _ fun _=>rfl
 have zbjn:=aT (st:=cX) zbao zbap zbaq;have zbjo:=aW (K:=K) (x:= "__init__") (qual:= "Marked.__init__") (st:=cX) (kV:=zow) (doc:=zox) (pm:=zoy) (an:=zot) (cdv:=zoz) (ct:=zpa) (ps:=["self","name","start","end","wide","bits"])<|aN 6 _ fun _ _ _ _ _ _=>rfl
 have zbjp:=aT (st:=eG) zbar zbas zbat;have zbjq:=aW (K:=K) (x:= "lets") (qual:= "Marked.lets") (st:=eG) (kV:=zpf) (doc:=zpg) (pm:=zph) (an:=zpc) (cdv:=zpi) (ct:=zpj) (ps:=["self","turn"])<|aN 2 _ fun _ _=>rfl
 have zbjr:=aT (st:=fC) zbau zbav zbaw;have zbjs:=aW (K:=K) (x:= "words") (qual:= "Marked.words") (st:=fC) (kV:=zpo) (doc:=zpp) (pm:=zpq) (an:=zpl) (cdv:=zpr) (ct:=zps) (ps:=["self"])<|aN 1 _ fun _=>rfl
 have zbjt:=aT (st:=cQ) zbax zbay zbaz;have zbju:=rJ 6 (K:=K) (x:= "__init__") (qual:= "House.__init__") (st:=cQ) (kV:=zpx) (doc:=zpy) (pm:=zpz) (an:=zpu) (cdv:=zqa) (ct:=zqb) (ps:=["self","rooms","doors","people","last","first"]) (ds:=[]) zbba<|aN 6 _ fun _ _ _ _ _ _=>⟨_,rfl,rfl⟩
 have zbjv:=rJ 5 (K:=K) (x:= "__init__") (qual:= "House.__init__") (st:=cQ) (kV:=zpx) (doc:=zpy) (pm:=zpz) (an:=zpu) (cdv:=zqa) (ct:=zqb) (ps:=["self","rooms","doors","people","last","first"]) (ds:=[.int 0 zqd]) zbba<|aN 5 _ fun _ _ _ _ _=>⟨_,rfl,rfl⟩
 have zbjw:=aT (st:=d8) zbbb zbbc zbbd;have zbjx:=aW (K:=K) (x:= "rooms") (qual:= "House.rooms") (st:=d8) (kV:=zqm) (doc:=zqn) (pm:=zqo) (an:=zqj) (cdv:=zqp) (ct:=zqq) (ps:=["self"])<|aN 1 _ fun _=>rfl
 have zbjy:=aT (st:=d9) zbbe zbbf zbbg;have zbjz:=aW (K:=K) (x:= "doors") (qual:= "House.doors") (st:=d9) (kV:=zqv) (doc:=zqw) (pm:=zqx) (an:=zqs) (cdv:=zqy) (ct:=zqz) (ps:=["self"])<|aN 1 _ fun _=>rfl
 have zbka:=aT (st:=cU) zbbh zbbi zbbj;have zbkb:=aW (K:=K) (x:= "need_room") (qual:= "House.need_room") (st:=cU) (kV:=zre) (doc:=zrf) (pm:=zrg) (an:=zrb) (cdv:=zrh) (ct:=zri) (ps:=["self","room"])<|aN 2 _ fun _ _=>rfl
 have zbkc:=aT (st:=eP) zbbk zbbl zbbm;have zbkd:=aW (K:=K) (x:= "holds") (qual:= "House.holds") (st:=eP) (kV:=zrn) (doc:=zro) (pm:=zrp) (an:=zrk) (cdv:=zrq) (ct:=zrr) (ps:=["self","room"])<|aN 2 _ fun _ _=>rfl
 have zbke:=aT (st:=eI) zbbn zbbo zbbp;have zbkf:=aW (K:=K) (x:= "found") (qual:= "House.found") (st:=eI) (kV:=zrw) (doc:=zrx) (pm:=zry) (an:=zrt) (cdv:=zrz) (ct:=zsa) (ps:=["self","room"])<|aN 2 _ fun _ _=>rfl
 have zbkg:=aT (st:=gG) zbbq zbbr zbbs;have zbkh:=aW (K:=K) (x:= "into") (qual:= "House.into") (st:=gG) (kV:=zsf) (doc:=zsg) (pm:=zsh) (an:=zsc) (cdv:=zsi) (ct:=zsj) (ps:=["self","room"])<|aN 2 _ fun _ _=>rfl
 have zbki:=aT (st:=dH) zbbt zbbu zbbv;have zbkj:=aW (K:=K) (x:= "from_room") (qual:= "House.from_room") (st:=dH) (kV:=zso) (doc:=zsp) (pm:=zsq) (an:=zsl) (cdv:=zsr) (ct:=zss) (ps:=["self","room"])<|aN 2 _ fun _ _=>rfl
 have zbkk:=aT (st:=fF) zbbw zbbx zbby;have zbkl:=aW (K:=K) (x:= "door") (qual:= "House.door") (st:=fF) (kV:=zsx) (doc:=zsy) (pm:=zsz) (an:=zsu) (cdv:=zta) (ct:=ztb) (ps:=["self","name"])<|aN 2 _ fun _ _=>rfl
 have zbkm:=aT (st:=fN) zbbz zbca zbcb;have zbkn:=aW (K:=K) (x:= "lets") (qual:= "House.lets") (st:=fN) (kV:=ztg) (doc:=zth) (pm:=zti) (an:=ztd) (cdv:=ztj) (ct:=ztk) (ps:=["self","name","turn"])<|aN 3 _ fun _ _ _=>rfl
 have zbko:=aT (st:=eB) zbcc zbcd zbce;have zbkp:=aW (K:=K) (x:= "total") (qual:= "House.total") (st:=eB) (kV:=ztp) (doc:=ztq) (pm:=ztr) (an:=ztm) (cdv:=zts) (ct:=ztt) (ps:=["self"])<|aN 1 _ fun _=>rfl
 have zbkq:=aT (st:=eJ) zbcf zbcg zbch;have zbkr:=aW (K:=K) (x:= "pairs") (qual:= "House.pairs") (st:=eJ) (kV:=zty) (doc:=ztz) (pm:=zua) (an:=ztv) (cdv:=zub) (ct:=zuc) (ps:=["self"])<|aN 1 _ fun _=>rfl
 have zbks:ICls K zbf:=⟨⟨zbci,zbcj,zbck,zbcl⟩,zbco,zbfy,zbfz,zbcp⟩
 have zbkt:ICls K zbg:=⟨⟨zbdi,zbdj,zbdk,zbdl⟩,zbdo,zbfy,zbfz,zbdp⟩
 have zbku:ICls K zbh:=⟨⟨zbei,zbej,zbek,zbel⟩,zbeo,zbfy,zbfz,zbep⟩
 exact⟨PySem.W.fnOf "law" "law" (aM mL) (aK mL) (aD mL) .none zmx zmy zmz zmu zna znb,fun s v=> .of_eq rfl,fun base _ _=>YY ⟨zaa,_,zbgt,zbgu,
  zab,_,zbgv,zbgw,
  zac,_,zbgx,zbgy,
  zad,_,zbgz,zbha,
  zae,_,zbhb,zbhc,
  zaf,_,zbhd,zbhe,
  zag,_,zbhf,zbhg,
  zah,_,zbhh,zbhi,
  zai,_,zbhj,zbhk,
  zaj,_,zbhl,zbhm,
  zak,_,zbhn,zbho,
  zal,_,zbhp,zbhq,
  zam,_,zbhr,zbhs,
  zan,_,zbht,zbhu,
  zao,_,zbhv,zbhw,
  zap,_,zbhx,zbhy,
  zaq,_,zbhz,zbia,
  zar,_,zbib,zbic,
  zas,_,zbid,zbie,
  zat,_,zbif,zbig,
  zau,_,zbih,zbii,
  zav,_,zbij,zbik,
  zaw,_,zbil,zbim,
  zax,_,zbin,zbio,
  zay,_,zbip,zbiq,
  zaz,_,zbir,zbis,
  zba,_,zbit,zbiu,
  zbb,_,zbiv,zbiw,
  zbc,_,zbix,zbiy,
  zbd,_,zbiz,zbja,
  fa,_,zbjb,zbjc,
  zbp,_,zbjd,zbje,
  zbq,_,zbjh,zbji,
  zbr,_,zbjj,zbjk,
  zbs,_,zbjl,zbjm,
  zbt,_,zbjn,zbjo,
  zbu,_,zbjp,zbjq,
  zbv,_,zbjr,zbjs,
  zbw,_,zbjt,zbju,
  zbx,_,zbjw,zbjx,
  zby,_,zbjy,zbjz,
  zbz,_,zbka,zbkb,
  zca,_,zbkc,zbkd,
  zcb,_,zbke,zbkf,
  zcc,_,zbkg,zbkh,
  zcd,_,zbki,zbkj,
  zce,_,zbkk,zbkl,
  zcf,_,zbkm,zbkn,
  zcg,_,zbko,zbkp,
  zch,_,zbkq,zbkr,
  PySem.W.mg_of X G zue,
  PySem.W.mg_of X G zuf,
  PySem.W.mg_of X G zug,
  PySem.W.mg_of X G zuh,
  PySem.W.mg_of X G zui,
  PySem.W.mg_of X G zuj,
  PySem.W.mg_of X G zuk,
  PySem.W.mg_of X G zul,
  PySem.W.mg_of X G zum,
  PySem.W.mg_of X G zun,
  PySem.W.mg_of X G zuo,
  PySem.W.mg_of X G zup,
  PySem.W.mg_of X G zuq,
  PySem.W.mg_of X G zur,
  PySem.W.mg_of X G zus,
  PySem.W.mg_of X G zut,
  PySem.W.mg_of X G zuu,
  PySem.W.mg_of X G zuv,
  PySem.W.mg_of X G zuw,
  PySem.W.mg_of X G zux,
  PySem.W.mg_of X G zuy,
  PySem.W.mg_of X G zuz,
  PySem.W.mg_of X G zva,
  PySem.W.mg_of X G zvb,
  PySem.W.mg_of X G zvc,
  PySem.W.mg_of X G zvd,
  PySem.W.mg_of X G zve,
  PySem.W.mg_of X G zvf,
  PySem.W.mg_of X G zvg,
  PySem.W.mg_of X G zvh,
  PySem.W.mg_of X G zvi,
  ⟨_,.cons ⟨_,rfl⟩ (.nil),zbjf⟩,
  ⟨_,.cons rfl (.cons ⟨_,rfl⟩ (.nil)),zbjg⟩,
  ⟨_,.cons ⟨_,rfl⟩ (.nil),zbjv⟩,
  zbf,PySem.W.mg_of X G zvj,
  zbg,PySem.W.mg_of X G zvk,
  zbh,PySem.W.mg_of X G zvl,
  zbi,PySem.W.mg_of X G zvm,
  zbj,PySem.W.mg_of X G zvn,
  zbk,PySem.W.mg_of X G zvo,
  zbl,PySem.W.mg_of X G zvp,
  zbm,PySem.W.mg_of X G zvq,
  zbn,PySem.W.mg_of X G zvr,
  zbo,PySem.W.mg_of X G zvs,
  ⟨zbks,zbcq,zbcr,zbcs,zbct,zbcu,zbcv,zbcw,zbcx,zbcy,zbcz⟩,
  ⟨zbcm,zbda,zbdb,zbcn⟩,
  ⟨zbdc,zbdd,zbah⟩,
  ⟨zbde,zbdf,zbak⟩,
  ⟨zbdg,zbdh,zban⟩,
  ⟨zbkt,zbdq,zbdr,zbds,zbdt,zbdu,zbdv,zbdw,zbdx,zbdy,zbdz⟩,
  ⟨zbdm,zbea,zbeb,zbdn⟩,
  ⟨zbec,zbed,zbat⟩,
  ⟨zbee,zbef,zbaw⟩,
  ⟨zbeg,zbeh,zbak⟩,
  ⟨zbku,zbeq,zber,zbes,zbet,zbeu,zbev,zbew,zbex,zbey,zbez⟩,
  ⟨zbem,zbfa,zbfb,zben⟩,
  ⟨zbfc,zbfd,zbbd⟩,
  ⟨zbfe,zbff,zbbg⟩,
  ⟨zbfg,zbfh,zbbj⟩,
  ⟨zbfi,zbfj,zbbm⟩,
  ⟨zbfk,zbfl,zbbp⟩,
  ⟨zbfm,zbfn,zbbs⟩,
  ⟨zbfo,zbfp,zbbv⟩,
  ⟨zbfq,zbfr,zbby⟩,
  ⟨zbfs,zbft,zbcb⟩,
  ⟨zbfu,zbfv,zbce⟩,
  ⟨zbfw,zbfx,zbch⟩,
  ⟨zbga,zbgb,zbgc⟩,
  PySem.W.mg_none_of X G zbgd,
  PySem.W.mg_none_of X G zbge,
  PySem.W.mg_none_of X G zbgf,
  PySem.W.mg_none_of X G zbgg,
  PySem.W.mg_none_of X G zbgh,
  PySem.W.mg_none_of X G zbgi,
  PySem.W.mg_none_of X G zbgj,
  PySem.W.mg_none_of X G zbgk,
  PySem.W.mg_none_of X G zbgl,
  PySem.W.mg_none_of X G zbgm,
  PySem.W.mg_none_of X G zbgn,
  PySem.W.mg_none_of X G zbgo,
  PySem.W.mg_none_of X G zbgp,
  PySem.W.mg_none_of X G zbgq,
  PySem.W.mg_none_of X G zbgr,
  ⟨zud,PySem.W.mg_of X G zbgs⟩⟩⟩
theorem walk {l:PySem.W.OpenLaw}{q:Program}{loose:List Str}{XP:(Str->Option Value)->Heap->Prop}{YP:World->Heap->Prop}{d:DefRec}{K:Params->PySem.W.Frag} (hn:l.most=some 63) (hdf:d.params.defaults=[])
  (hY:∀(w:World) (h:Heap),YP w h->(K w.params).In h)
  (F:∀(w:World) (mg:Str->Option Value) (fa:Addr) (h:Heap),(K w.params).In h->h.Ns mainGlobals mg->mg d.name=some (.ref fa) →
   ∃fd:FuncData,(∀(s:Shared) (u:Value),BindsTo s fd ⟨[u],[]⟩ [("_law_script",u)])/\∀base:Heap,(K w.params).In base->base.Ns mainGlobals mg->bK l.prog w (K w.params) mg base CX0 20 fa fd ["_law_script"] (uU (K w.params))) :
  PySem.W.WalkO q loose XP YP l.row.toRowW d [] (fun f vs=>PySem.call f vs) :=
 L2.walk_of (n:=63) (k:=20) (x:= "_law_script") (CX:=fun _=>CX0) (sp:=fun w=>uU (K w.params)) hn (by decide) hdf ⟨rfl,by decide,by decide⟩ hY F (fun _ _ a ns hl _ hS=>⟨a,ns,rfl,hS,hl,fun _=>rfl⟩) fun _ _ _ _ _ z=>z
end Prf
open PySem PySem.W PyProof.Rows
set_option maxRecDepth 100000 in
set_option maxHeartbeats 0 in
theorem PySem.Challenge.cw_firstout_k23_heads_that_go_holds : PySem.Challenge.rw_firstout_k23_heads_that_go.Holds := by
 w_on;o_law;k_head;(case hw=>w_witness2)
 k_fill
 refine Prf.walk (l:=PySem.Challenge.rw_firstout_k23_heads_that_go) rfl rfl (fun w h Y=>PySem.W.kIn_of Y) ?F
 case F =>
  intro w mg fa h KX G hmg;refine' Prf.all_mk KX G hmg ?zue ?zuf ?zug ?zuh ?zui ?zuj ?zuk ?zul ?zum ?zun ?zuo ?zup ?zuq ?zur ?zus ?zut ?zuu ?zuv ?zuw ?zux ?zuy ?zuz ?zva ?zvb ?zvc ?zvd ?zve ?zvf ?zvg ?zvh ?zvi ?zvj ?zvk ?zvl ?zvm ?zvn ?zvo ?zvp ?zvq ?zvr ?zvs ?zvt ?zvu ?zvv ?zvw ?zvx ?zvy ?zvz ?zwa ?zwb ?zwc ?zwd ?zwe ?zwf ?zwg ?zwh ?zwi ?zwj ?zwk ?zwl ?zwm ?zwn ?zwo ?zwp ?zwq ?zwr ?zws ?zwt ?zwu ?zwv ?zww ?zwx ?zwy ?zwz ?zxa ?zxb ?zxc ?zxd ?zxe ?zxf ?zxg ?zxh ?zxi ?zxj ?zxk ?zxl ?zxm ?zxn ?zxo ?zxp ?zxq ?zxr ?zxs ?zxt ?zxu ?zxv ?zxw ?zxx ?zxy ?zxz ?zya ?zyb ?zyc ?zyd ?zye ?zyf ?zyg ?zyh ?zyi ?zyj ?zyk ?zyl ?zym ?zyn ?zyo ?zyp ?zyq ?zyr ?zys ?zyt ?zyu ?zyv ?zyw ?zyx ?zyy ?zyz ?zza ?zzb ?zzc ?zzd ?zze ?zzf ?zzg ?zzh ?zzi ?zzj ?zzk ?zzl ?zzm ?zzn ?zzo ?zzp ?zzq ?zzr ?zzs ?zzt ?zzu ?zzv ?zzw ?zzx ?zzy ?zzz ?zbaa ?zbab ?zbac ?zbad ?zbae ?zbaf ?zbag ?zbah ?zbai ?zbaj ?zbak ?zbal ?zbam ?zban ?zbao ?zbap ?zbaq ?zbar ?zbas ?zbat ?zbau ?zbav ?zbaw ?zbax ?zbay ?zbaz ?zbba ?zbbb ?zbbc ?zbbd ?zbbe ?zbbf ?zbbg ?zbbh ?zbbi ?zbbj ?zbbk ?zbbl ?zbbm ?zbbn ?zbbo ?zbbp ?zbbq ?zbbr ?zbbs ?zbbt ?zbbu ?zbbv ?zbbw ?zbbx ?zbby ?zbbz ?zbca ?zbcb ?zbcc ?zbcd ?zbce ?zbcf ?zbcg ?zbch ?zbci ?zbcj ?zbck ?zbcl ?zbcm ?zbcn ?zbco ?zbcp ?zbcq ?zbcr ?zbcs ?zbct ?zbcu ?zbcv ?zbcw ?zbcx ?zbcy ?zbcz ?zbda ?zbdb ?zbdc ?zbdd ?zbde ?zbdf ?zbdg ?zbdh ?zbdi ?zbdj ?zbdk ?zbdl ?zbdm ?zbdn ?zbdo ?zbdp ?zbdq ?zbdr ?zbds ?zbdt ?zbdu ?zbdv ?zbdw ?zbdx ?zbdy ?zbdz ?zbea ?zbeb ?zbec ?zbed ?zbee ?zbef ?zbeg ?zbeh ?zbei ?zbej ?zbek ?zbel ?zbem ?zben ?zbeo ?zbep ?zbeq ?zber ?zbes ?zbet ?zbeu ?zbev ?zbew ?zbex ?zbey ?zbez ?zbfa ?zbfb ?zbfc ?zbfd ?zbfe ?zbff ?zbfg ?zbfh ?zbfi ?zbfj ?zbfk ?zbfl ?zbfm ?zbfn ?zbfo ?zbfp ?zbfq ?zbfr ?zbfs ?zbft ?zbfu ?zbfv ?zbfw ?zbfx ?zbfy ?zbfz ?zbga ?zbgb ?zbgc ?zbgd ?zbge ?zbgf ?zbgg ?zbgh ?zbgi ?zbgj ?zbgk ?zbgl ?zbgm ?zbgn ?zbgo ?zbgp ?zbgq ?zbgr ?zbgs
  (case zue|zuf|zug|zuh|zui|zuj|zuk|zul|zum|zun|zuo|zup|zuq|zur|zus|zut|zuu|zuv|zuw|zux|zuy|zuz|zva|zvb|zvc|zvd|zve|zvf|zvg|zvh|zvi|zvj|zvk|zvl|zvm|zvn|zvo|zvp|zvq|zvr|zvs|zvt|zvu|zvv|zvw|zvx|zvy|zvz|zwa|zwb|zwc|zwd|zwe|zwf|zwg|zwh|zwi|zwj|zwk|zwl|zwm|zwn|zwo|zwp|zwq|zwr|zws|zwt|zwu|zwv|zww|zwx|zwy|zwz|zxa|zxb|zxc|zxd|zxe|zxf|zxg|zxh|zxi|zxj|zxk|zxl|zxm|zxn|zxo|zxp|zxq|zxr|zxs|zxt|zxu|zxv|zxw|zxx|zxy|zxz|zya|zyb|zyc|zyd|zye|zyf|zyg|zyh|zyi|zyj|zyk|zyl|zym|zyn|zyo|zyp|zyq|zyr|zys|zyt|zyu|zyv|zyw|zyx|zyy|zyz|zza|zzb|zzc|zzd|zze|zzf|zzg|zzh|zzi|zzj|zzk|zzl|zzm|zzn|zzo|zzp|zzq|zzr|zzs|zzt|zzu|zzv|zzw|zzx|zzy|zzz|zbaa|zbab|zbac|zbad|zbae|zbaf|zbag|zbah|zbai|zbaj|zbak|zbal|zbam|zban|zbao|zbap|zbaq|zbar|zbas|zbat|zbau|zbav|zbaw|zbax|zbay|zbaz|zbba|zbbb|zbbc|zbbd|zbbe|zbbf|zbbg|zbbh|zbbi|zbbj|zbbk|zbbl|zbbm|zbbn|zbbo|zbbp|zbbq|zbbr|zbbs|zbbt|zbbu|zbbv|zbbw|zbbx|zbby|zbbz|zbca|zbcb|zbcc|zbcd|zbce|zbcf|zbcg|zbch|zbci|zbcj|zbck|zbcl|zbcm|zbcn|zbco|zbcp|zbcq|zbcr|zbcs|zbct|zbcu|zbcv|zbcw|zbcx|zbcy|zbcz|zbda|zbdb|zbdc|zbdd|zbde|zbdf|zbdg|zbdh|zbdi|zbdj|zbdk|zbdl|zbdm|zbdn|zbdo|zbdp|zbdq|zbdr|zbds|zbdt|zbdu|zbdv|zbdw|zbdx|zbdy|zbdz|zbea|zbeb|zbec|zbed|zbee|zbef|zbeg|zbeh|zbei|zbej|zbek|zbel|zbem|zben|zbeo|zbep|zbeq|zber|zbes|zbet|zbeu|zbev|zbew|zbex|zbey|zbez|zbfa|zbfb|zbfc|zbfd|zbfe|zbff|zbfg|zbfh|zbfi|zbfj|zbfk|zbfl|zbfm|zbfn|zbfo|zbfp|zbfq|zbfr|zbfs|zbft|zbfu|zbfv|zbfw|zbfx|zbfy|zbfz|zbga|zbgb|zbgc|zbgd|zbge|zbgf|zbgg|zbgh|zbgi|zbgj|zbgk|zbgl|zbgm|zbgn|zbgo|zbgp|zbgq|zbgr|zbgs=>k_is)
