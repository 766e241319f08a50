import PyProof.Rows.All
import Wide.All
import OpenK.AllK
import Wide.FinOn
import Lean
import PyProof.EqAt
import PyProof.EqKinds
import PyProof.TupleCall
import KE.KSortTup
import PyProof.Rows.DictUnroll
import PyProof.DictItems
import KE.LcSums
import PyProof.IsiH_list
import KE.KDictOf
import PyProof.DictWalks
import PyProof.ListRange
import PyProof.EnumStmt
import PyProof.EnumMake
import KE.KDictSum
import PyProof.StrOps2
import PyProof.Rows.CallKwBuiltin
import KE.KRevSl
import PyProof.Rows.SetFrom
import PySem.Challenge.RW_firstout_k74_plans_as_texts
namespace PySem.W.Fast
def tw12947077458964788550:=()
def tw13956316264608624583:=()
def tw17338931198513627976:=()
def tw11645663850274651690:=()
def tw53404207862584623:=()
def tw6996113140128502128:=()
def tw5316770519960609236:=()
def tw8679716050379199414:=()
def tw5083878059415385661:=()
def tw2184731530503976124:=()
def tw4527082925579894380:=()
def tw16193200510858620596:=()
def tw6260152566969424187:=()
def tw2129303518056524593:=()
def tw11582757496332429144:=()
def tw16912046420627532588:=()
def tw2151877323865874204:=()
def tw3238133062097335336:=()
def tw11404780768086099282:=()
def tw44137071051462647:=()
def tw1470963772181473658:=()
def tw17713522031484799326:=()
def tw9309907933630418250:=()
def tw13034204383700074967:=()
def tw721052515824539115:=()
def tw149018710206607693:=()
def tw17093816921613444531:=()
def tw1718414172023874013:=()
def tw5469470542836028498:=()
def tw6786072965609207939:=()
def tw14829675235468687330:=()
def tw17911638312741062001:=()
def tw2757321408656973841:=()
def tw9424974710828523817:=()
def tw3830859243639987572:=()
def tw12966859821593666840:=()
def tw16829769877697837638:=()
def tw8536906242940872308:=()
def tw5023360578725478217:=()
def tw10633794677077958135:=()
def tw16518417791429051516:=()
def tw858665265226294278:=()
def tw2771537495047473668:=()
def tw190173306565423084:=()
def tw8171554422740946164:=()
def tw1625543373955520218:=()
def tw10486927345214688458:=()
def tw2933642122070660123:=()
def tw1021445675712288433:=()
def tw10541702630748640018:=()
def tw2558949909910074086:=()
def tw2570849800442115082:=()
def tw15145677782165053024:=()
def tw9908490013123974620:=()
def tw3448422058192146625:=()
def tw7996080856349523972:=()
def tw11021884761435043259:=()
def tw7399425861435485183:=()
def tw12879680358568662442:=()
def tw12164200440331837292:=()
def tw2278858767323300526:=()
def tw16159967788453368997:=()
def tw4611936087142599080:=()
def tw7350981424485822968:=()
def tw4019589982895123651:=()
end PySem.W.Fast
set_option compiler.extract_closed false
local macro_rules| `(tactic| walk_at"oi")=> `(tactic| first|exact Or.inl rfl|exact Or.inr rfl)
set_option Elab.async false
set_option linter.all false
set_option maxRecDepth 100000
namespace L2
open PySem PySem.Spec PyProof.Rows
abbrev Key:=Sum Int Str
def oO:Key->Value->Bool
 | .inl k,v=>Value.isInt k v
 | .inr x,v=>Value.isStrOf x v
def QH (w:World):Key->Int
 | .inl k=>hashInt k
 | .inr x=>hashStr w x
theorem cP:∀{k:Key}{v:Value},oO k v=true->(∃i t,k=Sum.inl i/\v=Value.int i t)∨(∃x t,k=Sum.inr x/\v=Value.str x t)
 | .inl i,v,h=>by
  obtain⟨t,e⟩:=Value.isInt_shape (k:=i) (v:=v) h;exact .inl ⟨i,t,rfl,e⟩
 | .inr x,v,h=>by
  obtain⟨t,e⟩:=Value.isStrOf_shape (x:=x) (v:=v) h;exact .inr ⟨x,t,rfl,e⟩
theorem DF (i:Int)(t:Tok):oO (.inl i) (.int i t)=true:=by simp[oO,Value.isInt]
theorem ER (x:Str)(t:Tok):oO (.inr x) (.str x t)=true:=by simp[oO,Value.isStrOf]
theorem OC (a b:Int):decide ((Sum.inl a:Key)=Sum.inl b)=(a==b):=by
 by_cases e:a=b
 ·subst e;simp
 ·have h:¬(Sum.inl a:Key)=Sum.inl b:=fun q=>e (Sum.inl.inj q);rw[decide_eq_false h];exact(beq_eq_false_iff_ne.mpr e).symm
theorem LU (a b:Str):decide ((Sum.inr a:Key)=Sum.inr b)=decide (a=b):=by
 by_cases e:a=b
 ·subst e;simp
 ·have h:¬(Sum.inr a:Key)=Sum.inr b:=fun q=>e (Sum.inr.inj q);rw[decide_eq_false h,decide_eq_false e]
theorem MK (a:Int)(b:Str):decide ((Sum.inl a:Key)=Sum.inr b)=false:=decide_eq_false (fun q=>nomatch q)
theorem LS (a:Str)(b:Int):decide ((Sum.inr a:Key)=Sum.inl b)=false:=decide_eq_false (fun q=>nomatch q)
def cK (prog:Program)(w:World):PySem.KeyKind prog w Key where
 is:=oO
 hash:=QH w
 inj:=fun v a b ha hb=>by
  rcases cP ha with⟨i,t,rfl,rfl⟩|⟨x,t,rfl,rfl⟩
  ·rcases cP hb with⟨j,u,rfl,e⟩|⟨y,u,rfl,e⟩
   ·injection e with e1 _;rw[e1]
   ·exact nomatch e
  ·rcases cP hb with⟨j,u,rfl,e⟩|⟨y,u,rfl,e⟩
   ·exact nomatch e
   ·injection e with e1 _;rw[e1]
 byValue:=fun k v h=>by
  rcases cP h with⟨i,t,rfl,rfl⟩|⟨x,t,rfl,rfl⟩<;>rfl
 pyHash:=fun hv h=>by
  rcases cP hv with⟨i,t,rfl,rfl⟩|⟨x,t,rfl,rfl⟩
  ·exact wpAny_pyHash_int h
  ·exact wpAny_pyHash_str h
 eqBool:=fun hu hv h=>by
  rcases cP hu with⟨i,t,rfl,rfl⟩|⟨x,t,rfl,rfl⟩
  ·rcases cP hv with⟨j,u,rfl,rfl⟩|⟨y,u,rfl,rfl⟩
   ·rw[OC]at h;exact wpAny_eqBool_int h
   ·rw[MK]at h;exact SeqAt.EqAt.int_str i t y u _ _ _ _ h
  ·rcases cP hv with⟨j,u,rfl,rfl⟩|⟨y,u,rfl,rfl⟩
   ·rw[LS]at h;exact SeqAt.EqAt.str_int x t j u _ _ _ _ h
   ·rw[LU]at h;exact wpAny_eqBool_str h
 «strs»:=fun k x t v h=>by
  rcases cP h with⟨i,u,rfl,e⟩|⟨y,u,rfl,e⟩
  ·exact nomatch e
  ·injection e with e1 _;subst e1;cases v<;>rfl
theorem yF (prog:Program)(w:World)(i:Int)(t:Tok):(cK prog w).is (.inl i) (.int i t)=true:=DF i t
theorem xY (prog:Program)(w:World)(x:Str)(t:Tok):(cK prog w).is (.inr x) (.str x t)=true:=ER x t
end L2
namespace L2
open PySem PySem.Spec PyProof.Rows
inductive V where
 | non|bl (b:Bool)|int (i:Int)|str (x:Str)|byt (b:Array UInt8)|flt (b:UInt64)|ref (a:Addr)|ty (n:String)
 deriving DecidableEq
def RelV:V->Value->Prop
 | .non,u=>u=Value.none
 | .bl b,u=>u=Value.bool b
 | .int i,u=>∃t,u=Value.int i t
 | .str x,u=>∃t,u=Value.str x t
 | .byt b,u=>∃t,u=Value.bytes b t
 | .flt b,u=>∃t,u=Value.float b t
 | .ref a,u=>u=Value.ref a
 | .ty n,u=>u=Value.type n
abbrev Vals:List V->List Value->Prop:=Paired RelV
theorem Vals.length {xs:List V}{us:List Value} (r:Vals xs us):xs.length=us.length:=Paired.length r
theorem Vals.get:∀{xs:List V}{us:List Value}{i:Nat}{x:V},Vals xs us->xs[i]? =some x->∃u,us[i]? =some u/\RelV x u
 | _,_,_,_,.nil,e=>by simp at e
 | _,_,0,_,.cons r _,e=>by simp at e;subst e;exact⟨_,rfl,r⟩
 | _,_,i+1,x,.cons _ t,e=>by
  obtain⟨u,h1,h2⟩:=Vals.get (i:=i) (x:=x) t (by simpa using e);exact⟨u,by simpa using h1,h2⟩
theorem Vals.append:∀{xs ys:List V}{us ws:List Value},Vals xs us->Vals ys ws->Vals (xs++ys) (us++ws)
 | _,_,_,_,.nil,s=>s
 | _,_,_,_,.cons r t,s=> .cons r (Vals.append t s)
theorem Vals.take:∀{xs:List V}{us:List Value} (n:Nat),Vals xs us->Vals (xs.take n) (us.take n)
 | _,_,0,_=> .nil
 | _,_,_+1,.nil=> .nil
 | _,_,n+1,.cons r t=> .cons r (Vals.take n t)
theorem Vals.drop:∀{xs:List V}{us:List Value} (n:Nat),Vals xs us->Vals (xs.drop n) (us.drop n)
 | _,_,0,r=>r
 | _,_,_+1,.nil=> .nil
 | _,_,n+1,.cons _ t=>Vals.drop n t
def RelO:Option V->Option Value->Prop
 | some v,some u=>RelV v u
 | none,none=>True
 | _,_=>False
def KV {κ:Type}:List (κ×V)->List (κ×Value)->Prop:=Paired fun (p:κ×V) (q:κ×Value)=>p.1=q.1/\RelV p.2 q.2
def kV:Key->V
 | .inl i=> .int i
 | .inr x=> .str x
inductive HO where
  | lst (xs:List V)
  | tup (xs:List V)
  | dK (kvs:List (Key×V))|dT (kvs:List (List Key×V))
  | set (S:Int->Bool) (n:Nat)
  | ins (C dx:Addr) (fs:List (Str×V))
  | own (x:Addr)
  | xd (fs:List (Str×V))
  | met (f x:Addr)
  | rng (lo hi:Int)
  | frz (o:Obj) (u:HO)
  | tbl (ps:Array Value)
  | ext (φ:Heap->Prop)
abbrev Hp:=Addr->Option HO
def upd (H:Hp)(a:Addr)(o:HO):Hp:=fun b=>if b=a then some o else H b
theorem bA {H:Hp}{a:Addr}{o:HO}:upd H a o a=some o:=by unfold upd;rw[if_pos rfl]
theorem aI {H:Hp}{a b:Addr}{o:HO} (h:b≠a):upd H a o b=H b:=by unfold upd;rw[if_neg h]
theorem z7 {H:Hp}{a:Addr}{o u:HO}:upd (upd H a o) a u=upd H a u:=by
 funext b;unfold upd;split<;>rfl
theorem OP {H:Hp}{a b:Addr}{o u:HO} (h:H a=some o) (h':H b=some u) (d:o≠u):a≠b:=by
 intro e;subst e;rw[h]at h';exact d (Option.some.inj h')
theorem bB {H:Hp}{a b:Addr}{o:HO} (h:H a=some o) (h':H b=none):a≠b:=by
 intro e;subst e;rw[h]at h';cases h'
section
variable (P:Program)(w:World)
def ObjOk (H:Hp)(h:Heap)(a:Addr):HO->Prop
 | .lst xs=>xs.length<=sizeLine/\∃(its:List Value) (n:Nat),Vals xs its/\h.get? a=some { cls:= .type "list",data:= .seq its.toArray n }
 | .tup xs=>xs.length<=sizeLine/\∃its:List Value,Vals xs its/\IsTup h a its.toArray
 | .dK kvs=>kvs.length<=sizeLine/\(a==sysModules)=false/\∃vs,KV kvs vs/\h.DictOf (cK P w) a vs
 | .dT kvs=>kvs.length<=sizeLine/\(a==sysModules)=false/\∃xs:List (List Key×Addr×Value),
   Paired (fun (p:List Key×V) (q:List Key×Addr×Value)=>p.1=q.1/\H q.2.1=some (.tup (p.1.map kV))/\RelV p.2 q.2.2) kvs xs ∧
   ∃o es ep,h.get? a=some o/\o.ExactDict/\o.data= .dict es ep/\es.toList=xs.map (entryOfKey (tupleKind (cK P w)))/\(xs.map (·.1)).Nodup
 | .set S n=>h.SetOf (intKind P w) a S n
 | .ins C dx fs=>H dx=some (.own a)/\fs.length<=1000/\dx≠a/\h.get? a=some (PySem.W.instObj C dx) ∧
   ∃mA,h.Ns1 dx mA/\(∀f,RelO (fs.lookup f) (mA f))/\PySem.Within mA (fs.map (·.1))
 | .own _=>∃o,h.get? a=some o
 | .xd fs=>∃mA,h.Ns1 a mA/\∀f,RelO (fs.lookup f) (mA f)
 | .rng lo hi=>∃t u v,h.get? a=some { cls:= .type "range",data:= .fields #[.int lo t,.int hi u,.int 1 v] }
 | .frz o u=>h.get? a=some o/\ObjOk H h a u
 | .tbl ps=>h.get? a=some { cls:= .none,data:= .fields ps }
 | .met f x=>h.get? a=some (PySem.W.methodObj (.ref f) (.ref x))
 | .ext φ=>φ h/\(∃o,h.get? a=some o)/\∀h1 h2:Heap,φ h1->(∀o,h1.get? a=some o->h2.get? a=some o)->φ h2
def HOk (H:Hp)(h:Heap):Prop:=∀a o,H a=some o->ObjOk P w H h a o
end
section
variable {P:Program}{w:World}{H H':Hp}{h h':Heap}{a:Addr}{o:HO}
theorem ObjOk.lt (x:ObjOk P w H h a o):a<h.objs.size:=by
 cases o with
 | lst xs=>obtain⟨_,_,_,_,e⟩:=x;exact Heap.lt_size e
 | tup xs=>obtain⟨_,_,_,p⟩:=x;exact p.lt
 | dK kvs=>obtain⟨_,_,_,_,o,_,_,e,_⟩:=x;exact Heap.lt_size e
 | dT kvs=>obtain⟨_,_,_,_,o,_,_,e,_⟩:=x;exact Heap.lt_size e
 | set S n=>obtain⟨o,_,_,_,e,_⟩:=x;exact Heap.lt_size e
 | ins C dx fs=>obtain⟨_,_,_,e,_⟩:=x;exact Heap.lt_size e
 | own y=>obtain⟨_,e⟩:=x;exact Heap.lt_size e
 | xd fs=>obtain⟨_,⟨_,_,_,e,_⟩,_⟩:=x;exact Heap.lt_size e
 | rng lo hi=>obtain⟨_,_,_,e⟩:=x;exact Heap.lt_size e
 | frz ob u=>obtain⟨e,_⟩:=x;exact Heap.lt_size e
 | tbl ps=>exact Heap.lt_size (show h.get? a=some _ from x)
 | met f y=>exact Heap.lt_size (show h.get? a=some _ from x)
 | ext φ=>obtain⟨_,⟨_,e⟩,_⟩:=x;exact Heap.lt_size e
theorem Paired.mapP {α β:Type}{F G:α->β->Prop}:∀{l₁:List α}{l₂:List β},Paired F l₁ l₂->(∀a b,F a b->G a b)->Paired G l₁ l₂
 | _,_,.nil,_=> .nil
 | _,_,.cons r t,f=> .cons (f _ _ r) (Paired.mapP t f)
theorem Paired.imp' {α β:Type}{F G:α->β->Prop} (f:∀a b,F a b->G a b) {l₁:List α}{l₂:List β} (r:Paired F l₁ l₂):Paired G l₁ l₂:=Paired.mapP r f
theorem ObjOk.stay (x:ObjOk P w H h a o)(k:∀b u,(b=a∨H b=some (.own a))->h.get? b=some u->h'.get? b=some u)
  (ho:∀b,H b=some (.own a)->H' b=some (.own a))(ht:∀b xs,H b=some (.tup xs)->H' b=some (.tup xs)):ObjOk P w H' h' a o:=by
 induction o with
 | lst xs=>obtain⟨z,its,n,r,e⟩:=x;exact⟨z,its,n,r,k _ _ (.inl rfl) e⟩
 | tup xs=>obtain⟨z,its,r,ob,e,c⟩:=x;exact⟨z,its,r,ob,k _ _ (.inl rfl) e,c⟩
 | dK kvs=>obtain⟨z,y,vs,r,ob,es,ep,e,c⟩:=x;exact⟨z,y,vs,r,ob,es,ep,k _ _ (.inl rfl) e,c⟩
 | dT kvs =>
  obtain⟨z,y,xs,r,ob,es,ep,e,c⟩:=x;exact⟨z,y,xs,Paired.mapP r fun p q z=>⟨z.1,ht _ _ z.2.1,z.2.2⟩,ob,es,ep,k _ _ (.inl rfl) e,c⟩
 | set S n=>obtain⟨ob,es,ep,t,e,c⟩:=x;exact⟨ob,es,ep,t,k _ _ (.inl rfl) e,c⟩
 | ins C dx fs =>
  obtain⟨d,z,ne,e,mA,⟨od,es,ep,e2,c⟩,r⟩:=x;exact⟨ho _ d,z,ne,k _ _ (.inl rfl) e,mA,⟨od,es,ep,k _ _ (.inr d) e2,c⟩,r⟩
 | own y=>obtain⟨ob,e⟩:=x;exact⟨ob,k _ _ (.inl rfl) e⟩
 | xd fs=>obtain⟨mA,⟨od,es,ep,e,c⟩,r⟩:=x;exact⟨mA,⟨od,es,ep,k _ _ (.inl rfl) e,c⟩,r⟩
 | rng lo hi=>obtain⟨t,u,v,e⟩:=x;exact⟨t,u,v,k _ _ (.inl rfl) e⟩
 | frz ob u ih=>obtain⟨e,q⟩:=x;exact⟨k _ _ (.inl rfl) e,ih q⟩
 | tbl ps =>
  have e:h.get? a=some { cls:= .none,data:= .fields ps }:=x;show h'.get? a=some { cls:= .none,data:= .fields ps };exact k a _ (.inl rfl) e
 | met f y =>
  have e:h.get? a=some (PySem.W.methodObj (.ref f) (.ref y)):=x;show h'.get? a=some (PySem.W.methodObj (.ref f) (.ref y));exact k a _ (.inl rfl) e
 | ext φ=>obtain⟨p,⟨o,e⟩,st⟩:=x;exact⟨st _ _ p fun o q=>k _ _ (.inl rfl) q,⟨o,k _ _ (.inl rfl) e⟩,st⟩
theorem HOk.lt (x:HOk P w H h)(e:H a=some o):a<h.objs.size:=(x a o e).lt
theorem HOk.fresh (x:HOk P w H h)(e:h.objs.size<=a):H a=none:=by
 cases q:H a with
 | none=>rfl
 | some u=>exact absurd (Nat.lt_of_lt_of_le (x.lt q) e) (Nat.lt_irrefl _)
theorem HOk.kept (x:HOk P w H h)(k:∀b u,h.get? b=some u->h'.get? b=some u):HOk P w H h':=fun a o e =>
 (x a o e).stay (fun b u _ q=>k b u q) (fun _ q=>q) fun _ _ q=>q
theorem HOk.laid (x:HOk P w H h)(k:∀b u,h.get? b=some u->h'.get? b=some u)(hp:h.objs.size<=a)(new:ObjOk P w (upd H a o) h' a o):HOk P w (upd H a o) h':=fun b u e=>by
 have hn:=x.fresh hp
 by_cases hb:b=a
 ·subst hb;rw[bA]at e;cases e;exact new
 ·rw[aI hb]at e;exact(x b u e).stay (fun c v _ q=>k c v q) (fun c q=>by rw[aI (bB q hn)];exact q) fun c xs q=>by rw[aI (bB q hn)];exact q
end
def Rd (H:Hp)(a:Addr)(u:HO):Prop:=H a=some u∨∃o,H a=some (.frz o u)
theorem Rd.ok {P:Program}{w:World}{H:Hp}{h:Heap}{a:Addr}{u:HO} (r:Rd H a u) (x:HOk P w H h):ObjOk P w H h a u:=by
 rcases r with r|⟨o,r⟩
 ·exact x a u r
 ·obtain⟨_,q⟩:=x a _ r;exact q
def Mut:Option HO->Prop
 | some (.lst _)=>True
 | some (.dK _)=>True
 | some (.dT _)=>True
 | some (.set _ _)=>True
 | some (.ins _ _ _)=>True
 | some (.ext _)=>True
 | _=>False
section
variable {P:Program}{w:World}{H:Hp}{h h':Heap}{x e:Addr}{o':HO}
theorem HOk.write (ok:HOk P w H h)(mu:Mut (H x))(he:e=x∨H e=some (.own x))(k:∀b u,b≠e->h.get? b=some u->h'.get? b=some u)(heo:∃u,h'.get? e=some u)
  (new:ObjOk P w (upd H x o') h' x o'):HOk P w (upd H x o') h':=fun b u q=>by
 have nown:∀c y,H c=some (.own y)->c≠x:=fun c y r z=>by subst z;rw[r]at mu;exact mu
 have ntup:∀c xs,H c=some (.tup xs)->c≠x:=fun c xs r z=>by subst z;rw[r]at mu;exact mu
 by_cases hb:b=x
 ·subst hb;rw[bA]at q;cases q;exact new
 ·rw[aI hb]at q
  by_cases hbe:b=e
  ·have q':H b=some (.own x):=by
    rcases he with z|z
    ·exact absurd (hbe.trans z) hb
    ·rw[hbe];exact z
   rw[q]at q';cases q';obtain⟨v,hv⟩:=heo;exact⟨v,by rw[hbe];exact hv⟩
  ·refine(ok b u q).stay (fun c v hc r=>k c v ?_ r) (fun c r=>by rw[aI (nown c b r)];exact r) fun c xs r=>by rw[aI (ntup c xs r)];exact r
   rcases hc with rfl|hc
   ·exact hbe
   ·rintro rfl;rcases he with z|z
    ·exact nown c b hc z
    ·rw[hc]at z;cases z;exact hb rfl
end
structure Un (fs ex:List Addr)(H H':Hp)(h h':Heap):Prop where
 keep:∀b o,h.get? b=some o->H b=none->b∉fs->b∉ex->h'.get? b=some o
 slot:∀b o,h.get? b=some o->H b=none->b∈fs->b∉ex->∃sl,h'.get? b=some { o with slots:=sl }
 free:∀b o,h.get? b=some o->H b=none->b∉ex->H' b=none
 there:∀b o,h.get? b=some o->b∉ex->∃o',h'.get? b=some o'
 tups:∀b xs,H b=some (.tup xs)->H' b=some (.tup xs)
 frzs:∀b o u,H b=some (.frz o u)->H' b=some (.frz o u)
 tbls:∀b ps,H b=some (.tbl ps)->∃more,H' b=some (.tbl (ps++more))
section
variable {fs fs' ex ex':List Addr}{H H1 H2:Hp}{h h1 h2 h':Heap}{a x e:Addr}{o:HO}
theorem Un.any (u:Un fs ex H H1 h h1){b:Addr}{ob:Obj} (q:h.get? b=some ob) (n:H b=none) (hx:b∉ex):∃sl,h1.get? b=some { ob with slots:=sl }:=by
 by_cases hb:b∈fs
 ·exact u.slot b ob q n hb hx
 ·exact⟨ob.slots,u.keep b ob q n hb hx⟩
theorem Un.kept (k:∀b u,h.get? b=some u->h'.get? b=some u):Un fs ex H H h h' :=
 ⟨fun b ob q _ _ _=>k b ob q,fun b ob q _ _ _=>⟨ob.slots,k b ob q⟩,fun _ _ _ n _=>n,fun b ob q _=>⟨ob,k b ob q⟩,fun _ _ q=>q,fun _ _ _ q=>q,fun _ ps q=>⟨#[],by rw[q];simp⟩⟩
theorem Un.refl:Un fs ex H H h h:=Un.kept fun _ _ q=>q
theorem Un.laid (k:∀b u,h.get? b=some u->h'.get? b=some u)(hp:h.objs.size<=a)(hn:H a=none):Un fs ex H (upd H a o) h h' where
 keep:=fun b u q _ _ _=>k b u q
 slot:=fun b u q _ _ _=>⟨u.slots,k b u q⟩
 free:=fun b u q n _=>by rw[aI (Nat.ne_of_lt (Nat.lt_of_lt_of_le (Heap.lt_size q) hp))];exact n
 there:=fun b u q _=>⟨u,k b u q⟩
 tups:=fun b xs q=>by rw[aI (bB q hn)];exact q
 frzs:=fun b u xs q=>by rw[aI (bB q hn)];exact q
 tbls:=fun b ps q=>⟨#[],by rw[aI (bB q hn),q];simp⟩
theorem Un.write (mu:Mut (H x))(he:e=x∨H e=some (.own x))(k:∀b u,b≠e->h.get? b=some u->h'.get? b=some u)(heo:∃u,h'.get? e=some u):Un fs ex H (upd H x o) h h':=by
 have hx:∀b,H b=none->b≠x:=fun b n z=>by subst z;rw[n]at mu;exact mu
 have hb:∀b,H b=none->b≠e:=fun b n z=>by
  subst z;rcases he with r|r
  ·exact hx b n r
  ·rw[n]at r;cases r
 have hm:∀b u,H b=some u->¬Mut (some u)->b≠x:=fun b u q nm z=>by subst z;rw[q]at mu;exact nm mu
 refine⟨fun b u q n _ _=>k b u (hb b n) q,fun b u q n _ _=>⟨u.slots,k b u (hb b n) q⟩,fun b u q n _=>by rw[aI (hx b n)];exact n,fun b u q _=> ?_,
  fun b xs q=>by rw[aI (hm b _ q fun z=>z)];exact q,fun b u xs q=>by rw[aI (hm b _ q fun z=>z)];exact q,fun b ps q=>⟨#[],by rw[aI (hm b _ q fun z=>z),q];simp⟩⟩
 by_cases hbe:b=e
 ·subst hbe;exact heo
 ·exact⟨u,k b u hbe q⟩
end
def trk (h:Heap)(H:Hp):List Addr:=(List.range h.objs.size).filter fun a=>(H a).isSome
def lV (h:Heap)(H:Hp):Heap:=PySem.W.hideAll h (trk h H)
theorem D2 (h:Heap)(H:Hp):(lV h H).objs.size=h.objs.size:=PySem.W.hideAll_size _ _
theorem GQ {h:Heap}{H:Hp}{b:Addr}{o:Obj} (e:h.get? b=some o) (n:H b=none):(lV h H).get? b=some o :=
 PySem.W.hideAll_get _ e fun hm=>by
  have q:(H b).isSome=true:=(List.mem_filter.mp hm).2;rw[n]at q;simp at q
theorem J7 {h:Heap}{H:Hp}{b:Addr}{o:Obj} (e:(lV h H).get? b=some o):h.get? b=some o/\H b=none:=by
 have e':h.get? b=some o:=PySem.W.of_hideAll (trk h H) e;refine⟨e',?_⟩;cases q:H b with
 | none=>rfl
 | some x =>
  have hm:b∈trk h H:=List.mem_filter.mpr ⟨List.mem_range.mpr (Heap.lt_size e'),by simp[q]⟩;have z:(lV h H).get? b=none:=PySem.W.hideAll_none (trk h H) hm;rw[z]at e;cases e
end L2
namespace L2
open PySem PySem.Spec PyProof.Rows
structure Mod (K:PySem.W.Frag)(mg:Str->Option Value)(base:Heap):Prop where
 kin:K.In base
 glob:base.Ns mainGlobals mg
 blt:∃mb,base.Ns builtinsNs mb/\∀x:Str,x≠ "__name__" ->mb x=bootBuiltins x
 nolimit:base.NoLimit
structure Cx where
 prog:Program
 w:World
 K:PySem.W.Frag
 mg:Str->Option Value
 base:Heap
 A:Around
 N:List Str
 s₀:Shared
 H₀:Hp
 env:Env
 outer:List Env
 stack:List Env
 ex:List Addr
 fn:Str->Bool
 calm:Bool
 pn:List (Addr×Obj)
 xe:Value->Shared->Prop
def frs (l:List Env):List Addr:=l.filterMap (·.frame)
abbrev Cx.fs (X:Cx):List Addr:=frs X.outer
def Vis (sc:Scope)(x:Str):Prop:=sc.names.lookup x=some .local∨sc.names.lookup x=some .cell∨sc.names.lookup x=some .free
def Loc (sc:Scope)(x:Str):Prop:=sc.names.lookup x=some .local∨sc.names.lookup x=some .cell
def QJ (env:Env)(h:Heap)(m:Str->Option Value)(x:Str)(u:Value):Prop :=
 (env.kindOf x=some .local/\m x=some u)∨((env.kindOf x=some .cell∨env.kindOf x=some .free)/\∃c,env.cells.lookup x=some c/\h.IsCell c (some u))
structure Cx.Ok (X:Cx):Prop where
 mod:Mod X.K X.mg X.base
 kind:X.env.scope.kind= .function
 glob:X.env.globals=mainGlobals
 blt:X.env.builtins=builtinsNs
 above:X.s₀.heap.objs.size<=X.env.locals
 inj:∀x y c,X.env.cells.lookup x=some c->X.env.cells.lookup y=some c->x=y
 has:∀x,(X.env.kindOf x=some .cell∨X.env.kindOf x=some .free)->∃c,X.env.cells.lookup x=some c
 cab:∀x c,X.fn x=true->X.env.cells.lookup x=some c->X.s₀.heap.objs.size<=c
 hd:X.calm=true->X.A.handled=none
 frames:X.A.frames=some X.stack
 stk:X.stack=X.outer∨(X.stack=X.env::X.outer/\X.env.frame=some X.env.locals)
 exf:∀b∈X.ex,b≠X.env.locals/\∀x c,X.env.cells.lookup x=some c->c≠b
 bs:∀b o,X.base.get? b=some o->X.s₀.heap.get? b=some o/\X.H₀ b=none
 bsz:X.base.objs.size<=X.s₀.heap.objs.size
 noex:∀b o,X.base.get? b=some o->b∉X.ex
 exfs:∀b∈X.ex,b∉X.fs
 funs:X.s₀.heap.FunFrames X.base X.outer
 frf:∀b∈X.fs,X.H₀ b=none
structure Inv (X:Cx)(pins:List (Addr×Obj))(σ:List (Option V))(H:Hp)(s:Shared):Prop where
 ok:X.Ok
 os:s.os=X.s₀.os
 bare:AllBare s.gens
 base:Un X.fs X.ex X.H₀ H X.s₀.heap s.heap
 loc:∃m,s.heap.Ns X.env.locals m/\∀(i:Nat) (x:Str) (v:V),X.N[i]? =some x->σ[i]? =some (some v)->Vis X.env.scope x->∃u,RelV v u/\QJ X.env s.heap m x u
 cell:∀x c,X.env.cells.lookup x=some c->∃v,s.heap.IsCell c v
 free:H X.env.locals=none
 freeC:∀x c,X.env.cells.lookup x=some c->H c=none
 pin:∀p∈X.pn++pins,s.heap.get? p.1=some p.2/\H p.1=none/\p.1≠X.env.locals/\p.1∉X.fs/\∀v,p.2.data≠ .cell v
 hok:HOk X.prog X.w H s.heap
 len:σ.length=X.N.length
section
variable {X:Cx}{pins:List (Addr×Obj)}{σ:List (Option V)}{H H':Hp}{s:Shared}{h':Heap}
theorem Cx.Ok.nofr (ok:X.Ok){b:Addr}{o:Obj} (e:X.base.get? b=some o):b∉X.fs:=fun hb=>by
 have:=(ok.funs.mem hb).1;rw[e]at this;cases this
theorem Inv.bs (I:Inv X pins σ H s):∀b o,X.base.get? b=some o->s.heap.get? b=some o/\H b=none:=fun b o e =>
 ⟨I.base.keep b o (I.ok.bs b o e).1 (I.ok.bs b o e).2 (I.ok.nofr e) (I.ok.noex b o e),I.base.free b o (I.ok.bs b o e).1 (I.ok.bs b o e).2 (I.ok.noex b o e)⟩
theorem Inv.bk (I:Inv X pins σ H s):∀b o,X.base.get? b=some o->s.heap.get? b=some o:=fun b o e=>(I.bs b o e).1
theorem Inv.mod (I:Inv X pins σ H s):Mod X.K X.mg X.base:=I.ok.mod
theorem Inv.kIn (I:Inv X pins σ H s):X.K.In s.heap:=I.ok.mod.kin.keeps I.bk
theorem Inv.lt (I:Inv X pins σ H s):X.env.locals<s.heap.objs.size:=let ⟨_,hn,_⟩:=I.loc;hn.lt
theorem Inv.sz (I:Inv X pins σ H s):X.s₀.heap.objs.size<=s.heap.objs.size:=Nat.le_trans I.ok.above (Nat.le_of_lt I.lt)
theorem Inv.nofs (I:Inv X pins σ H s){a:Addr}(h:s.heap.objs.size<=a):a∉X.fs:=fun hb=>by
 obtain⟨_,o,ho,_⟩:=I.ok.funs.mem hb;exact absurd (Nat.lt_of_lt_of_le (Heap.lt_size ho) (Nat.le_trans I.sz h)) (Nat.lt_irrefl _)
theorem Inv.cne (I:Inv X pins σ H s):∀x c,X.env.cells.lookup x=some c->c≠X.env.locals:=fun x c e z=>by
 obtain⟨v,o,ho,hd⟩:=I.cell x c e;obtain⟨m,⟨o',es,ep,ho',hd',_⟩,_⟩:=I.loc;rw[z,ho']at ho;cases ho;rw[hd']at hd;cases hd
theorem Inv.funs (I:Inv X pins σ H s):s.heap.FunFrames X.base X.outer:=by
 have all:∀(l:List Env),(∀b∈frs l,b∈X.fs)->X.s₀.heap.FunFrames X.base l->s.heap.FunFrames X.base l:=by
  intro l
  induction l with
  | nil=>intro _ _;trivial
  | cons env r ih =>
   intro hs hl;obtain⟨hk,⟨L,o,hf,hn,ho,hd⟩,hr⟩:=hl;have hL:L∈X.fs:=hs L (by unfold frs;rw[List.filterMap_cons,hf];exact List.mem_cons_self);obtain⟨sl,e⟩:=I.base.slot L o ho (I.ok.frf L hL) hL fun z=>I.ok.exfs L z hL;exact⟨hk,⟨L,_,hf,hn,e,hd⟩,ih (fun b hb=>hs b (by unfold frs;rw[List.filterMap_cons,hf];exact List.mem_cons_of_mem _ hb)) hr⟩
 exact all X.outer (fun _ hb=>hb) I.ok.funs
theorem Inv.stack (I:Inv X pins σ H s):s.heap.FunFrames X.base X.stack:=by
 rcases I.ok.stk with e|⟨e,hf⟩
 ·rw[e];exact I.funs
 ·rw[e];obtain⟨m,hn,_⟩:=I.loc;refine .cons (by rw[I.ok.kind];decide) hf hn ?_ I.funs;exact Heap.get?_none_of_le (Nat.le_trans I.ok.bsz I.ok.above)
theorem Inv.stkSub (I:Inv X pins σ H s):∀b∈frs X.stack,b∈X.env.locals::X.fs:=fun b hb=>by
 rcases I.ok.stk with e|⟨e,hf⟩
 ·rw[e]at hb;exact List.mem_cons_of_mem _ hb
 ·rw[e]at hb;unfold frs at hb;rw[List.filterMap_cons,hf]at hb;exact hb
theorem Inv.stkFree (I:Inv X pins σ H s):∀b∈frs X.stack,H b=none:=fun b hb=>by
 rcases List.mem_cons.mp (I.stkSub b hb) with e|hb
 ·rw[e];exact I.free
 ·obtain⟨_,o,ho,_⟩:=I.ok.funs.mem hb;exact I.base.free b o ho (I.ok.frf b hb) fun z=>I.ok.exfs b z hb
theorem Inv.step {g':Array GenState}{t':Nat}{d':Drawn}{ch:List Addr} (I:Inv X pins σ H s)
  (hch:∀b∈ch,(b∈X.ex∨X.s₀.heap.objs.size<=b)/\b≠X.env.locals/\(∀x c,X.env.cells.lookup x=some c->c≠b)/\∀p∈X.pn++pins,p.1≠b)
  (keep:∀b o,b≠X.env.locals->b∉X.fs->b∉ch->s.heap.get? b=some o->H b=none->h'.get? b=some o)
  (slot:∀b o,b≠X.env.locals->b∈X.fs->b∉ch->s.heap.get? b=some o->H b=none->∃sl,h'.get? b=some { o with slots:=sl })(free:∀b o,b∉ch->s.heap.get? b=some o->H b=none->H' b=none)
  (there:∀b o,b∉ch->s.heap.get? b=some o->∃o',h'.get? b=some o')
  (tups:∀b xs,H b=some (.tup xs)->H' b=some (.tup xs))(frzs:∀b o u,H b=some (.frz o u)->H' b=some (.frz o u))(tbls:∀b ps,H b=some (.tbl ps)->∃more,H' b=some (.tbl (ps++more)))
  (ns:∀m,s.heap.Ns X.env.locals m->h'.Ns X.env.locals m)(hok:HOk X.prog X.w H' h')(hg:AllBare g') :
  Inv X pins σ H' { s with heap:=h',gens:=g',drawn:=d',toks:=t' }:=by
 have neL:∀b o,X.s₀.heap.get? b=some o->b≠X.env.locals:=fun b o e=>Nat.ne_of_lt (Nat.lt_of_lt_of_le (Heap.lt_size e) I.ok.above);have neC:∀b o,X.s₀.heap.get? b=some o->b∉X.ex->b∉ch:=fun b o e hx hb=>by
  rcases (hch b hb).1 with z|z
  ·exact hx z
  ·exact absurd (Nat.lt_of_lt_of_le (Heap.lt_size e) z) (Nat.lt_irrefl _)
 have cellK:∀x c,X.env.cells.lookup x=some c->∀v,s.heap.IsCell c v->h'.IsCell c v:=fun x c e v ⟨o,ho,hd⟩=>by
  have nch:c∉ch:=fun z=>(hch c z).2.2.1 x c e rfl
  by_cases hc:c∈X.fs
  ·obtain⟨sl,q⟩:=slot c o (I.cne x c e) hc nch ho (I.freeC x c e);exact⟨_,q,hd⟩
  ·exact⟨o,keep c o (I.cne x c e) hc nch ho (I.freeC x c e),hd⟩
 refine⟨I.ok,I.os,hg,⟨fun b o e n hb hx=> ?_,fun b o e n hb hx=> ?_,fun b o e n hx=> ?_,fun b o e hx=> ?_,fun b xs e=>tups b xs (I.base.tups b xs e),fun b o xs e=>frzs b o xs (I.base.frzs b o xs e),fun b ps e=> ?_⟩,?_,fun x c e=> ?_,?_,fun x c e=> ?_,fun p hp=> ?_,hok,I.len⟩
 ·exact keep b o (neL b o e) hb (neC b o e hx) (I.base.keep b o e n hb hx) (I.base.free b o e n hx)
 ·obtain⟨sl,e1⟩:=I.base.slot b o e n hb hx;obtain⟨sl',e2⟩:=slot b _ (neL b o e) hb (neC b o e hx) e1 (I.base.free b o e n hx);exact⟨sl',e2⟩
 ·obtain⟨o',e1⟩:=I.base.there b o e hx;exact free b o' (neC b o e hx) e1 (I.base.free b o e n hx)
 ·obtain⟨o',e1⟩:=I.base.there b o e hx;exact there b o' (neC b o e hx) e1
 ·obtain⟨m1,e1⟩:=I.base.tbls b ps e;obtain⟨m2,e2⟩:=tbls b _ e1;exact⟨m1++m2,by rw[e2,Array.append_assoc]⟩
 ·obtain⟨m,hn,hl⟩:=I.loc;refine⟨m,ns m hn,fun i x v e1 e2 e3=> ?_⟩;obtain⟨u,r,l⟩:=hl i x v e1 e2 e3;refine⟨u,r,?_⟩;rcases l with l|⟨k,c,e,z⟩
  ·exact .inl l
  ·exact .inr ⟨k,c,e,cellK x c e _ z⟩
 ·obtain⟨v,z⟩:=I.cell x c e;exact⟨v,cellK x c e v z⟩
 ·obtain⟨m,⟨o,_,_,ho,_⟩,_⟩:=I.loc;exact free _ o (fun z=>(hch _ z).2.1 rfl) ho I.free
 ·obtain⟨v,o,ho,hd⟩:=I.cell x c e;exact free c o (fun z=>(hch c z).2.2.1 x c e rfl) ho (I.freeC x c e)
 ·obtain⟨e,n,ne,nf,d⟩:=I.pin p hp;have nch:p.1∉ch:=fun z=>(hch p.1 z).2.2.2 p hp rfl;exact⟨keep p.1 p.2 ne nf nch e n,free p.1 p.2 nch e n,ne,nf,d⟩
theorem Inv.un {t':Nat}(I:Inv X pins σ H s)(u:Un X.fs [] H H' s.heap h')(hok:HOk X.prog X.w H' h'):Inv X pins σ H' { s with heap:=h',toks:=t' }:=by
 obtain⟨m,⟨o,es,ep,ho,r⟩,_⟩:=id I.loc;obtain⟨sl,hL⟩:=u.any ho I.free (by simp);exact I.step (g':=s.gens) (d':=s.drawn) (ch:=[]) (fun _ z=>nomatch z) (fun b o _ hb _ e n=>u.keep b o e n hb (by simp)) (fun b o _ hb _ e n=>u.slot b o e n hb (by simp)) (fun b o _ e n=>u.free b o e n (by simp)) (fun b o _ e=>u.there b o e (by simp)) u.tups u.frzs u.tbls (fun m' hm=>by
  obtain⟨o',es',ep',ho',r'⟩:=hm;rw[ho]at ho';cases ho';exact⟨_,es',ep',hL,r'⟩) hok I.bare
theorem Inv.call {g':Array GenState}{t':Nat}{d':Drawn}{ch:List Addr} (I:Inv X pins σ H s) (u:Un (frs X.stack) ch H H' s.heap h') (hok:HOk X.prog X.w H' h') (hg:AllBare g')
  (hch:∀b∈ch,(b∈X.ex∨X.s₀.heap.objs.size<=b)/\b≠X.env.locals/\(∀x c,X.env.cells.lookup x=some c->c≠b)/\∀p∈X.pn++pins,p.1≠b) :
  Inv X pins σ H' { s with heap:=h',gens:=g',drawn:=d',toks:=t' }:=by
 obtain⟨m,⟨o,es,ep,ho,r⟩,_⟩:=id I.loc;obtain⟨sl,hL⟩:=u.any ho I.free fun z=>(hch _ z).2.1 rfl;exact I.step (ch:=ch) hch (fun b o hL hb hc e n=>u.keep b o e n (fun z=>(List.mem_cons.mp (I.stkSub b z)).elim hL hb) hc) (fun b o _ _ hc e n=>u.any e n hc) (fun b o hc e n=>u.free b o e n hc) (fun b o hc e=>u.there b o e hc) u.tups u.frzs u.tbls (fun m' hm=>by
  obtain⟨o',es',ep',ho',r'⟩:=hm;rw[ho]at ho';cases ho';exact⟨_,es',ep',hL,r'⟩) hok hg
theorem Inv.turned {t':Nat}{it:Addr} (I:Inv X pins σ H s) (k:∀b o,b≠it->s.heap.get? b=some o->h'.get? b=some o) (hn:H it=none) (hL:it≠X.env.locals)
  (h1:it∈X.ex∨X.s₀.heap.objs.size<=it)(h2:∀x c,X.env.cells.lookup x=some c->c≠it)(h3:∀p∈X.pn++pins,p.1≠it):Inv X pins σ H { s with heap:=h',toks:=t' }:=by
 have nit:∀b u,H b=some u->b≠it:=fun b u e z=>by rw[z,hn]at e;cases e
 refine I.step (g':=s.gens) (d':=s.drawn) (ch:=[it]) (fun b hb=> ?_) (fun b o _ _ hc e _=>k b o (fun z=>hc (by simp[z])) e) (fun b o _ _ hc e _=>⟨o.slots,k b o (fun z=>hc (by simp[z])) e⟩) (fun _ _ _ _ n=>n)
  (fun b o hc e=>⟨o,k b o (fun z=>hc (by simp[z])) e⟩) (fun _ _ e=>e) (fun _ _ _ e=>e) (fun b ps e=>⟨#[],by rw[e];simp⟩) (fun m hm=> ?_) (fun b u e=> ?_) I.bare
 ·have e:b=it:=by simpa using hb
  subst e;exact⟨h1,hL,h2,h3⟩
 ·obtain⟨o,es,ep,ho,r⟩:=hm;exact⟨o,es,ep,k _ o (Ne.symm hL) ho,r⟩
 ·refine(I.hok b u e).stay (fun c v hc q=>k c v ?_ q) (fun _ q=>q) fun _ _ q=>q;rcases hc with z|z
  ·rw[z];exact nit b u e
  ·exact nit c _ z
theorem Inv.tok (I:Inv X pins σ H s)(t:Nat):Inv X pins σ H { s with toks:=t }:=I.un (h':=s.heap) (t':=t) Un.refl I.hok
theorem Inv.kept {t':Nat}(I:Inv X pins σ H s)(k:∀b u,s.heap.get? b=some u->h'.get? b=some u):Inv X pins σ H { s with heap:=h',toks:=t' }:=I.un (Un.kept k) (I.hok.kept k)
theorem Inv.laid {a:Addr}{o:HO}{t':Nat} (I:Inv X pins σ H s) (k:∀b u,s.heap.get? b=some u->h'.get? b=some u) (hp:s.heap.objs.size<=a) (new:ObjOk X.prog X.w (upd H a o) h' a o) :
  Inv X pins σ (upd H a o) { s with heap:=h',toks:=t' }:=I.un (Un.laid k hp (I.hok.fresh hp)) (I.hok.laid k hp new)
theorem Inv.write {x e:Addr}{o:HO}{t':Nat} (I:Inv X pins σ H s) (mu:Mut (H x)) (he:e=x∨H e=some (.own x)) (k:∀b u,b≠e->s.heap.get? b=some u->h'.get? b=some u) (heo:∃u,h'.get? e=some u)
  (new:ObjOk X.prog X.w (upd H x o) h' x o):Inv X pins σ (upd H x o) { s with heap:=h',toks:=t' }:=I.un (Un.write mu he k heo) (I.hok.write mu he k heo new)
theorem Inv.weak {σ':List (Option V)}(I:Inv X pins σ H s)(hl:σ'.length=σ.length)(w:∀(i:Nat) v,σ'[i]? =some (some v)->σ[i]? =some (some v)):Inv X pins σ' H s :=
 ⟨I.ok,I.os,I.bare,I.base,let ⟨m,hn,hl'⟩:=I.loc;⟨m,hn,fun i x v e1 e2 e3=>hl' i x v e1 (w i v e2) e3⟩,I.cell,I.free,I.freeC,I.pin,I.hok,hl.trans I.len⟩
theorem Inv.pins_of {pins':List (Addr×Obj)}(I:Inv X pins σ H s)(h:∀p∈pins',s.heap.get? p.1=some p.2/\H p.1=none/\p.1≠X.env.locals/\p.1∉X.fs/\∀v,p.2.data≠ .cell v):Inv X pins' σ H s :=
 ⟨I.ok,I.os,I.bare,I.base,I.loc,I.cell,I.free,I.freeC,fun p hp=>(List.mem_append.mp hp).elim (fun z=>I.pin p (List.mem_append_left _ z)) (h p),I.hok,I.len⟩
theorem pP {N:List Str}(hN:N.Nodup){i j:Nat}{x:Str} (a:N[i]? =some x) (b:N[j]? =some x):i=j:=by
 obtain⟨h1,e1⟩:=List.getElem?_eq_some_iff.mp a;obtain⟨h2,e2⟩:=List.getElem?_eq_some_iff.mp b;exact(List.getElem_inj hN).mp (e1.trans e2.symm)
theorem DM {M:Model}{A:Around}{E:Value->Shared->Prop}{i:Nat}{x:Str}{v:V}{u:Value}{Q:Unit->Shared->Prop} (I:Inv X pins σ H s) (hN:X.N.Nodup) (hi:X.N[i]? =some x) (hx:Loc X.env.scope x) (r:RelV v u)
  (h:∀s',Inv X pins (σ.set i (some v)) H s'->(∃a,Heap.SameBut a s.heap s'.heap/\(a=X.env.locals∨X.env.cells.lookup x=some a))->Q () s')(hf:X.fn x=true∨X.env.scope.names.lookup x=some .local:=by first|exact .inl rfl|exact .inr rfl|assumption):wpAny M A (storeName X.env x u) Q E s:=by
 obtain⟨m,hn,hl⟩:=id I.loc;have hcls:(X.env.scope.kind== .class||(X.env.scope.kind== .module&&X.env.locals !=X.env.globals))=false:=by rw[I.ok.kind];rfl
 have hiσ:i<σ.length:=by rw[I.len];exact(List.getElem?_eq_some_iff.mp hi).1
 have cne:=I.cne;have tracked:∀{a:Addr}{h':Heap},(∃o,s.heap.get? a=some o/\H a=none)->Heap.SameBut a s.heap h'->HOk X.prog X.w H h':=fun {a h'} ha hs b ob e=>by
  obtain⟨_,_,hfree⟩:=ha;refine(I.hok b ob e).stay (fun c w' hc q=>(hs.2 c ?_).trans q) (fun _ q=>q) fun _ _ q=>q;rintro rfl;rcases hc with rfl|hc
  ·rw[hfree]at e;cases e
  ·rw[hfree]at hc;cases hc
 rcases hx with hk|hk
 ·refine wpAny_storeName_local hk hn (fun h' hn' hs=> ?_) hcls;obtain⟨oL,_,_,hoL,_⟩:=id hn;refine h _ ⟨I.ok,I.os,I.bare,⟨fun b o e n hb hx=> ?_,fun b o e n hb hx=> ?_,I.base.free,fun b o e hx=> ?_,I.base.tups,I.base.frzs,I.base.tbls⟩,⟨_,hn',fun j y v' e1 e2 e3=> ?_⟩,fun y c e=> ?_,I.free,I.freeC,fun p hp=> ?_,tracked ⟨oL,hoL,I.free⟩ hs,by simpa using I.len⟩ ⟨_,hs,.inl rfl⟩
  ·exact(hs.2 b (Nat.ne_of_lt (Nat.lt_of_lt_of_le (Heap.lt_size e) I.ok.above))).trans (I.base.keep b o e n hb hx)
  ·obtain⟨sl,e1⟩:=I.base.slot b o e n hb hx;exact⟨sl,(hs.2 b (Nat.ne_of_lt (Nat.lt_of_lt_of_le (Heap.lt_size e) I.ok.above))).trans e1⟩
  ·obtain⟨o',e1⟩:=I.base.there b o e hx;exact⟨o',(hs.2 b (Nat.ne_of_lt (Nat.lt_of_lt_of_le (Heap.lt_size e) I.ok.above))).trans e1⟩
  ·by_cases hj:j=i
   ·subst hj;rw[hi]at e1;cases e1;rw[List.getElem?_set_self hiσ]at e2;cases e2;exact⟨u,r,.inl ⟨hk,by simp⟩⟩
   ·rw[List.getElem?_set_ne (Ne.symm hj)]at e2;obtain⟨u',r',q⟩:=hl j y v' e1 e2 e3;refine⟨u',r',?_⟩;rcases q with⟨k,e⟩|⟨k,c,e,z⟩
    ·refine .inl ⟨k,?_⟩;have:y≠x:=fun e=>hj (pP hN e1 (e▸hi));simp[this,e]
    ·exact .inr ⟨k,c,e,z.sameBut hs (cne y c e)⟩
  ·obtain⟨w',z⟩:=I.cell y c e;exact⟨w',z.sameBut hs (cne y c e)⟩
  ·obtain⟨e,n,ne,nf,d⟩:=I.pin p hp;exact⟨(hs.2 p.1 ne).trans e,n,ne,nf,d⟩
 ·have hfn:X.fn x=true:=by
   rcases hf with z|z
   ·exact z
   ·rw[z]at hk;cases hk
  obtain⟨c,hc⟩:=I.ok.has x (.inl hk);obtain⟨w',z⟩:=I.cell x c hc;refine wpAny_storeName_cell I.ok.kind hk hc z (fun h' hc' hs=> ?_);obtain⟨oc,hoc,hocd⟩:=id z;refine h { s with heap:=h' } ⟨I.ok,I.os,I.bare,⟨fun b o e n hb hx=> ?_,fun b o e n hb hx=> ?_,I.base.free,fun b o e hx=> ?_,I.base.tups,I.base.frzs,I.base.tbls⟩,⟨m,hn.sameBut hs (Ne.symm (cne x c hc)),fun j y v' e1 e2 e3=> ?_⟩,fun y c' e=> ?_,I.free,I.freeC,fun p hp=> ?_,tracked ⟨oc,hoc,I.freeC x c hc⟩ hs,by simpa using I.len⟩ ⟨c,hs,.inr hc⟩
  ·exact(hs.2 b (Nat.ne_of_lt (Nat.lt_of_lt_of_le (Heap.lt_size e) (I.ok.cab x c hfn hc)))).trans (I.base.keep b o e n hb hx)
  ·obtain⟨sl,e1⟩:=I.base.slot b o e n hb hx;exact⟨sl,(hs.2 b (Nat.ne_of_lt (Nat.lt_of_lt_of_le (Heap.lt_size e) (I.ok.cab x c hfn hc)))).trans e1⟩
  ·obtain⟨o',e1⟩:=I.base.there b o e hx;exact⟨o',(hs.2 b (Nat.ne_of_lt (Nat.lt_of_lt_of_le (Heap.lt_size e) (I.ok.cab x c hfn hc)))).trans e1⟩
  ·by_cases hj:j=i
   ·subst hj;rw[hi]at e1;cases e1;rw[List.getElem?_set_self hiσ]at e2;cases e2;exact⟨u,r,.inr ⟨.inl hk,c,hc,hc'⟩⟩
   ·rw[List.getElem?_set_ne (Ne.symm hj)]at e2;obtain⟨u',r',q⟩:=hl j y v' e1 e2 e3;refine⟨u',r',?_⟩;rcases q with q|⟨k,c',e,z'⟩
    ·exact .inl q
    ·refine .inr ⟨k,c',e,z'.sameBut hs ?_⟩;rintro rfl;exact hj (pP hN e1 (I.ok.inj _ _ _ e hc▸hi))
  ·by_cases hcc:c'=c
   ·subst hcc;exact⟨_,hc'⟩
   ·obtain⟨w2,z2⟩:=I.cell y c' e;exact⟨w2,z2.sameBut hs hcc⟩
  ·obtain⟨e,n,ne,nf,d⟩:=I.pin p hp;refine⟨(hs.2 p.1 ?_).trans e,n,ne,nf,d⟩;intro q;rw[q,hoc]at e;have q':oc=p.2:=Option.some.inj e;exact d w' (by rw[←q'];exact hocd)
theorem pZ {M:Model}{A:Around}{E:Value->Shared->Prop}{i:Nat}{x:Str}{v:V}{u:Value}{Q:Unit->Shared->Prop} (I:Inv X pins σ H s) (hN:X.N.Nodup) (hi:X.N[i]? =some x) (hx:Loc X.env.scope x) (r:RelV v u)
  (h:∀s',Inv X pins (σ.set i (some v)) H s'->Q () s')(hf:X.fn x=true∨X.env.scope.names.lookup x=some .local:=by first|exact .inl rfl|exact .inr rfl|assumption):wpAny M A (storeName X.env x u) Q E s :=
 DM I hN hi hx r (fun s' I' _=>h s' I') hf
theorem Inv.call' {s':Shared}{ch:List Addr} (I:Inv X pins σ H s) (ho:s'.os=s.os) (u:Un (frs X.stack) ch H H' s.heap s'.heap) (hok:HOk X.prog X.w H' s'.heap) (hg:AllBare s'.gens)
  (hch:∀b∈ch,(b∈X.ex∨X.s₀.heap.objs.size<=b)/\b≠X.env.locals/\(∀x c,X.env.cells.lookup x=some c->c≠b)/\∀p∈X.pn++pins,p.1≠b):Inv X pins σ H' s':=by
 obtain⟨h',g',d',t',o'⟩:=s';have e:o'=s.os:=ho;subst e;exact I.call (g':=g') (t':=t') (d':=d') u hok hg hch
end
abbrev XK:=Value->Option Addr->Hp->Prop
abbrev St:=List (Option V)
abbrev VK:=V->Hp->Prop
abbrev TE:=St->Hp->VK->Prop
abbrev TT:=St->Hp->(Bool->Hp->Prop)->Prop
abbrev TA:=St->Hp->(List V->Hp->Prop)->Prop
structure gE where
 nx:St->Hp->Prop
 rt:VK
 bk:St->Hp->Prop:=fun _ _=>False
 ct:St->Hp->Prop:=fun _ _=>False
abbrev TS:=gE->St->Hp->Prop
def EP (X:Cx)(pins:List (Addr×Obj))(σ:St)(Q:VK)(u:Value)(s':Shared):Prop:=∃v H',Inv X pins σ H' s'/\RelV v u/\Q v H'
def TP (X:Cx)(pins:List (Addr×Obj))(σ:St)(Q:Bool->Hp->Prop)(b:Bool)(s':Shared):Prop:=∃H',Inv X pins σ H' s'/\Q b H'
def AP (X:Cx)(pins:List (Addr×Obj))(σ:St)(Q:List V->Hp->Prop)(us:List Value)(s':Shared):Prop:=∃vs H',Inv X pins σ H' s'/\Vals vs us/\Q vs H'
def SP (X:Cx)(pins:List (Addr×Obj))(D:gE)(f:Flow)(s':Shared):Prop :=
 match f with
 | .next=>∃σ' H',Inv X pins σ' H' s'/\D.nx σ' H'
 | .brk=>∃σ' H',Inv X pins σ' H' s'/\D.bk σ' H'
 | .cont=>∃σ' H',Inv X pins σ' H' s'/\D.ct σ' H'
 | .ret u=>∃v σ' H',Inv X pins σ' H' s'/\RelV v u/\D.rt v H'
def PE (X:Cx)(e:Expr)(t:TE):Prop :=
 ∀(pins:List (Addr×Obj)) (s:Shared) (σ:St) (H:Hp) (Q:VK),Inv X pins σ H s->t σ H Q->wpAny (model X.prog X.w) X.A (eval e X.env) (EP X pins σ Q) X.xe s
def PT (X:Cx)(e:Expr)(t:TT):Prop :=
 ∀(pins:List (Addr×Obj)) (s:Shared) (σ:St) (H:Hp) (Q:Bool->Hp->Prop),Inv X pins σ H s->t σ H Q->wpAny (model X.prog X.w) X.A (isTrue e X.env (eval e X.env)) (TP X pins σ Q) X.xe s
def PW (X:Cx)(e:Expr)(t:TT):Prop :=
 ∀(whole:Sem Value) (pins:List (Addr×Obj)) (s:Shared) (σ:St) (H:Hp) (Q:Bool->Hp->Prop),Inv X pins σ H s->t σ H Q->wpAny (model X.prog X.w) X.A (isTrue e X.env whole) (TP X pins σ Q) X.xe s
theorem PW.pt {X:Cx}{e:Expr}{t:TT} (h:PW X e t):PT X e t:=h _
def PA (X:Cx)(es:List Expr)(t:TA):Prop :=
 ∀(pos:Pos) (pins:List (Addr×Obj)) (s:Shared) (σ:St) (H:Hp) (Q:List V->Hp->Prop),Inv X pins σ H s->t σ H Q->wpAny (model X.prog X.w) X.A (spliced (backTo pos (starEach es X.env))) (AP X pins σ Q) X.xe s
def PS (X:Cx)(st:Stmt)(t:TS):Prop :=
 ∀(pins:List (Addr×Obj)) (s:Shared) (σ:St) (H:Hp) (D:gE),Inv X pins σ H s->t D σ H->wpAny (model X.prog X.w) X.A (exec st X.env) (SP X pins D) X.xe s
def PSs (X:Cx)(st:List Stmt)(t:TS):Prop :=
 ∀(pins:List (Addr×Obj)) (s:Shared) (σ:St) (H:Hp) (D:gE),Inv X pins σ H s->t D σ H->wpAny (model X.prog X.w) X.A (execs st X.env) (SP X pins D) X.xe s
theorem thn {α:Type}{t:Sem α}{Q Q':α->Shared->Prop}{M:Model}{A:Around}{E:Value->Shared->Prop}{s:Shared} (h:wpAny M A t Q E s) (hQ:∀a s,Q a s->Q' a s):wpAny M A t Q' E s:=wpAny_mono h hQ fun _ _ x=>x
end L2
namespace L2
open PySem PySem.Spec PyProof.Rows
section
variable {X:Cx}
def jG (i:Nat):TE:=fun σ H Q=>∃v,σ[i]? =some (some v)/\Q v H
def tC (v:V):TE:=fun _ H Q=>Q v H
theorem N0 {i:Nat}{x:Str}{pos:Pos} (hN:X.N[i]? =some x) (hv:Vis X.env.scope x) (hd:(x==("__debug__" :Str))=false:=by decide) (hcd:(x==("__classdict__" :Str))=false:=by decide):PE X (.Name x pos) (jG i):=by
 intro pins s σ H Q I h;obtain⟨v,e,h⟩:=h;obtain⟨m,hn,hl⟩:=I.loc;obtain⟨u,r,l⟩:=hl i x v hN e hv;have fin:EP X pins σ Q u s:=⟨v,H,I,r,h⟩
 rcases l with⟨hk,hm⟩|⟨hk,c,hc,hcell⟩
 ·exact wpAny_Name (wpAny_loadName_local I.ok.kind hk hn hm fin) hd
 ·rcases hk with hk|hk
  ·exact wpAny_Name (wpAny_loadName_cell I.ok.kind hk hc hcell fin) hd
  ·exact wpAny_Name (wpAny_loadName_free I.ok.kind hk hc hcell fin hcd) hd
theorem aC {i j pos}:PE X (.Constant (.int i) j pos) (tC (.int i)):=fun _ _ _ H _ I h=>wpAny_Constant_int ⟨.int i,H,I.tok _,⟨_,rfl⟩,h⟩
theorem jR {b j pos}:PE X (.Constant (.bool b) j pos) (tC (.bl b)):=fun _ _ _ H _ I h=>Constant_bool ⟨.bl b,H,I,rfl,h⟩
theorem L6 {j pos}:PE X (.Constant .none j pos) (tC .non):=fun _ _ _ H _ I h=>Constant_none ⟨.non,H,I,rfl,h⟩
theorem aJ {x j pos}:PE X (.Constant (.str x) j pos) (tC (.str x)):=fun _ _ _ H _ I h=>Calls.Constant_str ⟨.str x,H,I.tok _,⟨_,rfl⟩,h⟩
def Gl (X:Cx)(x:Str):Prop:=X.env.kindOf x=some .globalImplicit
theorem kU {E:Value->Shared->Prop}{pins:List (Addr×Obj)}{s:Shared}{σ:St}{H:Hp}{x:Str}{u:Value}{pos:Pos}{Q:Value->Shared->Prop} (I:Inv X pins σ H s) (hg:Gl X x) (hm:X.mg x=some u) (h:Q u s)
  (hd:(x==("__debug__" :Str))=false:=by decide):wpAny (model X.prog X.w) X.A (eval (.Name x pos) X.env) Q E s :=
 Calls.Name_function_global I.ok.kind hg (Calls.loadGlobal_global (by rw[I.ok.glob];exact I.mod.glob.keeps I.bk) hm h) hd
theorem nU {E:Value->Shared->Prop}{pins:List (Addr×Obj)}{s:Shared}{σ:St}{H:Hp}{x:Str}{u:Value}{pos:Pos}{Q:Value->Shared->Prop} (I:Inv X pins σ H s) (hg:Gl X x) (hm:X.mg x=none) (hv:bootBuiltins x=some u) (h:Q u s)
  (hn:x≠ "__name__" :=by decide)(hd:(x==("__debug__" :Str))=false:=by decide):wpAny (model X.prog X.w) X.A (eval (.Name x pos) X.env) Q E s:=by
 obtain⟨mb,h1,h2⟩:=I.mod.blt;exact Calls.Name_function_global I.ok.kind hg (Calls.loadGlobal_builtin (by rw[I.ok.glob];exact I.mod.glob.keeps I.bk) hm (by rw[I.ok.blt];exact h1.keeps I.bk) ((h2 x hn).trans hv) h) hd
theorem z8 {x:Str}{v:V}{u:Value}{pos:Pos} (hg:Gl X x) (hm:X.mg x=some u) (r:RelV v u) (hd:(x==("__debug__" :Str))=false:=by decide):PE X (.Name x pos) (tC v) :=
 fun _ _ _ H _ I h=>kU I hg hm ⟨v,H,I,r,h⟩ hd
theorem JY {x:Str}{v:V}{u:Value}{pos:Pos} (hg:Gl X x) (hm:X.mg x=none) (hv:bootBuiltins x=some u) (r:RelV v u) (hn:x≠ "__name__" :=by decide) (hd:(x==("__debug__" :Str))=false:=by decide):PE X (.Name x pos) (tC v) :=
 fun _ _ _ H _ I h=>nU I hg hm hv ⟨v,H,I,r,h⟩ hn hd
variable {a b:Expr}{ta tb:TE}{pos:Pos}
def tB (t:TE):TT:=fun σ H Q=>t σ H fun x H1=>∃c,x= .bl c/\Q c H1
theorem fW {e:Expr}{t:TE} (h:PE X e t) (he:∀whole,isTrue e X.env whole=(do let v ←whole;standAt e.pos;holding [v] (truthy v)):=by intro _;rfl):PT X e (tB t):=by
 intro pins s σ H Q I hw;refine isTrue_plain (thn (h pins s σ H _ I hw) fun v s1 ⟨x,H1,I1,r1,q1⟩=> ?_) (he _);obtain⟨d,rfl,q⟩:=q1;cases r1;exact wpAny_truthy_bool ⟨H1,I1,q⟩
variable {tA tB':TT}{rest:List Expr}
def tOr (t u:TT):TT:=fun σ H Q=>t σ H fun c H1=>if c=true then Q true H1 else u σ H1 Q
def M5 (t:TT):TT:=fun σ H Q=>t σ H fun c H1=>Q (!c) H1
theorem wW (ha:PT X a tA):PW X (.BoolOp .Or [a] pos) tA:=by
 intro wh pins s σ H Q I h;refine isTrue_or (thn (ha pins s σ H Q I h) fun c s1 e=> ?_);cases c with
 | false=>exact isTrue_or_nil e
 | true=>exact e
theorem q0 (ha:PT X a tA)(hb:PW X (.BoolOp .Or (b::rest) pos) tB'):PW X (.BoolOp .Or (a::b::rest) pos) (tOr tA tB'):=by
 intro wh pins s σ H Q I h;refine isTrue_or (thn (ha pins s σ H _ I h) fun c s1 ⟨H1,I1,q1⟩=> ?_);cases c with
 | true=>exact⟨H1,I1,q1⟩
 | false=>exact hb wh pins s1 σ H1 Q I1 q1
theorem fK (ha:PT X a tA):PT X (.UnaryOp .Not a pos) (M5 tA):=by
 intro pins s σ H Q I h;exact isTrue_not (ha pins s σ H (fun c H1=>Q (!c) H1) I h)
def ID (ta tb:TE):TE:=fun σ H Q=>ta σ H fun x H1=>∃c,x= .bl c/\if c=true then tb σ H1 Q else Q (.bl false) H1
def NN (ta tb:TE):TE:=fun σ H Q=>ta σ H fun x H1=>∃c,x= .bl c/\if c=true then Q (.bl true) H1 else tb σ H1 Q
def IH (ta:TE):TE:=fun σ H Q=>ta σ H fun x H1=>∃c,x= .bl c/\Q (.bl (!c)) H1
theorem wP {op}{t:TE} (h:PE X a t):PE X (.BoolOp op [a] pos) t:=fun pins s σ H Q I hw=>BoolOp_one (h pins s σ H Q I hw)
theorem wZ (ha:PE X a ta)(hb:PE X (.BoolOp .And (b::rest) pos) tb):PE X (.BoolOp .And (a::b::rest) pos) (ID ta tb):=by
 intro pins s σ H Q I h;refine BoolOp_and (thn (ha pins s σ H _ I h) fun v s1 ⟨x,H1,I1,r1,q1⟩=> ?_);obtain⟨c,rfl,q1⟩:=q1;cases r1;refine wpAny_truthy_bool ?_;cases c with
 | true=>exact hb pins s1 σ H1 Q I1 q1
 | false=>exact⟨.bl false,H1,I1,rfl,q1⟩
theorem OX (ha:PE X a ta)(hb:PE X (.BoolOp .Or (b::rest) pos) tb):PE X (.BoolOp .Or (a::b::rest) pos) (NN ta tb):=by
 intro pins s σ H Q I h;refine BoolOp_or (thn (ha pins s σ H _ I h) fun v s1 ⟨x,H1,I1,r1,q1⟩=> ?_);obtain⟨c,rfl,q1⟩:=q1;cases r1;refine wpAny_truthy_bool ?_;cases c with
 | false=>exact hb pins s1 σ H1 Q I1 q1
 | true=>exact⟨.bl true,H1,I1,rfl,q1⟩
theorem DE (ha:PE X a ta):PE X (.UnaryOp .Not a pos) (IH ta):=by
 intro pins s σ H Q I h;refine UnaryOp_ (thn (ha pins s σ H _ I h) fun v s1 ⟨x,H1,I1,r1,q1⟩=> ?_);obtain⟨c,rfl,q1⟩:=q1;cases r1;exact not_of (wpAny_truthy_bool ⟨.bl (!c),H1,I1,rfl,q1⟩)
def tIf (t:TT)(ta tb:TE):TE:=fun σ H Q=>t σ H fun c H1=>if c=true then ta σ H1 Q else tb σ H1 Q
theorem wV {c:Expr}(hc:PT X c tA)(ha:PE X a ta)(hb:PE X b tb):PE X (.IfExp c a b pos) (tIf tA ta tb):=by
 intro pins s σ H Q I h;refine wpAny_IfExp (thn (hc pins s σ H _ I h) fun d s1 ⟨H1,I1,q1⟩=> ?_);cases d with
 | true=>exact ha pins s1 σ H1 Q I1 q1
 | false=>exact hb pins s1 σ H1 Q I1 q1
end
end L2
namespace L2
open PySem PySem.Spec PyProof.Rows
def SqL (K:PySem.W.Frag)(H:Hp)(a:Addr)(xs:List V):Prop :=
 Rd H a (.lst xs) ∨
  ∃(o:Obj) (its:Array Value) (n:Nat),K.lookup a=some o/\o.cls= .type "list" /\o.dict=none/\o.data= .seq its n/\its.size<=sizeLine/\Vals xs its.toList
def SqT (K:PySem.W.Frag)(H:Hp)(a:Addr)(xs:List V):Prop :=
 Rd H a (.tup xs) ∨
  ∃(o:Obj) (its:Array Value) (n:Nat),K.lookup a=some o/\o.cls= .type "tuple" /\o.data= .seq its n/\its.size<=sizeLine/\Vals xs its.toList
def QK:Value->Option V
 | .none=>some .non
 | .bool b=>some (.bl b)
 | .int i _=>some (.int i)
 | .str x _=>some (.str x)
 | .bytes b _=>some (.byt b)
 | .float b _=>some (.flt b)
 | .ref a=>some (.ref a)
 | .type n=>some (.ty n)
 | _=>none
theorem RelV.abs {x:V}{u:Value} (r:RelV x u):QK u=some x:=by
 cases x with
 | non=>cases r;rfl
 | bl _=>cases r;rfl
 | int _=>obtain⟨t,rfl⟩:=r;rfl
 | str _=>obtain⟨t,rfl⟩:=r;rfl
 | byt _=>obtain⟨t,rfl⟩:=r;rfl
 | flt _=>obtain⟨t,rfl⟩:=r;rfl
 | ref _=>cases r;rfl
 | ty _=>cases r;rfl
theorem RelV.inj {x y:V}{u:Value} (r:RelV x u) (q:RelV y u):x=y:=Option.some.inj (r.abs.symm.trans q.abs)
theorem Vals.inj:∀{xs ys:List V}{us:List Value},Vals xs us->Vals ys us->xs=ys
 | _,_,_,.nil,.nil=>rfl
 | _,_,_,.cons r t,.cons r' t'=>by rw[r.inj r',Vals.inj t t']
section
variable {X:Cx}{pins:List (Addr×Obj)}{σ:St}{H:Hp}{s:Shared}{a:Addr}{xs ys:List V}
theorem SqL.of {K:PySem.W.Frag}(h:H a=some (.lst xs)):SqL K H a xs:= .inl (.inl h)
theorem SqT.of {K:PySem.W.Frag}(h:H a=some (.tup xs)):SqT K H a xs:= .inl (.inl h)
theorem Inv.list (I:Inv X pins σ H s)(h:SqL X.K H a xs):∃its:List Value,Vals xs its/\PlainL s.heap a its.toArray/\xs.length<=sizeLine:=by
 rcases h with h|⟨o,its,n,hk,hc,hd,hs,hz,r⟩
 ·obtain⟨z,its,n,r,e⟩:=h.ok I.hok;exact⟨its,r,⟨_,n,e,rfl,rfl,rfl⟩,z⟩
 ·refine⟨its.toList,r,⟨o,n,I.kIn a o hk,hc,hd,by simpa using hs⟩,?_⟩;have e:=r.length;simp only[Array.length_toList]at e
  lia
theorem Inv.tuple (I:Inv X pins σ H s)(h:SqT X.K H a xs):∃its:List Value,Vals xs its/\IsTup s.heap a its.toArray/\xs.length<=sizeLine:=by
 rcases h with h|⟨o,its,n,hk,hc,hs,hz,r⟩
 ·obtain⟨z,its,r,p⟩:=h.ok I.hok;exact⟨its,r,p,z⟩
 ·refine⟨its.toList,r,⟨o,I.kIn a o hk,hc,n,by simpa using hs⟩,?_⟩;have e:=r.length;simp only[Array.length_toList]at e
  lia
theorem Inv.list_inj (I:Inv X pins σ H s)(h:SqL X.K H a xs)(h':SqL X.K H a ys):xs=ys:=by
 obtain⟨its,r,⟨o,n,e,_,_,d⟩,_⟩:=I.list h;obtain⟨its',r',⟨o',n',e',_,_,d'⟩,_⟩:=I.list h';rw[e]at e';cases e';rw[d]at d';injection d' with d1 _;have:its=its':=by simpa using congrArg Array.toList d1
 subst this;exact r.inj r'
theorem Inv.tuple_inj (I:Inv X pins σ H s)(h:SqT X.K H a xs)(h':SqT X.K H a ys):xs=ys:=by
 obtain⟨its,r,⟨o,e,_,n,d⟩,_⟩:=I.tuple h;obtain⟨its',r',⟨o',e',_,n',d'⟩,_⟩:=I.tuple h';rw[e]at e';cases e';rw[d]at d';injection d' with d1 _;have:its=its':=by simpa using congrArg Array.toList d1
 subst this;exact r.inj r'
end
abbrev Cx.wish (X:Cx)(E:Value->Shared->Prop):Cx:={ X with xe:=E }
abbrev Cx.nox (X:Cx):Cx:=X.wish fun _ _=>False
theorem Cx.Ok.wish {X:Cx}(ok:X.Ok)(E:Value->Shared->Prop):(X.wish E).Ok :=
 ⟨ok.mod,ok.kind,ok.glob,ok.blt,ok.above,ok.inj,ok.has,ok.cab,ok.hd,ok.frames,ok.stk,ok.exf,ok.bs,ok.bsz,ok.noex,ok.exfs,ok.funs,ok.frf⟩
theorem Cx.Ok.unwish {X:Cx}{E:Value->Shared->Prop} (ok:(X.wish E).Ok):X.Ok :=
 ⟨ok.mod,ok.kind,ok.glob,ok.blt,ok.above,ok.inj,ok.has,ok.cab,ok.hd,ok.frames,ok.stk,ok.exf,ok.bs,ok.bsz,ok.noex,ok.exfs,ok.funs,ok.frf⟩
section
variable {X:Cx}{pins:List (Addr×Obj)}{σ:St}{H:Hp}{s:Shared}{E:Value->Shared->Prop}
theorem Inv.wish (I:Inv X pins σ H s)(E:Value->Shared->Prop):Inv (X.wish E) pins σ H s:=⟨I.ok.wish E,I.os,I.bare,I.base,I.loc,I.cell,I.free,I.freeC,I.pin,I.hok,I.len⟩
theorem Inv.unwish (I:Inv (X.wish E) pins σ H s):Inv X pins σ H s:=⟨I.ok.unwish,I.os,I.bare,I.base,I.loc,I.cell,I.free,I.freeC,I.pin,I.hok,I.len⟩
theorem SP.unwish {D:gE}{f:Flow}{s':Shared} (h:SP (X.wish E) pins D f s'):SP X pins D f s':=by
 cases f with
 | next=>obtain⟨σ',H',I,q⟩:=h;exact⟨σ',H',I.unwish,q⟩
 | brk=>obtain⟨σ',H',I,q⟩:=h;exact⟨σ',H',I.unwish,q⟩
 | cont=>obtain⟨σ',H',I,q⟩:=h;exact⟨σ',H',I.unwish,q⟩
 | ret u=>obtain⟨v,σ',H',I,r,q⟩:=h;exact⟨v,σ',H',I.unwish,r,q⟩
theorem PSs.nox {st:List Stmt}{t:TS} (h:PSs X.nox st t):PSs X st t:=fun pins s σ H D I hw =>
 wpAny_mono (h pins s σ H D (I.wish _) hw) (fun _ _ q=>q.unwish) fun _ _ z=>False.elim z
end
section
variable {X:Cx}{st:Stmt}{rest:List Stmt}{t u:TS}{e:Expr}{te:TE}{pos:Pos}
def IF:TS:=fun D σ H=>D.nx σ H
def vH (t u:TS):TS:=fun D σ H=>t { D with nx:=u D } σ H
theorem a9:PSs X [] IF:=fun _ _ σ H _ I h=>wpAny_execs_nil ⟨σ,H,I,h⟩
theorem aF (h1:PS X st t)(h2:PSs X rest u):PSs X (st::rest) (vH t u):=by
 intro pins s σ H D I h;refine wpAny_execs_cons (thn (h1 pins s σ H { D with nx:=u D } I h) fun f s1 q=> ?_);cases f with
 | next =>
  obtain⟨σ',H',I',q⟩:=q;exact h2 pins s1 σ' H' D I' q
 | ret v=>exact q
 | brk=>exact q
 | cont=>exact q
theorem aH (h1:PS X st t):PSs X [st] t:=by
 intro pins s σ H D I h;refine wpAny_execs_cons (thn (h1 pins s σ H D I h) fun f s1 q=> ?_);cases f with
 | next=>exact wpAny_execs_nil q
 | ret v=>exact q
 | brk=>exact q
 | cont=>exact q
theorem Inv.quiet {pins:List (Addr×Obj)}{σ:St}{H:Hp}{s:Shared} (I:Inv X pins σ H s):interactive X.env=false:=by simp[interactive,I.ok.kind]
def IT (te:TE):TS:=fun D σ H=>te σ H fun _ H1=>D.nx σ H1
theorem r0 (he:PE X e te)(hs:swapsWith e none pos.line X.env=pure false:=by rfl):PS X (.Expr e pos) (IT te):=by
 intro pins s σ H D I h;exact wpAny_Expr_any (thn (he pins s σ H _ I h) fun v s1 ⟨x,H1,I1,r1,q1⟩=>⟨σ,H1,I1,q1⟩) I.quiet hs
def NQ (te:TE):TS:=fun D σ H=>te σ H D.rt
theorem aP (he:PE X e te):PS X (.Return (some e) pos) (NQ te):=by
 intro pins s σ H D I h;exact wpAny_Return_some (thn (he pins s σ H _ I h) fun v s1 ⟨x,H1,I1,r1,q1⟩=>⟨x,σ,H1,I1,r1,q1⟩)
def BY (c:TT)(t u:TS):TS:=fun D σ H=>c σ H fun b H1=>if b=true then t D σ H1 else u D σ H1
theorem bV {c:Expr}{a b:List Stmt}{tc:TT} (hc:PT X c tc) (ha:PSs X a t) (hb:PSs X b u):PS X (.If c a b pos) (BY tc t u):=by
 intro pins s σ H D I h;refine wpAny_If (thn (hc pins s σ H _ I h) fun d s1 ⟨H1,I1,q1⟩=> ?_);cases d with
 | true=>exact ha pins s1 σ H1 D I1 q1
 | false=>exact hb pins s1 σ H1 D I1 q1
end
abbrev TG:=V->St->Hp->(St->Hp->Prop)->Prop
abbrev TGs:=List V->St->Hp->(St->Hp->Prop)->Prop
def PG (X:Cx)(target:Expr)(t:TG):Prop :=
 ∀(pins:List (Addr×Obj)) (s:Shared) (σ:St) (H:Hp) (v:V) (u:Value) (Q:St->Hp->Prop),Inv X pins σ H s->RelV v u->t v σ H Q →
  wpAny (model X.prog X.w) X.A (assign target X.env u) (fun _ s'=>∃σ' H',Inv X pins σ' H' s'/\Q σ' H') X.xe s
def PGs (X:Cx)(ts:List Expr)(t:TGs):Prop :=
 ∀(pins:List (Addr×Obj)) (s:Shared) (σ:St) (H:Hp) (vs:List V) (us:List Value) (Q:St->Hp->Prop),Inv X pins σ H s->Vals vs us->t vs σ H Q →
  wpAny (model X.prog X.w) X.A (assignInOrder ((assignEach ts X.env).map (·.2)) us) (fun _ s'=>∃σ' H',Inv X pins σ' H' s'/\Q σ' H') X.xe s
section
variable {X:Cx}{pos:Pos}
def dH (i:Nat):TG:=fun v σ H Q=>Q (σ.set i (some v)) H
theorem bQ {i:Nat}{x:Str} (hN:X.N.Nodup) (hi:X.N[i]? =some x) (hx:Loc X.env.scope x) (hf:X.fn x=true∨X.env.scope.names.lookup x=some .local:=by first|exact .inl rfl|exact .inr rfl|assumption):PG X (.Name x pos) (dH i):=by
 intro pins s σ H v u Q I r h;exact wpAny_assign_Name (pZ I hN hi hx r (fun s' I'=>⟨_,H,I',h⟩) hf)
def u8:TGs:=fun vs σ H Q=>vs=[]/\Q σ H
def iW (t:TG)(u:TGs):TGs:=fun vs σ H Q=>∃v r,vs=v::r/\t v σ H fun σ' H'=>u r σ' H' Q
theorem k7:PGs X [] u8:=by
 intro pins s σ H vs us Q I r h;obtain⟨e,h⟩:=h;subst e;cases r;exact assignInOrder_nil ⟨σ,H,I,h⟩
theorem cS {e:Expr}{es:List Expr}{t:TG}{u:TGs} (h1:PG X e t) (h2:PGs X es u)
  (hs:(assignEach (e::es) X.env).map (·.2)=assign e X.env::(assignEach es X.env).map (·.2):=by rfl):PGs X (e::es) (iW t u):=by
 intro pins s σ H vs us Q I r h;obtain⟨v,vr,e1,h⟩:=h;subst e1;cases r with
 | cons r rr =>
  rw[hs];refine assignInOrder_cons (thn (h1 pins s σ H _ _ _ I r h) fun _ s1 ⟨σ1,H1,I1,q1⟩=> ?_);exact h2 pins s1 σ1 H1 _ _ Q I1 rr q1
def sG (K:PySem.W.Frag)(n:Nat)(t:TGs):TG:=fun v σ H Q=>∃a xs,v= .ref a/\SqT K H a xs/\xs.length=n/\t xs σ H Q
theorem CY {es:List Expr}{k:Nat}{t:TGs}{n:Nat} (hc:X.calm=true) (h:PGs X es t)
  (hn:(assignEach es X.env).length=n:=by rfl)(hst:(assignEach es X.env).findIdx? (·.1)=none:=by rfl):PG X (.Tuple es k pos) (sG X.K n t):=by
 intro pins s σ H v u Q I r hw;obtain⟨a,xs,e1,hq,hl,hw⟩:=hw;subst e1;cases r;obtain⟨its,rv,ht,hz⟩:=I.tuple hq;refine assign_Tuple_tuple (I.ok.hd hc) ht (by simp[hn,←hl,rv.length]) hst fun h' hx=> ?_;have I1:Inv X pins σ H { s with heap:=h' }:=I.kept (t':=s.toks) fun b o e=>hx b o (Nat.ne_of_lt (Heap.lt_size e)) e;exact h pins _ σ H xs _ Q I1 (by simpa using rv) hw
def G0 (te:TE)(g:TG):TS:=fun D σ H=>te σ H fun x H1=>g x σ H1 D.nx
theorem cB {i:Nat}{x:Str}{e:Expr}{te:TE}{pos':Pos} (hN:X.N.Nodup) (hi:X.N[i]? =some x) (hx:Loc X.env.scope x) (he:PE X e te) (hs:swapsWith e (some (.Name x pos')) pos.line X.env=pure false:=by rfl) (hf:X.fn x=true∨X.env.scope.names.lookup x=some .local:=by first|exact .inl rfl|exact .inr rfl|assumption) :
  PS X (.Assign [.Name x pos'] e pos) (G0 te (dH i)):=by
 intro pins s σ H D I h;refine wpAny_Assign_Name (thn (he pins s σ H _ I h) fun v s1 ⟨y,H1,I1,r1,q1⟩=> ?_) hs;exact pZ I1 hN hi hx r1 (fun s2 I2=>⟨_,H1,I2,q1⟩) hf
end
section
variable {X:Cx}{pos:Pos}
end
structure It where
 go:Nat->Hp->Prop
 yld:Nat->Hp->V->Hp->Prop
 stop:Nat->Hp->Prop
def eO (X:Cx)(pins:List (Addr×Obj))(H:Hp)(b:Addr):Prop :=
 H b=none/\b≠X.env.locals/\b∉X.fs/\(b∈X.ex∨X.s₀.heap.objs.size<=b)/\(∀x c,X.env.cells.lookup x=some c->c≠b)/\∀p∈X.pn++pins,p.1≠b
theorem Inv.fpOk {X:Cx}{pins:List (Addr×Obj)}{σ:St}{H H':Hp}{s:Shared}{b:Addr} (I:Inv X pins σ H s) (hb:s.heap.objs.size<=b) (hn:H' b=none):eO X pins H' b:=by
 refine⟨hn,Nat.ne_of_gt (Nat.lt_of_lt_of_le I.lt hb),I.nofs hb,.inr (Nat.le_trans I.sz hb),fun x c e z=> ?_,fun p hp z=> ?_⟩
 ·obtain⟨v,q⟩:=I.cell x c e;exact absurd (Nat.lt_of_lt_of_le q.lt (by rw[z];exact hb)) (Nat.lt_irrefl _)
 ·exact absurd (Nat.lt_of_lt_of_le (Heap.lt_size (I.pin p hp).1) (by rw[z];exact hb)) (Nat.lt_irrefl _)
structure lG (P:Program)(w:World)(K:PySem.W.Frag)(tg:Expr)(J:It)(fp:List Addr)(it:Addr)(tn:Nat->Heap->Prop):Prop where
 mem:it∈fp
 obj:∀i h,tn i h->∀b∈fp,∃o,h.get? b=some o/\∀v,o.data≠ .cell v
 keep:∀i h h',tn i h->(∀b∈fp,∀o,h.get? b=some o->h'.get? b=some o)->tn i h'
 item:∀(X:Cx),X.prog=P->X.w=w->X.K=K->X.calm=true->∀(i:Nat) (pins:List (Addr×Obj)) (s:Shared) (σ:St) (H:Hp) (E:Value->Shared->Prop),Inv X pins σ H s->(∀b∈fp,eO X pins H b)->tn i s.heap->J.go i H →
  wpAny (model P w) X.A (pyNext (.ref it)) (fun r s1=>∃u,r=some u ∧
   wpAny (model P w) X.A (letOwnedTupleGo tg (.ref it) u) (fun _ s2=>∃x H',Inv X pins σ H' s2/\RelV x u/\J.yld i H x H'/\tn (i+1) s2.heap/\∀b∈fp,H' b=none) E s1) E s
 done:∀(X:Cx),X.prog=P->X.w=w->X.K=K->X.calm=true->∀(i:Nat) (pins:List (Addr×Obj)) (s:Shared) (σ:St) (H:Hp) (E:Value->Shared->Prop),Inv X pins σ H s->(∀b∈fp,eO X pins H b)->tn i s.heap->J.stop i H →
  wpAny (model P w) X.A (pyNext (.ref it)) (fun r s1=>r=none/\Inv X pins σ H s1) E s
 self:∀(A:Around) (i:Nat) (s:Shared) (Q:Value->Shared->Prop) (E:Value->Shared->Prop),tn i s.heap->Q (.ref it) s->wpAny (model P w) A (pyIter (.ref it)) Q E s
abbrev TI:=St->Hp->(It->Hp->Prop)->Prop
def PIE (X:Cx)(pins:List (Addr×Obj))(σ:St)(tg:Expr)(R:It->Hp->Prop)(itv:Value)(s2:Shared):Prop :=
 ∃(it:Addr) (fp:List Addr) (tn:Nat->Heap->Prop) (J:It) (H':Hp),itv= .ref it/\Inv X pins σ H' s2/\lG X.prog X.w X.K tg J fp it tn/\tn 0 s2.heap/\(∀b∈fp,eO X pins H' b)/\R J H'
def PI (X:Cx)(tg iter:Expr)(wi:TI):Prop :=
 ∀(pins:List (Addr×Obj)) (s:Shared) (σ:St) (H:Hp) (R:It->Hp->Prop),Inv X pins σ H s->wi σ H R →
  wpAny (model X.prog X.w) X.A (eval iter X.env) (fun v s1=>wpAny (model X.prog X.w) X.A (pyIter v) (PIE X pins σ tg R) X.xe s1) X.xe s
theorem uF {M:Model}{A:Around}{E:Value->Shared->Prop}{s:Shared}{tg:Expr}{it:Addr}{u:Value}{o:Obj}{n:String}{vs:Array Value}{Q:Unit->Shared->Prop} (ho:s.heap.get? it=some o) (hc:o.cls= .type n) (hd:o.data= .fields vs)
  (hn:["enumerate","zip","dict_itemiterator","dict_reverseitemiterator","odict_iterator","itertools.zip_longest","itertools.pairwise"].contains n=false)(hQ:Q () s):wpAny M A (letOwnedTupleGo tg (.ref it) u) Q E s:=by
 unfold letOwnedTupleGo;cases tg<;>first
  | exact wpAny_pure hQ
  | (cases u<;>first
    | exact wpAny_pure hQ
    | (refine wpAny_bind (wpAny_load ho ?_);rw[hc,hd];show wpAny M A (if (["enumerate","zip","dict_itemiterator","dict_reverseitemiterator","odict_iterator","itertools.zip_longest","itertools.pairwise"].contains n&&vs[0]? ==some (rawInt _))=true then _ else _) Q E s;rw[if_neg (by intro h;rw[hn,Bool.false_and]at h;cases h)];exact wpAny_pure hQ))
def Itl (K:PySem.W.Frag)(a:Addr):It :=
 ⟨fun i H=>∃xs x,SqL K H a xs/\xs[i]? =some x,fun i H x H'=>H'=H/\∀xs,SqL K H a xs->xs[i]? =some x,fun i H=>∃xs,SqL K H a xs/\xs.length<=i⟩
def Itt (K:PySem.W.Frag)(a:Addr):It :=
 ⟨fun i H=>∃xs x,SqT K H a xs/\xs[i]? =some x,fun i H x H'=>H'=H/\∀xs,SqT K H a xs->xs[i]? =some x,fun i H=>∃xs,SqT K H a xs/\xs.length<=i⟩
def Itr (lo:Int)(n:Nat):It:=⟨fun i _=>i<n,fun i H x H'=>H'=H/\x= .int (lo+i),fun i _=>n<=i⟩
theorem EU {P:Program}{w:World}{K:PySem.W.Frag}{tg:Expr} (a it:Addr):lG P w K tg (Itl K a) [it] it (fun i h=>h.IsListIter it a i) where
 mem:=by simp
 obj:=fun i h st b hb=>by
  have e:b=it:=by simpa using hb
  subst e;obtain⟨o,e,c,d⟩:=st;exact⟨o,e,fun v z=>by rw[d]at z;cases z⟩
 keep:=fun i h h' st k=>st.at fun o e=>k it (by simp) o e
 item:=by
  intro X hP hw hK hc i pins s σ H E I hf st hg;subst hP hw hK;obtain⟨xs,x,hq,hx⟩:=hg;obtain⟨its,rv,p,hz⟩:=I.list hq;obtain⟨u,hu,ru⟩:=rv.get hx;obtain⟨f0,f1,f2,f3,f4,f5⟩:=hf it (by simp);refine wpAny_pyNext_list_item st p.isList (x:=u) (by simpa using hu) fun h' st' sb=> ?_;have I1:Inv X pins σ H { s with heap:=h' }:=I.turned (t':=s.toks) (fun b o hb e=>(sb.2 b hb).trans e) f0 f1 f3 f4 f5;obtain⟨o,e,c,d⟩:=id st';exact⟨u,rfl,uF (s:={ s with heap:=h' }) e c d (by decide) ⟨x,H,I1,ru,⟨rfl,fun ys hy=>by rw[I.list_inj hy hq];exact hx⟩,st',fun b hb=>(hf b hb).1⟩⟩
 done:=by
  intro X hP hw hK hc i pins s σ H E I hf st hg;subst hP hw hK;obtain⟨xs,hq,hx⟩:=hg;obtain⟨its,rv,p,hz⟩:=I.list hq;obtain⟨f0,f1,f2,f3,f4,f5⟩:=hf it (by simp);have hl:=rv.length;exact wpAny_pyNext_list_end (I.ok.hd hc) st p.isList (by simp;lia) fun h' eb=>⟨rfl,I.turned (t':=s.toks) (fun b o hb e=>eb b o hb e) f0 f1 f3 f4 f5⟩
 self:=fun _ _ _ _ _ st h=>wpAny_pyIter_listiter st h
theorem B1 {P:Program}{w:World}{K:PySem.W.Frag}{tg:Expr} (a it:Addr):lG P w K tg (Itt K a) [it] it (fun i h=>h.IsTupleIter it a i) where
 mem:=by simp
 obj:=fun i h st b hb=>by
  have e:b=it:=by simpa using hb
  subst e;obtain⟨o,e,c,d⟩:=st;exact⟨o,e,fun v z=>by rw[d]at z;cases z⟩
 keep:=fun i h h' st k=>st.at fun o e=>k it (by simp) o e
 item:=by
  intro X hP hw hK hc i pins s σ H E I hf st hg;subst hP hw hK;obtain⟨xs,x,hq,hx⟩:=hg;obtain⟨its,rv,p,hz⟩:=I.tuple hq;obtain⟨u,hu,ru⟩:=rv.get hx;obtain⟨f0,f1,f2,f3,f4,f5⟩:=hf it (by simp);refine wpAny_pyNext_tuple_item st (show s.heap.IsTuple a its.toArray from p) (x:=u) (by simpa using hu) fun h' st' sb=> ?_;have I1:Inv X pins σ H { s with heap:=h' }:=I.turned (t':=s.toks) (fun b o hb e=>(sb.2 b hb).trans e) f0 f1 f3 f4 f5;obtain⟨o,e,c,d⟩:=id st';exact⟨u,rfl,uF (s:={ s with heap:=h' }) e c d (by decide) ⟨x,H,I1,ru,⟨rfl,fun ys hy=>by rw[I.tuple_inj hy hq];exact hx⟩,st',fun b hb=>(hf b hb).1⟩⟩
 done:=by
  intro X hP hw hK hc i pins s σ H E I hf st hg;subst hP hw hK;obtain⟨xs,hq,hx⟩:=hg;obtain⟨its,rv,p,hz⟩:=I.tuple hq;obtain⟨f0,f1,f2,f3,f4,f5⟩:=hf it (by simp);have hl:=rv.length;exact wpAny_pyNext_tuple_end (I.ok.hd hc) st (show s.heap.IsTuple a its.toArray from p) (by simp;lia) fun h' eb=>⟨rfl,I.turned (t':=s.toks) (fun b o hb e=>eb b o hb e) f0 f1 f3 f4 f5⟩
 self:=fun _ _ _ _ _ st h=>wpAny_pyIter_tupleiter st h
theorem BM {P:Program}{w:World}{K:PySem.W.Frag}{tg:Expr} (it:Addr) (lo:Int) (n:Nat):lG P w K tg (Itr lo n) [it] it (fun i h=>IsRangeIter h it (lo+(i:Nat) * 1) ((n:Int) - (i:Nat)) 1) where
 mem:=by simp
 obj:=fun i h st b hb=>by
  have e:b=it:=by simpa using hb
  subst e;exact⟨_,st,fun v z=>by
   have z':Data.fields _=Data.cell v:=z;cases z'⟩
 keep:=fun i h h' st k=>k it (by simp) _ st
 item:=by
  intro X hP hw hK hc i pins s σ H E I hf st hg;subst hP hw hK;obtain⟨f0,f1,f2,f3,f4,f5⟩:=hf it (by simp);have W:=Walks.range (prog:=X.prog) (w:=X.w) (I.ok.hd hc) it lo 1 n;refine W.item i s _ _ hg st fun v h' tk hv st' kk=> ?_;obtain⟨t,rfl⟩:=hv;have I1:Inv X pins σ H { s with heap:=h',toks:=tk }:=I.turned (fun b o hb e=>kk b o (by simpa using hb) e) f0 f1 f3 f4 f5;refine⟨_,rfl,uF (s:={ s with heap:=h',toks:=tk }) (n:= "range_iterator") st' rfl rfl (by decide) ⟨.int (lo+i),H,I1,⟨t,?_⟩,⟨rfl,rfl⟩,st',fun b hb=>(hf b hb).1⟩⟩;rw[Int.mul_one]
 done:=by
  intro X hP hw hK hc i pins s σ H E I hf st hg;subst hP hw hK;obtain⟨f0,f1,f2,f3,f4,f5⟩:=hf it (by simp);exact wpAny_pyNext_range_end (I.ok.hd hc) st (by have:n<=i:=hg;lia) fun h' eb=>⟨rfl,I.turned (t':=s.toks) (fun b o hb e=>eb b o hb e) f0 f1 f3 f4 f5⟩
 self:=fun _ _ _ _ _ st h=>wpAny_pyIter_rangeiter st h
end L2
namespace L2
open PySem PySem.Spec PyProof.Rows
section
variable {X:Cx}{tg:Expr}
def JB (K:PySem.W.Frag)(tl:TE):TI:=fun σ H R=>tl σ H fun x H1=>∃a,x= .ref a/\(∃xs,SqL K H1 a xs)/\R (Itl K a) H1
def MQ (K:PySem.W.Frag)(tl:TE):TI:=fun σ H R=>tl σ H fun x H1=>∃a,x= .ref a/\(∃xs,SqT K H1 a xs)/\R (Itt K a) H1
theorem iZ {l:Expr}{tl:TE} (hl:PE X l tl):PI X tg l (JB X.K tl):=by
 intro pins s σ H R I h;refine thn (hl pins s σ H _ I h) fun v s1 ⟨x,H1,I1,r1,q1⟩=> ?_;obtain⟨a,e,⟨xs,hq⟩,q⟩:=q1;subst e;cases r1;obtain⟨its,rv,p,hz⟩:=I1.list hq;refine wpAny_pyIter_list p.isList ?_;refine⟨s1.heap.objs.size,[s1.heap.objs.size],_,_,H1,rfl,I1.kept (t':=s1.toks) fun b o e=>Heap.get?_push_of_some _ e,EU a _,⟨_,Heap.get?_push_size _ rfl,rfl,rfl⟩,fun b hb=> ?_,q⟩;have e:b=s1.heap.objs.size:=by simpa using hb
 subst e;exact I1.fpOk (Nat.le_refl _) (I1.hok.fresh (Nat.le_refl _))
theorem MW {l:Expr}{tl:TE} (hl:PE X l tl):PI X tg l (MQ X.K tl):=by
 intro pins s σ H R I h;refine thn (hl pins s σ H _ I h) fun v s1 ⟨x,H1,I1,r1,q1⟩=> ?_;obtain⟨a,e,⟨xs,hq⟩,q⟩:=q1;subst e;cases r1;obtain⟨its,rv,p,hz⟩:=I1.tuple hq;refine wpAny_pyIter_tuple (show s1.heap.IsTuple a its.toArray from p) ?_;refine⟨s1.heap.objs.size,[s1.heap.objs.size],_,_,H1,rfl,I1.kept (t':=s1.toks) fun b o e=>Heap.get?_push_of_some _ e,B1 a _,⟨_,Heap.get?_push_size _ rfl,rfl,rfl⟩,fun b hb=> ?_,q⟩;have e:b=s1.heap.objs.size:=by simpa using hb
 subst e;exact I1.fpOk (Nat.le_refl _) (I1.hok.fresh (Nat.le_refl _))
theorem HU {pins:List (Addr×Obj)}{σ:St}{H:Hp}{s:Shared}{R:It->Hp->Prop}{E:Value->Shared->Prop}{lo hi:Int}{t u v:Tok}{tk:Nat} (I:Inv X pins σ H s) (h1: -(2^62)<=lo) (h2:lo<2^62) (h3: -(2^62)<=hi) (h4:hi<2^62)
  (q:R (Itr lo (hi - lo).toNat) H):wpAny (model X.prog X.w) X.A (pyIter (.ref s.heap.objs.size)) (PIE X pins σ tg R) E { s with heap:=s.heap.push { cls:= .type "range",data:= .fields #[.int lo t,.int hi u,.int 1 v] },toks:=tk }:=by
 refine wpAny_pyIter_range (IsRange.new ..) (small_one h1 h2 h3 h4) ?_;have I1:Inv X pins σ H { s with heap:=s.heap.push { cls:= .type "range",data:= .fields #[.int lo t,.int hi u,.int 1 v] },toks:=tk }:=I.kept fun b o e=>Heap.get?_push_of_some _ e;refine⟨(s.heap.push { cls:= .type "range",data:= .fields #[.int lo t,.int hi u,.int 1 v] }).objs.size,[(s.heap.push { cls:= .type "range",data:= .fields #[.int lo t,.int hi u,.int 1 v] }).objs.size],_,_,H,rfl,
  I1.kept (t':=tk) fun b o e=>Heap.get?_push_of_some _ e,BM _ lo (hi - lo).toNat,?_,fun b hb=> ?_,q⟩
 ·have e1:lo+((0:Nat):Int) * 1=lo:=by simp
  have e2:(((hi - lo).toNat:Nat):Int) - ((0:Nat):Int)=Builtin.Range.rangeSize lo hi 1:=by rw[rangeSize_one];split<;>lia
  show IsRangeIter _ _ (lo+((0:Nat):Int) * 1) ((((hi - lo).toNat:Nat):Int) - ((0:Nat):Int)) 1;rw[e1,e2];exact Heap.get?_push_size _ rfl
 ·have e:b=(s.heap.push { cls:= .type "range",data:= .fields #[.int lo t,.int hi u,.int 1 v] }).objs.size:=by simpa using hb
  subst e;exact I1.fpOk (Nat.le_refl _) (I1.hok.fresh (Nat.le_refl _))
def IC (ta:TA):TI:=fun σ H R=>ta σ H fun vs H1=>∃j:Int,vs=[.int j]/\ -(2^62)<=j/\j<2^62/\R (Itr 0 j.toNat) H1
theorem DU {a:Expr}{ta:TA}{p pos:Pos} (hg:Gl X "range") (hm:X.mg "range" =none) (ha:PA X [a] ta) (hs:starEach [a] X.env=[(false,eval a X.env)]:=by rfl):PI X tg (.Call (.Name "range" p) [a] [] pos) (IC ta):=by
 intro pins s σ H R I h;refine Call_ (nU I hg hm boot_range (PyProof.Rows.callWith_type1 (thn (ha pos pins s σ H _ I h) fun us s1 ⟨vs,H1,I1,r1,q1⟩=> ?_) hs rfl));obtain⟨j,e,q1,q2,q⟩:=q1;subst e;cases r1 with
 | cons r rr =>
  cases rr;obtain⟨t,rfl⟩:=r;exact call_range_1 (HU I1 (by lia) (by lia) q1 q2 (by simpa using q))
def OE (wi:TI)(g:TG)(tb:TS):TS:=fun D σ H=>wi σ H fun J H1=>∃W:Nat->Nat->St->Hp->Prop,(∃m,W 0 m σ H1)/\∀i m σ H,W i m σ H →
 (J.stop i H/\D.nx σ H)∨(J.go i H/\∃N:St->Hp->Prop,(∀σ' H',N σ' H'->∃m',m'<m/\W (i+1) m' σ' H')/\∀x H',J.yld i H x H'->g x σ H' fun σ2 H2=>tb { D with nx:=N,ct:=N,bk:=D.nx } σ2 H2)
def eK (fp:List Addr)(h:Heap):List (Addr×Obj):=fp.filterMap fun b=>(h.get? b).map fun o=>(b,o)
theorem dL {fp:List Addr}{h:Heap}{b:Addr}{o:Obj} (hb:b∈fp) (e:h.get? b=some o):(b,o)∈eK fp h:=List.mem_filterMap.mpr ⟨b,hb,by rw[e];rfl⟩
theorem m7 {fp:List Addr}{h:Heap}{p:Addr×Obj} (hp:p∈eK fp h):p.1∈fp/\h.get? p.1=some p.2:=by
 obtain⟨b,hb,e⟩:=List.mem_filterMap.mp hp;cases q:h.get? b with
 | none=>rw[q]at e;cases e
 | some o =>
  rw[q]at e;have e':(b,o)=p:=Option.some.inj e;subst e';exact⟨hb,q⟩
theorem Inv.pinned {pins:List (Addr×Obj)}{σ:St}{H:Hp}{s:Shared}{fp:List Addr} (I:Inv X pins σ H s) (hf:∀b∈fp,eO X pins H b) (ho:∀b∈fp,∃o,s.heap.get? b=some o/\∀v,o.data≠ .cell v):Inv X (pins++eK fp s.heap) σ H s :=
 I.pins_of fun p hp=>(List.mem_append.mp hp).elim (fun z=>I.pin p (List.mem_append_right _ z)) fun z=>by
  obtain⟨hb,e⟩:=m7 z;obtain⟨f0,f1,f2,_⟩:=hf p.1 hb;obtain⟨o,e',d⟩:=ho p.1 hb;rw[e]at e';cases e';exact⟨e,f0,f1,f2,d⟩
theorem Inv.unpinned {pins pl:List (Addr×Obj)}{σ:St}{H:Hp}{s:Shared} (I:Inv X (pins++pl) σ H s):Inv X pins σ H s:=I.pins_of fun p hp=>I.pin p (List.mem_append_right _ (List.mem_append_left _ hp))
theorem xI {iter:Expr}{body:List Stmt}{wi:TI}{g:TG}{tb:TS}{pos:Pos} (hp:PassesOwn (model X.prog X.w) X.A X.env X.xe) (hc:X.calm=true) (hi:PI X tg iter wi) (hg:PG X tg g) (hb:PSs X body tb)
  (hs:∀x,foldedSetIterable iter X.env x=pure x:=by intro _;rfl):PS X (.For tg iter body [] pos) (OE wi g tb):=by
 intro pins s σ H D I h;refine wpAny_For (thn (hi pins s σ H _ I h) fun v s1 h1=>thn h1 fun itv s2 h2=> ?_) hs;obtain⟨it,fp,tn,J,H2,e,I2,T,st2,f2,W,⟨m0,w0⟩,turn⟩:=h2;subst e;have stat:∀{H':Hp},(∀b∈fp,H' b=none)->∀b∈fp,eO X pins H' b:=fun hn b hb=>⟨hn b hb,(f2 b hb).2⟩
 refine codeAny_forLoop_any (fun n s'=>∃i σ' H',Inv X pins σ' H' s'/\tn i s'.heap/\(∀b∈fp,H' b=none)/\W i n σ' H') ?_ m0 ⟨0,σ,H2,I2,st2,fun b hb=>(f2 b hb).1,w0⟩;rintro n s3 ⟨i,σ3,H3,I3,st3,fr3,w3⟩;rcases turn i n σ3 H3 w3 with⟨stop,qn⟩|⟨go,N,hN,step⟩
 ·refine wpAny_passesOwn hp (thn (T.done X rfl rfl rfl hc i pins s3 σ3 H3 X.xe I3 (stat fr3) st3 stop) fun r s4 ⟨hr,I4⟩=> ?_);subst hr;exact wpAny_execs_nil ⟨σ3,H3,I4,qn⟩
 ·refine wpAny_passesOwn hp (thn (T.item X rfl rfl rfl hc i pins s3 σ3 H3 X.xe I3 (stat fr3) st3 go) fun r s4 ⟨u,hr,h4⟩=> ?_);subst hr;refine wpAny_passesOwn hp (thn h4 fun _ s5 ⟨x,H5,I5,r5,y5,st5,fr5⟩=> ?_);have I5':=I5.pinned (stat fr5) (T.obj _ _ st5);refine wpAny_passesOwn hp (thn (hg _ s5 σ3 H5 x u _ I5' r5 (step x H5 y5)) fun _ s6 ⟨σ6,H6,I6,q6⟩=> ?_);refine wpAny_passesOwn hp (thn (hb _ s6 σ6 H6 _ I6 q6) fun f s7 q7=> ?_);have again:∀{σ7:St}{H7:Hp},Inv X (pins++eK fp s5.heap) σ7 H7 s7->N σ7 H7->∃m,m<n/\∃i σ' H',Inv X pins σ' H' s7/\tn i s7.heap/\(∀b∈fp,H' b=none)/\W i m σ' H':=fun {σ7 H7} I7 n7=>by
   obtain⟨m',hm,w7⟩:=hN σ7 H7 n7;refine⟨m',hm,i+1,σ7,H7,I7.unpinned,T.keep _ _ _ st5 fun b hb o e=>(I7.pin (b,o) (List.mem_append_right _ (List.mem_append_right _ (dL hb e)))).1,fun b hb=> ?_,w7⟩;obtain⟨o,e,d⟩:=T.obj _ _ st5 b hb;exact(I7.pin (b,o) (List.mem_append_right _ (List.mem_append_right _ (dL hb e)))).2.1
  cases f with
  | next=>obtain⟨σ7,H7,I7,n7⟩:=q7;exact again I7 n7
  | cont=>obtain⟨σ7,H7,I7,n7⟩:=q7;exact again I7 n7
  | brk=>obtain⟨σ7,H7,I7,q7⟩:=q7;exact⟨σ7,H7,I7.unpinned,q7⟩
  | ret v=>obtain⟨x7,σ7,H7,I7,r7,q7⟩:=q7;exact⟨x7,σ7,H7,I7.unpinned,r7,q7⟩
end
theorem F7 {K:PySem.W.Frag}{a:Addr}{xs:List V}{g:TG}{tb:TS}{D:gE}{σ:St}{H:Hp} (Pv:Nat->St->Hp->Prop) (h0:Pv 0 σ H) (hl:∀i σ H,i<=xs.length->Pv i σ H->SqL K H a xs)
  (hs:∀i x σ H,xs[i]? =some x->Pv i σ H->g x σ H fun σ2 H2=>tb { D with nx:=Pv (i+1),ct:=Pv (i+1),bk:=D.nx } σ2 H2)(hd:∀σ H,Pv xs.length σ H->D.nx σ H) :
  ∃W:Nat->Nat->St->Hp->Prop,(∃m,W 0 m σ H)/\∀i m σ H,W i m σ H →
   ((Itl K a).stop i H/\D.nx σ H)∨((Itl K a).go i H/\∃N:St->Hp->Prop,(∀σ' H',N σ' H'->∃m',m'<m/\W (i+1) m' σ' H')/\∀x H',(Itl K a).yld i H x H'->g x σ H' fun σ2 H2=>tb { D with nx:=N,ct:=N,bk:=D.nx } σ2 H2):=by
 refine⟨fun i m σ H=>m=xs.length - i/\i<=xs.length/\Pv i σ H,⟨xs.length,by simp,Nat.zero_le _,h0⟩,?_⟩;rintro i m σ H ⟨rfl,hi,p⟩;have q:=hl i σ H hi p
 by_cases hlt:i<xs.length
 ·refine .inr ⟨⟨xs,xs[i],q,by simp[hlt]⟩,Pv (i+1),fun σ' H' p'=>⟨xs.length - (i+1),by lia,rfl,hlt,p'⟩,fun x H' y=> ?_⟩;obtain⟨e,y⟩:=y;subst e;exact hs i x σ _ (y xs q) p
 ·have e:i=xs.length:=by lia
  subst e;exact .inl ⟨⟨xs,q,Nat.le_refl _⟩,hd σ H p⟩
theorem D0 {lo:Int}{n:Nat}{g:TG}{tb:TS}{D:gE}{σ:St}{H:Hp} (Pv:Nat->St->Hp->Prop) (h0:Pv 0 σ H)
  (hs:∀i σ H,i<n->Pv i σ H->g (.int (lo+i)) σ H fun σ2 H2=>tb { D with nx:=Pv (i+1),ct:=Pv (i+1),bk:=D.nx } σ2 H2)(hd:∀σ H,Pv n σ H->D.nx σ H) :
  ∃W:Nat->Nat->St->Hp->Prop,(∃m,W 0 m σ H)/\∀i m σ H,W i m σ H →
   ((Itr lo n).stop i H/\D.nx σ H)∨((Itr lo n).go i H/\∃N:St->Hp->Prop,(∀σ' H',N σ' H'->∃m',m'<m/\W (i+1) m' σ' H')/\∀x H',(Itr lo n).yld i H x H'->g x σ H' fun σ2 H2=>tb { D with nx:=N,ct:=N,bk:=D.nx } σ2 H2):=by
 refine⟨fun i m σ H=>m=n - i/\i<=n/\Pv i σ H,⟨n,by simp,Nat.zero_le _,h0⟩,?_⟩;rintro i m σ H ⟨rfl,hi,p⟩
 by_cases hlt:i<n
 ·refine .inr ⟨hlt,Pv (i+1),fun σ' H' p'=>⟨n - (i+1),by lia,rfl,hlt,p'⟩,fun x H' y=> ?_⟩;obtain⟨e,y⟩:=y;subst e y;exact hs i σ _ hlt p
 ·have e:i=n:=by lia
  subst e;exact .inl ⟨Nat.le_refl _,hd σ H p⟩
end L2
namespace L2
open PySem PySem.Spec PyProof.Rows
abbrev R2:=V->V->Hp->VK->Prop
def OpR (X:Cx)(f:Value->Value->Sem Value)(r:R2):Prop :=
 ∀(pins:List (Addr×Obj)) (s:Shared) (σ:St) (H:Hp) (x y:V) (v u:Value) (Q:VK),Inv X pins σ H s->RelV x v->RelV y u->r x y H Q →
  wpAny (model X.prog X.w) X.A (f v u) (EP X pins σ Q) X.xe s
def b9 (X:Cx)(f:Value)(r:List V->Hp->VK->Prop):Prop :=
 ∀(pins:List (Addr×Obj)) (s:Shared) (σ:St) (H:Hp) (xs:List V) (us:List Value) (Q:VK),Inv X pins σ H s->Vals xs us->r xs H Q →
  wpAny (model X.prog X.w) X.A (call f us) (EP X pins σ Q) X.xe s
def tOp (r:R2)(ta tb:TE):TE:=fun σ H Q=>ta σ H fun x H1=>tb σ H1 fun y H2=>r x y H2 Q
def rI (C:Int->Int->Prop)(g:Int->Int->V):R2:=fun x y H Q=>∃i j,x= .int i/\y= .int j/\C i j/\Q (g i j) H
def rI0 (g:Int->Int->V):R2:=fun x y H Q=>∃i j,x= .int i/\y= .int j/\Q (g i j) H
section
variable {X:Cx}{a b c:Expr}{ta tb tc:TE}{pos:Pos}
theorem HL (ha:PE X a ta)(hb:PE X b tb){pins:List (Addr×Obj)}{s:Shared}{σ:St}{H:Hp}{R:V->V->Hp->Prop} (I:Inv X pins σ H s)
  (h:ta σ H fun x H1=>tb σ H1 fun y H2=>R x y H2){Q:Value->Shared->Prop}{f:Value->Value->Sem Value}
  (hf:∀v u s2 x y H2,Inv X pins σ H2 s2->RelV x v->RelV y u->R x y H2->wpAny (model X.prog X.w) X.A (f v u) Q X.xe s2) :
  wpAny (model X.prog X.w) X.A (eval a X.env) (fun v s₁=>wpAny (model X.prog X.w) X.A (eval b X.env) (fun u s₂=>wpAny (model X.prog X.w) X.A (f v u) Q X.xe s₂) X.xe s₁) X.xe s:=by
 refine thn (ha pins s σ H _ I h) fun v s1 ⟨x,H1,I1,r1,q1⟩=> ?_;refine thn (hb pins s1 σ H1 _ I1 q1) fun u s2 ⟨y,H2,I2,r2,q2⟩=> ?_;exact hf v u s2 x y H2 I2 r1 r2 q2
theorem aE {op:Operator}{r:R2} (ho:OpR X (binaryOp op) r) (ha:PE X a ta) (hb:PE X b tb):PE X (.BinOp a op b pos) (tOp r ta tb):=by
 intro pins s σ H Q I h;exact wpAny_BinOp (HL ha hb I h fun v u s2 x y H2 I2 rx ry q=>ho pins s2 σ H2 x y v u Q I2 rx ry q)
theorem opI {f:Value->Value->Sem Value}{C:Int->Int->Prop}{g:Int->Int->Int}
  (rule:∀(i j:Int) (t u:Tok) (s:Shared) (Q:Value->Shared->Prop) (E:Value->Shared->Prop),C i j->Q (.int (g i j) s.toks) { s with toks:=s.toks+1 }->wpAny (model X.prog X.w) X.A (f (.int i t) (.int j u)) Q E s) :
  OpR X f (rI C fun i j=> .int (g i j)):=by
 intro pins s σ H x y v u Q I rx ry h;obtain⟨i,j,rfl,rfl,hc,q⟩:=h;obtain⟨t,rfl⟩:=rx;obtain⟨t',rfl⟩:=ry;exact rule i j t t' s _ _ hc ⟨.int (g i j),H,I.tok _,⟨_,rfl⟩,q⟩
theorem M0 {f:Value->Value->Sem Value}{g:Int->Int->Int}
  (rule:∀(i j:Int) (t u:Tok) (s:Shared) (Q:Value->Shared->Prop) (E:Value->Shared->Prop),Q (.int (g i j) s.toks) { s with toks:=s.toks+1 }->wpAny (model X.prog X.w) X.A (f (.int i t) (.int j u)) Q E s) :
  OpR X f (rI0 fun i j=> .int (g i j)):=by
 intro pins s σ H x y v u Q I rx ry h;obtain⟨i,j,rfl,rfl,q⟩:=h;obtain⟨t,rfl⟩:=rx;obtain⟨t',rfl⟩:=ry;exact rule i j t t' s _ _ ⟨.int (g i j),H,I.tok _,⟨_,rfl⟩,q⟩
theorem GY {f:Value->Value->Sem Value}{g:Int->Int->Bool}
  (rule:∀(i j:Int) (t u:Tok) (s:Shared) (Q:Value->Shared->Prop) (E:Value->Shared->Prop),Q (.bool (g i j)) s->wpAny (model X.prog X.w) X.A (f (.int i t) (.int j u)) Q E s) :
  OpR X f (rI0 fun i j=> .bl (g i j)):=by
 intro pins s σ H x y v u Q I rx ry h;obtain⟨i,j,rfl,rfl,q⟩:=h;obtain⟨t,rfl⟩:=rx;obtain⟨t',rfl⟩:=ry;exact rule i j t t' s _ _ ⟨.bl (g i j),H,I,rfl,q⟩
def M8 (i j:Int):Prop:=0<j/\j<1073741824
def MH (i j:Int):Prop:=0<=j/\j<=1000000/\i.natAbs<2^64
def CMul (i j:Int):Prop:=(-(2^64)<i/\i<2^64)∨(-(2^64)<j/\j<2^64)
theorem CMul.ok {i j:Int}(h:CMul i j):IntMulOk i j:=by
 rcases h with⟨h1,h2⟩|⟨h1,h2⟩
 ·exact .of_left (intBits_le_64 h1 h2)
 ·exact .of_right (intBits_le_64 h1 h2)
theorem fY:OpR X (binaryOp .Add) (rI0 fun i j=> .int (i+j)):=M0 fun _ _ _ _ _ _ _ q=>add_int q
theorem ME:OpR X (binaryOp .Sub) (rI0 fun i j=> .int (i - j)):=M0 fun _ _ _ _ _ _ _ q=>sub_int q
theorem uW:OpR X (binaryOp .Mult) (rI CMul fun i j=> .int (i * j)):=opI fun _ _ _ _ _ _ _ hc q=>mul_int q hc.ok
theorem c8:OpR X (binaryOp .FloorDiv) (rI M8 fun i j=> .int (i/j)):=opI fun i j _ _ _ _ _ hc q=>by
 have h1:(0:Int)<j:=hc.1;have h2:j<1073741824:=hc.2;exact floordiv_int (by lia) (by rw[Int.fdiv_eq_ediv_of_nonneg i (by lia)];exact q) (.inl (PyProof.noPylong_small (by lia)))
theorem bS:OpR X (binaryOp .Mod) (rI (fun _ j=>0<j) fun i j=> .int (i%j)):=opI fun i j _ _ _ _ _ hc q=>by
 have h1:(0:Int)<j:=hc;exact mod_int' (by lia) (by rw[Int.fmod_eq_emod_of_nonneg i (by lia)];exact q)
theorem NI:OpR X (binaryOp .Pow) (rI MH fun i j=> .int (i^j.toNat)):=opI fun _ _ _ _ _ _ _ hc q=>pow_int_small hc.1 hc.2.1 hc.2.2 q
end
def N3:V->V->Bool
 | .non,.non=>true| .non,.int _=>true| .int _,.non=>true| .non,.bl _=>true| .bl _,.non=>true| .non,.str _=>true| .str _,.non=>true
 | .int _,.int _=>true| .bl _,.bl _=>true| .str _,.str _=>true| .byt _,.byt _=>true
 | .int _,.str _=>true| .str _,.int _=>true| .bl _,.str _=>true| .str _,.bl _=>true
 | _,_=>false
def rEq:R2:=fun x y H Q=>N3 x y=true/\Q (.bl (decide (x=y))) H
def rNe:R2:=fun x y H Q=>N3 x y=true/\Q (.bl (!decide (x=y))) H
theorem zH {i j:Int}:decide (V.int i=V.int j)=(i==j):=by
 rw[Bool.eq_iff_iff];simp
theorem EY {i j:Bool}:decide (V.bl i=V.bl j)=(i==j):=by
 rw[Bool.eq_iff_iff];simp
theorem z6 {i j:Str}:decide (V.str i=V.str j)=(i==j):=by
 rw[Bool.eq_iff_iff];simp
theorem yZ {i j:Array UInt8}:decide (V.byt i=V.byt j)=(i.toList==j.toList):=by
 rw[Bool.eq_iff_iff];cases i;cases j;simp
section
variable {X:Cx}{a b c:Expr}{ta tb tc:TE}{pos:Pos}
theorem bF {pins:List (Addr×Obj)}{σ:St}{H:Hp}{s:Shared}{Q:VK}{k k':Bool} (I:Inv X pins σ H s) (q:Q (.bl k) H) (e:k=k'):EP X pins σ Q (.bool k') s:=by
 subst e;exact⟨.bl k,H,I,rfl,q⟩
theorem c0:OpR X (compareOp .Eq) rEq:=by
 intro pins s σ H x y v u Q I rx ry h;obtain⟨hs,q⟩:=h;cases x with
 | non =>
  cases rx;cases y with
  | non=>cases ry;exact PySem.EqNone.eq_none_none (bF I q (by simp))
  | bl j=>cases ry;exact PySem.EqNone.eq_none_bool (bF I q (by simp))
  | int j=>obtain⟨t',rfl⟩:=ry;exact PySem.EqNone.eq_none_int (bF I q (by simp))
  | str j=>obtain⟨t',rfl⟩:=ry;exact PySem.EqNone.eq_none_str (bF I q (by simp))
  | _=>exact absurd (show false=true from hs) Bool.false_ne_true
 | bl i =>
  cases rx;cases y with
  | non=>cases ry;exact PySem.EqNone.eq_bool_none (bF I q (by simp))
  | bl j=>cases ry;exact eq_bool (bF I q EY)
  | str j=>obtain⟨t',rfl⟩:=ry;exact PySem.EqMixed.eq_bool_str (bF I q (by simp))
  | _=>exact absurd (show false=true from hs) Bool.false_ne_true
 | int i =>
  obtain⟨t,rfl⟩:=rx;cases y with
  | non=>cases ry;exact PySem.EqNone.eq_int_none (bF I q (by simp))
  | int j=>obtain⟨t',rfl⟩:=ry;exact eq_int (bF I q zH)
  | str j=>obtain⟨t',rfl⟩:=ry;exact PySem.EqMixed.eq_int_str (bF I q (by simp))
  | _=>exact absurd (show false=true from hs) Bool.false_ne_true
 | str i =>
  obtain⟨t,rfl⟩:=rx;cases y with
  | non=>cases ry;exact PySem.EqNone.eq_str_none (bF I q (by simp))
  | bl j=>cases ry;exact PySem.EqMixed.eq_str_bool (bF I q (by simp))
  | int j=>obtain⟨t',rfl⟩:=ry;exact PySem.EqMixed.eq_str_int (bF I q (by simp))
  | str j=>obtain⟨t',rfl⟩:=ry;exact eq_str (bF I q z6)
  | _=>exact absurd (show false=true from hs) Bool.false_ne_true
 | byt i =>
  obtain⟨t,rfl⟩:=rx;cases y with
  | byt j=>obtain⟨t',rfl⟩:=ry;exact PySem.W.eq_bytes (bF I q yZ)
  | _=>exact absurd (show false=true from hs) Bool.false_ne_true
 | _=>cases y<;>exact absurd (show false=true from hs) Bool.false_ne_true
theorem JI:OpR X (compareOp .NotEq) rNe:=by
 intro pins s σ H x y v u Q I rx ry h;obtain⟨hs,q⟩:=h;cases x with
 | non =>
  cases rx;cases y with
  | non=>cases ry;exact PySem.EqNone.ne_none_none (bF I q (by simp))
  | bl j=>cases ry;exact PySem.EqNone.ne_none_bool (bF I q (by simp))
  | int j=>obtain⟨t',rfl⟩:=ry;exact PySem.EqNone.ne_none_int (bF I q (by simp))
  | str j=>obtain⟨t',rfl⟩:=ry;exact PySem.EqNone.ne_none_str (bF I q (by simp))
  | _=>exact absurd (show false=true from hs) Bool.false_ne_true
 | bl i =>
  cases rx;cases y with
  | non=>cases ry;exact PySem.EqNone.ne_bool_none (bF I q (by simp))
  | bl j=>cases ry;exact ne_bool (bF I q (congrArg not EY))
  | str j=>obtain⟨t',rfl⟩:=ry;exact PySem.EqMixed.ne_bool_str (bF I q (by simp))
  | _=>exact absurd (show false=true from hs) Bool.false_ne_true
 | int i =>
  obtain⟨t,rfl⟩:=rx;cases y with
  | non=>cases ry;exact PySem.EqNone.ne_int_none (bF I q (by simp))
  | int j=>obtain⟨t',rfl⟩:=ry;exact ne_int (bF I q (congrArg not zH))
  | str j=>obtain⟨t',rfl⟩:=ry;exact PySem.EqMixed.ne_int_str (bF I q (by simp))
  | _=>exact absurd (show false=true from hs) Bool.false_ne_true
 | str i =>
  obtain⟨t,rfl⟩:=rx;cases y with
  | non=>cases ry;exact PySem.EqNone.ne_str_none (bF I q (by simp))
  | bl j=>cases ry;exact PySem.EqMixed.ne_str_bool (bF I q (by simp))
  | int j=>obtain⟨t',rfl⟩:=ry;exact PySem.EqMixed.ne_str_int (bF I q (by simp))
  | str j=>obtain⟨t',rfl⟩:=ry;exact ne_str (bF I q (congrArg not z6))
  | _=>exact absurd (show false=true from hs) Bool.false_ne_true
 | byt i =>
  obtain⟨t,rfl⟩:=rx;cases y with
  | byt j=>obtain⟨t',rfl⟩:=ry;exact PySem.W.ne_bytes (bF I q (congrArg not yZ))
  | _=>exact absurd (show false=true from hs) Bool.false_ne_true
 | _=>cases y<;>exact absurd (show false=true from hs) Bool.false_ne_true
theorem P2:OpR X (compareOp .Lt) (rI0 fun i j=> .bl (decide (i<j))):=GY fun _ _ _ _ _ _ _ q=>lt_int q
theorem uI:OpR X (compareOp .LtE) (rI0 fun i j=> .bl (decide (i<=j))):=GY fun _ _ _ _ _ _ _ q=>le_int q
theorem O9:OpR X (compareOp .Gt) (rI0 fun i j=> .bl (decide (j<i))):=GY fun _ _ _ _ _ _ _ q=>gt_int q
theorem bI (b:Expr){op:CmpOp}(h:op≠ .In:=by decide)(h2:op≠ .NotIn:=by decide):behindInMarks op b=false:=by
 have e1:(op==CmpOp.In)=false:=by cases op<;>first|rfl|exact absurd rfl h
 have e2:(op==CmpOp.NotIn)=false:=by cases op<;>first|rfl|exact absurd rfl h2
 cases b<;>simp[behindInMarks,e1,e2]
theorem zI {op:CmpOp}{r:R2} (ho:OpR X (compareOp op) r) (ha:PE X a ta) (hb:PE X b tb) (hm:behindInMarks op b=false):PE X (.Compare a [op] [b] pos) (tOp r ta tb):=by
 intro pins s σ H Q I h;exact wpAny_Compare1 (HL ha hb I h fun v u s2 x y H2 I2 rx ry q=>ho pins s2 σ H2 x y v u Q I2 rx ry q) hm
def A4 (t:TE):TT:=fun σ H Q=>t σ H fun x H'=>∃k,x= .bl k/\Q k H'
theorem bD {op:CmpOp}{r:R2} (ho:OpR X (compareOp op) r) (ha:PE X a ta) (hb:PE X b tb) (hm:behindInMarks op b=false):PT X (.Compare a [op] [b] pos) (A4 (tOp r ta tb)):=by
 intro pins s σ H Q I h;refine wpAny_isTrue_Compare1 (thn (ha pins s σ H _ I h) fun v s1 ⟨x,H1,I1,r1,q1⟩=>thn (hb pins s1 σ H1 _ I1 q1) fun u s2 ⟨y,H2,I2,r2,q2⟩ =>
  thn (ho pins s2 σ H2 x y v u _ I2 r1 r2 q2) fun c s3 ⟨z,H3,I3,r3,k,e,q3⟩=> ?_) hm
 subst e;cases r3;exact wpAny_truthy_bool ⟨H3,I3,q3⟩
def wB (r r':R2)(ta tb tc:TE):TE:=fun σ H Q=>ta σ H fun x H1=>tb σ H1 fun y H2=>r x y H2 fun z H3=>∃k,z= .bl k ∧
 (if k=true then tc σ H3 fun w' H4=>r' y w' H4 Q else Q (.bl false) H3)
theorem pU {op op':CmpOp}{r r':R2} (ho:OpR X (compareOp op) r) (ho':OpR X (compareOp op') r') (ha:PE X a ta) (hb:PE X b tb) (hc:PE X c tc)
  (hm:lastMarks [op,op'] [b,c]=false:=by with_unfolding_all rfl):PE X (.Compare a [op,op'] [b,c] pos) (wB r r' ta tb tc):=by
 intro pins s σ H Q I h;refine Compare_chain (thn (ha pins s σ H _ I h) fun v s1 ⟨x,H1,I1,r1,q1⟩=>chain_link (thn (hb pins s1 σ H1 _ I1 q1) fun u s2 ⟨y,H2,I2,r2,q2⟩ =>
  thn (ho pins s2 σ H2 x y v u _ I2 r1 r2 q2) fun d s3 ⟨z,H3,I3,r3,k,e,q3⟩=> ?_)) hm
 subst e;cases r3;refine wpAny_truthy_bool ?_;cases k with
 | false=>exact ite_ff ⟨.bl false,H3,I3,rfl,q3⟩
 | true=>exact ite_tt (chain_last (thn (hc pins s3 σ H3 _ I3 q3) fun w' s4 ⟨z',H4,I4,r4,q4⟩=>ho' pins s4 σ H4 y z' u w' Q I4 r2 r4 q4))
theorem G6 {op op':CmpOp}{r r':R2} (ho:OpR X (compareOp op) r) (ho':OpR X (compareOp op') r') (ha:PE X a ta) (hb:PE X b tb) (hc:PE X c tc)
  (hm:lastMarks [op,op'] [b,c]=false:=by with_unfolding_all rfl):PT X (.Compare a [op,op'] [b,c] pos) (A4 (wB r r' ta tb tc)):=by
 intro pins s σ H Q I h;refine isTrue_chain (thn (ha pins s σ H _ I h) fun v s1 ⟨x,H1,I1,r1,q1⟩=>test_link (thn (hb pins s1 σ H1 _ I1 q1) fun u s2 ⟨y,H2,I2,r2,q2⟩ =>
  thn (ho pins s2 σ H2 x y v u _ I2 r1 r2 q2) fun d s3 ⟨z,H3,I3,r3,k,e,q3⟩=> ?_)) hm
 subst e;cases r3;refine wpAny_truthy_bool ?_;cases k with
 | false =>
  obtain⟨k',e',q'⟩:=q3;cases e';exact ite_ff ⟨H3,I3,q'⟩
 | true =>
  refine ite_tt (test_last (thn (hc pins s3 σ H3 _ I3 q3) fun w' s4 ⟨z',H4,I4,r4,q4⟩=>thn (ho' pins s4 σ H4 y z' u w' _ I4 r2 r4 q4) fun d' s5 ⟨z2,H5,I5,r5,k2,e2,q5⟩=> ?_));subst e2;cases r5;exact wpAny_truthy_bool ⟨H5,I5,q5⟩
theorem k6:(sizeLine:Nat)<2^63:=by rw[sizeLine_eq];decide
theorem BT:OpR X (binaryOp .Add) (fun x y H Q=>∃i j,x= .str i/\y= .str j/\i.length+j.length<=sizeLine/\Q (.str (i++j)) H):=by
 intro pins s σ H x y v u Q I rx ry h;obtain⟨i,j,rfl,rfl,hz,q⟩:=h;obtain⟨t,rfl⟩:=rx;obtain⟨t',rfl⟩:=ry;exact add_str (fun t' tk=>⟨.str (i++j),H,I.tok _,⟨_,rfl⟩,q⟩) hz
theorem fD {x:V}{us:List Value} (r:Vals [x] us):∃u,us=[u]/\RelV x u:=by
 cases r with
 | cons r1 r2=>cases r2;exact⟨_,rfl,r1⟩
theorem AM {x y:V}{us:List Value} (r:Vals [x,y] us):∃u w',us=[u,w']/\RelV x u/\RelV y w':=by
 cases r with
 | cons r1 r2 =>
  cases r2 with
  | cons r3 r4=>cases r4;exact⟨_,_,rfl,r1,r3⟩
theorem v5:b9 X (.type "str") (fun xs H Q=>∃i,xs=[.int i]/\i.natAbs.log2<1920/\Q (.str (toString i)) H):=by
 intro pins s σ H xs us Q I r h;obtain⟨i,rfl,hz,q⟩:=h;obtain⟨u,rfl,t,rfl⟩:=fD r;exact PySem.P.str_of_int hz ⟨.str _,H,I.tok _,⟨_,rfl⟩,q⟩
end
end L2
namespace L2
open PySem PySem.Spec PyProof.Rows
structure ObjM (h:Heap)(x dx C:Addr)(mA:Str->Option Value):Prop where
 obj:h.get? x=some (PySem.W.instObj C dx)
 ns:h.Ns1 dx mA
 ne:dx≠x
theorem EI {h:Heap}{dx:Addr}{mA:Str->Option Value} (n:h.Ns1 dx mA):∃od,h.get? dx=some od/\∀name,PySem.W.lookIn name od=some (mA name):=by
 obtain⟨o,es,ep,ho,hd,hk,_,hm⟩:=n;refine⟨o,ho,fun name=> ?_⟩;have e:=hm name;unfold nsFind findBy at e;rw[←Array.find?_toList]at e;unfold PySem.W.lookIn;rw[hd]
 dsimp only
 split
 ·rename_i y q;rw[q]at e;exact congrArg some e
 ·rename_i q;rw[q]at e;have a:es.toList.any (·.refKey)=false:=by
   rw[List.any_eq_false];intro y hy;obtain⟨z,t,hkey⟩:=hk y (Array.mem_toList_iff.mp hy);simp[DictEntry.refKey,hkey]
  have a':¬es.toList.any (·.refKey)=true:=by rw[a];exact Bool.false_ne_true
  rw[if_neg a'];exact congrArg some e
theorem ObjM.look {h:Heap}{x dx C:Addr}{mA:Str->Option Value} (I:ObjM h x dx C mA):∃od,PySem.W.InstAt h x (PySem.W.instObj C dx) C (some od)/\∀name,PySem.W.lookIn name od=some (mA name) :=
 let ⟨od,ho,hl⟩:=EI I.ns
 ⟨od,⟨I.obj,rfl,rfl,ho⟩,hl⟩
section
variable {prog:Program}{w:World}{A:Around}{E:Value->Shared->Prop}{s:Shared}{K:PySem.W.Frag}{x dx C f:Addr}{mA:Str->Option Value}{name:Str}{v:Value}
end
section
variable {P:Program}{w:World}{H H':Hp}{h h':Heap}{a C dx:Addr}{fs fs':List (Str×V)}
theorem LJ (hok:HOk P w H h)(e:H a=some (.ins C dx fs)):∃mA,ObjM h a dx C mA/\(∀f,RelO (fs.lookup f) (mA f))/\PySem.Within mA (fs.map (·.1))/\fs.length<=1000/\H dx=some (.own a):=by
 obtain⟨d,z,ne,ob,mA,n,r,q⟩:=(show ObjOk P w H h a (.ins C dx fs) from hok a _ e)
 exact⟨mA,⟨ob,n,ne⟩,r,q,z,d⟩
end
structure Cls (K:PySem.W.Frag)(C:Addr):Prop where
 pg:PySem.W.plainGet K C Str.empty=true
 hd:PySem.W.hasDictIn K C=true
 po:PySem.W.plainOver K C=true
 sa:PySem.W.findIn K (.ref C) "__setattr__" =some (some (.builtin "object.__setattr__"))
theorem Cls.get {K:PySem.W.Frag}{C:Addr} (c:Cls K C) (f:Str):PySem.W.plainGet K C f=true:=c.pg
section
variable {X:Cx}{pins:List (Addr×Obj)}{σ:St}{H:Hp}{s:Shared}{a C dx:Addr}{fs:List (Str×V)}{f:Str}{v:V}{A:Around}{E:Value->Shared->Prop}
end
section
variable {X:Cx}{o e value:Expr}{f:Str}{pos pos' tpos:Pos}{ta tv:TE}
end
section
variable {X:Cx}{pins:List (Addr×Obj)}{σ:St}{H:Hp}{s:Shared}{A:Around}{E:Value->Shared->Prop}{Q:Value->Shared->Prop}{c:Value}{b:Bool}
inductive fN (K:PySem.W.Frag)(H:Hp):V->Value->Prop where
 | non:fN K H .non (.type "NoneType")
 | bl (x:Bool):fN K H (.bl x) (.type "bool")
 | int (i:Int):fN K H (.int i) (.type "int")
 | str (x:Str):fN K H (.str x) (.type "str")
 | flt (x:UInt64):fN K H (.flt x) (.type "float")
 | lst {a:Addr}{xs:List V} (e:H a=some (.lst xs)):fN K H (.ref a) (.type "list")
 | frz {a:Addr}{o:Obj}{xs:List V} (e:H a=some (.frz o (.lst xs))):fN K H (.ref a) (.type "list")
 | tup {a:Addr}{xs:List V} (e:H a=some (.tup xs)):fN K H (.ref a) (.type "tuple")
 | dK {a:Addr}{kvs:List (Key×V)} (e:H a=some (.dK kvs)):fN K H (.ref a) (.type "dict")
 | dT {a:Addr}{kvs:List (List Key×V)} (e:H a=some (.dT kvs)):fN K H (.ref a) (.type "dict")
 | ins {a C dx:Addr}{fs:List (Str×V)} (e:H a=some (.ins C dx fs)) (cl:Cls K C) (ha:PySem.W.findIn K (.ref C) "__class__" =some (some (.builtin "object.__class__")))
   (hn:PySem.W.specialIn K (.builtin "object.__class__") "__get__" =some (some (.builtin "getset_descriptor.__get__")))(htk:PySem.W.takesIn K (.builtin "object.__class__")=some true)
   (hm:PySem.W.mroIn K C (.type "object")=some true):fN K H (.ref a) (.ref C)
theorem D9 {x:V}{u t:Value} (I:Inv X pins σ H s) (rx:RelV x u) (ty:fN X.K H x t) (e:PySem.W.kitOne X.K t c=some b) (h:∀tk,Q (.bool b) { s with toks:=tk }) :
  wpAny (model X.prog X.w) A (call (.builtin "isinstance") [u,c]) Q E s:=by
 cases ty with
 | non=>cases (show u=Value.none from rx);exact PySem.W.kia_one PySem.W.kitx_none I.kIn True.intro e (fun z=>nomatch z) h
 | bl y=>cases (show u=Value.bool y from rx);exact PySem.W.kia_one PySem.W.kitx_bool I.kIn True.intro e (fun z=>nomatch z) h
 | int i=>obtain⟨t,q⟩:=(show ∃t,u=Value.int i t from rx);cases q;exact PySem.W.kia_one PySem.W.kitx_int I.kIn True.intro e (fun z=>nomatch z) h
 | str y=>obtain⟨t,q⟩:=(show ∃t,u=Value.str y t from rx);cases q;exact PySem.W.kia_one PySem.W.kitx_str I.kIn True.intro e (fun z=>nomatch z) h
 | flt y=>obtain⟨t,q⟩:=(show ∃t,u=Value.float y t from rx);cases q;exact PySem.W.kia_one PySem.W.kitx_float I.kIn True.intro e (fun z=>nomatch z) h
 | @lst a xs ea =>
  cases (show u=Value.ref a from rx);obtain⟨_,_,n,_,h1⟩:=(show ObjOk X.prog X.w H s.heap a (.lst xs) from I.hok a _ ea)
  exact PySem.W.kia_one PySem.W.kitx_list I.kIn ⟨_,h1,rfl⟩ e (fun z=>nomatch z) h
 | @frz a ob xs ea =>
  cases (show u=Value.ref a from rx);obtain⟨_,_,_,n,_,h1⟩:=(show ObjOk X.prog X.w H s.heap a (.frz ob (.lst xs)) from I.hok a _ ea)
  exact PySem.W.kia_one PySem.W.kitx_list I.kIn ⟨_,h1,rfl⟩ e (fun z=>nomatch z) h
 | @tup a xs ea =>
  cases (show u=Value.ref a from rx);obtain⟨_,_,_,p⟩:=(show ObjOk X.prog X.w H s.heap a (.tup xs) from I.hok a _ ea)
  obtain⟨o,h1,h2,_⟩:=p;exact PySem.W.kia_one PySem.W.kitx_tuple I.kIn ⟨o,h1,h2⟩ e (fun z=>nomatch z) h
 | @dK a kvs ea =>
  cases (show u=Value.ref a from rx);obtain⟨_,_,vs,_,p⟩:=(show ObjOk X.prog X.w H s.heap a (.dK kvs) from I.hok a _ ea)
  obtain⟨o,es,ep,h1,h2,_⟩:=p;exact PySem.W.kia_one PySem.W.kitx_dict I.kIn ⟨o,h1,h2.1⟩ e (fun z=>nomatch z) h
 | @dT a kvs ea =>
  cases (show u=Value.ref a from rx);obtain⟨_,_,xs,_,o,es,ep,h1,h2,_⟩:=(show ObjOk X.prog X.w H s.heap a (.dT kvs) from I.hok a _ ea)
  exact PySem.W.kia_one PySem.W.kitx_dict I.kIn ⟨o,h1,h2.1⟩ e (fun z=>nomatch z) h
 | @ins a C dx fs ea cl ha hn htk hm =>
  cases (show u=Value.ref a from rx);obtain⟨mA,O,_⟩:=LJ I.hok ea;obtain⟨od,J,_⟩:=O.look;exact PySem.W.kia_one (PySem.W.kitx_own (cl.get _) cl.hd ha hn htk hm) I.kIn J e (fun z=>nomatch z) h
end
end L2
namespace L2
open PySem PySem.Spec PyProof.Rows
structure Room (k:Nat)(A:Around):Prop where
 hd:A.handled=none
 dp:A.depth+3 * k+5<recursionLimit
 un:A.units+16 * k+200<cLine
theorem Room.mono {j k:Nat}{A:Around} (r:Room k A) (h:j<=k):Room j A:=⟨r.hd,by have:=r.dp;lia,by have:=r.un;lia⟩
theorem Room.deeper {k:Nat}{A:Around} (r:Room (k+1) A) (env:Env):Room k (A.deeper env) :=
 ⟨r.hd,by have:=r.dp;show A.depth+1+3 * k+5<_;lia,by have:=r.un;show A.units+3+16 * k+200<_;lia⟩
theorem Room.depth {k:Nat}{A:Around} (r:Room k A):A.depth<recursionLimit:=by have:=r.dp;lia
theorem Room.units0 {k:Nat}{A:Around} (r:Room k A):A.units<cLine:=by have:=r.un;lia
def AX:TA:=fun _ H Q=>Q [] H
def CA (ta:TE)(tr:TA):TA:=fun σ H Q=>ta σ H fun x H1=>tr σ H1 fun xs H2=>Q (x::xs) H2
section
variable {X:Cx}{e:Expr}{es:List Expr}{te:TE}{t:TA}{pos:Pos}
theorem aB:PA X [] AX:=fun _ _ _ _ H Q I h=>Calls.spliced_nil ⟨[],H,I,.nil,h⟩
theorem aA (ha:PE X e te)(hr:PA X es t)(hs:starEach (e::es) X.env=(false,eval e X.env)::starEach es X.env:=by rfl):PA X (e::es) (CA te t):=by
 intro pos pins s σ H Q I h;rw[hs];show wpAny _ _ (spliced ((false,eval e X.env)::backTo pos (starEach es X.env))) _ _ s;refine Calls.spliced_cons (thn (ha pins s σ H _ I h) fun u s1 ⟨x,H1,I1,r1,q1⟩=> ?_);exact thn (hr pos pins s1 σ H1 _ I1 q1) fun us s2 ⟨xs,H2,I2,r2,q2⟩=>⟨x::xs,H2,I2,.cons r1 r2,q2⟩
def N7 (t:TA):TE:=fun σ H Q=>t σ H fun xs H1=>xs.length<=sizeLine/\∀p,H1 p=none->Q (.ref p) (upd H1 p (.tup xs))
def FG (t:TA):TE:=fun σ H Q=>t σ H fun xs H1=>xs.length<=sizeLine/\∀p,H1 p=none->Q (.ref p) (upd H1 p (.lst xs))
theorem iO {x1}(h:PA X es t):PE X (.Tuple es x1 pos) (N7 t):=by
 intro pins s σ H Q I hq;refine wpAny_Tuple_spliced (thn (h pos pins s σ H _ I hq) fun us s1 ⟨xs,H1,I1,r,z,q⟩=>⟨by rw[←r.length];exact z,?_⟩);have hf:H1 s1.heap.objs.size=none:=I1.hok.fresh (Nat.le_refl _);refine⟨.ref s1.heap.objs.size,upd H1 s1.heap.objs.size (.tup xs),I1.laid (t':=s1.toks) (fun b u e=>Heap.get?_push_of_some _ e) (Nat.le_refl _) ?_,rfl,q _ hf⟩;exact⟨z,us,r,⟨_,Heap.get?_push_size _ rfl,rfl,_,rfl⟩⟩
theorem cY (h:PA X es t):PE X (.List es pos) (FG t):=by
 intro pins s σ H Q I hq;refine wpAny_List_spliced (thn (h pos pins s σ H _ I hq) fun us s1 ⟨xs,H1,I1,r,z,q⟩=>⟨by rw[←r.length];exact z,?_⟩);have hf:H1 s1.heap.objs.size=none:=I1.hok.fresh (Nat.le_refl _);refine⟨.ref s1.heap.objs.size,upd H1 s1.heap.objs.size (.lst xs),I1.laid (t':=s1.toks) (fun b u e=>Heap.get?_push_of_some _ e) (Nat.le_refl _) ?_,rfl,q _ hf⟩;exact⟨z,us,0,r,Heap.get?_push_size _ rfl⟩
end
abbrev Sp:=List V->Hp->VK->XK->Prop
abbrev CXT:=List Env->Hp->Shared->XK->Value->Shared->Prop
structure BS (P:Program)(w:World)(K:PySem.W.Frag)(mg:Str->Option Value)(base:Heap)(A:Around)(outer:List Env)(s:Shared)(H:Hp):Prop where
 frames:A.frames=some outer
 mod:Mod K mg base
 bs:∀b o,base.get? b=some o->s.heap.get? b=some o/\H b=none
 bsz:base.objs.size<=s.heap.objs.size
 funs:s.heap.FunFrames base outer
 frf:∀b∈frs outer,H b=none
 hok:HOk P w H s.heap
 bare:AllBare s.gens
def CE (outer:List Env)(P:Program)(w:World)(H:Hp)(s:Shared)(Q:VK)(u:Value)(s':Shared):Prop :=
 ∃v H',s'.os=s.os/\AllBare s'.gens/\Un (frs outer) [] H H' s.heap s'.heap/\HOk P w H' s'.heap/\RelV v u/\Q v H'
def CR (CX:CXT)(outer:List Env)(P:Program)(w:World)(H:Hp)(s:Shared)(Q:VK)(E:XK)(r:Result)(s':Shared):Prop :=
 match r with
 | .ok (.ret u)=>CE outer P w H s Q u s'
 | .ok _=>False
 | .error e=>CX outer H s E e s'
structure bX (P:Program)(w:World)(K:PySem.W.Frag)(mg:Str->Option Value)(base:Heap)(CX:CXT)(k:Nat)(f:Addr)(fd:FuncData)(ps:List Str)(sp:Sp):Prop where
 len:∀vs H Q E,sp vs H Q E->vs.length=ps.length
 run:∀(A:Around) (outer:List Env) (s:Shared) (H:Hp) (args:Args) (us:List Value) (vs:List V) (Q:VK) (E:XK),Room k A->BS P w K mg base A outer s H->BindsTo s fd args (ps.zip us)->Vals vs us->sp vs H Q E →
  codeAny (model P w) A (.call (.ref f) args) (CR CX outer P w H s Q E) s
section
variable {X:Cx}{pins:List (Addr×Obj)}{σ:St}{H:Hp}{s s':Shared}
theorem Inv.env0 (I:Inv X pins σ H s):BS X.prog X.w X.K X.mg X.base X.A X.stack s H :=
 ⟨I.ok.frames,I.ok.mod,I.bs,Nat.le_trans I.ok.bsz I.sz,I.stack,I.stkFree,I.hok,I.bare⟩
theorem Inv.after {Q:VK}{u:Value} (I:Inv X pins σ H s) (h:CE X.stack X.prog X.w H s Q u s'):EP X pins σ Q u s':=by
 obtain⟨v,H',os,bare,un,hok,r,q⟩:=h;obtain⟨hh,g,d,t,os'⟩:=s';obtain rfl:os'=s.os:=os;exact⟨v,H',I.call (h':=hh) (g':=g) (d':=d) (t':=t) (ch:=[]) un hok bare (fun b z=>absurd z (by simp)),r,q⟩
end
def o6 (sp:Sp)(dvs:List V)(E:XK)(t:TA):TE:=fun σ H Q=>t σ H fun vs H1=>sp (vs++dvs) H1 Q E
def Binds (K:PySem.W.Frag)(fd:FuncData)(ps:List Str)(ds:List Value):Prop :=
 ∀(s:Shared) (us:List Value),K.In s.heap->(us++ds).length=ps.length->BindsTo s fd ⟨us,[]⟩ (ps.zip (us++ds))
theorem Binds.all {K:PySem.W.Frag}{fd:FuncData}{ps:List Str} (h:∀us:List Value,us.length=ps.length->bindArgs fd ⟨us,[]⟩=pure (ps.zip us)):Binds K fd ps []:=fun s us _ hl=>by
 rw[List.append_nil]at hl ⊢;exact .of_eq (h us hl)
def jE (CX:CXT)(X:Cx)(E:XK):Prop:=∀(pins:List (Addr×Obj)) (σ:St) (H:Hp) (s:Shared) (e:Value) (s':Shared),Inv X pins σ H s->CX X.stack H s E e s'->X.xe e s'
section
variable {X:Cx}{CX:CXT}{k:Nat}{f C:Addr}{fd:FuncData}{ps:List Str}{sp:Sp}{dvs:List V}{ds:List Value}{E:XK}{x m:Str}{p pos apos:Pos}{e o:Expr}{es:List Expr}{ta:TE}{t:TA}
theorem MJ {pins:List (Addr×Obj)}{σ:St}{H:Hp}{s:Shared}{Q:VK}{us:List Value}{vs:List V} (F:bX X.prog X.w X.K X.mg X.base CX k f fd ps sp) (hr:Room k X.A) (hb:Binds X.K fd ps ds) (hd:Vals dvs ds) (hx:jE CX X E)
  (I:Inv X pins σ H s)(r:Vals vs us)(h:sp (vs++dvs) H Q E):wpAny (model X.prog X.w) X.A (call (.ref f) us) (EP X pins σ Q) X.xe s:=by
 have r2:Vals (vs++dvs) (us++ds):=r.append hd;have hl:(us++ds).length=ps.length:=by rw[←r2.length];exact F.len _ _ _ _ h
 refine wpAny_call (codeAny_mono (F.run X.A X.stack s H ⟨us,[]⟩ (us++ds) (vs++dvs) Q E hr I.env0 (hb s us I.kIn hl) r2 h) fun r s' hq=> ?_);cases r with
 | error e=>exact hx pins σ H s e s' I hq
 | ok fl =>
  cases fl with
  | ret u=>exact I.after hq
  | next=>exact False.elim hq
  | brk=>exact False.elim hq
  | cont=>exact False.elim hq
theorem zU (F:bX X.prog X.w X.K X.mg X.base CX k f fd ps sp)(hr:Room k X.A)(hg:Gl X x)(hm:X.mg x=some (.ref f))(hk:PySem.W.keepIn X.K (.ref f)=true)(hb:Binds X.K fd ps ds)(hd:Vals dvs ds)(hx:jE CX X E)
  (ha:PA X (e::es) t)(hdb:(x==("__debug__" :Str))=false:=by decide)(he:starEach (e::es) X.env=(false,eval e X.env)::starEach es X.env:=by rfl)(hpl:(backTo pos (starEach es X.env)).any (·.1)=false:=by rfl) :
  PE X (.Call (.Name x p) (e::es) [] pos) (o6 sp dvs E t):=by
 intro pins s σ H Q I h;refine wpAny_Call_Name_kw (kU I hg hm ?_ hdb);refine PySem.W.callWith_K (h₀:=X.base) I.ok.mod.kin hk (thn (ha pos pins s σ H _ I h) fun us s1 ⟨vs,H1,I1,r,q⟩=>⟨I1.kIn,?_⟩) he hpl;exact MJ F hr hb hd hx I1 r q
end
section
variable {X:Cx}{CX:CXT}{k:Nat}{f C:Addr}{fd:FuncData}{ps ks:List Str}{sp:Sp}{E:XK}{x m:Str}{p pos apos kpos:Pos}{e o:Expr}{es:List Expr}{kws:List Keyword}{te ta:TE}{t tk:TA}{nm:Option Str}
variable {g:List Value->List Value->List Value}{gV:List V->List V->List V}
end
structure bE (N P:List Str)(sc:Scope):Prop where
 kind:sc.kind= .function
 co:sc.isCoroutine=false
 gen:sc.isGenerator=false
 nd:N.Nodup
 pre:N.take P.length=P
 par:∀x∈P,sc.names.lookup x=some .local∨sc.names.lookup x=some .cell
 nofree:∀y∈sc.names,y.2≠ .free
theorem tI {kindOf:Str->Option NameKind}{x:Str}:∀{binds:List (Str×Value)}{m:Str->Option Value},(∀v,(x,v)∉binds)->bindL kindOf binds m x=m x
 | [],_,_=>rfl
 | (n,v)::r,m,h=>by
  unfold bindL;rw[tI fun w hw=>h w (List.mem_cons_of_mem _ hw)]
  split
  ·have:x≠n:=by rintro rfl;exact h v List.mem_cons_self
   simp[this]
  ·rfl
theorem sT {kindOf:Str->Option NameKind}{x:Str}:∀{binds:List (Str×Value)}{m:Str->Option Value},(∀v,(x,v)∉binds)->bindC kindOf binds m x=m x
 | [],_,_=>rfl
 | (n,v)::r,m,h=>by
  unfold bindC;rw[sT fun w hw=>h w (List.mem_cons_of_mem _ hw)]
  split
  ·rfl
  ·have:x≠n:=by rintro rfl;exact h v List.mem_cons_self
   simp[this]
theorem sU {kindOf:Str->Option NameKind}{x:Str}{v:Value}:∀{P:List Str}{vs:List Value}{i:Nat}{m:Str->Option Value},P.Nodup->P[i]? =some x->vs[i]? =some v->kindOf x=some .local →
  bindL kindOf (P.zip vs) m x=some v
 | [],_,_,_,_,h,_,_=>by simp at h
 | _::_,[],_,_,_,_,h,_=>by simp at h
 | p::P,w::vs,0,m,nd,h1,h2,hk=>by
  simp at h1 h2;subst h1;subst h2;show bindL kindOf ((p,w)::P.zip vs) m p=_;unfold bindL;rw[tI fun v hv=>(List.nodup_cons.mp nd).1 (List.of_mem_zip hv).1,if_pos hk];simp
 | p::P,w::vs,i+1,m,nd,h1,h2,hk=>by
  show bindL kindOf ((p,w)::P.zip vs) m x=_;unfold bindL;exact sU (i:=i) (List.nodup_cons.mp nd).2 (by simpa using h1) (by simpa using h2) hk
theorem tW {kindOf:Str->Option NameKind}{x:Str}{v:Value}:∀{P:List Str}{vs:List Value}{i:Nat}{m:Str->Option Value},P.Nodup->P[i]? =some x->vs[i]? =some v->kindOf x≠some .local →
  bindC kindOf (P.zip vs) m x=some v
 | [],_,_,_,_,h,_,_=>by simp at h
 | _::_,[],_,_,_,_,h,_=>by simp at h
 | p::P,w::vs,0,m,nd,h1,h2,hk=>by
  simp at h1 h2;subst h1;subst h2;show bindC kindOf ((p,w)::P.zip vs) m p=_;unfold bindC;rw[sT fun v hv=>(List.nodup_cons.mp nd).1 (List.of_mem_zip hv).1,if_neg hk];simp
 | p::P,w::vs,i+1,m,nd,h1,h2,hk=>by
  show bindC kindOf ((p,w)::P.zip vs) m x=_;unfold bindC;exact tW (i:=i) (List.nodup_cons.mp nd).2 (by simpa using h1) (by simpa using h2) hk
def fX (N:List Str)(vs:List V):St:=vs.map some++List.replicate (N.length - vs.length) none
def eR (CX:CXT)(P:Program)(w:World)(K:PySem.W.Frag)(mg:Str->Option Value)(base:Heap)(N:List Str)(qual:Str)(scope:Scope)(f:Addr)(cd:Value)(A:Around)(outer:List Env)(s:Shared)(H:Hp)(E:XK):Cx where
 prog:=P
 w:=w
 K:=K
 mg:=mg
 base:=base
 A:=A.deeper (envOfC qual scope s.heap.objs.size f cd)
 N:=N
 s₀:=s
 H₀:=H
 env:=envOfC qual scope s.heap.objs.size f cd
 outer:=outer
 stack:=envOfC qual scope s.heap.objs.size f cd::outer
 ex:=[]
 calm:=true
 fn:=fun _=>true
 pn:=[]
 xe:=fun e s'=>wpAny (model P w) (A.deeper (envOfC qual scope s.heap.objs.size f cd)) (leaving (envOfC qual scope s.heap.objs.size f cd) e) (fun _ s''=>CX outer H s E e s'') (fun e' s''=>CX outer H s E e' s'') s'
theorem pJ {sc:Scope}{n:Nat}{x:Str} (h:sc.names.lookup x=some .cell):∃c,(cellsFrom n sc.names []).lookup x=some c:=by
 have q:=PySem.W.cellsFrom_some sc.names n [] (.inl h);exact Option.isSome_iff_exists.mp q
theorem E2 {CX:CXT}{P:Program}{w:World}{K:PySem.W.Frag}{mg:Str->Option Value}{base:Heap}{N ps:List Str}{qual:Str}{scope:Scope}{f:Addr}{cd:Value}{A:Around}{outer:List Env}{s s1:Shared}{H:Hp}{E:XK}{us:List Value}{vs:List V}
  (S:bE N ps scope)(hd:A.handled=none)(e0:BS P w K mg base A outer s H)(hl:vs.length=ps.length)(r:Vals vs us)
  (x:InCallC s s.heap.objs.size (bindL (envOfC qual scope s.heap.objs.size f cd).kindOf (ps.zip us) fun _=>none) (cellsFrom (s.heap.objs.size+1) scope.names []) (bindC (envOfC qual scope s.heap.objs.size f cd).kindOf (ps.zip us) fun _=>none) s1) :
  Inv (eR CX P w K mg base N qual scope f cd A outer s H E) [] (fX N vs) H s1:=by
 have hpl:ps.length<=N.length:=by have:=congrArg List.length S.pre;rw[List.length_take]at this;lia
 obtain⟨h1,tk,rfl,hk⟩:=x.done;have noA:∀b:Addr,b∉(eR CX P w K mg base N qual scope f cd A outer s H E).ex:=fun b z=>absurd (show b∈([]:List Addr) from z) (by simp);refine⟨⟨e0.mod,S.kind,rfl,rfl,Nat.le_refl _,fun y z c h1 h2=> ?_,fun y hy=> ?_,fun y c _ h=> ?_,fun _=>hd,Around.frames_deeper e0.frames,.inr ⟨rfl,rfl⟩,fun b z=>absurd z (noA b),e0.bs,e0.bsz,fun b _ _=>noA b,fun b z=>absurd z (noA b),e0.funs,e0.frf⟩,
  rfl,e0.bare,Un.kept hk,⟨_,x.toInCall.ns,fun i y v h1 h2 h3=> ?_⟩,fun y c h=>⟨_,x.cell y c h⟩,e0.hok.fresh (Nat.le_refl _),fun y c h=> ?_,fun p hp=>absurd (show p∈([]:List (Addr×Obj)) from hp) (by simp),e0.hok.kept hk,?_⟩
 ·exact name_of_addr x.apart (PySem.mem_of_lookup h1) (PySem.mem_of_lookup h2)
 ·have hy:scope.names.lookup y=some .cell∨scope.names.lookup y=some .free:=hy;rcases hy with hy|hy
  ·exact pJ hy
  ·exact absurd rfl (S.nofree _ (PySem.mem_of_lookup hy))
 ·exact Nat.le_of_lt (x.above y c (PySem.mem_of_lookup h))
 ·have hi:i<vs.length:=by
   unfold fX at h2
   by_cases hi:i<vs.length
   ·exact hi
   ·rw[List.getElem?_append_right (by simpa using hi)]at h2;rw[List.getElem?_replicate]at h2
    split at h2<;>cases h2
  have ha:vs[i]? =some v:=by
   unfold fX at h2;rw[List.getElem?_append_left (by simpa using hi),List.getElem?_map]at h2;cases e:vs[i]? with
   | none=>rw[e]at h2;cases h2
   | some a=>rw[e]at h2;cases h2;rfl
  obtain⟨u,hu,rv⟩:=r.get ha;have hp:ps[i]? =some y:=by
   rw[←S.pre,List.getElem?_take_of_lt (by lia)];exact h1
  have ndP:ps.Nodup:=by rw[←S.pre];exact S.nd.sublist (List.take_sublist _ _)
  refine⟨u,rv,?_⟩;rcases S.par y (List.mem_of_getElem? hp) with k|k
  ·exact .inl ⟨k,sU ndP hp hu k⟩
  ·obtain⟨c,e⟩:=pJ (n:=s.heap.objs.size+1) k;refine .inr ⟨.inl k,c,e,?_⟩;have q:=x.cell y c e;rw[tW ndP hp hu (by show scope.names.lookup y≠_;rw[k];decide)]at q;exact q
 ·exact e0.hok.fresh (Nat.le_of_lt (x.above y c (PySem.mem_of_lookup h)))
 ·unfold fX;show _=N.length;rw[List.length_append,List.length_map,List.length_replicate]
  lia
theorem JF {CX:CXT}{P:Program}{w:World}{K:PySem.W.Frag}{mg:Str->Option Value}{base:Heap}{k:Nat}{f:Addr}{name qual:Str}{params:Arguments}{body:List Stmt}{scope:Scope}{dV kV doc pm cdv ct oc:Value}{an od:Option Addr}
  {osl:Array (Option Value)}{N ps:List Str}{sp:Sp} (lk:K.lookup f=some ⟨oc,od,.func (PySem.W.fnOf name qual params body scope dV kV doc pm an cdv ct),osl⟩) (hcd:PySem.W.codeIn K cdv qual=true) (S:bE N ps scope)
  (len:∀vs H Q E,sp vs H Q E->vs.length=ps.length)
  (hbody:∀(A:Around) (outer:List Env) (s:Shared) (H:Hp) (vs:List V) (Q:VK) (E:XK),Room k (A.deeper (envOfC qual scope s.heap.objs.size f cdv))->sp vs H Q E →
   ∃t,PSs (eR CX P w K mg base N qual scope f cdv A outer s H E) body t/\t { nx:=fun _ H'=>Q .non H',rt:=Q } (fX N vs) H) :
  bX P w K mg base CX (k+1) f (PySem.W.fnOf name qual params body scope dV kV doc pm an cdv ct) ps sp:=by
 refine⟨len,fun A outer s H args us vs Q E hr e0 hb r hsp=> ?_⟩;have hl:=len _ _ _ _ hsp;have KX:K.In s.heap:=e0.mod.kin.keeps fun b o e=>(e0.bs b o e).1;have lim:s.heap.NoLimit:=e0.mod.nolimit.keeps fun b o e=>(e0.bs b o e).1;have hkind:∀y∈ps.zip us,scope.names.lookup y.1=some .local∨(scope.names.lookup y.1=some .cell/\((cellsFrom (s.heap.objs.size+1) scope.names []).lookup y.1).isSome=true):=fun⟨n,v⟩ hy=>by
  rcases S.par n (List.of_mem_zip hy).1 with q|q
  ·exact .inl q
  ·exact .inr ⟨q,PySem.W.cellsFrom_some _ _ _ (.inl q)⟩
 refine codeAny_call_function hr.depth (KX _ _ lk) rfl S.co S.gen rfl (PySem.W.codeRec_of KX hcd) (hb _ _ _ _ ?_);refine wpAny_newFunctionEnv_cells S.kind hkind fun env he s1 x=> ?_;subst he;refine⟨lim.keeps x.toInCall.keep,codeAny_func ?_⟩;obtain⟨t,ht,hq⟩:=hbody A outer s H vs Q E (hr.deeper _) hsp;have I:Inv (eR CX P w K mg base N qual scope f cdv A outer s H E) [] (fX N vs) H s1:=E2 S hr.hd e0 hl r x;refine wpAny_mono (ht [] s1 (fX N vs) H _ I hq) (fun fl s' hs=> ?_) fun e s' hs=>hs;have fin:∀{σ':St}{H':Hp}{v:V}{u:Value},Inv (eR CX P w K mg base N qual scope f cdv A outer s H E) [] σ' H' s'->RelV v u->Q v H'->CE outer P w H s Q u s' :=
  fun {σ' H' v u} J rv q=>⟨v,H',J.os,J.bare,J.base,J.hok,rv,q⟩
 cases fl with
 | ret u =>
  obtain⟨v,σ',H',J,rv,q⟩:=hs;exact fin J rv q
 | next =>
  obtain⟨σ',H',J,q⟩:=hs;exact fin (v:=V.non) (u:=Value.none) J rfl q
 | brk =>
  obtain⟨_,_,_,q⟩:=hs;exact False.elim q
 | cont =>
  obtain⟨_,_,_,q⟩:=hs;exact False.elim q
end L2
namespace L2
open PySem PySem.Spec PyProof.Rows
section
variable {X:Cx}{x:Str}{p pos:Pos}{e:Expr}{es:List Expr}{t:TA}{id T:String}{r:List V->Hp->VK->Prop}
def tCB (r:List V->Hp->VK->Prop)(t:TA):TE:=fun σ H Q=>t σ H fun vs H1=>r vs H1 Q
theorem bR (hc:b9 X (.builtin id) r)(hg:Gl X x)(hm:X.mg x=none)(hv:bootBuiltins x=some (.builtin id))(ha:PA X (e::es) t)(hn:x≠ "__name__" :=by decide)(hdb:(x==("__debug__" :Str))=false:=by decide)
  (he:starEach (e::es) X.env=(false,eval e X.env)::starEach es X.env:=by rfl)(hpl:(backTo pos (starEach es X.env)).any (·.1)=false:=by rfl):PE X (.Call (.Name x p) (e::es) [] pos) (tCB r t):=by
 intro pins s σ H Q I h;refine wpAny_Call_Name_kw (nU I hg hm hv ?_ hn hdb);exact PyProof.Rows.callWith_builtin1 (thn (ha pos pins s σ H _ I h) fun us s1 ⟨vs,H1,I1,r1,q1⟩=>hc pins s1 σ H1 vs us Q I1 r1 q1) he hpl
theorem fS (hc:b9 X (.type T) r)(hg:Gl X x)(hm:X.mg x=none)(hv:bootBuiltins x=some (.type T))(ha:PA X (e::es) t)(hn:x≠ "__name__" :=by decide)(hdb:(x==("__debug__" :Str))=false:=by decide)
  (he:starEach (e::es) X.env=(false,eval e X.env)::starEach es X.env:=by rfl)(hpl:(backTo pos (starEach es X.env)).any (·.1)=false:=by rfl):PE X (.Call (.Name x p) (e::es) [] pos) (tCB r t):=by
 intro pins s σ H Q I h;refine wpAny_Call_Name_kw (nU I hg hm hv ?_ hn hdb);exact PyProof.Rows.callWith_type1 (thn (ha pos pins s σ H _ I h) fun us s1 ⟨vs,H1,I1,r1,q1⟩=>hc pins s1 σ H1 vs us Q I1 r1 q1) he hpl
end
end L2
namespace HT
open PySem PyProof.Rows
section
open PySem.SeqAt
open PySem.AutoSeq1 (wpAny_loadPart')
open PySem.MeetsSeq PySem.MeetsSeq2 PySem.MeetsSeq3
end
section
variable {prog:Program}{w:World}{A:Around}{E:Value->Shared->Prop}{s:Shared}
theorem cat_tup {t b:Addr}{vs ws:List Value}{Q:Value->Shared->Prop} (ht:IsTup s.heap t vs.toArray) (hb:IsTup s.heap b ws.toArray) (hv:vs≠[])
  (h1:ws=[]->Q (.ref t) s)(h2:ws≠[]->Q (.ref s.heap.objs.size) { s with heap:=s.heap.push { cls:= .type "tuple",data:= .seq (vs++ws).toArray } })
  (hsz:vs.length+ws.length<=sizeLine):wpAny (model prog w) A (binaryOp .Add (.ref t) (.ref b)) Q E s:=by
 obtain⟨⟨cls,dd,data,sl⟩,ho,hc,n,hd⟩:=id ht;obtain⟨⟨cls2,dd2,data2,sl2⟩,ho2,hc2,n2,hd2⟩:=id hb;simp only at hc hd hc2 hd2;subst hc hd hc2 hd2;have e:vs.toArray++ws.toArray=(vs++ws).toArray:=by simp
 by_cases hw:ws=[]
 ·exact concat_meets ⟨_,ho,rfl⟩ ⟨_,ho2,rfl⟩ noFill_tuple_add seq_tuple_add PySem.F.slot_tuple_add PySem.F.entry_tuple_add (PySem.F.args_tuple_add_2 _ _)
   (tuple_addW1 t b vs.toArray ws.toArray n n2 dd dd2 sl sl2 (by simpa using hv) (by simp[hw])) ⟨ho,ho2,h1 hw⟩
 ·refine concat_meets ⟨_,ho,rfl⟩ ⟨_,ho2,rfl⟩ noFill_tuple_add seq_tuple_add PySem.F.slot_tuple_add PySem.F.entry_tuple_add (PySem.F.args_tuple_add_2 _ _)
   (tuple_addW2 t b vs.toArray ws.toArray n n2 dd dd2 sl sl2 (by simpa using hv) (by simpa using hw) (by rw[List.size_toArray,List.size_toArray];exact hsz)) ⟨ho,ho2,?_⟩
  rw[e];exact h2 hw
def sIx (n d:Nat):Option Int->Nat
 | none=>d
 | some v=>if v<0 then (v+(n:Int)).toNat else min v.toNat n
theorem sIx_none (n d:Nat):sIx n d none=d:=rfl
theorem sIx_nat (n d k:Nat):sIx n d (some (k:Int))=min k n:=by
 show (if (k:Int)<0 then ((k:Int)+(n:Int)).toNat else min (k:Int).toNat n)=min k n;rw[if_neg (by lia),Int.toNat_natCast]
end
end HT
namespace L2
open PySem PySem.Spec PyProof.Rows
abbrev TO:=St->Hp->(Option Int->Hp->Prop)->Prop
def PO (X:Cx)(e:Option Expr)(t:TO):Prop :=
 ∀(pins:List (Addr×Obj)) (s:Shared) (σ:St) (H:Hp) (Q:Option Int->Hp->Prop),Inv X pins σ H s->t σ H Q →
  wpAny (model X.prog X.w) X.A (evalPart e X.env) (fun u s'=>∃o H',Inv X pins σ H' s'/\IsPart u o/\Q o H') X.xe s
def zS:TO:=fun _ H Q=>Q none H
def IZ (t:TE):TO:=fun σ H Q=>t σ H fun x H1=>∃i,x= .int i/\Q (some i) H1
section
variable {X:Cx}{e:Expr}{te:TE}{lo hi:Option Expr}{tl th:TO}{pos p2:Pos}
theorem gR:PO X none zS:=by
 intro pins s σ H Q I h;rw[evalPart_none];exact wpAny_pure ⟨none,H,I,.none,h⟩
theorem fF (h:PE X e te):PO X (some e) (IZ te):=by
 intro pins s σ H Q I hw;rw[evalPart_some];refine thn (h pins s σ H _ I hw) fun u s1 ⟨x,H1,I1,r1,q1⟩=> ?_;obtain⟨i,rfl,q⟩:=q1;obtain⟨t,rfl⟩:=r1;exact⟨some i,H1,I1,.int i t,q⟩
def SlR (X:Cx)(r:V->Option Int->Option Int->Hp->VK->Prop):Prop :=
 ∀(pins:List (Addr×Obj)) (s:Shared) (σ:St) (H:Hp) (x:V) (v vl vu:Value) (lo hi:Option Int) (sl:Addr) (Q:VK),Inv X pins σ H s->RelV x v->s.heap.IsSliceOf sl vl vu .none->IsPart vl lo->IsPart vu hi->r x lo hi H Q →
  ∃T id,typeLookup (.type T) "__getitem__" =pure (some (.builtin id))/\s.TypeIs v T/\wpAny (model X.prog X.w) X.A (getItem v (.ref sl)) (EP X pins σ Q) X.xe s
def tSl (r:V->Option Int->Option Int->Hp->VK->Prop)(te:TE)(tl th:TO):TE:=fun σ H Q=>te σ H fun x H1=>tl σ H1 fun l H2=>th σ H2 fun u H3=>r x l u H3 Q
theorem eT {r:V->Option Int->Option Int->Hp->VK->Prop}(hr:SlR X r)(he:PE X e te)(hl:PO X lo tl)(hu:PO X hi th):PE X (.Subscript e (.Slice lo hi none p2) pos) (tSl r te tl th):=by
 intro pins s σ H Q I h;refine Subscript_ (thn (he pins s σ H _ I h) fun v s1 ⟨x,H1,I1,r1,q1⟩=> ?_);refine wpAny_Slice (thn (hl pins s1 σ H1 _ I1 q1) fun vl s2 ⟨l,H2,I2,pl,q2⟩=>thn (hu pins s2 σ H2 _ I2 q2) fun vu s3 ⟨u,H3,I3,pu,q3⟩=> ?_);rw[evalPart_none];refine wpAny_pure ?_;have I4:Inv X pins σ H3 { s3 with heap:=s3.heap.push { cls:= .type "slice",data:= .fields #[vl,vu,.none] } }:=I3.kept (t':=s3.toks) fun b ob q=>Heap.get?_push_of_some _ q;obtain⟨T,id,hT,ht,hg⟩:=hr pins { s3 with heap:=s3.heap.push { cls:= .type "slice",data:= .fields #[vl,vu,.none] } } σ H3 x v vl vu l u s3.heap.objs.size Q I4 r1 (Heap.IsSliceOf.new ..) pl pu q3;show wpAny (model X.prog X.w) X.A (subscriptTail e (.Slice lo hi none p2) v (.ref s3.heap.objs.size)) (EP X pins σ Q) X.xe { s3 with heap:=s3.heap.push { cls:= .type "slice",data:= .fields #[vl,vu,.none] } };exact tail_any (ops:=[.ref s3.heap.objs.size,v]) ht hT hg (by with_unfolding_all rfl)
def iR (xs:List V)(lo hi:Option Int):List V:=(xs.drop (HT.sIx xs.length 0 lo)).take (HT.sIx xs.length xs.length hi - HT.sIx xs.length 0 lo)
theorem x5 (xs:List V)(lo hi:Option Int):(iR xs lo hi).length<=xs.length:=by
 unfold iR;rw[List.length_take,List.length_drop]
 lia
def B9 (K:PySem.W.Frag):R2:=fun x y H Q=>∃a b xs ys,x= .ref a/\y= .ref b/\SqT K H a xs/\SqT K H b ys/\xs≠[]/\xs.length+ys.length<=sizeLine ∧
 (ys=[]->Q (.ref a) H)/\(ys≠[]->∀p,H p=none->Q (.ref p) (upd H p (.tup (xs++ys))))
theorem Vals.nil_iff {xs:List V}{us:List Value} (r:Vals xs us):us=[]↔xs=[]:=by
 cases r with
 | nil=>simp
 | cons _ _=>simp
theorem KU:OpR X (binaryOp .Add) (B9 X.K):=by
 intro pins s σ H x y v u Q I rx ry h;obtain⟨a,b,xs,ys,rfl,rfl,ha,hb,hx,hz,q1,q2⟩:=h;cases rx;cases ry;obtain⟨its,r1,p1,_⟩:=I.tuple ha;obtain⟨its2,r2,p2,_⟩:=I.tuple hb;refine HT.cat_tup p1 p2 (fun z=>hx (r1.nil_iff.mp z)) (fun z=>⟨.ref a,H,I,rfl,q1 (r2.nil_iff.mp z)⟩) (fun z=> ?_) (by rw[←r1.length,←r2.length];exact hz);refine⟨.ref s.heap.objs.size,_,I.laid (t':=s.toks) (o:= .tup (xs++ys)) (fun b ob q=>Heap.get?_push_of_some _ q) (Nat.le_refl _) ?_,rfl,q2 (fun w=>z (r2.nil_iff.mpr w)) _ (I.hok.fresh (Nat.le_refl _))⟩;exact⟨by rw[List.length_append];exact hz,_,r1.append r2,IsTup.new _ _⟩
end
end L2
namespace L2
open PySem PySem.Spec PyProof.Rows
def ixN (n:Nat)(i:Int):Option Nat:=if 0<=i then (if i<n then some i.toNat else none) else if -(n:Int)<=i then some (i+n).toNat else none
def atI {α:Type}(xs:List α)(i:Int):Option α:=(ixN xs.length i).bind fun j=>xs[j]?
theorem K5 {n:Nat}{i:Int}{j:Nat} (h:ixN n i=some j):seqIndex? i n=some j/\j<n/\ -(n:Int)<=i/\i<n:=by
 unfold ixN at h
 by_cases h0:0<=i
 ·rw[if_pos h0]at h
  by_cases h1:i<n
  ·rw[if_pos h1]at h;have e:i.toNat=j:=Option.some.inj h;exact⟨by rw[seqIndex_of h0 h1,e],by lia,by lia,h1⟩
  ·rw[if_neg h1]at h;cases h
 ·rw[if_neg h0]at h
  by_cases h1: -(n:Int)<=i
  ·rw[if_pos h1]at h;have e:(i+n).toNat=j:=Option.some.inj h;exact⟨by rw[seqIndex_neg (by lia) h1,e],by lia,h1,by lia⟩
  ·rw[if_neg h1]at h;cases h
theorem rU {α:Type}{xs:List α}{i:Int}{v:α} (h:atI xs i=some v):∃j,seqIndex? i xs.length=some j/\xs[j]? =some v/\j<xs.length/\ -(xs.length:Int)<=i/\i<xs.length:=by
 unfold atI at h;cases e:ixN xs.length i with
 | none=>rw[e]at h;cases h
 | some j =>
  rw[e]at h;obtain⟨h1,h2,h3,h4⟩:=K5 e;exact⟨j,h1,h,h2,h3,h4⟩
theorem oP {α:Type}{xs:List α}{j:Nat}{v:α} (h:xs[j]? =some v):atI xs (j:Int)=some v:=by
 have hj:j<xs.length:=(List.getElem?_eq_some_iff.mp h).1;have e:ixN xs.length (j:Int)=some j:=by
  unfold ixN;rw[if_pos (by lia),if_pos (by lia)];simp
 unfold atI;rw[e];exact h
def y4 (b:Expr):Prop:=∀o i,subscripted b false o i=operate [o,i] (getItem o i)
def IxR (X:Cx)(r:R2):Prop :=
 ∀(value slice:Expr) (pins:List (Addr×Obj)) (s:Shared) (σ:St) (H:Hp) (x y:V) (v u:Value) (Q:VK),Inv X pins σ H s->RelV x v->RelV y u->r x y H Q →
  subscripted slice false v u=operate [v,u] (getItem v u)->wpAny (model X.prog X.w) X.A (subscriptTail value slice v u) (EP X pins σ Q) X.xe s
def MtR (X:Cx)(id:String)(r:V->List V->Hp->VK->Prop):Prop :=
 ∀(pins:List (Addr×Obj)) (s:Shared) (σ:St) (H:Hp) (x:V) (xs:List V) (v:Value) (us:List Value) (Q:VK),Inv X pins σ H s->RelV x v->Vals xs us->r x xs H Q →
  wpAny (model X.prog X.w) X.A (call (.builtin id) (v::us)) (EP X pins σ Q) X.xe s
section
variable {X:Cx}{a b:Expr}{ta tb:TE}{pos:Pos}
theorem bJ {r:R2}(hr:IxR X r)(ha:PE X a ta)(hb:PE X b tb)(hs:y4 b):PE X (.Subscript a b pos) (tOp r ta tb):=by
 intro pins s σ H Q I h;exact Subscript_ (HL ha hb I h fun v u s2 x y H2 I2 rx ry q=>hr a b pins s2 σ H2 x y v u Q I2 rx ry q (hs _ _))
def rX (K:PySem.W.Frag):R2:=fun x y H Q=>∃p xs i v,x= .ref p/\y= .int i/\SqL K H p xs/\atI xs i=some v/\Q v H
def MT (K:PySem.W.Frag):R2:=fun x y H Q=>∃p xs i v,x= .ref p/\y= .int i/\SqT K H p xs/\atI xs i=some v/\Q v H
def QC:R2:=fun x y H Q=>∃z i c,x= .str z/\y= .int i/\z.length<=sizeLine/\atI z.cps.toList i=some c/\Q (.str ⟨#[c]⟩) H
theorem aT:IxR X (rX X.K):=by
 intro value slice pins s σ H x y v u Q I rx ry h hs;obtain⟨p,xs,i,z,rfl,rfl,hq,he,q⟩:=h;cases rx;obtain⟨t,rfl⟩:=ry;obtain⟨its,r,pl,hz⟩:=I.list hq;obtain⟨j,h1,h2,h3,h4,h5⟩:=rU he;obtain⟨w,ew,rw'⟩:=r.get h2;have hl:=r.length;have hn:=k6;have fin:EP X pins σ Q w s:=⟨z,H,I,rw',q⟩
 by_cases h0:0<=i
 ·have hj:i.toNat=j:=by
   rw[seqIndex_of h0 h5]at h1;exact Option.some.inj h1
  exact item_listR pl.isList h0 (by lia) (by rw[hj];simpa using ew) fin hs
 ·have hj:(i+(its.toArray.size:Int)).toNat=j:=by
   rw[seqIndex_neg (by lia) h4]at h1;rw[List.size_toArray,←hl];exact Option.some.inj h1
  exact subscriptTail_builtinR (x:=w) pl.isList.typeIs slot_list_getitem.lookup
   (wpAny_getItem_list_neg (Q:=fun r s'=>r=w/\EP X pins σ Q r s') pl.isList (by lia) (by rw[List.size_toArray]<;>lia) (by lia) (by rw[hj];simpa using ew) ⟨rfl,fin⟩) hs
theorem NU:IxR X (MT X.K):=by
 intro value slice pins s σ H x y v u Q I rx ry h hs;obtain⟨p,xs,i,z,rfl,rfl,hq,he,q⟩:=h;cases rx;obtain⟨t,rfl⟩:=ry;obtain⟨its,r,pl,hz⟩:=I.tuple hq;obtain⟨j,h1,h2,h3,h4,h5⟩:=rU he;obtain⟨w,ew,rw'⟩:=r.get h2;have hl:=r.length;have hn:=k6;have fin:EP X pins σ Q w s:=⟨z,H,I,rw',q⟩
 exact subscriptTail_builtinR (x:=w) pl.typeIs slot_tuple_getitem.lookup
  (getItem_tuple (j:=j) (Q:=fun r s'=>r=w/\EP X pins σ Q r s') pl (by lia) (by lia) (by rw[List.size_toArray,←hl];exact h1) (by simpa using ew) ⟨rfl,fin⟩) hs
theorem E5:IxR X QC:=by
 intro value slice pins s σ H x y v u Q I rx ry h hs;obtain⟨z,i,c,rfl,rfl,hz,he,q⟩:=h;obtain⟨t,rfl⟩:=rx;obtain⟨t',rfl⟩:=ry;obtain⟨j,h1,h2,h3,h4,h5⟩:=rU he;have hl:z.cps.toList.length=z.length:=by simp[Str.length]
 rw[hl]at h1 h4 h5;have hn:=k6;exact tail_any (typeIs_str s z t) slot_str_getitem.lookup (getItem_str (c:=c) (by
  have e1:decide (i< -(2^63:Int))=false:=decide_eq_false (by lia);have e2:decide (i≥2^63)=false:=decide_eq_false (by lia);rw[e1,e2,Bool.or_false]) (by rw[h1];simpa using h2) ⟨.str ⟨#[c]⟩,H,I.tok _,⟨_,rfl⟩,q⟩) hs
theorem xF (lo hi:Option Int)(n:Nat):(sliceBounds lo hi none n).1=((HT.sIx n 0 lo:Nat):Int)/\(sliceBounds lo hi none n).2.1=((HT.sIx n n hi:Nat):Int)/\(sliceBounds lo hi none n).2.2=1:=by
 refine⟨?_,?_,rfl⟩
 ·cases lo with
  | none=>simp[sliceBounds,HT.sIx]
  | some i =>
   simp only[sliceBounds,HT.sIx,Option.getD_none,show (1:Int)>0 by decide,if_true]
   by_cases h:i<0
   ·simp only[h,if_true]<;>lia
   ·simp only[h,if_false]<;>lia
 ·cases hi with
  | none=>simp[sliceBounds,HT.sIx]
  | some i =>
   simp only[sliceBounds,HT.sIx,Option.getD_none,show (1:Int)>0 by decide,if_true]
   by_cases h:i<0
   ·simp only[h,if_true]<;>lia
   ·simp only[h,if_false]<;>lia
theorem uA (its:List Value)(lo hi:Option Int):slicePick its.toArray lo hi none=((its.drop (HT.sIx its.length 0 lo)).take (HT.sIx its.length its.length hi - HT.sIx its.length 0 lo)).toArray:=by
 obtain⟨h1,h2,h3⟩:=xF lo hi its.toArray.size;unfold slicePick;rw[h1,h2,h3];simp only[sliceRange_one,pick_run,List.size_toArray]<;>rfl
def F8 (K:PySem.W.Frag):V->Option Int->Option Int->Hp->VK->Prop:=fun x lo hi H Q=>∃a xs,x= .ref a/\SqL K H a xs/\∀p,H p=none->Q (.ref p) (upd H p (.lst (iR xs lo hi)))
theorem fR:SlR X (F8 X.K):=by
 intro pins s σ H x v vl vu lo hi sl Q I rx hs pl pu h;obtain⟨a,xs,rfl,hx,q⟩:=h;cases rx;obtain⟨its,r,ht,hz⟩:=I.list hx;have hlen:=r.length;refine⟨"list",_,slot_list_getitem.lookup,ht.isList.typeIs,?_⟩;refine wpAny_getItem_list_slice ht.isList hs pl pu .none (by simp) ?_ (by rw[List.size_toArray]<;>lia);rw[uA,←hlen];refine⟨.ref s.heap.objs.size,_,I.laid (t':=s.toks) (o:= .lst (iR xs lo hi)) (fun b ob q=>Heap.get?_push_of_some _ q) (Nat.le_refl _) ?_,rfl,q _ (I.hok.fresh (Nat.le_refl _))⟩;exact⟨Nat.le_trans (x5 xs lo hi) hz,_,0,(r.drop (HT.sIx xs.length 0 lo)).take (HT.sIx xs.length xs.length hi - HT.sIx xs.length 0 lo),Heap.get?_push_size _ rfl⟩
def qL:V->Bool
 | .non=>true
 | .bl _=>true
 | .int _=>true
 | .str _=>true
 | _=>false
def eqV:V->V->Bool
 | .non,.non=>true
 | .bl a,.bl b=>a==b
 | .bl a,.int b=>(if a then 1 else 0)==b
 | .int a,.bl b=>a==(if b then 1 else 0)
 | .int a,.int b=>a==b
 | .str a,.str b=>a==b
 | _,_=>false
theorem NF {A:Around}{s:Shared}{y x:V}{u v:Value} (ry:RelV y u) (rx:RelV x v) (fy:qL y=true) (fx:qL x=true):SeqAt.EqAt A s u v (eqV y x):=by
 cases y with
 | non =>
  cases ry;cases x with
  | non=>cases rx;exact SeqAt.EqAt.same _
  | bl b=>cases rx;exact SeqAt.EqAt.none_bool b
  | int b=>obtain⟨t,rfl⟩:=rx;exact SeqAt.EqAt.none_int b t
  | str b=>obtain⟨t,rfl⟩:=rx;exact SeqAt.EqAt.none_str b t
  | _=>exact absurd (show false=true from fx) Bool.false_ne_true
 | bl a =>
  cases ry;cases x with
  | non=>cases rx;exact SeqAt.EqAt.bool_none a
  | bl b=>cases rx;exact SeqAt.EqAt.bool_bool a b
  | int b=>obtain⟨t,rfl⟩:=rx;exact SeqAt.EqAt.bool_int a b t
  | str b=>obtain⟨t,rfl⟩:=rx;exact SeqAt.EqAt.bool_str a b t
  | _=>exact absurd (show false=true from fx) Bool.false_ne_true
 | int a =>
  obtain⟨t',rfl⟩:=ry;cases x with
  | non=>cases rx;exact SeqAt.EqAt.int_none a t'
  | bl b=>cases rx;exact SeqAt.EqAt.int_bool a t' b
  | int b=>obtain⟨t,rfl⟩:=rx;exact SeqAt.EqAt.int_int a t' b t
  | str b=>obtain⟨t,rfl⟩:=rx;exact SeqAt.EqAt.int_str a t' b t
  | _=>exact absurd (show false=true from fx) Bool.false_ne_true
 | str a =>
  obtain⟨t',rfl⟩:=ry;cases x with
  | non=>cases rx;exact SeqAt.EqAt.str_none a t'
  | bl b=>cases rx;exact SeqAt.EqAt.str_bool a t' b
  | int b=>obtain⟨t,rfl⟩:=rx;exact SeqAt.EqAt.str_int a t' b t
  | str b=>obtain⟨t,rfl⟩:=rx;exact SeqAt.EqAt.str_str a t' b t
  | _=>exact absurd (show false=true from fx) Bool.false_ne_true
 | _=>exact absurd (show false=true from fy) Bool.false_ne_true
theorem u7:b9 X (.builtin "len") (fun xs H Q=>∃p ys,xs=[.ref p]/\(SqL X.K H p ys∨SqT X.K H p ys)/\Q (.int ys.length) H):=by
 intro pins s σ H xs us Q I r h;obtain⟨p,ys,rfl,hq,q⟩:=h;obtain⟨u,rfl,rx⟩:=fD r;cases rx;have hn:=k6;rcases hq with hq|hq
 ·obtain⟨its,r',pl,hz⟩:=I.list hq;have hlen:=r'.length;exact Calls.call_len_list pl.isList (by simp only[List.size_toArray]<;>lia) ⟨.int ys.length,H,I.tok _,⟨s.toks+1,by rw[List.size_toArray,hlen]⟩,q⟩
 ·obtain⟨its,r',pl,hz⟩:=I.tuple hq;have hlen:=r'.length;exact len_tuple pl (by simp only[List.size_toArray]<;>lia) ⟨.int ys.length,H,I.tok _,⟨s.toks+1,by rw[List.size_toArray,hlen]⟩,q⟩
theorem xK:b9 X (.builtin "len") (fun xs H Q=>∃z,xs=[.str z]/\z.length<=sizeLine/\Q (.int z.length) H):=by
 intro pins s σ H xs us Q I r h;obtain⟨z,rfl,hz,q⟩:=h;obtain⟨u,rfl,t,rfl⟩:=fD r;have hn:=k6;exact len_str (by lia) ⟨.int z.length,H,I.tok _,⟨_,rfl⟩,q⟩
theorem vY:b9 X (.type "list") (fun xs H Q=>∃p ys,xs=[.ref p]/\(SqL X.K H p ys∨SqT X.K H p ys)/\∀l,H l=none->Q (.ref l) (upd H l (.lst ys))):=by
 intro pins s σ H xs us Q I r h;obtain⟨p,ys,rfl,hq,q⟩:=h;obtain⟨u,rfl,rx⟩:=fD r;cases rx;have fin:∀(its:List Value),Vals ys its->ys.length<=sizeLine->∀(h':Heap) (c':Nat),(∀b o',s.heap.get? b=some o'->h'.get? b=some o') →
   h'.get? s.heap.objs.size=some { cls:= .type "list",dict:=none,data:= .seq its.toArray c',slots:= #[] }->EP X pins σ Q (.ref s.heap.objs.size) { s with heap:=h' }:=fun its r' hz h' c' kp e =>
  ⟨.ref s.heap.objs.size,_,I.laid (t':=s.toks) kp (Nat.le_refl _) (show ObjOk X.prog X.w _ h' _ (.lst ys) from⟨hz,its,c',r',e⟩),rfl,q _ (I.hok.fresh (Nat.le_refl _))⟩
 rcases hq with hq|hq
 ·obtain⟨its,r',pl,hz⟩:=I.list hq;have hlen:=r'.length;obtain⟨o,ho,hc,n,hd⟩:=pl.isList;exact call_list_seq p (.inl rfl) ho hc hd (fun h' c' kp e=>fin its r' hz h' c' kp e) (by simp only[List.size_toArray]<;>lia)
 ·obtain⟨its,r',pl,hz⟩:=I.tuple hq;have hlen:=r'.length;obtain⟨o,ho,hc,n,hd⟩:=pl;exact call_list_seq p (.inr rfl) ho hc hd (fun h' c' kp e=>fin its r' hz h' c' kp e) (by simp only[List.size_toArray]<;>lia)
theorem uD:b9 X (.type "tuple") (fun xs H Q=>∃p ys,xs=[.ref p]/\((SqL X.K H p ys/\∀l,H l=none->Q (.ref l) (upd H l (.tup ys)))∨(SqT X.K H p ys/\Q (.ref p) H))):=by
 intro pins s σ H xs us Q I r h;obtain⟨p,ys,rfl,h⟩:=h;obtain⟨u,rfl,rx⟩:=fD r;cases rx;rcases h with⟨hq,q⟩|⟨hq,q⟩
 ·obtain⟨its,r',pl,hz⟩:=I.list hq;have hlen:=r'.length;refine call_tuple_list pl.isList (fun h' kp=> ?_) (by simp only[List.size_toArray]<;>lia);have I1:Inv X pins σ H { s with heap:=h' }:=I.kept (t':=s.toks) kp;have I2:Inv X pins σ (upd H h'.objs.size (.tup ys)) { s with heap:=h'.push { cls:= .type "tuple",data:= .seq its.toArray } } :=
   I1.laid (t':=s.toks) (fun b o e=>Heap.get?_push_of_some _ e) (Nat.le_refl _) (show ObjOk X.prog X.w _ _ _ (.tup ys) from⟨hz,its,r',IsTup.new _ _⟩)
  exact⟨.ref h'.objs.size,_,I2,rfl,q _ (I1.hok.fresh (Nat.le_refl _))⟩
 ·obtain⟨its,r',pl,hz⟩:=I.tuple hq;exact call_tuple_same pl ⟨.ref p,H,I,rfl,q⟩
def tyV (K:PySem.W.Frag)(T:String)(x:V)(H:Hp):Prop:=match x with
 | .str _=>T= "str"
 | .int _=>T= "int"
 | .ref p=>(T= "list" /\∃xs,SqL K H p xs)∨(T= "tuple" /\∃o,K.lookup p=some o/\o.cls= .type "tuple" /\o.dict=none) ∨
   (T= "dict" /\((∃kvs,H p=some (.dK kvs))∨∃kvs,H p=some (.dT kvs)))∨(T= "set" /\∃S n,H p=some (.set S n))
 | _=>False
theorem OF {pins:List (Addr×Obj)}{σ:St}{H:Hp}{s:Shared}{T:String}{x:V}{v:Value} (I:Inv X pins σ H s) (r:RelV x v) (ty:tyV X.K T x H) :
  s.TypeIs v T/\∀a,v= .ref a->∃ob,s.heap.get? a=some ob/\ob.dict=none:=by
 cases x with
 | str z =>
  obtain⟨t,rfl⟩:=r;cases (show T= "str" from ty);exact⟨typeIs_str s z t,fun _ e=>nomatch e⟩
 | int i =>
  obtain⟨t,rfl⟩:=r;cases (show T= "int" from ty);exact⟨typeIs_int s i t,fun _ e=>nomatch e⟩
 | ref p =>
  cases r;rcases ty with⟨rfl,xs,hq⟩|⟨rfl,o,hk,hc,hd⟩|⟨rfl,hk⟩|⟨rfl,S,n,hk⟩
  ·obtain⟨its,_,pl,_⟩:=I.list hq;refine⟨pl.isList.typeIs,fun a e=> ?_⟩;cases e;obtain⟨o,n,e,c,hd,_⟩:=pl;exact⟨o,e,hd⟩
  ·refine⟨⟨o,I.kIn p o hk,hc⟩,fun a e=> ?_⟩;cases e;exact⟨o,I.kIn _ o hk,hd⟩
  ·have z:∃o,s.heap.get? p=some o/\o.ExactDict:=by
    rcases hk with⟨kvs,hk⟩|⟨kvs,hk⟩
    ·obtain⟨_,_,_,_,o,_,_,e,ex,_⟩:=I.hok p _ hk;exact⟨o,e,ex⟩
    ·obtain⟨_,_,_,_,o,_,_,e,ex,_⟩:=I.hok p _ hk;exact⟨o,e,ex⟩
   obtain⟨o,e,ex⟩:=z;refine⟨⟨o,e,ex.1⟩,fun a e2=> ?_⟩;cases e2;exact⟨o,e,ex.2.1⟩
  ·obtain⟨o,_,_,_,e,ex,_⟩:=I.hok p _ hk;refine⟨⟨o,e,ex.1⟩,fun a e2=> ?_⟩;cases e2;exact⟨o,e,ex.2.1⟩
 | _=>exact False.elim ty
def tBM (K:PySem.W.Frag)(T:String)(r:V->List V->Hp->VK->Prop)(to:TE)(t:TA):TE:=fun σ H Q=>to σ H fun x H1=>tyV K T x H1/\t σ H1 fun xs H2=>r x xs H2 Q
variable {o e:Expr}{es:List Expr}{to:TE}{t:TA}{name:Str}{apos cpos:Pos}{T id:String}{r:V->List V->Hp->VK->Prop}
theorem eS (pa:PlainAttrs T)(slot:Slot T name id)(hty:typeOf (.builtin id)=pure (.type "method_descriptor"))(hm:MtR X id r)(ho:PE X o to)(ha:PA X (e::es) t)
  (hbase:attributeBase o name X.env (eval o X.env)=eval o X.env:=by rfl)
  (hfew:((backTo cpos (starEach (e::es) X.env)).all (fun x=> !x.1)&&(backToKw cpos (keywordEach [] X.env)).all (fun x=>x.1.isSome)
   && decide ((e::es).length+([]:List Keyword).length+(if ([]:List Keyword).isEmpty then 0 else 1)<30))=true:=by rfl)
  (hline:(apos.endLine==cpos.line)=true:=by rfl)(hs:starEach (e::es) X.env=(false,eval e X.env)::starEach es X.env:=by rfl)(hplain:(backTo cpos (starEach es X.env)).any (·.1)=false:=by rfl) :
  PE X (.Call (.Attribute o name apos) (e::es) [] cpos) (tBM X.K T r to t):=by
 intro pins s σ H Q I h;refine wpAny_Call_method_late hbase hfew hline rfl (thn (ho pins s σ H _ I h) fun v s1 ⟨x,H1,I1,r1,ty,q1⟩=> ?_);obtain⟨h1,h2⟩:=OF I1 r1 ty;refine⟨T,id,pa,slot,hty,h1,h2,?_⟩;have hA:=ha cpos pins s1 σ H1 _ I1 q1;rw[hs]at hA ⊢;refine Calls.callWith_builtin (by show (false||(backTo cpos (starEach es X.env)).any (·.1))=false;rw[hplain]<;>rfl) (Calls.evalArgs_plain ?_);exact thn hA fun us s2 ⟨vs,H2,I2,r2,q2⟩=>hm pins s2 σ H2 x vs v us Q I2 r1 r2 q2
end
end L2
namespace L2
open PySem PySem.Spec PyProof.Rows
def MtM (X:Cx)(id:String)(r:V->List V->Hp->VK->Prop):Prop :=
 ∀(pins:List (Addr×Obj)) (s:Shared) (σ:St) (H:Hp) (x:V) (xs:List V) (v:Value) (us:List Value) (Q:VK),Inv X pins σ H s->RelV x v->Vals xs us->r x xs H Q →
  wpAny (model X.prog X.w) X.A (call (.builtin id) (v::us)) (EP X pins σ Q) X.xe s
theorem Vals.one:∀{x:V}{us:List Value},Vals [x] us->∃u,us=[u]/\RelV x u
 | _,_,.cons r .nil=>⟨_,rfl,r⟩
section
variable {X:Cx}{pins:List (Addr×Obj)}{σ:St}{H:Hp}{s:Shared}{l b:Addr}{xs ys zs:List V}
theorem Inv.lset {its its':List Value}{n:Nat}{f:Array Value->Array Value}{t':Nat} (I:Inv X pins σ H s) (hH:H l=some (.lst xs))
  (e:s.heap.get? l=some { cls:= .type "list",data:= .seq its.toArray n })(hf:f its.toArray=its'.toArray)(hv:Vals ys its')(hz:ys.length<=sizeLine) :
  Inv X pins σ (upd H l (.lst ys)) { s with heap:=s.heap.update l (Obj.mapSeq f),toks:=t' }:=by
 have q:=PySem.IsL.update e f;rw[hf]at q;refine I.write (x:=l) (e:=l) (by rw[hH];exact trivial) (.inl rfl) (fun b' u hb hu=>(Heap.get?_update_other s.heap (Obj.mapSeq f) (Ne.symm hb)).trans hu) ⟨_,q⟩ ?_;exact⟨hz,its',_,hv,q⟩
theorem Inv.lnew {its:List Value}{t':Nat} (I:Inv X pins σ H s) (hv:Vals ys its) (hz:ys.length<=sizeLine) :
  Inv X pins σ (upd H s.heap.objs.size (.lst ys)) { s with heap:=s.heap.push { cls:= .type "list",data:= .seq its.toArray },toks:=t' } :=
 I.laid (fun _ _ q=>Heap.get?_push_of_some _ q) (Nat.le_refl _) ⟨hz,its,0,hv,Heap.get?_push_size _ rfl⟩
theorem Inv.fresh (I:Inv X pins σ H s):H s.heap.objs.size=none:=I.hok.fresh (Nat.le_refl _)
theorem Inv.lstM (I:Inv X pins σ H s)(hH:H l=some (.lst xs)):xs.length<=sizeLine/\∃(its:List Value) (n:Nat),Vals xs its/\xs.length=its.length/\s.heap.get? l=some { cls:= .type "list",data:= .seq its.toArray n }:=by
 obtain⟨z,its,n,r,e⟩:=I.hok l _ hH;exact⟨z,its,n,r,r.length,e⟩
end
section
variable {X:Cx}
def zG:V->List V->Hp->VK->Prop:=fun x vs H Q=>∃l xs y,x= .ref l/\vs=[y]/\H l=some (.lst xs)/\xs.length<sizeLine/\Q .non (upd H l (.lst (xs++[y])))
theorem nW:MtM X "list.append" zG:=by
 intro pins s σ H x vs v us Q I rx rv h;obtain⟨l,xs,y,rfl,rfl,hH,hz,q⟩:=h;cases rx;obtain⟨u,rfl,ru⟩:=rv.one;obtain⟨z,its,n,r,hl,e⟩:=I.lstM hH;refine call_meets F.slot_list_append ⟨_,e,rfl⟩ F.entry_list_append (F.args_list_append_2 _ _) (PySem.list_append l its.toArray n u (by rw[List.size_toArray];lia)) ⟨e,?_⟩;refine⟨.non,_,I.lset (its':=its++[u]) hH e (by simp) (r.append (.cons ru .nil)) ?_,rfl,q⟩;rw[List.length_append,List.length_singleton]
 lia
def MZ:R2:=fun x y H Q=>∃l b xs zs,x= .ref l/\y= .ref b/\H l=some (.lst xs)/\H b=some (.lst zs)/\xs.length+zs.length<=sizeLine/\∀p,H p=none->Q (.ref p) (upd H p (.lst (xs++zs)))
theorem nK:OpR X (binaryOp .Add) MZ:=by
 intro pins s σ H x y v u Q I rx ry h;obtain⟨l,b,xs,zs,rfl,rfl,hH,hB,hz,q⟩:=h;cases rx;cases ry;obtain⟨z,its,n,r,hl,e⟩:=I.lstM hH;obtain⟨z2,its2,n2,r2,hl2,e2⟩:=I.lstM hB;refine PySem.P.add_list e e2 ?_ (by rw[List.size_toArray,List.size_toArray];lia);have ea:its.toArray++its2.toArray=(its++its2).toArray:=by simp
 rw[ea];exact⟨.ref _,_,I.lnew (t':=s.toks) (r.append r2) (by rw[List.length_append];lia),rfl,q _ I.fresh⟩
end
section
variable {prog:Program}{w:World}{A:Around}{E:Value->Shared->Prop}{s:Shared}
set_option maxRecDepth 100000 in
end
section
variable {X:Cx}
end
end L2
namespace Att
open PySem PySem.W PySem.Calls PyProof.Rows
theorem qV {P:Params}{h:Heap}:∀(ns:List Int) (vs:List Value),WellAll P h vs (ns.map WData.int)->IntsAre vs ns:=by
 intro ns
 induction ns with
 | nil =>
  intro vs w;rw[List.map_nil]at w;cases w;exact .nil
 | cons n ns ih =>
  intro vs w;rw[List.map_cons]at w;cases w with
  | cons a b =>
   cases a;exact .cons _ _ (ih _ b)
theorem DZ {l:OpenLaw}{n:Nat} (hn:l.most=some n) {P:Params}{h:Heap}{args:List WData}{vals:List Value}
  (hpre:l.row.toRowW.claim.pre args=true)(hwl:WellAll P h vals args) :
  ∃a vs ns,vals=[Value.ref a]/\args=[WData.list (ns.map WData.int)]/\h.get? a=some { cls:= .type "list",data:= .seq vs.toArray }/\IntsAre vs ns/\ns.length<=n:=by
 have hsh:WShape.hasAll [] args [.list .int]=true:=(pre_splitW hpre).1;have hc:l.pre.holds [] { args:=args }=true:=(pre_splitW hpre).2;obtain⟨d,r,rfl,h1,h2⟩:=hasAllW_cons hsh;obtain rfl:=hasAllW_nil h2;obtain⟨xs,rfl,h3⟩:=hasW_list h1;obtain⟨ns,rfl⟩:=items_int h3;have hlen:ns.length<=n:=by
  unfold OpenLaw.pre at hc;have h4:(WTm.not (.lt (.lit (.int (n:Int))) (.len (.arg 0)))).holds [] { args:=[.list (ns.map .int)] }=true:=by
   have h4:=(holds_andW hc).1;rw[hn]at h4;exact h4
  have h5:=condW_of h4 (w_not (w_lt w_lit (w_len_list (w_arg rfl))));rw[List.length_map]at h5;refine Nat.le_of_not_lt fun q=> ?_;have q':(n:Int)<((ns.length:Nat):Int):=by lia
  first
   | (rw[decide_eq_true q']at h5;exact absurd h5 (by decide))
   | (simp at h5;lia)
 cases hwl with
 | cons w1 w2 =>
  cases w2;cases w1 with
  | list ho hall=>exact⟨_,_,ns,rfl,rfl,ho,qV ns _ hall,hlen⟩
theorem D5 (l:OpenLaw)(args:List WData):l.row.toRowW.claim.post args (.bool true) args=true :=
 postW_of (r:=l.row.toRowW) (X:=(true==true))
  (show WShape.has [] (.bool true) .bool=true by first|rfl|decide|simp[WShape.has,WShape.arms,WShape.armsAll])
  (show (WTm.eq .res (.lit (.bool true))).value [] { args:=args,res:=some (.bool true),after:=args }=some (.bool (true==true)) from w_eq_bool (w_res rfl) w_lit) rfl
theorem attach_call {l:OpenLaw}{n:Nat}{q:Program}{loose:List Str}{XP:(Str->Option Value)->Heap->Prop}{YP:World->Heap->Prop}{d:DefRec}
  (hn:l.most=some n)(hdf:d.params.defaults=[])
  (call:∀(w:World) (s₀ s₁:Shared) (mg mb:Str->Option Value) (fa:Addr) (o:Obj) (pm cd doc:Value) (a:Addr) (vs:List Value) (ns:List Int),
   Ground q loose [] XP w s₀ mg mb s₁.heap->YP w s₁.heap →
   s₁.heap.get? fa=some o->o.data= .func (docDef d.name d.params d.body d.scope pm cd doc)->s₁.heap.CodeRec cd d.name->mg d.name=some (.ref fa) →
   s₁.heap.get? a=some { cls:= .type "list",data:= .seq vs.toArray }->IntsAre vs ns->ns.length<=n->s₁.gens= #[] →
   codeAny (model l.prog w) callerA (.call (.ref fa) ⟨[.ref a],[]⟩) (fun r s'=>r= .ok (.ret (.bool true))/\OldK s₁.heap s'.heap/\s'.os=s₁.os/\AllBare s'.gens) s₁) :
  WalkO q loose XP YP l.row.toRowW d [] (fun f vs=>PySem.call f vs):=by
 intro w s₀ s₁ mg mb G Y fa o pm cd doc dV kV ho hd hcd hD hmg hg args vals as hpre hlay hrd hwl hlo;obtain rfl:dV= .none:=Dflts.none hD hdf;obtain rfl:kV= .none:=Dflts.noKw hD;obtain⟨a,vs,ns,rfl,rfl,hobj,hints,hlen⟩:=DZ hn hpre hwl;refine enter_call (codeAny_mono (call w s₀ s₁ mg mb fa o pm cd doc a vs ns G Y ho (fd_plain hd) hcd hmg hobj hints hlen hg) fun r s' hq=> ?_);obtain⟨rfl,h2,h3,h4⟩:=hq;exact⟨.inl ⟨.bool true,.bool true,[],rfl,fun _=>rfl,.bool true,D5 l _,fun _=>⟨List.Pairwise.nil,fun _ hm=>(nomatch hm)⟩⟩,h2,h3,h4⟩
section
variable {prog:Program}{w:World}{A:Around}{E:Value->Shared->Prop}{s:Shared}{K:Frag}
end
end Att
namespace L2
open PySem PySem.Spec PyProof.Rows
theorem tR:∀{vs:List Value}{ns:List Int},IntsAre vs ns->Vals (ns.map V.int) vs
 | _,_,.nil=> .nil
 | _,_,.cons n t h=> .cons ⟨t,rfl⟩ (tR h)
def FR (H:Hp):Prop:=∀b,H b=none∨∃o xs,H b=some (.frz o (.lst xs))
theorem FZ {P:Program}{w:World}{K:PySem.W.Frag}{mg mb:Str->Option Value}{CX:CXT}{k:Nat}{fa a:Addr}{fd:FuncData}{x:Str}{sp:Sp}{s₁:Shared}{vs:List Value}{ns:List Int}
  (KX:K.In s₁.heap)(hns:s₁.heap.Ns mainGlobals mg)(hb:s₁.heap.Ns builtinsNs mb)(hbb:∀x:Str,x≠ "__name__" ->mb x=bootBuiltins x)(hlim:s₁.heap.NoLimit)(hg:s₁.gens= #[])
  (ha:s₁.heap.get? a=some { cls:= .type "list",data:= .seq vs.toArray })(hi:IntsAre vs ns)(hl:ns.length<=sizeLine)(hr:Room k callerA)
  (F:∀base:Heap,K.In base->base.Ns mainGlobals mg->bX P w K mg base CX k fa fd [x] sp)(hbind:∀(s:Shared) (u:Value),BindsTo s fd ⟨[u],[]⟩ [(x,u)])
  (hsp:∀H:Hp,FR H->SqL K H a (ns.map V.int)->sp [.ref a] H (fun v _=>v= .bl true) fun _ _ _=>False)
  (hCX:∀H e s',CX [] H s₁ (fun _ _ _=>False) e s'->False) :
  codeAny (model P w) callerA (.call (.ref fa) ⟨[.ref a],[]⟩) (fun r s'=>r= .ok (.ret (.bool true))/\OldK s₁.heap s'.heap/\s'.os=s₁.os/\AllBare s'.gens) s₁:=by
 have rv:=tR hi;have lenV:=hi.length;have core:∀H:Hp,FR H->SqL K H a (ns.map V.int)->HOk P w H s₁.heap->(∀b,H b≠none->b=a)->(H a≠none->K.lookup a=none) →
   codeAny (model P w) callerA (.call (.ref fa) ⟨[.ref a],[]⟩) (fun r s'=>r= .ok (.ret (.bool true))/\OldK s₁.heap s'.heap/\s'.os=s₁.os/\AllBare s'.gens) s₁:=by
  intro H hO hS hok hA hK;have base_of:∀{b:Addr}{o:Obj},s₁.heap.get? b=some o->H b=none->(lV s₁.heap H).get? b=some o:=fun e n=>GQ e n;have noA:∀{b:Addr}{o:Obj}{es:Array DictEntry}{ep:Nat},s₁.heap.get? b=some o->o.data= .dict es ep->H b=none:=fun {b o es ep} e d=>by
   cases q:H b with
   | none=>rfl
   | some u =>
    have e':b=a:=hA b (by rw[q];simp);subst e';rw[ha]at e;cases e;have d':Data.seq vs.toArray _=Data.dict es ep:=d;cases d'
  have nsK:∀{b:Addr}{m:Str->Option Value},s₁.heap.Ns b m->(lV s₁.heap H).Ns b m:=fun {b m} ⟨o,es,ep,e,d,r⟩=>⟨o,es,ep,base_of e (noA e d),d,r⟩
  have hKb:K.In (lV s₁.heap H):=fun b o e=>base_of (KX b o e) (by
   cases q:H b with
   | none=>rfl
   | some u =>
    have e':b=a:=hA b (by rw[q];simp);subst e';rw[hK (by rw[q];simp)]at e;cases e)
  have hM:Mod K mg (lV s₁.heap H):=⟨hKb,nsK hns,⟨mb,nsK hb,hbb⟩,let ⟨mc,h1,h2⟩:=hlim;⟨mc,nsK h1,h2⟩⟩
  have e0:BS P w K mg (lV s₁.heap H) callerA [] s₁ H:=⟨rfl,hM,fun b o e=>J7 e,Nat.le_of_eq (D2 _ _),trivial,fun b hb=>absurd (show b∈([]:List Addr) from hb) (by simp),hok,.of_eq hg⟩
  refine codeAny_mono ((F _ hKb (nsK hns)).run callerA [] s₁ H ⟨[.ref a],[]⟩ [.ref a] [.ref a] _ _ hr e0 (hbind s₁ (.ref a)) (.cons rfl .nil) (hsp H hO hS)) fun r s' h=> ?_;cases r with
  | error e=>exact(hCX H e s' h).elim
  | ok fl =>
   cases fl with
   | next=>exact False.elim h
   | brk=>exact False.elim h
   | cont=>exact False.elim h
   | ret u =>
    obtain⟨v,H',os,bare,un,hok',r',q⟩:=h;have q':v= .bl true:=q;subst q';obtain rfl:u=Value.bool true:=r';refine⟨rfl,OldK.of_keep fun b o e=> ?_,os,bare⟩;cases q:H b with
    | none=>exact un.keep b o e q (by intro z;exact absurd (show b∈([]:List Addr) from z) (by simp)) (by simp)
    | some u =>
     rcases hO b with z|⟨ob,xs,z⟩
     ·rw[q]at z;cases z
     ·have z2:=un.frzs b ob _ z;obtain⟨e1,_⟩:=hok b _ z;obtain⟨e2,_⟩:=hok' b _ z2;rw[e]at e1;cases e1;exact e2
 cases hk:K.lookup a with
 | some o =>
  have e:=KX a o hk;rw[ha]at e;cases e;refine core (fun _=>none) (fun _=> .inl rfl) (.inr ⟨_,vs.toArray,_,hk,rfl,rfl,rfl,by rw[List.size_toArray,lenV];exact hl,by simpa using rv⟩) (fun b u z=>by have z':(none:Option HO)=some u:=z;cases z') (fun b z=>absurd rfl z) fun z=>absurd rfl z
 | none =>
  refine core (fun b=>if b=a then some (.frz { cls:= .type "list",data:= .seq vs.toArray } (.lst (ns.map V.int))) else none) (fun b=> ?_) (.inl (.inr ⟨{ cls:= .type "list",data:= .seq vs.toArray },if_pos rfl⟩)) (fun b u z=> ?_) (fun b z=> ?_) fun _=>hk
  ·by_cases hb:b=a
   ·exact .inr ⟨_,_,if_pos hb⟩
   ·exact .inl (if_neg hb)
  ·by_cases hb:b=a
   ·have z':=(if_pos hb).symm.trans z;cases z';subst hb;exact⟨ha,by rw[List.length_map];exact hl,vs,_,rv,ha⟩
   ·have z':=(if_neg hb).symm.trans z;cases z'
  ·by_cases hb:b=a
   ·exact hb
   ·exact absurd (if_neg hb) z
end L2
namespace L2
open PySem PySem.Spec PyProof.Rows
theorem walk_of {l:PySem.W.OpenLaw}{n k:Nat}{q:Program}{loose:List Str}{XP:(Str->Option Value)->Heap->Prop}{YP:World->Heap->Prop}{d:DefRec}{K:Params->PySem.W.Frag}{CX:World->CXT}{sp:World->Sp}{x:Str}
  (hn:l.most=some n)(hn2:n<=sizeLine)(hdf:d.params.defaults=[])(hr:Room k callerA)
  (hY:∀(w:World) (h:Heap),YP w h->(K w.params).In h)
  (F:∀(w:World) (mg:Str->Option Value) (fa:Addr) (h:Heap),(K w.params).In h->h.Ns mainGlobals mg->mg d.name=some (.ref fa) →
   ∃fd:FuncData,(∀(s:Shared) (u:Value),BindsTo s fd ⟨[u],[]⟩ [(x,u)]) ∧
    ∀base:Heap,(K w.params).In base->base.Ns mainGlobals mg->bX l.prog w (K w.params) mg base (CX w) k fa fd [x] (sp w))
  (hsp:∀(w:World) (H:Hp) (a:Addr) (ns:List Int),ns.length<=n->FR H->SqL (K w.params) H a (ns.map V.int)->sp w [.ref a] H (fun v _=>v= .bl true) fun _ _ _=>False)
  (hCX:∀(w:World) (H:Hp) (s:Shared) (e:Value) (s':Shared),CX w [] H s (fun _ _ _=>False) e s'->False) :
  PySem.W.WalkO q loose XP YP l.row.toRowW d [] (fun f vs=>PySem.call f vs):=by
 refine Att.attach_call hn hdf fun w s₀ s₁ mg mb fa o pm cd doc a vs ns G Y ho hd hcd hmg hobj hints hlen hg=> ?_;have KX:=hY w _ Y;obtain⟨fd,hb,hF⟩:=F w mg fa _ KX G.T.g hmg;exact FZ KX G.T.g G.T.b G.T.builtins G.T.nolimit hg hobj hints (Nat.le_trans hlen hn2) hr hF hb (fun H hO hS=>hsp w H a ns hlen hO hS) fun H e s'=>hCX w H s₁ e s'
end L2
namespace L2
open PySem PySem.Spec PyProof.Rows
def aZ (s:Stmt):Arguments:=match s with
 | .FunctionDef _ a _ _ _ _ _ _ _ _=>a
 | _=>{ posonlyargs:=[],args:=[],vararg:=none,kwonlyargs:=[],kw_defaults:=[],kwarg:=none,defaults:=[] }
def aU (s:Stmt):List Stmt:=match s with
 | .FunctionDef _ _ b _ _ _ _ _ _ _=>b
 | _=>[]
def aD (s:Stmt):Scope:=match s with
 | .FunctionDef _ _ _ _ _ _ sc _ _ _=>sc
 | _=>{ kind:= .function,names:=[],isGenerator:=false,isCoroutine:=false }
abbrev CX0:CXT:=fun _ _ _ _ _ _=>False
abbrev E0:XK:=fun _ _ _=>False
theorem PD {X:Cx}:jE CX0 X E0:=fun _ _ _ _ _ _ _ h=>h.elim
section
variable {P:Program}{w:World}{K:PySem.W.Frag}{mg:Str->Option Value}{base:Heap}
end
theorem EC {n:Nat}(h:n<=1000):n<sizeLine:=Nat.lt_of_le_of_lt h (by decide)
section
variable {X:Cx}
theorem pv (i:Nat){x:Str}{pos:Pos} (hN:X.N[i]? =some x:=by rfl) (hv:Vis X.env.scope x:=by first|exact Or.inl rfl|exact Or.inr (Or.inl rfl)|exact Or.inr (Or.inr rfl)) (hd:(x==("__debug__" :Str))=false:=by decide)
  (hcd:(x==("__classdict__" :Str))=false:=by decide):PE X (.Name x pos) (jG i):=N0 hN hv hd hcd
end
theorem rK {c A B:Prop}[Decidable c](h1:c->A)(h2:¬c->B):if c then A else B:=by
 by_cases h:c
 ·rw[if_pos h];exact h1 h
 ·rw[if_neg h];exact h2 h
def Same (H H':Hp):Prop:=∀b o,H b=some o->H' b=some o
theorem Same.refl (H:Hp):Same H H:=fun _ _ h=>h
theorem Same.trans {H H1 H2:Hp}(a:Same H H1)(b:Same H1 H2):Same H H2:=fun c o h=>b c o (a c o h)
theorem Same.seq {K:PySem.W.Frag}{H H':Hp}{a:Addr}{xs:List V} (e:Same H H') (h:SqL K H a xs):SqL K H' a xs:=by
 rcases h with (h|⟨o,h⟩)|h
 ·exact .inl (.inl (e _ _ h))
 ·exact .inl (.inr ⟨o,e _ _ h⟩)
 ·exact .inr h
end L2
namespace L2
open PySem PySem.Spec PyProof.Rows
section
variable {X:Cx}{pins:List (Addr×Obj)}{σ:St}{H:Hp}{s:Shared}{D:Addr}{ys:List V}
theorem HOk.adds {P:Program}{w:World}{h:Heap}{o:HO} (x:HOk P w H h) (hn:H D=none) (new:ObjOk P w (upd H D o) h D o):HOk P w (upd H D o) h:=fun b u e=>by
 by_cases hb:b=D
 ·subst hb;rw[bA]at e;cases e;exact new
 ·rw[aI hb]at e;exact(x b u e).stay (fun c v _ q=>q) (fun c q=>by rw[aI (bB q hn)];exact q) fun c xs q=>by rw[aI (bB q hn)];exact q
theorem HOk.drops {P:Program}{w:World}{h:Heap} (x:HOk P w (upd H D (.lst ys)) h) (hn:H D=none):HOk P w H h:=fun b u e=>by
 have hb:b≠D:=bB e hn;refine(x b u (by rw[aI hb];exact e)).stay (fun c v _ q=>q) (fun c q=> ?_) fun c xs q=> ?_
 ·by_cases hc:c=D
  ·subst hc;rw[bA]at q;cases q
  ·rw[aI hc]at q;exact q
 ·by_cases hc:c=D
  ·subst hc;rw[bA]at q;cases q
  ·rw[aI hc]at q;exact q
theorem Inv.track {its:List Value}{n:Nat} (I:Inv X pins σ H s) (hn:H D=none) (e:s.heap.get? D=some { cls:= .type "list",data:= .seq its.toArray n }) (r:Vals ys its) (hz:ys.length<=sizeLine)
  (h0:X.s₀.heap.objs.size<=D)(h1:D≠X.env.locals)(h2:∀x c,X.env.cells.lookup x=some c->c≠D)(h3:∀p∈X.pn++pins,p.1≠D):Inv X pins σ (upd H D (.lst ys)) s where
 ok:=I.ok
 os:=I.os
 bare:=I.bare
 base:=by
  have lt:∀b o,X.s₀.heap.get? b=some o->b≠D:=fun b o q=>Nat.ne_of_lt (Nat.lt_of_lt_of_le (Heap.lt_size q) h0);refine⟨I.base.keep,I.base.slot,fun b o q n' hx=> ?_,I.base.there,fun b xs q=> ?_,fun b o u q=> ?_,fun b ps q=> ?_⟩
  ·rw[aI (lt b o q)];exact I.base.free b o q n' hx
  ·have z:=I.base.tups b xs q;rw[aI (bB z hn)];exact z
  ·have z:=I.base.frzs b o u q;rw[aI (bB z hn)];exact z
  ·obtain⟨more,z⟩:=I.base.tbls b ps q;exact⟨more,by rw[aI (bB z hn)];exact z⟩
 loc:=I.loc
 cell:=I.cell
 free:=by rw[aI (Ne.symm h1)];exact I.free
 freeC:=fun x c q=>by rw[aI (h2 x c q)];exact I.freeC x c q
 pin:=fun p hp=>by
  obtain⟨a,b,c⟩:=I.pin p hp;exact⟨a,by rw[aI (h3 p hp)];exact b,c⟩
 hok:=I.hok.adds hn ⟨hz,its,n,r,e⟩
 len:=I.len
theorem Inv.untrack (I:Inv X pins σ (upd H D (.lst ys)) s)(hn:H D=none):Inv X pins σ H s where
 ok:=I.ok
 os:=I.os
 bare:=I.bare
 base:=by
  have low:∀b u,upd H D (.lst ys) b=some u->(∀xs,u≠ .lst xs)->H b=some u:=fun b u q nl=>by
   by_cases hb:b=D
   ·subst hb;rw[bA]at q;cases q;exact absurd rfl (nl ys)
   ·rw[aI hb]at q;exact q
  refine⟨I.base.keep,I.base.slot,fun b o q n' hx=> ?_,I.base.there,fun b xs q=> ?_,fun b o u q=> ?_,fun b ps q=> ?_⟩
  ·have z:=I.base.free b o q n' hx
   by_cases hb:b=D
   ·subst hb;exact hn
   ·rw[aI hb]at z;exact z
  ·exact low _ _ (I.base.tups b xs q) (fun _ z=>by cases z)
  ·exact low _ _ (I.base.frzs b o u q) (fun _ z=>by cases z)
  ·obtain⟨more,z⟩:=I.base.tbls b ps q;exact⟨more,low _ _ z (fun _ z=>by cases z)⟩
 loc:=I.loc
 cell:=I.cell
 free:=by
  have z:=I.free
  by_cases hb:X.env.locals=D
  ·rw[hb];exact hn
  ·rw[aI hb]at z;exact z
 freeC:=fun x c q=>by
  have z:=I.freeC x c q
  by_cases hb:c=D
  ·rw[hb];exact hn
  ·rw[aI hb]at z;exact z
 pin:=fun p hp=>by
  obtain⟨a,b,c⟩:=I.pin p hp;refine⟨a,?_,c⟩
  by_cases hb:p.1=D
  ·rw[hb];exact hn
  ·rw[aI hb]at b;exact b
 hok:=I.hok.drops hn
 len:=I.len
end
def aS (X:Cx)(scope:Scope)(cl:List (Str×Addr))(N:List Str)(C:Addr)(s0:Shared)(H0:Hp)(fp:List Addr):Cx where
 prog:=X.prog
 w:=X.w
 K:=X.K
 mg:=X.mg
 base:=X.base
 A:=X.A
 N:=N
 s₀:=s0
 H₀:=H0
 env:=compEnvC scope cl C X.env
 outer:=X.stack
 stack:=X.stack
 ex:=fp
 fn:=fun _=>false
 calm:=X.calm
 pn:=[]
 xe:=fun _ _=>False
structure Blk (X:Cx)(scope:Scope)(cl:List (Str×Addr))(N:List Str)(nl:Nat)(ci:List Nat):Prop where
 kind:scope.kind= .function
 names:∀y∈scope.names,y.2= .local->scope.names.lookup y.1=some .local
 nocell:∀y∈scope.names,y.2≠ .cell
 clos:closureFor scope X.env=pure cl
 sub:∀n c,cl.lookup n=some c->X.env.cells.lookup n=some c
 has:∀n,((relabel scope X.env).names.lookup n=some .cell∨(relabel scope X.env).names.lookup n=some .free)->∃c,cl.lookup n=some c
 len:N.length=nl+ci.length
 cap:∀(j i:Nat),ci[j]? =some i->∃n,N[nl+j]? =some n/\X.N[i]? =some n/\(X.env.scope.names.lookup n=some .cell∨X.env.scope.names.lookup n=some .free) ∧
  ((relabel scope X.env).names.lookup n=some .cell∨(relabel scope X.env).names.lookup n=some .free)/\cl.lookup n=X.env.cells.lookup n
def bG (nl:Nat)(ci:List Nat)(σ:St):St:=List.replicate nl none++ci.map fun i=>(σ[i]?).join
theorem D3 {nl:Nat}{ci:List Nat}{σ:St}{k:Nat}{v:V} (h:(bG nl ci σ)[k]? =some (some v)):∃j i,k=nl+j/\ci[j]? =some i/\σ[i]? =some (some v):=by
 unfold bG at h
 by_cases hk:k<nl
 ·rw[List.getElem?_append_left (by simpa using hk),List.getElem?_replicate]at h
  split at h<;>cases h
 ·rw[List.getElem?_append_right (by simpa using hk),List.length_replicate,List.getElem?_map]at h;cases e:ci[k - nl]? with
  | none=>rw[e]at h;cases h
  | some i =>
   rw[e]at h;have h':(σ[i]?).join=some v:=by simpa using h
   refine⟨k - nl,i,by lia,e,?_⟩;cases q:σ[i]? with
   | none=>rw[q]at h';cases h'
   | some o=>rw[q]at h';simp at h';rw[h']
theorem wR {nl:Nat}{ci:List Nat}{σ:St}:(bG nl ci σ).length=nl+ci.length:=by unfold bG;simp
section
variable {X:Cx}{scope:Scope}{cl:List (Str×Addr)}{N:List Str}{nl:Nat}{ci:List Nat}{pins:List (Addr×Obj)}{σ:St}{H2:Hp}{s2:Shared}{fp:List Addr}
theorem pA (B:Blk X scope cl N nl ci)(I:Inv X pins σ H2 s2)(f2:∀b∈fp,eO X pins H2 b)(fo:∀b∈fp,∃o,s2.heap.get? b=some o){C:Addr}{h4:Heap}{t4:Nat}{m4:Str->Option Value} (hC:s2.heap.objs.size<=C) (hns:h4.Ns C m4)
  (hk:∀b o,s2.heap.get? b=some o->h4.get? b=some o):Inv (aS X scope cl N C s2 H2 fp) [] (bG nl ci σ) H2 { s2 with heap:=h4,toks:=t4 }:=by
 have lt2:∀b∈fp,b<s2.heap.objs.size:=fun b hb=>by obtain⟨o,e⟩:=fo b hb;exact Heap.lt_size e
 have ok:(aS X scope cl N C s2 H2 fp).Ok:=by
  refine⟨I.ok.mod,B.kind,I.ok.glob,I.ok.blt,hC,fun x y c h1 h2=>I.ok.inj x y c (B.sub x c h1) (B.sub y c h2),fun x hx=>B.has x hx,fun x c hf _=>(by cases hf),I.ok.hd,I.ok.frames,.inl rfl,fun b hb=>⟨?_,?_⟩,I.bs,?_,fun b o e hb=> ?_,fun b hb z=> ?_,I.stack,I.stkFree⟩
  ·exact Nat.ne_of_lt (Nat.lt_of_lt_of_le (lt2 b hb) hC)
  ·exact fun x c h=>(f2 b hb).2.2.2.2.1 x c (B.sub x c h)
  ·exact Nat.le_trans I.ok.bsz I.sz
  ·rcases (f2 b hb).2.2.2.1 with z|z
   ·exact I.ok.noex b o e z
   ·exact absurd (Nat.lt_of_lt_of_le (Heap.lt_size e) (Nat.le_trans I.ok.bsz z)) (Nat.lt_irrefl _)
  ·rcases List.mem_cons.mp (I.stkSub b z) with q|q
   ·exact(f2 b hb).2.1 q
   ·exact(f2 b hb).2.2.1 q
 refine⟨ok,rfl,I.bare,Un.kept hk,⟨m4,hns,fun k x v e1 e2 e3=> ?_⟩,fun x c e=> ?_,I.hok.fresh hC,fun x c e=>I.freeC x c (B.sub x c e),fun p hp=>(by cases hp),I.hok.kept hk,?_⟩
 ·obtain⟨j,i,rfl,hj,hσ⟩:=D3 e2;obtain⟨n,hn1,hn2,hk1,hk2,hl⟩:=B.cap j i hj;have en:x=n:=by
   have e1':N[nl+j]? =some x:=e1;rw[hn1]at e1';exact(Option.some.inj e1').symm
  subst en;obtain⟨m,hm,hloc⟩:=I.loc;have vis:Vis X.env.scope x:= .inr hk1;obtain⟨u,ru,lk⟩:=hloc i x v hn2 hσ vis;refine⟨u,ru,.inr ⟨hk2,?_⟩⟩;rcases lk with⟨kl,_⟩|⟨_,c,ec,hc⟩
  ·have kl':X.env.scope.names.lookup x=some .local:=kl;rcases hk1 with z|z<;>· rw[z]at kl';cases kl'
  ·refine⟨c,hl.trans ec,?_⟩;obtain⟨o,ho,hd⟩:=hc;exact⟨o,hk _ _ ho,hd⟩
 ·obtain⟨v,o,ho,hd⟩:=I.cell x c (B.sub x c e);exact⟨v,o,hk _ _ ho,hd⟩
 ·show (bG nl ci σ).length=N.length;rw[wR,B.len]
theorem nE {C:Addr}{σ':St}{H':Hp}{s':Shared}{pb:List (Addr×Obj)} (I:Inv X pins σ H2 s2) (f2:∀b∈fp,eO X pins H2 b) (J:Inv (aS X scope cl N C s2 H2 fp) pb σ' H' s'):Inv X pins σ H' s' :=
 I.call' J.os J.base J.hok J.bare fun b hb=>⟨(f2 b hb).2.2.2.1,(f2 b hb).2.1,(f2 b hb).2.2.2.2.1,(f2 b hb).2.2.2.2.2⟩
end
section
variable {prog:Program}{w:World}{A:Around}{R:Result->Shared->Prop}{s:Shared}
theorem pD {elt target iter:Expr}{ifs:List Expr}{scope:Scope}{pos:Pos}{it acc:Value}{env:Env} (I:Nat->Shared->Prop)
  (turn:∀n s,I n s->wpAny (model prog w) A (pyNext it) (fun r s₁=>match r with
   | none=>R (.ok .next) s₁
   | some v=>wpAny (model prog w) A (letOwnedTupleGo target it v) (fun _ s₁'=>wpAny (model prog w) A (assign target env v) (fun _ s₂ =>
     wpAny (model prog w) A (forIn ifs true fun c r=>if r=true then do let ok ←isTrue c env (eval c env);pure (ForInStep.yield ok) else pure (ForInStep.yield r)) (fun ok s₃ =>
      if ok=true then wpAny (model prog w) A (eval elt env) (fun x s₄ =>
       wpAny (model prog w) A (call (.builtin "list.append") [acc,x]) (fun _ s₅=>∃m,m<n/\I m s₅) (notedBy (model prog w) A env fun e s'=>R (.error e) s') s₄) (notedBy (model prog w) A env fun e s'=>R (.error e) s') s₃
      else ∃m,m<n/\I m s₃) (notedBy (model prog w) A env fun e s'=>R (.error e) s') s₂) (notedBy (model prog w) A env fun e s'=>R (.error e) s') s₁') (notedBy (model prog w) A env fun e s'=>R (.error e) s') s₁) (notedBy (model prog w) A env fun e s'=>R (.error e) s') s)
  (n:Nat)(h:I n s) :
  codeAny (model prog w) A (.compLoop (.ListComp elt [⟨target,iter,ifs,0⟩] scope pos) 0 it acc env) R s:=by
 refine codeAny_loop rfl I (fun n s hI=> ?_) n h;show wpAny _ A ((compTurn (.ListComp elt [⟨target,iter,ifs,0⟩] scope pos) 0 it acc env).onRaise (fun x=>do noteFrame x env;theTreesLotGoes x)) _ _ s;refine wpAny_noted ?_;rw[compTurn_list];refine wpAny_bind (wpAny_standAt (wpAny_bind (wpAny_mono (turn n s hI) (fun r s₁ h₁=> ?_) fun _ _ h'=>h')));cases r with
 | none=>exact wpAny_pure h₁
 | some v =>
  refine wpAny_bind (wpAny_mono h₁ (fun _ s₁' h₁'=> ?_) fun _ _ h'=>h');refine wpAny_bind (wpAny_mono h₁' (fun _ s₂ h₂=>wpAny_bind (wpAny_mono h₂ (fun ok s₃ h₃=> ?_) fun _ _ h'=>h')) fun _ _ h'=>h');cases ok with
  | false=>exact wpAny_pure ⟨rfl,h₃⟩
  | true =>
   exact wpAny_bind (wpAny_bind (wpAny_mono h₃ (fun x s₄ h₄=>wpAny_bind (wpAny_mono h₄ (fun _ s₅ h₅=>wpAny_pure (wpAny_pure ⟨rfl,h₅⟩)) fun _ _ h'=>h')) fun _ _ h'=>h'))
end
def PF (X:Cx)(ifs:List Expr)(t:TT):Prop :=
 ∀(pins:List (Addr×Obj)) (s:Shared) (σ:St) (H:Hp) (Q:Bool->Hp->Prop),Inv X pins σ H s->t σ H Q →
  wpAny (model X.prog X.w) X.A (forIn ifs true fun c r=>if r=true then do let ok ←isTrue c X.env (eval c X.env);pure (ForInStep.yield ok) else pure (ForInStep.yield r)) (TP X pins σ Q) X.xe s
def AI:TT:=fun _ H Q=>Q true H
theorem iK {X:Cx}:PF X [] AI:=fun _ _ _ H _ I h=>wpAny_tests_nil ⟨H,I,h⟩
theorem E1 {X:Cx}{c:Expr}{t:TT} (h:PT X c t):PF X [c] t:=fun pins s σ H Q I q=>wpAny_tests_one (h pins s σ H Q I q)
def eV (J:It)(g:TG)(ti:TT)(te:TE)(σ0:St)(fin:List V->Hp->Prop)(H1:Hp):Prop :=
 ∃W:Nat->Nat->List V->Hp->Prop,(∃m,W 0 m [] H1)/\∀i m ys H,W i m ys H →
  (J.stop i H/\fin ys H) ∨
  (J.go i H/\∀x H',J.yld i H x H'->g x σ0 H' fun σ2 H2=>(σ2.length=σ0.length/\∀(j:Nat) v,σ0[j]? =some (some v)->σ2[j]? =some (some v)) ∧
   ti σ2 H2 fun b H3=>if b=true then te σ2 H3 fun y H4=>ys.length<sizeLine/\∃m',m'<m/\W (i+1) m' (ys++[y]) H4 else ∃m',m'<m/\W (i+1) m' ys H3)
def uH (wi:TI)(nl:Nat)(ci:List Nat)(g:TG)(ti:TT)(te:TE):TE:=fun σ H Q =>
 wi σ H fun J H1=>eV J g ti te (bG nl ci σ) (fun ys H'=>∀p,H' p=none->Q (.ref p) (upd H' p (.lst ys))) H1
section
variable {X:Cx}{scope:Scope}{cl:List (Str×Addr)}{N:List Str}{nl:Nat}{ci:List Nat}{tg elt iter:Expr}{ifs:List Expr}{pos:Pos}{wi:TI}{g:TG}{ti:TT}{te:TE}
theorem D1 {pins:List (Addr×Obj)}{σ:St}{H2:Hp}{s2:Shared}{fp:List Addr}{it:Addr}{J:It}{tn:Nat->Heap->Prop}{E:Value->Shared->Prop}{RR:Value->Addr->Result->Shared->Prop}{fin:List V->Hp->Prop}
  (hc:X.calm=true)(B:Blk X scope cl N nl ci)(hg:∀C s0 H0 fp,PG (aS X scope cl N C s0 H0 fp) tg g)(hi:∀C s0 H0 fp,PF (aS X scope cl N C s0 H0 fp) ifs ti)(he:∀C s0 H0 fp,PE (aS X scope cl N C s0 H0 fp) elt te)
  (I2:Inv X pins σ H2 s2)(T:lG X.prog X.w X.K tg J fp it tn)(st2:tn 0 s2.heap)(f2:∀b∈fp,eO X pins H2 b)(hW:eV J g ti te (bG nl ci σ) fin H2)
  (hfin:∀(D C:Addr) (s':Shared) (H':Hp) (ys:List V) (oC:Obj) (m:Str->Option Value),H' D=none->Inv X (pins++[(C,oC)]) σ (upd H' D (.lst ys)) s'->s'.heap.Ns C m->s2.heap.objs.size<=C->fin ys H'->RR (.ref D) C (.ok .next) s') :
  wpAny (model X.prog X.w) X.A (newList []) (fun acc s₃=>wpAny (model X.prog X.w) X.A (newFunctionEnv scope X.env.globals cl [] X.env.qual none .none (some X.env)) (fun cenv s₄ =>
   codeAny (model X.prog X.w) X.A (.compStart (.ListComp elt [⟨tg,iter,ifs,0⟩] scope pos) 0 (.ref it) acc { cenv with scope:=relabel scope X.env }) (RR acc cenv.locals) s₄) E s₃) E s2:=by
 obtain⟨W,⟨m0,w0⟩,turn⟩:=hW;refine wpAny_newObj_type (wpAny_newFunctionEnv B.nocell (by intro y hy;simp at hy) (fun h1 hns1 hsb1=> ?_) B.kind)
 dsimp only at hns1 hsb1 ⊢
 generalize hH2:s2.heap.push { cls:= .type "list",dict:=none,data:= .seq ([]:List Value).toArray }=G2 at hns1 hsb1 ⊢;have hCs:G2.objs.size=s2.heap.objs.size+1:=by rw[←hH2,Heap.size_push]
 generalize hCe:G2.objs.size=C at hns1 hsb1 hCs ⊢;have hDC:s2.heap.objs.size≠C:=by rw[hCs];exact Nat.ne_of_lt (Nat.lt_succ_self _)
 have hCle:s2.heap.objs.size<=C:=by rw[hCs];exact Nat.le_succ _
 have old:∀b o,s2.heap.get? b=some o->h1.get? b=some o:=fun b o e=>hsb1.extBut b o (by rw[hCs];exact Nat.ne_of_lt (Nat.lt_succ_of_lt (Heap.lt_size e))) (Heap.get?_push_of_some _ (hH2▸Heap.get?_push_of_some _ e));have hacc:h1.get? s2.heap.objs.size=some { cls:= .type "list",data:= .seq ([]:List Value).toArray 0 }:=hsb1.extBut _ _ hDC (Heap.get?_push_of_some _ (hH2▸Heap.get?_push_size _ rfl));have fo:∀b∈fp,∃o,s2.heap.get? b=some o:=fun b hb=>let ⟨o,e,_⟩:=T.obj 0 _ st2 b hb;⟨o,e⟩;have lt2:∀b∈fp,b<s2.heap.objs.size:=fun b hb=>let ⟨o,e⟩:=fo b hb;Heap.lt_size e;have hDfp:s2.heap.objs.size∉fp:=fun z=>Nat.lt_irrefl _ (lt2 _ z);have hCfp:C∉fp:=fun z=>Nat.lt_irrefl _ (Nat.lt_of_lt_of_le (lt2 _ z) hCle);generalize hDe:s2.heap.objs.size=D at hCs hDC hCle hacc hDfp lt2;have loop:∀s3:Shared,s3={ s2 with heap:=h1,toks:=s2.toks+([]:List (Str×Value)).length } →
   codeAny (model X.prog X.w) X.A (.compLoop (.ListComp elt [⟨tg,iter,ifs,0⟩] scope pos) 0 (.ref it) (.ref D) (compEnvC scope cl C X.env)) (RR (.ref D) C) s3:=by
  rintro s3 rfl;have I4:Inv (aS X scope cl N C s2 H2 fp) [] (bG nl ci σ) H2 { s2 with heap:=h1,toks:=s2.toks+([]:List (Str×Value)).length }:=pA B I2 f2 fo (by rw[hDe];exact hCle) hns1 old;have fpk:∀{H':Hp},(∀b∈fp,H' b=none)->∀b∈fp,eO (aS X scope cl N C s2 H2 fp) [] H' b:=fun hn b hb =>
   ⟨hn b hb,(I4.ok.exf b hb).1,I4.ok.exfs b hb,.inl hb,(I4.ok.exf b hb).2,fun p hp=>by cases hp⟩
  have hDX:∀x c,(aS X scope cl N C s2 H2 fp).env.cells.lookup x=some c->c≠D:=fun x c e=>by
   obtain⟨v,o,ho,_⟩:=I2.cell x c (B.sub x c e);rw[←hDe];exact Nat.ne_of_lt (Heap.lt_size ho)
  have hDL:D≠(aS X scope cl N C s2 H2 fp).env.locals:=hDC;have hDf:D∉(aS X scope cl N C s2 H2 fp).fs:=fun z=>by
   rcases List.mem_cons.mp (I2.stkSub D z) with q|q
   ·exact Nat.lt_irrefl _ (by have:=I2.lt;rw[hDe,←q]at this;exact this)
   ·exact I2.nofs (by rw[hDe];exact Nat.le_refl _) q
  refine pD (fun n s'=>∃i ys its k H',W i n ys H'/\Inv (aS X scope cl N C s2 H2 fp) [] (bG nl ci σ) H' s'/\tn i s'.heap/\(∀b∈fp,H' b=none)/\H' D=none ∧
   s'.heap.get? D=some { cls:= .type "list",data:= .seq its.toArray k }/\Vals ys its/\ys.length<=sizeLine) ?_ m0 ?_
  ·rintro n s' ⟨i,ys,its,k,H',w',I',st',fr',hD',eD,rv,hz⟩;have IP:Inv (aS X scope cl N C s2 H2 fp) [(D,{ cls:= .type "list",data:= .seq its.toArray k })] (bG nl ci σ) H' s':=I'.pins_of fun p hp=>by
    obtain rfl:p=_:=by simpa using hp
    exact⟨eD,hD',hDL,hDf,fun v z=>by cases z⟩
   have fpD:∀{H'':Hp},(∀b∈fp,H'' b=none)->∀b∈fp,eO (aS X scope cl N C s2 H2 fp) [(D,{ cls:= .type "list",data:= .seq its.toArray k })] H'' b:=fun hn b hb =>
    ⟨hn b hb,(I4.ok.exf b hb).1,I4.ok.exfs b hb,.inl hb,(I4.ok.exf b hb).2,fun p hp=>by
     obtain rfl:p=_:=by simpa [aS] using hp
     exact fun z=>hDfp ((show D=b from z)▸hb)⟩
   rcases turn i n ys H' w' with⟨stop,q⟩|⟨go,step⟩
   ·refine thn (T.done (aS X scope cl N C s2 H2 fp) rfl rfl rfl hc i _ s' (bG nl ci σ) H' _ IP (fpD fr') st' stop) fun r s'' ⟨hr,I''⟩=> ?_;subst hr;have eD2:=(I''.pin (D,_) (List.mem_append_right _ List.mem_cons_self)).1;have J1:Inv (aS X scope cl N C s2 H2 fp) [] (bG nl ci σ) (upd H' D (.lst ys)) s'' :=
     (I''.pins_of (pins':=[]) fun p hp=>by cases hp).track hD' eD2 rv hz (by show s2.heap.objs.size<=D;rw[hDe];exact Nat.le_refl _) hDL hDX fun p hp=>by cases hp
    have K1:Inv X pins σ (upd H' D (.lst ys)) s'':=nE I2 f2 J1;obtain⟨mC,nsC,_⟩:=J1.loc;obtain⟨oC,es,ep,hoC,hdC,rC⟩:=id nsC;refine hfin D C s'' H' ys oC mC hD' (K1.pins_of fun p hp=> ?_) nsC (by rw[hDe];exact hCle) q;rcases List.mem_append.mp hp with hp|hp
    ·exact K1.pin p (List.mem_append_right _ hp)
    ·obtain rfl:p=(C,oC):=by simpa using hp
     refine⟨hoC,J1.free,Nat.ne_of_gt (Nat.lt_of_lt_of_le I2.lt (by rw[hDe];exact hCle)),I2.nofs (by rw[hDe];exact hCle),fun v z=> ?_⟩;rw[hdC]at z;cases z
   ·refine thn (T.item (aS X scope cl N C s2 H2 fp) rfl rfl rfl hc i _ s' (bG nl ci σ) H' _ IP (fpD fr') st' go) fun r s4 ⟨u,hr,h4⟩=> ?_;subst hr;refine thn h4 fun _ s5 ⟨x,H5,I5,r5,y5,st5,fr5⟩=> ?_;have I5':=I5.pinned (fpD fr5) (T.obj _ _ st5);refine wpAny_mono (hg C s2 H2 fp _ s5 (bG nl ci σ) H5 x u _ I5' r5 (step x H5 y5)) (fun _ s6 ⟨σ6,H6,I6,⟨hl6,hk6⟩,q6⟩=> ?_) fun _ _ f=>f.elim;refine wpAny_mono (hi C s2 H2 fp _ s6 σ6 H6 _ I6 q6) (fun b s7 ⟨H7,I7,q7⟩=> ?_) fun _ _ f=>f.elim;have pinD:∀{pp:List (Addr×Obj)}{σx:St}{Hx:Hp}{sx:Shared},Inv (aS X scope cl N C s2 H2 fp) ([(D,({ cls:= .type "list",data:= .seq its.toArray k }:Obj))]++eK fp s5.heap) σx Hx sx →
      sx.heap.get? D=some { cls:= .type "list",data:= .seq its.toArray k }/\Hx D=none/\tn (i+1) sx.heap/\(∀b∈fp,Hx b=none):=fun {pp σx Hx sx} Ix=>by
     refine⟨(Ix.pin (D,_) (List.mem_append_right _ (List.mem_append_left _ List.mem_cons_self))).1,(Ix.pin (D,_) (List.mem_append_right _ (List.mem_append_left _ List.mem_cons_self))).2.1,T.keep _ _ _ st5 fun b hb o e=>(Ix.pin (b,o) (List.mem_append_right _ (List.mem_append_right _ (dL hb e)))).1,fun b hb=> ?_⟩;obtain⟨o,e,d⟩:=T.obj _ _ st5 b hb;exact(Ix.pin (b,o) (List.mem_append_right _ (List.mem_append_right _ (dL hb e)))).2.1
    cases b with
    | false =>
     rw[if_neg Bool.false_ne_true]at q7 ⊢;obtain⟨m',hm',w7⟩:=q7;obtain⟨e7,n7,st7,fr7⟩:=pinD (pp:=[]) I7;exact⟨m',hm',i+1,ys,its,k,H7,w7,(I7.pins_of (pins':=[]) fun p hp=>by cases hp).weak hl6.symm hk6,st7,fr7,n7,e7,rv,hz⟩
    | true =>
     rw[if_pos rfl]at q7 ⊢;refine wpAny_mono (he C s2 H2 fp _ s7 σ6 H7 _ I7 q7) (fun y' s8 ⟨y,H8,I8,r8,hlt,m',hm',w8⟩=> ?_) fun _ _ f=>f.elim;obtain⟨e8,n8,st8,fr8⟩:=pinD (pp:=[]) I8;have I8f:Inv (aS X scope cl N C s2 H2 fp) (eK fp s5.heap) σ6 H8 s8:=I8.pins_of fun p hp=>I8.pin p (List.mem_append_right _ (List.mem_append_right _ hp));have I8t:=I8f.track n8 e8 rv hz (by show s2.heap.objs.size<=D;rw[hDe];exact Nat.le_refl _) hDL hDX fun p hp=>by
      have hp':p∈eK fp s5.heap:=by simpa [aS] using hp
      exact fun z=>hDfp (z▸(m7 hp').1)
     refine wpAny_mono (nW (X:=aS X scope cl N C s2 H2 fp) (eK fp s5.heap) s8 σ6 _ (.ref D) [y] (.ref D) [y'] (fun _ H9=>H9=upd H8 D (.lst (ys++[y]))) I8t rfl (.cons r8 .nil)
      ⟨D,ys,y,rfl,rfl,bA,hlt,z7⟩) (fun _ s9 ⟨_,H9,I9,_,e9⟩=> ?_) fun _ _ f=>f.elim
     subst e9;obtain⟨hz9,its9,k9,rv9,e9⟩:=I9.hok D _ bA;have I9u:=I9.untrack n8;refine⟨m',hm',i+1,ys++[y],its9,k9,H8,w8,(I9u.pins_of (pins':=[]) fun p hp=>by cases hp).weak hl6.symm hk6,?_,fr8,n8,e9,rv9,hz9⟩;exact T.keep _ _ _ st5 fun b hb o e=>(I9u.pin (b,o) (List.mem_append_right _ (dL hb e))).1
  ·exact⟨0,[],[],0,H2,w0,I4,T.keep _ _ _ st2 fun b hb o e=>old b o e,fun b hb=>(f2 b hb).1,I2.hok.fresh (by rw[hDe];exact Nat.le_refl _),hacc,.nil,Nat.zero_le _⟩
 exact codeAny_compStart_list (loop _ rfl) (T.self _ 0 _ _ _ (T.keep _ _ _ st2 fun b hb o e=>old b o e) (loop _ rfl))
theorem fU (hc:X.calm=true)(B:Blk X scope cl N nl ci)(hp:PI X tg iter wi)(hg:∀C s0 H0 fp,PG (aS X scope cl N C s0 H0 fp) tg g)(hi:∀C s0 H0 fp,PF (aS X scope cl N C s0 H0 fp) ifs ti)
  (he:∀C s0 H0 fp,PE (aS X scope cl N C s0 H0 fp) elt te)(hs:∀x,foldedSetIterable iter X.env x=pure x:=by intro _;rfl):PE X (.ListComp elt [⟨tg,iter,ifs,0⟩] scope pos) (uH wi nl ci g ti te):=by
 intro pins s σ H Q I h;rw[eval_ListComp];refine wpAny_comprehension_free (use:=none) rfl hs B.clos B.kind B.names (thn (hp pins s σ H _ I h) fun v s1 h1=>thn h1 fun itv s2 h2=> ?_);obtain⟨it,fp,tn,J,H2,e,I2,T,st2,f2,hW⟩:=h2;subst e;refine D1 (RR:=fun acc C=>compPost (model X.prog X.w) X.A X.xe none (EP X pins σ Q) acc C) hc B hg hi he I2 T st2 f2 hW ?_;intro D C s' H' ys oC m hD K1 hn hC q;refine⟨m,hn,fun h' hs'=> ?_⟩;have hL:C≠X.env.locals:=(K1.pin (C,oC) (by simp)).2.2.1;have I9:Inv X pins σ (upd H' D (.lst ys)) { s' with heap:=h',toks:=s'.toks }:=K1.unpinned.turned (t':=s'.toks) (it:=C) (fun b o hb e=>hs'.extBut b o hb e) (K1.pin (C,oC) (by simp)).2.1 hL (.inr (Nat.le_trans I2.sz hC)) (fun x c e z=> ?_) fun p hp z=> ?_
 ·exact⟨.ref D,_,I9,rfl,q D hD⟩
 ·obtain⟨v,o,ho,_⟩:=I2.cell x c e;exact absurd (Nat.lt_of_lt_of_le (Heap.lt_size ho) (z▸hC)) (Nat.lt_irrefl _)
 ·exact absurd (Nat.lt_of_lt_of_le (Heap.lt_size (I2.pin p hp).1) (z▸hC)) (Nat.lt_irrefl _)
end
end L2
namespace L2
open PySem PySem.Spec PyProof.Rows
def Its (x:Str):It:=⟨fun i _=>i<x.cps.size,fun i H v H'=>H'=H/\∃c,x.cps[i]? =some c/\v= .str ⟨#[c]⟩,fun i _=>i=x.cps.size⟩
theorem xB {P:Program}{w:World}{K:PySem.W.Frag}{tg:Expr} (it:Addr) (x:Str) (t:Tok) (ty:String)
  (hty:["enumerate","zip","dict_itemiterator","dict_reverseitemiterator","odict_iterator","itertools.zip_longest","itertools.pairwise"].contains ty=false)
  (W:∀A':Around,A'.handled=none->Walks P w A' it [it] [it] x.cps.size (SignAt x) (fun i h=>h.IsStrIter it ty x t i))
  (hself:∀(A:Around) (i:Nat) (s:Shared) (Q:Value->Shared->Prop) (E:Value->Shared->Prop),s.heap.IsStrIter it ty x t i->Q (.ref it) s->wpAny (model P w) A (pyIter (.ref it)) Q E s) :
  lG P w K tg (Its x) [it] it (fun i h=>h.IsStrIter it ty x t i) where
 mem:=by simp
 obj:=fun i h st b hb=>by
  have e:b=it:=by simpa using hb
  subst e;obtain⟨o,e,c,d⟩:=st;exact⟨o,e,fun v z=>by rw[d]at z;cases z⟩
 keep:=fun i h h' st k=>let ⟨o,ho,r⟩:=st;⟨o,k it (by simp) o ho,r⟩
 item:=by
  intro X hP hw hK hc i pins s σ H E I hf st hg;subst hP hw hK;obtain⟨f0,f1,f2,f3,f4,f5⟩:=hf it (by simp);refine(W X.A (I.ok.hd hc)).item i s _ _ hg st fun v h' tk hv st' kk=> ?_;obtain⟨c,u,hc',rfl⟩:=hv;have I1:Inv X pins σ H { s with heap:=h',toks:=tk }:=I.turned (fun b o hb e=>kk b o (by simpa using hb) e) f0 f1 f3 f4 f5;obtain⟨o,e,c1,d⟩:=id st';exact⟨_,rfl,uF (s:={ s with heap:=h',toks:=tk }) e c1 d hty ⟨.str ⟨#[c]⟩,H,I1,⟨u,rfl⟩,⟨rfl,c,hc',rfl⟩,st',fun b hb=>(hf b hb).1⟩⟩
 done:=by
  intro X hP hw hK hc i pins s σ H E I hf st hg;subst hP hw hK;obtain⟨f0,f1,f2,f3,f4,f5⟩:=hf it (by simp);have e:i=x.cps.size:=hg;subst e;exact(W X.A (I.ok.hd hc)).done s _ _ st fun h' tk kk=>⟨rfl,I.turned (fun b o hb e=>kk b o (by simpa using hb) e) f0 f1 f3 f4 f5⟩
 self:=hself
def LW (tl:TE):TI:=fun σ H R=>tl σ H fun x H1=>∃z,x= .str z/\R (Its z) H1
theorem DO {X:Cx}{tg l:Expr}{tl:TE} (hl:PE X l tl):PI X tg l (LW tl):=by
 intro pins s σ H R I h;refine thn (hl pins s σ H _ I h) fun v s1 ⟨x,H1,I1,rx,z,ez,q⟩=> ?_;subst ez;obtain⟨t,rfl⟩:=rx;cases ha:z.cps.all (·<128)
 ·refine wpAny_pyIter_wide ha ⟨s1.heap.objs.size,[s1.heap.objs.size],_,Its z,H1,rfl,I1.kept (t':=s1.toks) fun b u e=>Heap.get?_push_of_some _ e,xB _ z t "str_iterator" (by decide) (fun A' hA=>Walks.strWide hA _ z t) (fun _ _ _ _ _ st h=>wpAny_pyIter_striter_wide st h),⟨_,Heap.get?_push_size _ rfl,rfl,rfl⟩,fun b hb=> ?_,q⟩;have e:b=s1.heap.objs.size:=by simpa using hb
  subst e;exact I1.fpOk (Nat.le_refl _) (I1.hok.fresh (Nat.le_refl _))
 ·refine wpAny_pyIter_ascii ha ⟨s1.heap.objs.size,[s1.heap.objs.size],_,Its z,H1,rfl,I1.kept (t':=s1.toks) fun b u e=>Heap.get?_push_of_some _ e,xB _ z t "str_ascii_iterator" (by decide) (fun A' hA=>Walks.strAscii hA _ z t) (fun _ _ _ _ _ st h=>wpAny_pyIter_striter_ascii st h),⟨_,Heap.get?_push_size _ rfl,rfl,rfl⟩,fun b hb=> ?_,q⟩;have e:b=s1.heap.objs.size:=by simpa using hb
  subst e;exact I1.fpOk (Nat.le_refl _) (I1.hok.fresh (Nat.le_refl _))
theorem zT {J:It}{g:TG}{ti:TT}{te:TE}{σ0:St}{fin:List V->Hp->Prop}{H1:Hp} (n:Nat) (f:Nat->V) (hn:n<=sizeLine) (Ok:Hp->Prop) (h0:Ok H1)
  (hst:∀H,Ok H->J.stop n H)(hgo:∀i H,i<n->Ok H->J.go i H)
  (hstep:∀i H x H',i<n->Ok H->J.yld i H x H'->g x σ0 H' fun σ2 H2=>(σ2.length=σ0.length/\∀(j:Nat) v,σ0[j]? =some (some v)->σ2[j]? =some (some v))/\ti σ2 H2 fun b H3=>b=true/\te σ2 H3 fun y H4=>y=f i/\Ok H4)
  (mono:∀σ H (Q Q':Bool->Hp->Prop),(∀b H',Q b H'->Q' b H')->ti σ H Q->ti σ H Q')(mono2:∀σ H (Q Q':VK),(∀b H',Q b H'->Q' b H')->te σ H Q->te σ H Q')(mono3:∀x σ H (Q Q':St->Hp->Prop),(∀σ' H',Q σ' H'->Q' σ' H')->g x σ H Q->g x σ H Q')
  (hfin:∀H,Ok H->fin ((List.range n).map f) H):eV J g ti te σ0 fin H1:=by
 refine⟨fun i m ys H=>m=n - i/\i<=n/\ys=(List.range i).map f/\Ok H,⟨n,by simp,Nat.zero_le _,rfl,h0⟩,?_⟩;rintro i m ys H ⟨rfl,hi,rfl,ok⟩
 by_cases hlt:i<n
 ·refine .inr ⟨hgo i H hlt ok,fun x H' y=> ?_⟩;refine mono3 _ _ _ _ _ (fun σ' H'' q=>⟨q.1,mono _ _ _ _ (fun b H3 q=> ?_) q.2⟩) (hstep i H x H' hlt ok y);obtain⟨rfl,q⟩:=q;rw[if_pos rfl];refine mono2 _ _ _ _ (fun v H4 q=> ?_) q;obtain⟨rfl,ok4⟩:=q;refine⟨by rw[List.length_map,List.length_range];lia,n - (i+1),by lia,rfl,hlt,?_,ok4⟩;rw[List.range_succ,List.map_append];rfl
 ·have e:i=n:=by lia
  subst e;exact .inl ⟨hst H ok,hfin H ok⟩
section
variable {X:Cx}
theorem wE:∀bs:List Bool,(List.range bs.length).all (fun i=>bs.getD i true)=bs.all id
 | []=>rfl
 | b::bs=>by
  rw[List.length_cons,List.range_succ_eq_map,List.all_cons,List.all_map,List.all_cons,←wE bs];rfl
theorem rY (hc:X.calm=true):b9 X (.builtin "all") (fun xs H Q=>∃(p:Addr) (bs:List Bool),xs=[.ref p]/\SqL X.K H p (bs.map V.bl)/\Q (.bl (bs.all id)) H):=by
 intro pins s σ H xs us Q I r h;obtain⟨p,bs,rfl,hq,q⟩:=h;obtain⟨u,rfl,rx⟩:=fD r;cases rx;obtain⟨its,r',pl,hz⟩:=I.list hq;have hl:=pl.isList;have hlt:p<s.heap.objs.size:=by obtain⟨_,e,_⟩:=hl;exact Heap.lt_size e
 have hlen:bs.length=its.length:=by have:=r'.length;rw[List.length_map]at this;exact this
 refine call_all_walk (wpAny_pyIter_list hl ?_);refine⟨s.heap.objs.size,_,_,its.toArray.size,_,_,fun i=>bs.getD i true,rfl,Walks.list (show X.A.in1.handled=none from I.ok.hd hc) s.heap.objs.size p (Nat.ne_of_lt hlt) its.toArray,⟨⟨_,Heap.get?_push_size _ rfl,rfl,rfl⟩,hl.push _⟩,?_,?_⟩
 ·intro i v s' Q' E' hi hQ;have hi':its[i]? =some v:=by simpa using hi
  have hib:i<bs.length:=by rw[hlen];exact(List.getElem?_eq_some_iff.mp hi').1
  obtain⟨u,hu,ru⟩:=r'.get (i:=i) (x:=V.bl bs[i]) (by rw[List.getElem?_map,List.getElem?_eq_getElem hib];rfl);rw[hi']at hu;cases hu;have:v=Value.bool bs[i]:=ru;subst this;refine wpAny_truthy_bool ?_;have eb:bs.getD i true=bs[i]:=by rw[List.getD_eq_getElem?_getD,List.getElem?_eq_getElem hib];rfl
  have hQ':Q' (bs.getD i true) s':=hQ;rw[eb]at hQ';exact hQ'
 ·intro h' tk hk;have eall:(List.range its.toArray.size).all (fun i=>bs.getD i true)=bs.all id:=by
   rw[List.size_toArray,←hlen];exact wE bs
  rw[eall];refine⟨.bl (bs.all id),H,?_,rfl,q⟩;have I1:Inv X pins σ H { s with heap:=s.heap.push { cls:= .type "list_iterator",data:= .fields #[.ref p,.int 0 0] },toks:=s.toks }:=I.kept fun b u e=>Heap.get?_push_of_some _ e;obtain⟨f0,f1,f2,f3,f4,f5⟩:=I.fpOk (Nat.le_refl _) (I.hok.fresh (Nat.le_refl _));exact I1.turned (fun b o hb e=>hk b o (by simpa using hb) e) f0 f1 f3 f4 f5
theorem x9:b9 X (.builtin "isinstance") (fun xs H Q=>∃x c t u b,xs=[x,c]/\fN X.K H x t/\RelV c u/\PySem.W.kitOne X.K t u=some b/\Q (.bl b) H):=by
 intro pins s σ H xs us Q I r h;obtain⟨x,c,t,u,b,rfl,ty,rc,e,q⟩:=h;obtain⟨v1,v2,rfl,r1,r2⟩:=AM r;have e2:v2=u:=by
  cases c with
  | non=>exact(show v2=_ from r2).trans (show u=_ from rc).symm
  | bl b=>exact(show v2=_ from r2).trans (show u=_ from rc).symm
  | ref b=>exact(show v2=_ from r2).trans (show u=_ from rc).symm
  | ty b=>exact(show v2=_ from r2).trans (show u=_ from rc).symm
  | int i =>
   obtain⟨t1,rfl⟩:=(show ∃t,u=_ from rc)
   cases ty<;>simp[PySem.W.kitOne,PySem.W.kitCls]at e
  | str i =>
   obtain⟨t1,rfl⟩:=(show ∃t,u=_ from rc)
   cases ty<;>simp[PySem.W.kitOne,PySem.W.kitCls]at e
  | byt i =>
   obtain⟨t1,rfl⟩:=(show ∃t,u=_ from rc)
   cases ty<;>simp[PySem.W.kitOne,PySem.W.kitCls]at e
  | flt i =>
   obtain⟨t1,rfl⟩:=(show ∃t,u=_ from rc)
   cases ty<;>simp[PySem.W.kitOne,PySem.W.kitCls]at e
 subst e2;exact D9 I r1 ty e fun tk=>⟨.bl b,H,I.tok tk,rfl,q⟩
theorem EG:OpR X (compareOp .LtE) (fun x y H Q=>∃i j,x= .str i/\y= .str j/\Q (.bl (!decide (j.cps.toList<i.cps.toList))) H):=by
 intro pins s σ H x y v u Q I rx ry h;obtain⟨i,j,rfl,rfl,q⟩:=h;obtain⟨t,rfl⟩:=rx;obtain⟨t',rfl⟩:=ry;exact P.le_str ⟨.bl _,H,I,rfl,q⟩
theorem qW:∀{ys:List Str}{us:List Value},Vals (ys.map V.str) us->StrsAre us ys
 | [],_,.nil=> .nil
 | y::ys,_,.cons r t=>by
  obtain⟨u,rfl⟩:=r;exact .cons y u (qW t)
def IV (K:PySem.W.Frag):V->List V->Hp->VK->Prop:=fun x vs H Q=>∃(z:Str) (p:Addr) (ys:List Str),x= .str z/\vs=[.ref p]/\SqL K H p (ys.map V.str)/\(ys.map (·.length)).sum+ys.length * z.length<=16777216/\Q (.str (Txt.join z ys)) H
theorem fQ:MtR X "str.join" (IV X.K):=by
 intro pins s σ H x xs v us Q I rx rs h;obtain⟨z,p,ys,rfl,rfl,hq,hz,q⟩:=h;obtain⟨t,rfl⟩:=rx;obtain⟨u,rfl,ru⟩:=fD rs;cases ru;obtain⟨its,r',pl,_⟩:=I.list hq;exact join_list pl.isList (by rw[List.toList_toArray];exact qW r') hz fun t' k=>⟨.str _,H,I.tok k,⟨t',rfl⟩,q⟩
end
end L2
namespace L2
open PySem PySem.Spec PyProof.Rows
def IN (xs:List (Str×NameKind))(XN:List Str)(ns:List (Str×NameKind))(N:List Str)(nl:Nat)(ci:List Nat):Bool :=
 (ns.all fun y=>y.2 != .cell&&(y.2 != .local||ns.lookup y.1==some .local)&&(y.2 != .free||(xs.lookup y.1==some .cell&&ns.lookup y.1==some .free))) &&
 (N.length==nl+ci.length) &&
 (List.range ci.length).all fun j=>match ci[j]?,N[nl+j]? with
  | some i,some n=>XN[i]? ==some n&&xs.lookup n==some .cell&&ns.lookup n==some .free
  | _,_=>false
def lQ (ns:List (Str×NameKind))(cs:List (Str×Addr)):List (Str×Addr)->List (Str×Addr)
 | acc=>ns.foldl (fun acc y=>if y.2== .free then (y.1,(cs.lookup y.1).getD 0)::acc else acc) acc
theorem mU {env:Env}:∀(ns:List (Str×NameKind)) (acc:List (Str×Addr)),(∀y∈ns,y.2= .free->∃c,env.cells.lookup y.1=some c) →
  (forIn ns acc fun x r=>(do
   let (name,kind):=x
   if (kind==NameKind.free)=true then do
     let c ←cellOf env name
     pure (ForInStep.yield ((name,c)::r))
    else pure (ForInStep.yield r)):Sem (List (Str×Addr)))=pure (lQ ns env.cells acc)
 | [],acc,_=>rfl
 | (n,k)::r,acc,h=>by
  have ih:=fun acc=>mU r acc fun y hy=>h y (List.mem_cons_of_mem _ hy);rw[List.forIn_cons]
  by_cases hk:k= .free
  ·subst hk;obtain⟨c,e⟩:=h (n,.free) List.mem_cons_self rfl;have e1:cellOf env n=pure c:=by unfold cellOf;rw[e]
   simp only[beq_self_eq_true,if_true,e1];show (forIn r ((n,c)::acc) _:Sem (List (Str×Addr)))=_;rw[ih];show _=pure (lQ ((n,NameKind.free)::r) env.cells acc);simp only[lQ,List.foldl_cons,beq_self_eq_true,if_true,e,Option.getD_some]
  ·have hb:(k==NameKind.free)=false:=by simpa using hk
   simp only[hb,Bool.false_eq_true,if_false];show (forIn r acc _:Sem (List (Str×Addr)))=_;rw[ih];simp only[lQ,List.foldl_cons,hb,Bool.false_eq_true,if_false]
theorem fJ {cs:List (Str×Addr)}:∀(ns:List (Str×NameKind)) (acc:List (Str×Addr)) (n:Str),(∀y∈ns,y.2= .free->∃c,cs.lookup y.1=some c) →
  ((n,NameKind.free)∈ns∨acc.lookup n=cs.lookup n)->(∀c,acc.lookup n=some c->cs.lookup n=some c)->(lQ ns cs acc).lookup n=cs.lookup n
 | [],acc,n,_,h,_=>by
  rcases h with h|h
  ·cases h
  ·exact h
 | (m,k)::r,acc,n,hc,h,hs=>by
  have hc':∀y∈r,y.2= .free->∃c,cs.lookup y.1=some c:=fun y hy=>hc y (List.mem_cons_of_mem _ hy);show (lQ r cs (if k== .free then (m,(cs.lookup m).getD 0)::acc else acc)).lookup n=cs.lookup n
  by_cases hk:k= .free
  ·subst hk;obtain⟨c,e⟩:=hc (m,.free) List.mem_cons_self rfl;simp only[beq_self_eq_true,if_true,e,Option.getD_some]
   by_cases hm:n=m
   ·subst hm;have q:List.lookup n ((n,c)::acc)=some c:=by simp[List.lookup_cons]
    exact fJ r _ n hc' (.inr (q.trans e.symm)) fun c' z=>by rw[q]at z;cases z;exact e
   ·have hb:(n==m)=false:=by simpa using hm
    have q:List.lookup n ((m,c)::acc)=acc.lookup n:=by simp[List.lookup_cons,hb]
    refine fJ r _ n hc' ?_ fun c' z=>hs c' (q▸z);rcases h with h|h
    ·rcases List.mem_cons.mp h with z|z
     ·cases z;exact absurd rfl hm
     ·exact .inl z
    ·exact .inr (q.trans h)
  ·have hb:(k==NameKind.free)=false:=by simpa using hk
   simp only[hb,Bool.false_eq_true,if_false];refine fJ r _ n hc' ?_ hs;rcases h with h|h
   ·rcases List.mem_cons.mp h with z|z
    ·cases z;exact absurd rfl hk
    ·exact .inl z
   ·exact .inr h
theorem vX {cs:List (Str×Addr)}:∀(ns:List (Str×NameKind)) (acc:List (Str×Addr)),(∀y∈ns,y.2= .free->∃c,cs.lookup y.1=some c) →
  (∀n c,acc.lookup n=some c->cs.lookup n=some c)->∀n c,(lQ ns cs acc).lookup n=some c->cs.lookup n=some c
 | [],acc,_,hs,n,c,h=>hs n c h
 | (m,k)::r,acc,hc,hs,n,c,h=>by
  have hc':∀y∈r,y.2= .free->∃c,cs.lookup y.1=some c:=fun y hy=>hc y (List.mem_cons_of_mem _ hy);have h':(lQ r cs (if k== .free then (m,(cs.lookup m).getD 0)::acc else acc)).lookup n=some c:=h;refine vX r _ hc' ?_ n c h';intro n' c' z
  by_cases hk:k= .free
  ·subst hk;obtain⟨d,e⟩:=hc (m,.free) List.mem_cons_self rfl;simp only[beq_self_eq_true,if_true,e,Option.getD_some]at z
   by_cases hm:n'=m
   ·subst hm;simp[List.lookup_cons]at z;subst z;exact e
   ·have hb:(n'==m)=false:=by simpa using hm
    simp[List.lookup_cons,hb]at z;exact hs n' c' z
  ·have hb:(k==NameKind.free)=false:=by simpa using hk
   simp only[hb,Bool.false_eq_true,if_false]at z;exact hs n' c' z
theorem gM {env:Env}(hkf:env.scope.kind= .function):∀{names:List (Str×NameKind)}{x:Str},names.lookup x=some .free->env.kindOf x=some .cell →
  (names.map fun (n,k)=>if (k==NameKind.free&&env.scope.kind== .function&&env.kindOf n==some .cell) then (n,NameKind.cell) else (n,k)).lookup x=some .cell
 | [],_,h,_=>by simp at h
 | (n,k)::r,x,h,hc=>by
  show List.lookup x ((if (k==NameKind.free&&env.scope.kind== .function&&env.kindOf n==some .cell)=true then (n,NameKind.cell) else (n,k))::_)=_;cases hx:x==n with
  | true =>
   simp only[List.lookup_cons,hx]at h;cases h;have e:x=n:=by simpa using hx
   subst e;rw[hkf,hc];simp[List.lookup_cons]
  | false =>
   simp only[List.lookup_cons,hx]at h;have ih:=gM hkf h hc
   split
   ·simp only[List.lookup_cons,hx];exact ih
   ·simp only[List.lookup_cons,hx];exact ih
theorem eP {env:Env}:∀{names:List (Str×NameKind)}{x:Str}{k':NameKind},(∀y∈names,y.2≠ .cell)->(k'= .cell∨k'= .free) →
  (names.map fun (n,k)=>if (k==NameKind.free&&env.scope.kind== .function&&env.kindOf n==some .cell) then (n,NameKind.cell) else (n,k)).lookup x=some k'->(x,NameKind.free)∈names
 | [],_,_,_,_,h=>by simp at h
 | (n,k)::r,x,k',hn,hk',h=>by
  have h':List.lookup x ((if (k==NameKind.free&&env.scope.kind== .function&&env.kindOf n==some .cell)=true then (n,NameKind.cell) else (n,k))::r.map _)=some k':=h;cases hx:x==n with
  | true =>
   have e:x=n:=by simpa using hx
   subst e
   by_cases hf:k= .free
   ·subst hf;exact List.mem_cons_self
   ·have hb:(k==NameKind.free)=false:=by simpa using hf
    simp only[hb,Bool.false_and,Bool.false_eq_true,if_false,List.lookup_cons,hx]at h';cases h';rcases hk' with z|z
    ·exact absurd z (hn (x,k) List.mem_cons_self)
    ·exact absurd z hf
  | false =>
   have h2:List.lookup x (r.map fun (n,k)=>if (k==NameKind.free&&env.scope.kind== .function&&env.kindOf n==some .cell) then (n,NameKind.cell) else (n,k))=some k':=by
    split at h'
    ·simp only[List.lookup_cons,hx]at h';exact h'
    ·simp only[List.lookup_cons,hx]at h';exact h'
   exact List.mem_cons_of_mem _ (eP (fun y hy=>hn y (List.mem_cons_of_mem _ hy)) hk' h2)
theorem blk {X:Cx}{scope:Scope}{N:List Str}{nl:Nat}{ci:List Nat} (n0:Nat) (hX:X.env.cells=cellsFrom n0 X.env.scope.names []) (hkf:X.env.scope.kind= .function) (hk:scope.kind= .function)
  (h:IN X.env.scope.names X.N scope.names N nl ci=true):Blk X scope (lQ scope.names X.env.cells []) N nl ci:=by
 unfold IN at h;rw[Bool.and_eq_true,Bool.and_eq_true]at h;obtain⟨⟨h1,h2⟩,h3⟩:=h;rw[List.all_eq_true]at h1;have h1':∀y∈scope.names,y.2≠ .cell/\(y.2= .local->scope.names.lookup y.1=some .local)/\(y.2= .free->X.env.scope.names.lookup y.1=some .cell/\scope.names.lookup y.1=some .free):=fun y hy=>by
  have q:=h1 y hy;simp only[Bool.and_eq_true,Bool.or_eq_true,bne_iff_ne,ne_eq,beq_iff_eq]at q;obtain⟨⟨q1,q2⟩,q3⟩:=q;exact⟨q1,fun e=>q2.resolve_left fun z=>z e,fun e=>q3.resolve_left fun z=>z e⟩
 have hcs:∀y∈scope.names,y.2= .free->∃c,X.env.cells.lookup y.1=some c:=fun y hy e=>by
  rw[hX];exact pJ ((h1' y hy).2.2 e).1
 refine⟨hk,fun y hy=>(h1' y hy).2.1,fun y hy=>(h1' y hy).1,?_,?_,?_,by simpa using h2,?_⟩
 ·unfold closureFor;refine(congrArg (fun m:Sem (List (Str×Addr))=>m >>= fun cs=>pure cs) (mU scope.names [] hcs)).trans ?_;rfl
 ·exact vX scope.names [] hcs fun n c z=>by cases z
 ·intro n hn;have hm:(n,NameKind.free)∈scope.names:=by
   rcases hn with z|z
   ·exact eP (fun y hy=>(h1' y hy).1) (.inl rfl) z
   ·exact eP (fun y hy=>(h1' y hy).1) (.inr rfl) z
  obtain⟨c,e⟩:=hcs _ hm rfl;exact⟨c,(fJ scope.names [] n hcs (.inl hm) fun c z=>by cases z).trans e⟩
 ·intro j i hj;have hjl:j<ci.length:=(List.getElem?_eq_some_iff.mp hj).1;rw[List.all_eq_true]at h3;have q:=h3 j (List.mem_range.mpr hjl);rw[hj]at q;cases e:N[nl+j]? with
  | none=>rw[e]at q;cases q
  | some n =>
   rw[e]at q;simp only[Bool.and_eq_true,beq_iff_eq]at q;obtain⟨⟨q1,q2⟩,q3⟩:=q;refine⟨n,rfl,q1,.inl q2,.inl (gM hkf q3 q2),?_⟩;exact fJ scope.names [] n hcs (.inl (PySem.mem_of_lookup q3)) fun c z=>by cases z
structure Fc (P:Program)(w:World)(K:PySem.W.Frag)(mg:Str->Option Value)(base:Heap)(x:Str)(k:Nat)(ps:List Str)(sp:Sp):Prop where
 ex:∃f fd,mg x=some (.ref f)/\PySem.W.keepIn K (.ref f)=true/\Binds K fd ps []/\bX P w K mg base CX0 k f fd ps sp
theorem bZ {X:Cx}{x:Str}{k k':Nat}{ps:List Str}{sp:Sp}{e:Expr}{es:List Expr}{t:TA}{p pos:Pos} (F:Fc X.prog X.w X.K X.mg X.base x k ps sp) (hr:Room k' X.A) (ha:PA X (e::es) t) (hk:k<=k':=by decide) (hg:Gl X x:=by rfl)
  (hdb:(x==("__debug__" :Str))=false:=by decide)(he:starEach (e::es) X.env=(false,eval e X.env)::starEach es X.env:=by rfl)(hpl:(backTo pos (starEach es X.env)).any (·.1)=false:=by rfl) :
  PE X (.Call (.Name x p) (e::es) [] pos) (o6 sp [] E0 t):=by
 obtain⟨f,fd,hm,kp,b,G⟩:=F.ex;exact zU G (hr.mono hk) hg hm kp b .nil PD ha hdb he hpl
theorem oY {X:Cx}{x:Str}{n:String}{pos:Pos} (hg:Gl X x) (hm:X.mg x=none) (hv:bootBuiltins x=some (.type n)) (hn:x≠ "__name__" :=by decide) (hd:(x==("__debug__" :Str))=false:=by decide):PE X (.Name x pos) (tC (.ty n)):=JY hg hm hv rfl hn hd
theorem zY {X:Cx}{x:Str}{i:Int}{t:Tok}{pos:Pos} (hg:Gl X x) (hm:X.mg x=some (.int i t)) (hd:(x==("__debug__" :Str))=false:=by decide):PE X (.Name x pos) (tC (.int i)):=z8 hg hm ⟨t,rfl⟩ hd
theorem CT {X:Cx}{x:Str}{a:Addr}{pos:Pos} (hg:Gl X x) (hm:X.mg x=some (.ref a)) (hd:(x==("__debug__" :Str))=false:=by decide):PE X (.Name x pos) (tC (.ref a)):=z8 hg hm rfl hd
theorem cE:bootBuiltins "isinstance" =some (.builtin "isinstance"):=by decide +kernel
theorem EW:bootBuiltins "all" =some (.builtin "all"):=by decide +kernel
theorem lA:bootBuiltins "len" =some (.builtin "len"):=by decide +kernel
theorem LZ:bootBuiltins "int" =some (.type "int"):=by decide +kernel
theorem kW:bootBuiltins "str" =some (.type "str"):=by decide +kernel
theorem z9:bootBuiltins "list" =some (.type "list"):=by decide +kernel
theorem wF:bootBuiltins "tuple" =some (.type "tuple"):=by decide +kernel
inductive BTy (K:PySem.W.Frag)(H:Hp):V->String->Prop where
 | non:BTy K H .non "NoneType"
 | bl (x:Bool):BTy K H (.bl x) "bool"
 | int (i:Int):BTy K H (.int i) "int"
 | str (x:Str):BTy K H (.str x) "str"
 | lst {a:Addr}{xs:List V} (e:H a=some (.lst xs)):BTy K H (.ref a) "list"
 | tup {a:Addr}{xs:List V} (e:H a=some (.tup xs)):BTy K H (.ref a) "tuple"
 | dK {a:Addr}{kvs:List (Key×V)} (e:H a=some (.dK kvs)):BTy K H (.ref a) "dict"
theorem BTy.ty {K:PySem.W.Frag}{H:Hp}{x:V}{n:String} (b:BTy K H x n):fN K H x (.type n):=by
 cases b with
 | non=>exact .non
 | bl=>exact .bl _
 | int=>exact .int _
 | str=>exact .str _
 | lst e=>exact .lst e
 | tup e=>exact .tup e
 | dK e=>exact .dK e
def isB (n c:String):Bool:=n==c||(n== "bool" &&c== "int")
theorem BF {K:PySem.W.Frag}{H:Hp}{x:V}{n:String} (b:BTy K H x n) (c:String) (hc:c= "int" ∨c= "bool" ∨c= "str"):PySem.W.kitOne K (.type n) (.type c)=some (isB n c):=by
 cases b<;>rcases hc with rfl|rfl|rfl<;>kernel_rfl
end L2
namespace L2
open PySem PySem.Spec PyProof.Rows
section
variable {X:Cx}
theorem F9 {x:V}(h:qL x=true):eqV x x=true:=by
 cases x<;>first|rfl|(simp[eqV];done)|exact absurd h Bool.false_ne_true
theorem pW (n:Nat):(List.range n).all (fun _=>true)=true:=by simp
end
structure FunV (K:PySem.W.Frag)(x qual:Str)(st:Stmt)(f:Addr)(fd:FuncData):Prop where
 ex:∃(oc:Value) (od:Option Addr) (dV kV doc pm:Value) (an:Option Addr) (cdv ct:Value) (osl:Array (Option Value)),
  fd=PySem.W.fnOf x qual (aZ st) (aU st) (aD st) dV kV doc pm an cdv ct/\K.lookup f=some ⟨oc,od,.func fd,osl⟩/\PySem.W.codeIn K cdv qual=true
 kp:PySem.W.keepIn K (.ref f)=true
section
variable {P:Program}{w:World}{K:PySem.W.Frag}{mg:Str->Option Value}{base:Heap}
theorem FunV.ok {x qual:Str}{st:Stmt}{f:Addr}{fd:FuncData}{N ps:List Str}{k:Nat}{sp:Sp} (F:FunV K x qual st f fd) (S:bE N ps (aD st)) (len:∀vs H Q E,sp vs H Q E->vs.length=ps.length)
  (hbody:∀(cdv:Value) (A:Around) (outer:List Env) (s:Shared) (H:Hp) (vs:List V) (Q:VK) (E:XK),Room k (A.deeper (envOfC qual (aD st) s.heap.objs.size f cdv))->sp vs H Q E →
   ∃t,PSs (eR CX0 P w K mg base N qual (aD st) f cdv A outer s H E).nox (aU st) t/\t { nx:=fun _ H'=>Q .non H',rt:=Q } (fX N vs) H):bX P w K mg base CX0 (k+1) f fd ps sp:=by
 obtain⟨oc,od,dV,kV,doc,pm,an,cdv,ct,osl,rfl,lk,hcd⟩:=F.ex;refine JF lk hcd S len fun A outer s H vs Q E hr h=> ?_;obtain⟨t,h1,h2⟩:=hbody cdv A outer s H vs Q E hr h;exact⟨t,PSs.nox h1,h2⟩
theorem bN {x qual:Str}{st:Stmt}{f:Addr}{oc:Value}{od an:Option Addr}{osl:Array (Option Value)}{dV kV doc pm cdv ct:Value} (l:K.lookup f=some ⟨oc,od,.func (PySem.W.fnOf x qual (aZ st) (aU st) (aD st) dV kV doc pm an cdv ct),osl⟩) (c:PySem.W.codeIn K cdv qual=true)
  (k:PySem.W.keepIn K (.ref f)=true):FunV K x qual st f (PySem.W.fnOf x qual (aZ st) (aU st) (aD st) dV kV doc pm an cdv ct):=⟨⟨oc,od,dV,kV,doc,pm,an,cdv,ct,osl,rfl,l,c⟩,k⟩
end
section
variable {X:Cx}{k k':Nat}{sp:Sp}{x m:Str}{p pos apos:Pos}{e o:Expr}{es:List Expr}{ta:TE}{t:TA}{C:Addr}{dvs:List V}
end
end L2
namespace L2
open PySem PySem.Spec PyProof.Rows
def IS:R2:=fun x y H Q=>∃i j,x= .str i/\y= .str j/\i.length+j.length<=sizeLine/\Q (.str (i++j)) H
def QF:R2:=fun x y H Q=>∃i j,x= .str i/\y= .str j/\Q (.bl (!decide (j.cps.toList<i.cps.toList))) H
def rP (K:PySem.W.Frag):List V->Hp->VK->Prop:=fun xs H Q=>∃x c t u b,xs=[x,c]/\fN K H x t/\RelV c u/\PySem.W.kitOne K t u=some b/\Q (.bl b) H
def QM (K:PySem.W.Frag):List V->Hp->VK->Prop:=fun xs H Q=>∃(p:Addr) (bs:List Bool),xs=[.ref p]/\SqL K H p (bs.map V.bl)/\Q (.bl (bs.all id)) H
def IR:List V->Hp->VK->Prop:=fun xs H Q=>∃z,xs=[.str z]/\z.length<=sizeLine/\Q (.int z.length) H
def IY (K:PySem.W.Frag):List V->Hp->VK->Prop:=fun xs H Q=>∃p ys,xs=[.ref p]/\(SqL K H p ys∨SqT K H p ys)/\Q (.int ys.length) H
def OS:List V->Hp->VK->Prop:=fun xs H Q=>∃i,xs=[.int i]/\i.natAbs.log2<1920/\Q (.str (toString i)) H
def zC (K:PySem.W.Frag):List V->Hp->VK->Prop:=fun xs H Q=>∃p ys,xs=[.ref p]/\(SqL K H p ys∨SqT K H p ys)/\∀l,H l=none->Q (.ref l) (upd H l (.lst ys))
section
variable {X:Cx}
theorem aV:OpR X (binaryOp .Add) IS:=BT
theorem qH:OpR X (compareOp .LtE) QF:=EG
theorem jF:b9 X (.builtin "isinstance") (rP X.K):=x9
theorem vN (hc:X.calm=true):b9 X (.builtin "all") (QM X.K):=rY hc
theorem sQ:b9 X (.builtin "len") IR:=xK
theorem jT:b9 X (.builtin "len") (IY X.K):=u7
theorem CW:b9 X (.type "str") OS:=v5
theorem CJ:b9 X (.type "list") (zC X.K):=vY
theorem oV {i j:Int}(n:Int){k1 k2 p1 p2 pos}(h:i^j.toNat=n)(c:MH i j):PE X (.BinOp (.Constant (.int i) k1 p1) .Pow (.Constant (.int j) k2 p2) pos) (tC (.int n)):=by
 subst h;intro pins s σ H Q I q;exact aE NI aC aC pins s σ H Q I ⟨i,j,rfl,rfl,c,q⟩
end
def mM (P:Bool->Hp->Prop):VK:=fun x H=>∃k,x= .bl k/\P k H
def LY (O:Option Int->Hp->Prop):VK:=fun x H=>∃i,x= .int i/\O (some i) H
def MM (Q:VK):List V->Hp->Prop:=fun xs H=>xs.length<=sizeLine/\∀p,H p=none->Q (.ref p) (upd H p (.lst xs))
def NY (Q:VK):List V->Hp->Prop:=fun xs H=>xs.length<=sizeLine/\∀p,H p=none->Q (.ref p) (upd H p (.tup xs))
def M3 (Q:VK):List V->Hp->Prop:=fun ys H=>∀p,H p=none->Q (.ref p) (upd H p (.lst ys))
def BmP (K:PySem.W.Frag)(T:String)(r:V->List V->Hp->VK->Prop)(t:TA)(σ:St)(Q:VK):VK:=fun x H1=>tyV K T x H1/\t σ H1 fun xs H2=>r x xs H2 Q
def MR (K:PySem.W.Frag)(R:It->Hp->Prop):VK:=fun x H1=>∃a,x= .ref a/\(∃xs,SqL K H1 a xs)/\R (Itl K a) H1
def L5 (K:PySem.W.Frag)(R:It->Hp->Prop):VK:=fun x H1=>∃a,x= .ref a/\(∃xs,SqT K H1 a xs)/\R (Itt K a) H1
def MU (R:It->Hp->Prop):VK:=fun x H1=>∃z,x= .str z/\R (Its z) H1
def NA (R:It->Hp->Prop):List V->Hp->Prop:=fun vs H1=>∃j:Int,vs=[.int j]/\ -(2^62)<=j/\j<2^62/\R (Itr 0 j.toNat) H1
section
variable {nx bk ct:St->Hp->Prop}{rt:VK}{σ:St}{H:Hp}{Q:VK}{t u:TS}{te ta tb tc:TE}{g:TG}{c d:TT}{v:V}{K:PySem.W.Frag}{E:XK}
theorem C7 (h:t ⟨u ⟨nx,rt,bk,ct⟩,rt,bk,ct⟩ σ H):vH t u ⟨nx,rt,bk,ct⟩ σ H:=h
theorem sF (R:St->Hp->Prop)(h2:∀σ' H',R σ' H'->u ⟨nx,rt,bk,ct⟩ σ' H')(h1:∀nx':St->Hp->Prop,(∀σ' H',R σ' H'->nx' σ' H')->t ⟨nx',rt,bk,ct⟩ σ H):vH t u ⟨nx,rt,bk,ct⟩ σ H:=h1 _ h2
theorem F6 {v:TS}(h:vH (BY c t u) v ⟨nx,rt,bk,ct⟩ σ H):vH (BY c t u) v ⟨nx,rt,bk,ct⟩ σ H:=h
theorem JM (h:nx σ H):IF ⟨nx,rt,bk,ct⟩ σ H:=h
theorem MN (h:te σ H fun x H1=>g x σ H1 nx):G0 te g ⟨nx,rt,bk,ct⟩ σ H:=h
theorem NX (h:te σ H rt):NQ te ⟨nx,rt,bk,ct⟩ σ H:=h
theorem JZ (h:te σ H fun _ H1=>nx σ H1):IT te ⟨nx,rt,bk,ct⟩ σ H:=h
theorem OM (h:c σ H fun b H1=>if b=true then t ⟨nx,rt,bk,ct⟩ σ H1 else u ⟨nx,rt,bk,ct⟩ σ H1):BY c t u ⟨nx,rt,bk,ct⟩ σ H:=h
def FN (J:It)(g:TG)(tb:TS)(D:gE)(σ:St)(H:Hp):Prop :=
 ∃W:Nat->Nat->St->Hp->Prop,(∃m,W 0 m σ H)/\∀i m σ H,W i m σ H →
  (J.stop i H/\D.nx σ H)∨(J.go i H/\∃N:St->Hp->Prop,(∀σ' H',N σ' H'->∃m',m'<m/\W (i+1) m' σ' H')/\∀x H',J.yld i H x H'->g x σ H' fun σ2 H2=>tb { D with nx:=N,ct:=N,bk:=D.nx } σ2 H2)
theorem MS {wi:TI}{tb:TS} (h:wi σ H fun J H1=>FN J g tb ⟨nx,rt,bk,ct⟩ σ H1):OE wi g tb ⟨nx,rt,bk,ct⟩ σ H:=h
theorem OT {l:St}(h:Q v H):jG 0 (some v::l) H Q:=⟨v,rfl,h⟩
theorem O2 {a0}{l:St} (h:Q v H):jG 1 (a0::some v::l) H Q:=⟨v,rfl,h⟩
theorem ON {a0 a1}{l:St} (h:Q v H):jG 2 (a0::a1::some v::l) H Q:=⟨v,rfl,h⟩
theorem PB {a0 a1 a2}{l:St} (h:Q v H):jG 3 (a0::a1::a2::some v::l) H Q:=⟨v,rfl,h⟩
theorem P5 {a0 a1 a2 a3}{l:St} (h:Q v H):jG 4 (a0::a1::a2::a3::some v::l) H Q:=⟨v,rfl,h⟩
theorem P6 {a0 a1 a2 a3 a4}{l:St} (h:Q v H):jG 5 (a0::a1::a2::a3::a4::some v::l) H Q:=⟨v,rfl,h⟩
theorem PR {a0 a1 a2 a3 a4 a5}{l:St} (h:Q v H):jG 6 (a0::a1::a2::a3::a4::a5::some v::l) H Q:=⟨v,rfl,h⟩
variable {q:St->Hp->Prop}
theorem PX {a0 a}{l:St} (h:q (a0::some v::l) H):dH 1 v (a0::a::l) H q:=h
theorem P1 {a0 a1 a}{l:St} (h:q (a0::a1::some v::l) H):dH 2 v (a0::a1::a::l) H q:=h
theorem PU {a0 a1 a2 a}{l:St} (h:q (a0::a1::a2::some v::l) H):dH 3 v (a0::a1::a2::a::l) H q:=h
theorem OQ {a0 a1 a2 a3 a}{l:St} (h:q (a0::a1::a2::a3::some v::l) H):dH 4 v (a0::a1::a2::a3::a::l) H q:=h
theorem P0 {a0 a1 a2 a3 a4 a}{l:St} (h:q (a0::a1::a2::a3::a4::some v::l) H):dH 5 v (a0::a1::a2::a3::a4::a::l) H q:=h
theorem OR {a0 a1 a2 a3 a4 a5 a}{l:St} (h:q (a0::a1::a2::a3::a4::a5::some v::l) H):dH 6 v (a0::a1::a2::a3::a4::a5::a::l) H q:=h
theorem QB (h:Q v H):tC v σ H Q:=h
theorem PJ {r:R2}(h:ta σ H fun x H1=>tb σ H1 fun y H2=>r x y H2 Q):tOp r ta tb σ H Q:=h
theorem OK {f:Int->Int->V}{i j:Int} (h:Q (f i j) H):rI0 f (.int i) (.int j) H Q:=⟨i,j,rfl,rfl,h⟩
theorem N8 {f:Int->Int->V}{i j:Int} (h0:0<j) (h1:j<1073741824) (h:Q (f i j) H):rI M8 f (.int i) (.int j) H Q:=⟨i,j,rfl,rfl,⟨h0,h1⟩,h⟩
theorem NZ {f:Int->Int->V}{i j:Int} (h0:0<j) (h:Q (f i j) H):rI (fun _ j=>0<j) f (.int i) (.int j) H Q:=⟨i,j,rfl,rfl,h0,h⟩
theorem LA {f:Int->Int->V}{i j:Int} (h0: -18446744073709551616<i) (h1:i<18446744073709551616) (h:Q (f i j) H):rI CMul f (.int i) (.int j) H Q:=⟨i,j,rfl,rfl,.inl ⟨by lia,by lia⟩,h⟩
theorem LN {f:Int->Int->V}{i j:Int} (h0: -18446744073709551616<j) (h1:j<18446744073709551616) (h:Q (f i j) H):rI CMul f (.int i) (.int j) H Q:=⟨i,j,rfl,rfl,.inr ⟨by lia,by lia⟩,h⟩
theorem IQ {i j:Int}:decide (V.int i=V.int j)=decide (i=j):=by simp
theorem II {i j:Str}:decide (V.str i=V.str j)=decide (i=j):=by simp
theorem M6 {i j:Int}(h:Q (.bl (decide (i=j))) H):rEq (.int i) (.int j) H Q:=⟨rfl,by rw[IQ];exact h⟩
theorem MG {i j:Str}(h:Q (.bl (decide (i=j))) H):rEq (.str i) (.str j) H Q:=⟨rfl,by rw[II];exact h⟩
theorem L4 {i j:Int}(h:Q (.bl (!decide (i=j))) H):rNe (.int i) (.int j) H Q:=⟨rfl,by rw[IQ];exact h⟩
theorem MF {i j:Str}(h:Q (.bl (!decide (i=j))) H):rNe (.str i) (.str j) H Q:=⟨rfl,by rw[II];exact h⟩
theorem LK {i j:Str}(hl:i.length+j.length<=sizeLine)(h:Q (.str (i++j)) H):IS (.str i) (.str j) H Q:=⟨i,j,rfl,rfl,hl,h⟩
theorem KS (h:ta σ H (mM fun c H1=>if c=true then tb σ H1 Q else Q (.bl false) H1)):ID ta tb σ H Q:=h
theorem N4 (h:ta σ H (mM fun c H1=>if c=true then Q (.bl true) H1 else tb σ H1 Q)):NN ta tb σ H Q:=h
theorem J8 (h:ta σ H (mM fun c H1=>Q (.bl (!c)) H1)):IH ta σ H Q:=h
theorem ML (h:c σ H fun k H1=>if k=true then ta σ H1 Q else tb σ H1 Q):tIf c ta tb σ H Q:=h
theorem GJ {r r':R2}(h:ta σ H fun x H1=>tb σ H1 fun y H2=>r x y H2 (mM fun k H3=>if k=true then tc σ H3 fun w' H4=>r' y w' H4 Q else Q (.bl false) H3)):wB r r' ta tb tc σ H Q:=h
theorem KO {sp:Sp}{t:TA} (h:t σ H fun vs H1=>sp vs H1 Q E):o6 sp [] E t σ H Q:=by
 unfold o6;simp only[List.append_nil];exact h
theorem O6 {r:List V->Hp->VK->Prop}{t:TA} (h:t σ H fun vs H1=>r vs H1 Q):tCB r t σ H Q:=h
theorem NK {t:TA}(h:t σ H (MM Q)):FG t σ H Q:=h
theorem L3 {t:TA}(h:t σ H (NY Q)):N7 t σ H Q:=h
theorem d9 {o:HO}{R:V->Hp->Prop} (h:∀p H',H p=none->Same H H'->H' p=some o->R (.ref p) H'):∀p,H p=none->R (.ref p) (upd H p o) :=
 fun p hp=>h p _ hp (fun b u e=>by rw[aI (bB e hp)];exact e) bA
theorem LD {xs:List V}(hn:xs.length<=sizeLine)(h:∀p H',H p=none->Same H H'->H' p=some (.lst xs)->Q (.ref p) H'):MM Q xs H:=⟨hn,d9 h⟩
theorem JW {xs:List V}(hn:xs.length<=sizeLine)(h:∀p H',H p=none->Same H H'->H' p=some (.tup xs)->Q (.ref p) H'):NY Q xs H:=⟨hn,d9 h⟩
theorem K9 {xs:List V}(h:∀p H',H p=none->Same H H'->H' p=some (.lst xs)->Q (.ref p) H'):M3 Q xs H:=d9 h
theorem J9 {wi:TI}{nl:Nat}{ci:List Nat}{ti:TT} (h:wi σ H fun J H1=>eV J g ti te (bG nl ci σ) (M3 Q) H1):uH wi nl ci g ti te σ H Q:=h
theorem PC {r:V->Option Int->Option Int->Hp->VK->Prop}{tl th:TO} (h:te σ H fun x H1=>tl σ H1 fun l H2=>th σ H2 fun u H3=>r x l u H3 Q):tSl r te tl th σ H Q:=h
theorem EE {a:Addr}{xs:List V}{lo hi:Option Int} (e:SqL K H a xs) (h:∀p H',H p=none->Same H H'->H' p=some (.lst (iR xs lo hi))->Q (.ref p) H'):F8 K (.ref a) lo hi H Q:=⟨a,xs,rfl,e,d9 h⟩
theorem MA {p:Addr}{xs:List V}{i:Int} (e:SqL K H p xs) (l:atI xs i=some v) (h:Q v H):rX K (.ref p) (.int i) H Q:=⟨p,xs,i,v,rfl,rfl,e,l,h⟩
theorem KM {p:Addr}{a b i:Int} (e:SqL K H p [.int a,.int b]) (h0:0<=i) (h1:i<2) (h:∀v,(i=0/\v=a)∨(i=1/\v=b)->Q (.int v) H):rX K (.ref p) (.int i) H Q:=by
 have:i=0∨i=1:=by lia
 rcases this with rfl|rfl
 ·exact⟨p,_,0,_,rfl,rfl,e,rfl,h a (.inl ⟨rfl,rfl⟩)⟩
 ·exact⟨p,_,1,_,rfl,rfl,e,rfl,h b (.inr ⟨rfl,rfl⟩)⟩
theorem JV {p:Addr}{a b c i:Int} (e:SqL K H p [.int a,.int b,.int c]) (h0:0<=i) (h1:i<3) (h:∀v,(i=0/\v=a)∨(i=1/\v=b)∨(i=2/\v=c)->Q (.int v) H):rX K (.ref p) (.int i) H Q:=by
 have:i=0∨i=1∨i=2:=by lia
 rcases this with rfl|rfl|rfl
 ·exact⟨p,_,0,_,rfl,rfl,e,rfl,h a (.inl ⟨rfl,rfl⟩)⟩
 ·exact⟨p,_,1,_,rfl,rfl,e,rfl,h b (.inr (.inl ⟨rfl,rfl⟩))⟩
 ·exact⟨p,_,2,_,rfl,rfl,e,rfl,h c (.inr (.inr ⟨rfl,rfl⟩))⟩
def nV (ns:List Int)(lo hi:Option Int):List Int:=(ns.drop (HT.sIx ns.length 0 lo)).take (HT.sIx ns.length ns.length hi - HT.sIx ns.length 0 lo)
theorem EH (ns:List Int)(lo hi:Option Int):iR (ns.map V.int) lo hi=(nV ns lo hi).map V.int:=by
 unfold iR nV;rw[List.length_map,List.map_take,List.map_drop]
theorem L7 {a:Addr}{ns:List Int}{lo hi:Option Int} (e:SqL K H a (ns.map V.int)) (h:∀p H',H p=none->Same H H'->H' p=some (.lst ((nV ns lo hi).map V.int))->Q (.ref p) H'):F8 K (.ref a) lo hi H Q :=
 EE e (by rw[EH];exact h)
theorem i4 {l b:Addr}{xs zs:List V} (e:H l=some (.lst xs)) (e2:H b=some (.lst zs)) (hn:xs.length+zs.length<=sizeLine) (h:∀p H',H p=none->Same H H'->H' p=some (.lst (xs++zs))->Q (.ref p) H'):MZ (.ref l) (.ref b) H Q :=
 ⟨l,b,xs,zs,rfl,rfl,e,e2,hn,d9 h⟩
theorem O8 {T:String}{r:V->List V->Hp->VK->Prop}{to:TE}{t:TA} (h:to σ H (BmP K T r t σ Q)):tBM K T r to t σ H Q:=h
theorem NR {r:V->List V->Hp->VK->Prop}{t:TA}{z:Str} (h:t σ H fun xs H2=>r (.str z) xs H2 Q):BmP K "str" r t σ Q (.str z) H:=⟨rfl,h⟩
theorem M9 {r:V->List V->Hp->VK->Prop}{t:TA}{p:Addr}{xs:List V} (e:SqL K H p xs) (h:t σ H fun xs H2=>r (.ref p) xs H2 Q):BmP K "list" r t σ Q (.ref p) H:=⟨.inl ⟨rfl,xs,e⟩,h⟩
theorem fT {z:Str}{p:Addr}{ys:List Str} (e:SqL K H p (ys.map V.str)) (hn:(ys.map (·.length)).sum+ys.length * z.length<=16777216) (h:Q (.str (Txt.join z ys)) H):IV K (.str z) [.ref p] H Q:=⟨z,p,ys,rfl,rfl,e,hn,h⟩
theorem J5 {x:V}{n cn:String} (b:BTy K H x n) (hc:cn= "int" ∨cn= "bool" ∨cn= "str") (h:Q (.bl (isB n cn)) H):rP K [x,.ty cn] H Q:=⟨x,.ty cn,_,_,_,rfl,b.ty,rfl,BF b cn hc,h⟩
theorem HF {i:Str}(h:Q (.bl true) H):rP K [.str i,.ty "str"] H Q:=J5 (.str i) (.inr (.inr rfl)) h
theorem KN {z:Str}(hz:z.length<=sizeLine)(h:Q (.int z.length) H):IR [.str z] H Q:=⟨z,rfl,hz,h⟩
theorem KR {p:Addr}{ys:List V} (e:SqL K H p ys) (h:Q (.int ys.length) H):IY K [.ref p] H Q:=⟨p,ys,rfl,.inl e,h⟩
theorem D6 {p:Addr}{ys:List V} (e:SqL K H p ys) (h:∀l H',H l=none->Same H H'->H' l=some (.lst ys)->Q (.ref l) H'):zC K [.ref p] H Q:=⟨p,ys,rfl,.inl e,d9 h⟩
variable {B:Bool->Hp->Prop}
theorem K4 (h:te σ H (mM B)):A4 te σ H B:=h
theorem PZ (h:te σ H (mM B)):tB te σ H B:=h
theorem O5 (h:c σ H fun k H1=>if k=true then B true H1 else d σ H1 B):tOr c d σ H B:=h
theorem NT (h:c σ H fun k H1=>B (!k) H1):M5 c σ H B:=h
theorem NH {b:Bool}{P:Bool->Hp->Prop} (h:P b H):mM P (.bl b) H:=⟨b,rfl,h⟩
theorem DJ {A B:Prop}(h:A):if true=true then A else B:=by rw[if_pos rfl];exact h
theorem vA {A B:Prop}(h:B):if false=true then A else B:=by rw[if_neg Bool.false_ne_true];exact h
theorem LB {A B:Prop}(h:B):if (!true)=true then A else B:=vA h
theorem J3 {A B:Prop}(h:A):if (!false)=true then A else B:=DJ h
theorem KZ {p A B:Prop}[Decidable p](hp:p)(h:B):if (!decide p)=true then A else B:=by rw[decide_eq_true hp];exact vA h
theorem cX {p A B:Prop}[Decidable p](h1:p->A)(h2:¬p->B):if decide p=true then A else B:=rK (fun h=>h1 (of_decide_eq_true h)) fun h=>h2 fun z=>h (decide_eq_true z)
variable {L:List V->Hp->Prop}{O:Option Int->Hp->Prop}{tr:TA}
theorem OJ (h:L [] H):AX σ H L:=h
theorem JK (h:te σ H fun x H1=>tr σ H1 fun xs H2=>L (x::xs) H2):CA te tr σ H L:=h
theorem DI (h:O none H):zS σ H O:=h
theorem LE (h:te σ H (LY O)):IZ te σ H O:=h
theorem MO {i:Int}(h:O (some i) H):LY O (.int i) H:=⟨i,rfl,h⟩
variable {vs:List V}{gs:TGs}
theorem JT (h:q σ H):u8 [] σ H q:=⟨rfl,h⟩
theorem GX (h:g v σ H fun σ' H'=>gs vs σ' H' q):iW g gs (v::vs) σ H q:=⟨v,vs,rfl,h⟩
theorem JO {a:Addr}{n:Nat} (e:SqT K H a vs) (hl:vs.length=n) (h:gs vs σ H q):sG K n gs (.ref a) σ H q:=⟨a,vs,rfl,e,hl,h⟩
variable {R:It->Hp->Prop}
theorem GK (h:te σ H (MR K R)):JB K te σ H R:=h
theorem C4 {a:Addr}{xs:List V} (e:SqL K H a xs) (h:R (Itl K a) H):MR K R (.ref a) H:=⟨a,rfl,⟨xs,e⟩,h⟩
theorem JN (h:te σ H (L5 K R)):MQ K te σ H R:=h
theorem GF {a:Addr}{xs:List V} (e:SqT K H a xs) (h:R (Itt K a) H):L5 K R (.ref a) H:=⟨a,rfl,⟨xs,e⟩,h⟩
theorem G9 (h:tr σ H (NA R)):IC tr σ H R:=h
theorem EJ {j:Int}(h0: -4611686018427387904<=j)(h1:j<4611686018427387904)(h:R (Itr 0 j.toNat) H):NA R [.int j] H:=⟨j,rfl,by lia,by lia,h⟩
theorem J2 (h:te σ H (MU R)):LW te σ H R:=h
theorem G7 {z:Str}(h:R (Its z) H):MU R (.str z) H:=⟨z,rfl,h⟩
theorem AC {a:Addr}{tb:TS} (xs:List V) (Pv:Nat->St->Hp->Prop) (h0:Pv 0 σ H) (hl:∀i σ H,i<=xs.length->Pv i σ H->SqL K H a xs)
  (hs:∀i x σ H,xs[i]? =some x->Pv i σ H->g x σ H fun σ2 H2=>tb ⟨Pv (i+1),rt,nx,Pv (i+1)⟩ σ2 H2)(hd:∀σ H,Pv xs.length σ H->nx σ H):FN (Itl K a) g tb ⟨nx,rt,bk,ct⟩ σ H :=
 F7 (D:=⟨nx,rt,bk,ct⟩) Pv h0 hl hs hd
theorem LL {lo:Int}{n:Nat}{tb:TS} (Pv:Nat->St->Hp->Prop) (h0:Pv 0 σ H)
  (hs:∀i σ H,i<n->Pv i σ H->g (.int (lo+i)) σ H fun σ2 H2=>tb ⟨Pv (i+1),rt,nx,Pv (i+1)⟩ σ2 H2)(hd:∀σ H,Pv n σ H->nx σ H):FN (Itr lo n) g tb ⟨nx,rt,bk,ct⟩ σ H :=
 D0 (D:=⟨nx,rt,bk,ct⟩) Pv h0 hs hd
end
section
variable {K:PySem.W.Frag}{te:TE}{σ:St}{ci:List Nat}{rest:St}{fin:List V->Hp->Prop}{H:Hp}{a:Addr}
theorem ES (hr:ci.map (fun i=>(σ[i]?).join)=rest):bG 1 ci σ=none::rest:=by
 unfold bG;rw[hr];rfl
end
section
variable {K:PySem.W.Frag}{te:TE}{σ:St}{ci:List Nat}{rest:St}{fin:List V->Hp->Prop}{H:Hp}{a:Addr}
end
theorem Same.at {H H':Hp}{b:Addr}{o:HO} (s:Same H H') (h:H b=some o):H' b=some o:=s b o h
def SameBut (p:Addr)(H H':Hp):Prop:=∀b o,H b=some o->b≠p->H' b=some o
theorem SameBut.upd {p:Addr}{H:Hp}{o:HO}:SameBut p H (upd H p o):=fun b u e hb=>by rw[aI hb];exact e
theorem SameBut.same {p:Addr}{H H0 H':Hp} (n:H0 p=none) (s:Same H0 H) (b:SameBut p H H'):Same H0 H':=fun c o e=>b c o (s c o e) (bB e n)
theorem bH {t:TS}{D:gE}{N:List Str}{vs:List V}{σ:St}{H:Hp} (e:fX N vs=σ) (h:t D σ H):t D (fX N vs) H:=e▸h
theorem SameBut.refl {p:Addr}{H:Hp}:SameBut p H H:=fun _ _ e _=>e
theorem SameBut.snoc {p:Addr}{H H1 H2:Hp} (b:∀c o,H1 c=some o->c≠p->H2 c=some o) (a:SameBut p H H1):SameBut p H H2:=fun c o h hc=>b c o (a c o h hc) hc
theorem SameBut.snocS {p:Addr}{H H1 H2:Hp} (b:Same H1 H2) (a:SameBut p H H1):SameBut p H H2:=fun c o h hc=>b c o (a c o h hc)
theorem Same.snoc {H H1 H2:Hp}(b:Same H1 H2)(a:Same H H1):Same H H2:=a.trans b
section
variable {K:PySem.W.Frag}{x qual:Str}{st:Stmt}{kV doc pm cdv ct:Value}{an:Option Addr}{ps:List Str}
theorem bM (h:∀us:List Value,us.length=ps.length->bindArgs (PySem.W.fnOf x qual (aZ st) (aU st) (aD st) .none kV doc pm an cdv ct) ⟨us,[]⟩=pure (ps.zip us)) :
  Binds K (PySem.W.fnOf x qual (aZ st) (aU st) (aD st) .none kV doc pm an cdv ct) ps []:= .all h
theorem GN {C:Addr}:PySem.W.kitOne K (.ref C) (.ref C)=some true:=by
 unfold PySem.W.kitOne;rw[if_pos (beq_self_eq_true _)]
theorem OB {C D:Addr}{cd:ClassData}{b:Bool} (ne:(Value.ref C==Value.ref D)=false) (c:PySem.W.clsIn K D=some cd) (t:PySem.W.typeIn K (.ref D)=some (.type "type")) (s:PySem.W.subIn K (.ref C) (.ref D)=some b) :
  PySem.W.kitOne K (.ref C) (.ref D)=some b:=by
 unfold PySem.W.kitOne;rw[ne,if_neg Bool.false_ne_true];show (if ((PySem.W.clsIn K D).isSome&&PySem.W.typeIn K (.ref D)==some (.type "type"))=true then PySem.W.subIn K (.ref C) (.ref D) else none)=_;rw[c,t,if_pos (by rfl)];exact s
end
theorem aR (s:String):(Str.ofString s).length=s.length:=by
 rw[Str.ofString_eq_toList];show (s.toList.map Char.toNat).toArray.size=_;rw[List.size_toArray,List.length_map,String.length_toList]
def sgB (c:Nat):Bool:=decide (97<=c)&&decide (c<=122)
def gZ (z:Str):Bool:=z.cps.toList.all sgB
def bL (z:Str):Bool:=decide (1<=(z.length:Int))&&decide ((z.length:Int)<=8)&&gZ z
theorem nN {z:Str}(h:bL z=true):z.length<=8:=by
 unfold bL at h;simp only[Bool.and_eq_true,decide_eq_true_eq]at h
 lia
theorem vR {z:Str}(h0:1<=z.length)(h1:z.length<=8)(h2:gZ z=true):bL z=true:=by
 unfold bL;simp only[Bool.and_eq_true,decide_eq_true_eq];exact⟨⟨by lia,by lia⟩,h2⟩
theorem FL {c:Nat}{z:Str} (h:gZ z=true) (hc:c∈z.cps.toList):gZ ⟨#[c]⟩=true:=by
 unfold gZ at h ⊢;rw[List.all_eq_true]at h;show [c].all sgB=true;rw[List.all_cons,h c hc];rfl
theorem x0 (x y:Str):(x++y).cps.toList=x.cps.toList++y.cps.toList:=by
 show (x.cps++y.cps).toList=_;simp
theorem b5 (x y:Str):(x++y).length=x.length+y.length:=by
 show (x.cps++y.cps).size=_;rw[Array.size_append];rfl
theorem rE (c:Nat):(⟨#[c]⟩:Str).length=1:=rfl
theorem uS {x y:Str}(h:gZ x=true)(h':gZ y=true):gZ (x++y)=true:=by
 unfold gZ at h h' ⊢;rw[x0,List.all_append,h,h'];rfl
theorem JQ {x y:Str}(h:x.cps.toList=y.cps.toList):x=y:=by
 cases x;cases y;have:_=_:=Array.ext' h;cases this;rfl
end L2
namespace L2
open PySem PySem.Spec PyProof.Rows
section
variable {prog:Program}{w:World}{A:Around}{E:Value->Shared->Prop}{s:Shared}
end
section
variable {X:Cx}{pos:Pos}
end
section
variable {nx bk ct:St->Hp->Prop}{rt:VK}{σ:St}{H:Hp}{g:TG}{K:PySem.W.Frag}{a:Addr}{tb:TS}{xs:List V}
end
theorem J4 {H:Hp}{Q:VK}{i j:Int} (h0:0<j) (h:0<=i%j->i%j<j->Q (.int (i%j)) H):rI (fun _ j=>0<j) (fun i j=> .int (i%j)) (.int i) (.int j) H Q:=⟨i,j,rfl,rfl,h0,h (Int.emod_nonneg _ (by lia)) (Int.emod_lt_of_pos _ h0)⟩
end L2
namespace L2
open PySem PySem.Spec PyProof.Rows PySem.W
structure iQ (K:Frag)(C:Addr):Prop where
 ga:findIn K (.ref C) "__getattribute__" =some (some (.builtin "BaseException.__getattribute__"))
 gg:findIn K (.ref C) "__getattr__" =some none
 cl:findIn K (.ref C) "__class__" =some (some (.builtin "object.__class__"))
 so:subIn K (.ref C) (.type "object")=some true
 sb:subIn K (.ref C) (.type "BaseException")=some true
 cd:∃cd,clsIn K C=some cd
section
variable {prog:Program}{w:World}{A:Around}{E:Value->Shared->Prop}{h:Heap}{g:Array GenState}{d:Drawn}{t:Nat}{os:OsState}{a C:Addr}{o:Obj}{vs:Array Value}{K:Frag}
theorem jD {M:Model}(hx:h.get? a=some o)(hc:o.cls= .ref C)(hd:o.data= .fields vs):Looks M h (typeOf (.ref a)) (.ref C):=by
 have L:Looks M h (typeOf (.ref a)) o.cls:=by
  refine(Looks.ld hx).andThen ?_;exact .now
 rw[hc]at L;exact L
theorem t7 {R:Result->Shared->Prop}(X:K.In h)(k:iQ K C)(hx:h.get? a=some o)(hc:o.cls= .ref C)(hd:o.data= .fields vs)(hq:R (.ok (.ret (.ref C))) ⟨h,g,d,t,os⟩) :
  codeAny (model prog w) A (.call (.builtin "getset_descriptor.__get__") ⟨[.builtin "object.__class__",.ref a,.ref C],[]⟩) R ⟨h,g,d,t,os⟩:=by
 have hT5:(⟨h,g,d,t,os⟩:Shared).TypeIs (.builtin "object.__class__") "getset_descriptor" :=F.typeOf_object_class;have L0:=jD (M:=model prog w) hx hc hd;have L1:Looks (model prog w) h (isSubtype (.ref C) (.type (".".intercalate ("object.__class__".cutAt '.').dropLast))) true:=by rw[F.owner_object_class];exact looks_subIn X k.so
 refine codeAny_call_builtin F.slot_gs_get.plain F.entry_gs_get (F.slot_gs_get.check _ _ _ _ _ _ _ _ hT5 (F.args_gs_get _ _ _) ?_)
 repeat (any_goals (first|assumption|(with_reducible refine L0.at ?_)|(with_reducible refine L1.at ?_)|wp_step))
 refine⟨Code.quiet_builtin _ (by decide +kernel),codeAny_builtin F.entry_object_class ?_⟩
 repeat (any_goals (first|assumption|(with_reducible refine L0.at ?_)|wp_step))
theorem qG {tk:Tok}{Q:Fin->Shared->Prop} (X:K.In h) (k:iQ K C) (hx:h.get? a=some o) (hc:o.cls= .ref C) (hd:o.data= .fields vs) (hq:Q (.done (.ret (.ref C))) ⟨h,g,d,t,os⟩) :
  wpAny (model prog w) A (Builtin.«object.__getattribute__» ⟨[.ref a,.str "__class__" tk],[]⟩) Q E ⟨h,g,d,t,os⟩:=by
 have hT5:(⟨h,g,d,t,os⟩:Shared).TypeIs (.builtin "object.__class__") "getset_descriptor" :=F.typeOf_object_class;have L0:=jD (M:=model prog w) hx hc hd;have L1:=looks_findIn (M:=model prog w) X k.cl;have f5:=F.typeOf_object_class;have f6:=F.slot_gs_get.lookup;have f7:=F.slot_gs_set.lookup
 repeat (any_goals (first|assumption|(with_reducible refine L0.at ?_)|(with_reducible refine L1.at ?_)|wp_step))
 refine t7 X k hx hc hd ?_
 repeat (any_goals (first|assumption|wp_step))
theorem v6 {M:Model}{nameV:Value}{Q:Unit->Shared->Prop} (X:K.In h) (k:iQ K C) (hx:h.get? a=some o) (hc:o.cls= .ref C) (hd:o.data= .fields vs) (hq:Q () ⟨h,g,d,t,os⟩) :
  wpAny M A (checkBuiltinCall "BaseException.__getattribute__" ⟨[.ref a,nameV],[]⟩) Q E ⟨h,g,d,t,os⟩:=by
 have hk:builtinKind "BaseException.__getattribute__" =some .slot:=by decide +kernel
 have hsplit:splitId "BaseException.__getattribute__" =some ("BaseException","__getattribute__"):=by decide +kernel
 have ha:=F.args_bexc_ga (.ref a) nameV;have L0:=jD (M:=M) hx hc hd;have L1:=looks_subIn (M:=M) X k.sb;simp only[checkBuiltinCall,hk,hsplit];refine wpAny_bind ?_
 ·unfold isInstance
  repeat (first|(with_reducible refine L0.at ?_)|(with_reducible refine L1.at ?_)|wp_step)
  exact hq
theorem rF {tk:Tok}{R:Result->Shared->Prop} (X:K.In h) (k:iQ K C) (hx:h.get? a=some o) (hc:o.cls= .ref C) (hd:o.data= .fields vs) (hq:R (.ok (.ret (.ref C))) ⟨h,g,d,t,os⟩) :
  codeAny (model prog w) A (.call (.builtin "BaseException.__getattribute__") ⟨[.ref a,.str "__class__" tk],[]⟩) R ⟨h,g,d,t,os⟩ :=
 codeAny_call_builtin F.excAttr_ValueError.ga.plain F.entry_bexc_ga (v6 X k hx hc hd (qG X k hx hc hd hq))
theorem wO {tk:Tok}{fill expr:Bool}{Q:Value->Shared->Prop} (X:K.In h) (k:iQ K C) (hx:h.get? a=some o) (hc:o.cls= .ref C) (hd:o.data= .fields vs) (hq:Q (.ref C) ⟨h,g,d,t,os⟩) :
  wpAny (model prog w) A (getAttrBy (.ref a) (.str "__class__" tk) fill expr) Q E ⟨h,g,d,t,os⟩:=by
 have L0:=jD (M:=model prog w) hx hc hd;have L1:=looks_findIn (M:=model prog w) X k.ga;have L2:=looks_findIn (M:=model prog w) X k.gg;have f3:=F.excAttr_ValueError.ga.bind (.ref a);have hx0:(expr&&onTheHeap (Value.builtin "BaseException.__getattribute__"))=false:=by cases expr<;>rfl
 have hx2:(Value.builtin "BaseException.__getattribute__" ==Value.builtin "object.__getattribute__")=false:=by decide +kernel
 have hx1:(onTheHeap (Value.ref C)&&Value.builtin "BaseException.__getattribute__" ==Value.builtin "object.__getattribute__")=false:=by rw[hx2];rfl
 repeat (any_goals (first|assumption|(with_reducible refine L0.at ?_)|(with_reducible refine L1.at ?_)|(with_reducible refine L2.at ?_)|wp_step))
 refine rF X k hx hc hd ?_
 repeat (any_goals (first|assumption|wp_step))
theorem rS {Q:Option Value->Shared->Prop}(X:K.In h)(k:iQ K C)(hx:h.get? a=some o)(hc:o.cls= .ref C)(hd:o.data= .fields vs)(hq:Q (some (.ref C)) ⟨h,g,d,t+1,os⟩) :
  wpAny (model prog w) A (getAttr? (.ref a) "__class__") Q E ⟨h,g,d,t,os⟩:=by
 unfold getAttr? getAttrBy?
 repeat (any_goals (first|assumption|with_reducible apply wO X k hx hc hd|wp_step))
end
def fV (a C:Addr)(h:Heap):Prop:=∃o vs,h.get? a=some o/\o.cls= .ref C/\o.data= .fields vs
theorem v8 {K:Frag}{a C:Addr} (k:iQ K C):KitX K (.ref a) (.ref C) (fV a C) where
 ty:=fun M h X ⟨o,vs,hx,hc,hd⟩=>jD hx hc hd
 it:=fun _ _ X _=>by
  obtain⟨cd,hcD⟩:=k.cd;unfold clsIn at hcD
  split at hcD
  ·rename_i c' d' cd' sl' ho;intro A' Q' E' s' k q;unfold isType loadHead;exact wpAny_bind (wpAny_loadPart (k _ _ (X _ _ ho)) (wpAny_pure q))
  ·cases hcD
 ne:=fun h tp dd its n sl X htp=>by
  obtain⟨cd,hcD⟩:=k.cd;refine Bool.eq_false_iff.mpr fun q=> ?_;have e:C=tp:=Value.ref.inj (beq_iff_eq.mp q);subst e;unfold clsIn at hcD
  split at hcD
  ·rename_i c' d' cd' sl' ho;have z:=(X _ _ ho).symm.trans htp;cases z
  ·cases hcD
 ca:=fun {_ _ _ _ _ s} X ⟨o,vs,hx,hc,hd⟩ q=>by
  obtain⟨h,g,d,t,os⟩:=s;exact rS X k hx hc hd q
end L2
namespace L2
open PySem PySem.Spec PyProof.Rows PySem.W
def BE (h base:Heap)(ea:Addr)(cls:Value)(dd:Option Addr)(a0:Value):Prop :=
 ∃ob fv tb tbo tv,h.get? ea=some ob/\ob.cls=cls/\ob.dict=dd/\fv[0]? =some a0/\ob.data= .fields fv/\fv[1]? =some (.ref tb)/\base.get? tb=none/\tb≠ea/\h.get? tb=some tbo/\tbo.data= .fields tv/\tv[3]? =some .none
def AW (base:Heap)(l:List Env)(ea:Addr)(cls:Value)(dd:Option Addr)(a0:Value)(h h':Heap):Prop :=
 base.StaysIn h'/\h'.FunFrames base l/\BE h' base ea cls dd a0/\h.UpToSlots h'
theorem tQ (ob:Obj)(g):(ob.mapFields g).dict=ob.dict:=by
 obtain⟨c,d,dt,sl⟩:=ob;cases dt<;>rfl
section
variable {M:Model}{A:Around}{E:Value->Shared->Prop}{s:Shared}{base:Heap}{env:Env}{outer:List Env}{L ea:Addr}{Q:Unit->Shared->Prop}
theorem qO {ob:Obj}{fv:Array Value}{hd0 a0:Value}{nx:Bool} (hfr:A.frames=some (env::outer)) (ff:s.heap.FunFrames base (env::outer)) (hL:env.frame=some L) (go:s.heap.get? ea=some ob) (st:base.StaysIn s.heap)
  (nb:base.get? ea=none)(hdt:ob.data= .fields fv)(hz:1<fv.size)(h0:fv[0]? =some a0)(k:∀h',AW base (env::outer) ea ob.cls ob.dict a0 s.heap h'->Q () { s with heap:=h' }) :
  wpAny M A (do let a ←frameOf env;let pl ←entryPlaceOf L nx;let b ←EntryCells.newEntry hd0 a .none (rawInt L) .none pl;setField (.ref ea) 1 b) (fun _ s'=>wpAny M A (setFlight (.ref ea) none) Q E s') E s:=by
 have nin:ea∉(env::outer).filterMap (·.frame):=fun hm=>by
  obtain⟨_,o,ho,hnf⟩:=ff.mem hm;rw[go]at ho;cases ho;exact hnf fv hdt
 refine wpAny_bind (wpAny_frameOf_fun hfr ff hL fun hA sA=>wpAny_bind (wpAny_entryPlaceOf fun pl hpl=> ?_));unfold EntryCells.newEntry newFields;refine wpAny_bind (wpAny_newObj_type ?_ (hpl.sizeOk5 _ _ _ _ _));have gA:hA.get? ea=some ob:=(sA.2.1 ea nin).trans go;have stA:base.StaysIn hA:=fun b o q=>(sA.2.1 b fun hm=>by rw[(ff.mem hm).1]at q;cases q).trans (st b o q);generalize hN:({ cls:= .type "traceback",dict:=none,data:= .fields ([hd0,.ref L,.none,rawInt L,.none]++(if pl.isEmpty then List.replicate 6 Value.none else pl)).toArray }:Obj)=nob;have hNd:∃tv,nob.data= .fields tv/\3<tv.size:=by
  rw[←hN];exact⟨_,rfl,by simp only[List.size_toArray,List.length_append,List.length_cons,List.length_nil];lia⟩
 obtain⟨tv,hNd,hNs⟩:=hNd;have gB:(hA.push nob).get? ea=some ob:=Heap.get?_push_of_some nob gA;refine wpAny_setField gB hdt hz ?_;have tne:hA.objs.size≠ea:=Nat.ne_of_gt (Heap.lt_size gA);have dC:=Obj.data_mapFields hdt (·.setIfInBounds 1 (Value.ref hA.objs.size));have gC:=Heap.get?_update_self (Obj.mapFields (·.setIfInBounds 1 (Value.ref hA.objs.size))) gB (Obj.isFreed_of_fields dC);have tC:((hA.push nob).update ea (Obj.mapFields (·.setIfInBounds 1 (Value.ref hA.objs.size)))).get? hA.objs.size=some nob:=(Heap.get?_update_other _ _ (Ne.symm tne)).trans (Heap.get?_push_size hA (Obj.isFreed_of_fields hNd));unfold setFlight;refine wpAny_bind (wpAny_field gC dC (x:= .ref hA.objs.size) (by simp[hz]) ?_);rw[if_pos (show (Value.ref hA.objs.size !=Value.none)=true from by simp)];refine wpAny_setField tC hNd hNs (k _ ?_);generalize hF:((hA.push nob).update ea (Obj.mapFields (·.setIfInBounds 1 (Value.ref hA.objs.size)))).update hA.objs.size _=hX;have keepF:∀b o,b≠ea->hA.get? b=some o->hX.get? b=some o:=fun b o hb q=>by
  rw[←hF,Heap.get?_update_other _ _ (Nat.ne_of_gt (Heap.lt_size q)),Heap.get?_update_other _ _ (Ne.symm hb)];exact Heap.get?_push_of_some _ q
 have norec:∀b o,s.heap.get? b=some o->(∀vs,o.data≠ .fields vs)->b≠ea:=fun b o q hnf z=>by
  rw[z,go]at q;cases q;exact hnf fv hdt
 refine⟨fun b o q=>keepF b o (fun z=>by rw[z,nb]at q;cases q) (stA b o q),ff.of_keeps fun b o q hnf=> ?_,?_,fun b o q hnf=> ?_⟩
 ·obtain⟨sl,hs⟩:=sA.2.2 b o q;exact⟨_,keepF b _ (norec b o q hnf) hs,rfl⟩
 ·refine⟨_,_,hA.objs.size,_,_,by rw[←hF,Heap.get?_update_other _ _ tne];exact gC,Obj.cls_mapFields _ _,tQ _ _,by rw[Array.getElem?_setIfInBounds_ne (by decide)];exact h0,dC,by simp[hz],stA.fresh,tne,
   by rw[←hF];exact Heap.get?_update_self _ tC (Obj.isFreed_of_fields (Obj.data_mapFields hNd _)),Obj.data_mapFields hNd _,?_⟩
  simp[hNs]
 ·obtain⟨sl,hs⟩:=sA.2.2 b o q;exact⟨sl,keepF b _ (norec b o q hnf) hs⟩
theorem vW {ob:Obj}{fv:Array Value}{a0:Value} (hfr:A.frames=some (env::outer)) (ff:s.heap.FunFrames base (env::outer)) (hL:env.frame=some L) (go:s.heap.get? ea=some ob) (st:base.StaysIn s.heap) (nb:base.get? ea=none)
  (hdt:ob.data= .fields fv)(h1:fv[1]? =some .none)(h0:fv[0]? =some a0)(k:∀h',AW base (env::outer) ea ob.cls ob.dict a0 s.heap h'->Q () { s with heap:=h' }):wpAny M A (leaving env (.ref ea)) Q E s:=by
 unfold leaving noteFrame;simp only[hL];refine wpAny_bind (wpAny_bind (wpAny_field go hdt h1 ?_));rw[if_neg (by decide)];exact qO hfr ff hL go st nb hdt (Array.getElem?_eq_some_iff.mp h1).1 h0 k
theorem yB {cls a0:Value}{dd:Option Addr} (hfr:A.frames=some (env::outer)) (ff:s.heap.FunFrames base (env::outer)) (hL:env.frame=some L) (tr:BE s.heap base ea cls dd a0) (st:base.StaysIn s.heap) (nb:base.get? ea=none)
  (k:∀h',AW base (env::outer) ea cls dd a0 s.heap h'->Q () { s with heap:=h' }):wpAny M A (leaving env (.ref ea)) Q E s:=by
 obtain⟨ob,fv,tb,tbo,tv,go,ec,ed,h0,hdt,h1,nT,tne,gT,dT,h3⟩:=tr;subst ec ed;unfold leaving noteFrame;simp only[hL];refine wpAny_bind (wpAny_bind (wpAny_field go hdt h1 ?_));rw[if_pos (show (Value.ref tb !=Value.none)=true from by simp)];refine wpAny_bind (wpAny_field gT dT h3 ?_);rw[if_neg (show ¬((Value.none==rawInt L)=true) from by simp[rawInt])];refine wpAny_bind (wpAny_setField gT dT (Array.getElem?_eq_some_iff.mp h3).1 ?_);have oth:∀b,b≠tb->(s.heap.update tb (Obj.mapFields (·.setIfInBounds 3 Value.none))).get? b=s.heap.get? b:=fun b hb=>Heap.get?_update_other _ _ (Ne.symm hb);have norec:∀b o,s.heap.get? b=some o->(∀vs,o.data≠ .fields vs)->b≠tb:=fun b o q hnf z=>by
  rw[z,gT]at q;cases q;exact hnf tv dT
 refine qO hfr (ff.of_keeps fun b o q hnf=>⟨o,(oth b (norec b o q hnf)).trans q,rfl⟩) hL ((oth ea (Ne.symm tne)).trans go) (fun b o q=>(oth b fun z=>by rw[z,nT]at q;cases q).trans (st b o q)) nb hdt (Array.getElem?_eq_some_iff.mp h1).1 h0 fun h' ⟨x1,x2,x3,x4⟩=> ?_;exact k h' ⟨x1,x2,x3,fun b o q hnf=>x4 b o ((oth b (norec b o q hnf)).trans q) hnf⟩
def FlyD (base:Heap)(l:List Env)(ea:Addr)(cls:Value)(dd:Option Addr)(a0:Value)(h:Heap):Prop:=base.StaysIn h/\base.get? ea=none/\h.FunFrames base l/\BE h base ea cls dd a0
theorem FlyD.there {l:List Env}{cls a0:Value}{dd:Option Addr}{h:Heap} (x:FlyD base l ea cls dd a0 h):∃ob fv,h.get? ea=some ob/\ob.cls=cls/\ob.dict=dd/\ob.data= .fields fv:=by
 obtain⟨_,_,_,ob,fv,_,_,_,go,ec,ed,_,hdt,_⟩:=x;exact⟨ob,fv,go,ec,ed,hdt⟩
theorem BW {cls a0:Value}{dd:Option Addr} (hfr:A.frames=some (env::outer)) (hL:env.frame=some L) (fl:FlyD base (env::outer) ea cls dd a0 s.heap) (k:∀h',FlyD base outer ea cls dd a0 h'->s.heap.UpToSlots h'->Q () { s with heap:=h' }) :
  wpAny M A (leaving env (.ref ea)) Q E s:=by
 obtain⟨f1,f2,f3,f4⟩:=fl;refine yB hfr f3 hL f4 f1 f2 fun h' hl=> ?_;obtain⟨k1,⟨_,_,k2⟩,k3,k4⟩:=hl;exact k h' ⟨k1,f2,k2,k3⟩ k4
theorem vL {h:Heap}{cls:Value}{args:List Value} (hfr:A.frames=some (env::outer)) (hL:env.frame=some L) (st:base.StaysIn h) (ff:h.FunFrames base (env::outer)) (m:Heap.MadeExcOf h s.heap ea cls args)
  (k:∀h' t,FlyD base outer ea cls none (.ref t) h'->s.heap.UpToSlots h'->Q () { s with heap:=h' }):wpAny M A (leaving env (.ref ea)) Q E s:=by
 obtain⟨t,go,_,_⟩:=m.there;have nb:base.get? ea=none:=by
  cases q:base.get? ea with
  | none=>rfl
  | some o =>
   have z:=st ea o q;rw[m.new]at z;cases z
 refine vW (a0:= .ref t) hfr (ff.of_keeps fun b o q _=>⟨o,m.keeps b o q,rfl⟩) hL go (fun b o q=>m.keeps b o (st b o q)) nb rfl rfl rfl fun h' hl=> ?_;obtain⟨k1,⟨_,_,k2⟩,k3,k4⟩:=hl;exact k h' t ⟨k1,nb,k2,k3⟩ k4
end
end L2
namespace L2
open PySem PySem.Spec PyProof.Rows PySem.W
section
variable {P:Program}{w:World}{H H':Hp}{h h':Heap}{a:Addr}{o:HO}
theorem ObjOk.there (x:ObjOk P w H h a o):∃ob,h.get? a=some ob:=by
 cases o with
 | lst xs=>obtain⟨_,_,_,_,e⟩:=x;exact⟨_,e⟩
 | tup xs=>obtain⟨_,_,_,ob,e,_⟩:=x;exact⟨_,e⟩
 | dK kvs=>obtain⟨_,_,_,_,o,_,_,e,_⟩:=x;exact⟨_,e⟩
 | dT kvs=>obtain⟨_,_,_,_,o,_,_,e,_⟩:=x;exact⟨_,e⟩
 | set S n=>obtain⟨o,_,_,_,e,_⟩:=x;exact⟨_,e⟩
 | ins C dx fs=>obtain⟨_,_,_,e,_⟩:=x;exact⟨_,e⟩
 | own y=>exact x
 | xd fs=>obtain⟨_,⟨_,_,_,e,_⟩,_⟩:=x;exact⟨_,e⟩
 | rng lo hi=>obtain⟨_,_,_,e⟩:=x;exact⟨_,e⟩
 | frz ob u=>obtain⟨e,_⟩:=x;exact⟨_,e⟩
 | tbl ps=>exact⟨_,(show h.get? a=some _ from x)⟩
 | met f y=>exact⟨_,(show h.get? a=some _ from x)⟩
 | ext φ=>obtain⟨_,e,_⟩:=x;exact e
end
def CXE (P:Program)(w:World):CXT:=fun outer H s E e s' =>
 ∃ea cls dd a0 H' B,e= .ref ea/\s'.os=s.os/\AllBare s'.gens/\Un (frs outer) [] H H' s.heap s'.heap/\HOk P w H' s'.heap/\H' ea=none/\s.heap.get? ea=none ∧
  FlyD B outer ea cls dd a0 s'.heap/\(∀b,(H' b≠none∨∃o,s.heap.get? b=some o)->b∉frs outer->∃o,B.get? b=some o)/\E cls dd H'
section
variable {X:Cx}{pins:List (Addr×Obj)}{σ:St}{H H1:Hp}{s s1:Shared}{h2 B:Heap}
theorem JA (I:Inv X pins σ H s)(hex:X.ex=[])(st:B.StaysIn h2)(sb:B.StaysIn s.heap)(up:s.heap.UpToSlots h2)(cov:∀b,(H b≠none∨∃o,X.s₀.heap.get? b=some o)->b∉frs X.stack->∃o,B.get? b=some o)(hst:X.stack=X.env::X.outer)(hf:X.env.frame=some X.env.locals) :
  Un X.fs [] X.H₀ H X.s₀.heap h2/\HOk X.prog X.w H h2:=by
 have hfr:∀b,b∈frs X.stack->b=X.env.locals∨b∈X.fs:=fun b hb=>List.mem_cons.mp (I.stkSub b hb);have nloc:∀b o,X.s₀.heap.get? b=some o->b≠X.env.locals:=fun b o q z=>by
  have e1:=Nat.lt_of_lt_of_le (Heap.lt_size q) I.ok.above;rw[z]at e1;exact Nat.lt_irrefl _ e1
 have same:∀b o,(H b≠none∨∃o,X.s₀.heap.get? b=some o)->b∉frs X.stack->s.heap.get? b=some o->h2.get? b=some o:=fun b o hc hb q=>by
  obtain⟨o',e⟩:=cov b hc hb;have e1:=sb b o' e;rw[q]at e1;cases e1;exact st b _ e
 have ub:=I.base;rw[hex]at ub;refine⟨⟨fun b o q n hb _=> ?_,fun b o q n hb _=> ?_,fun b o q n _=>ub.free b o q n (by simp),fun b o q _=> ?_,ub.tups,ub.frzs,ub.tbls⟩,fun b u e=> ?_⟩
 ·have q1:=ub.keep b o q n hb (by simp);exact same b o (.inr ⟨o,q⟩) (fun z=>(hfr b z).elim (nloc b o q) hb) q1
 ·obtain⟨sl,q1⟩:=ub.slot b o q n hb (by simp);obtain⟨_,o',ho',hd⟩:=I.funs.mem hb;have hd1:∀vs,({ o with slots:=sl }:Obj).data≠ .fields vs:=fun vs z=>by
   rw[q1]at ho';cases ho';exact hd vs z
  obtain⟨sl2,q2⟩:=up b _ q1 hd1;exact⟨sl2,q2⟩
 ·obtain⟨o1,q1⟩:=ub.there b o q (by simp)
  by_cases hb:b∈frs X.stack
  ·obtain⟨_,o',ho',hd⟩:=I.stack.mem hb;rw[q1]at ho';cases ho';obtain⟨sl2,q2⟩:=up b _ q1 hd;exact⟨_,q2⟩
  ·exact⟨o1,same b o1 (.inr ⟨o,q⟩) hb q1⟩
 ·refine(I.hok b u e).stay (fun c v hc q=> ?_) (fun _ q=>q) fun _ _ q=>q;have hn:H c≠none:=by
   rcases hc with z|z
   ·rw[z,e];simp
   ·rw[z];simp
  exact same c v (.inl hn) (fun z=>hn (I.stkFree c z)) q
end
theorem uM {P:Program}{w:World}{K:PySem.W.Frag}{mg:Str->Option Value}{base:Heap}{N:List Str}{qual:Str}{scope:Scope}{f:Addr}{cd:Value}{A:Around}{outer:List Env}{s₀:Shared}{H₀:Hp}{E:XK} :
  jE (CXE P w) (eR (CXE P w) P w K mg base N qual scope f cd A outer s₀ H₀ E) E:=by
 intro pins σ H s e s' I h;obtain⟨ea,cls,dd,a0,H',B,rfl,os,bare,un,hok,hn,new,fl,cov,q⟩:=h;have I':=I.call' (ch:=[]) os un hok bare (fun b z=>absurd z (by simp));have there:∀b o,s₀.heap.get? b=some o->∃o',s.heap.get? b=some o':=fun b o e=>I.base.there b o e (fun z=>absurd (show b∈([]:List Addr) from z) (by simp));show wpAny _ _ (leaving _ _) _ _ s';refine BW (I.ok.frames) rfl fl fun h2 fl2 up=> ?_;obtain⟨un2,hok2⟩:=JA (B:=B) (h2:=h2) I' rfl fl2.1 fl.1 up (fun b hb hs=>cov b (hb.imp id fun⟨o,e⟩=>there b o e) hs) rfl rfl;refine⟨ea,cls,dd,a0,H',B,rfl,I'.os,bare,un2,hok2,hn,?_,fl2,fun b hb hs=>cov b (hb.imp id fun⟨o,e⟩=>there b o e) fun z=> ?_,q⟩
 ·cases e:s₀.heap.get? ea with
  | none=>rfl
  | some o =>
   obtain⟨o',e'⟩:=there ea o e;rw[new]at e';cases e'
 ·rcases List.mem_cons.mp (I.stkSub b z) with e|hb'
  ·rcases hb with hb|⟨o,e2⟩
   ·exact hb (by rw[e];exact I'.free)
   ·have e1:=Nat.lt_of_lt_of_le (Heap.lt_size e2) I.ok.above;rw[e]at e1;exact Nat.lt_irrefl _ e1
  ·exact hs hb'
theorem AT {P:Program}{w:World}{K:PySem.W.Frag}{mg:Str->Option Value}{base:Heap}{N:List Str}{qual:Str}{scope:Scope}{f:Addr}{cd:Value}{A:Around}{outer:List Env}{s₀:Shared}{H₀:Hp}{E:XK}
  {pins:List (Addr×Obj)}{σ:St}{H:Hp}{s1:Shared}{h':Heap}{ea:Addr}{cls:Value}{args:List Value} (I:Inv (eR (CXE P w) P w K mg base N qual scope f cd A outer s₀ H₀ E) pins σ H s1)
  (m:Heap.MadeExcOf s1.heap h' ea cls args)(q:E cls none H):(eR (CXE P w) P w K mg base N qual scope f cd A outer s₀ H₀ E).xe (.ref ea) { s1 with heap:=h' }:=by
 have there:∀b o,s₀.heap.get? b=some o->∃o',s1.heap.get? b=some o':=fun b o e=>I.base.there b o e (fun z=>absurd (show b∈([]:List Addr) from z) (by simp));have hin:∀env∈(eR (CXE P w) P w K mg base N qual scope f cd A outer s₀ H₀ E).stack,∀b,env.frame=some b->b∈frs (eR (CXE P w) P w K mg base N qual scope f cd A outer s₀ H₀ E).stack:=fun env he b hb=>List.mem_filterMap.mpr ⟨env,he,hb⟩;have hk:(hideAll s1.heap (frs (eR (CXE P w) P w K mg base N qual scope f cd A outer s₀ H₀ E).stack)).StaysIn s1.heap:=fun b o e=>of_hideAll _ e;have cov:∀b,(H b≠none∨∃o,s₀.heap.get? b=some o)->b∉frs (eR (CXE P w) P w K mg base N qual scope f cd A outer s₀ H₀ E).stack →
   ∃o,(hideAll s1.heap (frs (eR (CXE P w) P w K mg base N qual scope f cd A outer s₀ H₀ E).stack)).get? b=some o:=fun b hb hs=>by
  have:∃o,s1.heap.get? b=some o:=by
   rcases hb with hb|⟨o,e⟩
   ·cases e:H b with
    | none=>exact absurd e hb
    | some u=>exact(I.hok b u e).there
   ·exact there b o e
  obtain⟨o,e⟩:=this;exact⟨o,hideAll_get _ e hs⟩
 show wpAny _ _ (leaving _ _) _ _ _;refine vL (s:={ s1 with heap:=h' }) (h:=s1.heap) (base:=hideAll s1.heap (frs (eR (CXE P w) P w K mg base N qual scope f cd A outer s₀ H₀ E).stack)) (I.ok.frames) rfl hk (funFrames_hide I.stack hin) m fun h2 t fl up=> ?_;have up2:s1.heap.UpToSlots h2:=(Heap.UpToSlots.of_keeps m.keeps).trans up;obtain⟨un2,hok2⟩:=JA (h2:=h2) I rfl fl.1 hk up2 cov rfl rfl;have hn:H ea=none:=by
  cases e:H ea with
  | none=>rfl
  | some u =>
   obtain⟨o,e2⟩:=(I.hok ea u e).there;rw[m.new]at e2;cases e2
 refine⟨ea,cls,none,.ref t,H,_,rfl,I.os,I.bare,un2,hok2,hn,?_,fl,fun b hb hs=>cov b hb fun z=> ?_,q⟩
 ·cases e:s₀.heap.get? ea with
  | none=>rfl
  | some o =>
   obtain⟨o',e'⟩:=there ea o e;rw[m.new]at e';cases e'
 ·rcases List.mem_cons.mp (I.stkSub b z) with e|hb'
  ·rcases hb with hb|⟨o,e2⟩
   ·exact hb (by rw[e];exact I.free)
   ·have e1:=Nat.lt_of_lt_of_le (Heap.lt_size e2) I.ok.above;rw[e]at e1;exact Nat.lt_irrefl _ e1
  ·exact hs hb'
end L2
namespace L2
open PySem PySem.Spec PyProof.Rows PySem.W
def C9 (X:Cx)(E:XK):Prop:=∀(pins:List (Addr×Obj)) (σ:St) (H:Hp) (s1:Shared) (h':Heap) (ea:Addr) (cls:Value) (args:List Value),Inv X pins σ H s1->Heap.MadeExcOf s1.heap h' ea cls args->E cls none H->X.xe (.ref ea) { s1 with heap:=h' }
theorem nY {P:Program}{w:World}{K:PySem.W.Frag}{mg:Str->Option Value}{base:Heap}{N:List Str}{qual:Str}{scope:Scope}{f:Addr}{cd:Value}{A:Around}{outer:List Env}{s₀:Shared}{H₀:Hp}{E:XK} :
  C9 (eR (CXE P w) P w K mg base N qual scope f cd A outer s₀ H₀ E) E:=fun _ _ _ _ _ _ _ _ I m q=>AT I m q
abbrev bmV:List Value:=[.type "ValueError",.type "Exception",.type "BaseException",.type "object"]
abbrev ND (K:PySem.W.Frag)(C:Addr):Prop:=excIn K C bmV "ValueError.__new__" =true
theorem KB {K:Frag}{h₀:Heap}{C:Addr}{bmB:List Value}{newId:String} (X:K.In h₀) (q:excIn K C bmB newId=true) :
  ∃bm N nm q bs hdct sn sub ab col dd k0 k1 k2 k3 k5 mN,h₀.get? C=some (excClassObj nm q C N bs bm hdct sn sub ab col dd k0 k1 k2 k3 k5 newId)/\h₀.Ns N mN/\mN "__init__" =none/\OwnTail h₀ bmB bm:=by
 unfold excIn at q
 split at q
 ·rename_i dd cd sl ho
  split at q
  ·rename_i C' bm k0 k1 k2 k3 n k5 hm hs;simp only[Bool.and_eq_true,beq_iff_eq,Bool.not_eq_true']at q;obtain⟨⟨⟨⟨⟨rfl,rfl⟩,hdel⟩,ht⟩,hok⟩,hni⟩:=q;obtain⟨nm,bs,mro,ns,qn,hd,sn,sub,ab,col,del⟩:=cd
   dsimp only at hm hdel hok hni
   subst hm hdel;have hsl:sl= #[k0,k1,k2,k3,some (.builtin n),k5]:=by
    obtain⟨l⟩:=sl;simp only at hs;rw[hs]
   subst hsl;exact⟨bm,ns,nm,qn,bs,hd,sn,sub,ab,col,dd,k0,k1,k2,k3,k5,_,X _ _ ho,.of_isNs (isNs_of_in X hok),nsMap_none_of_in X hok hni,tail_of_in X ht⟩
  ·cases q
 ·cases q
section
variable {X:Cx}{E:XK}{x:Str}{C:Addr}{np cpos pos:Pos}{e:Expr}{es:List Expr}{t:TA}
def DY (C:Addr)(E:XK)(t:TA):TS:=fun D σ H=>t σ H fun vs H1=>vs.length<=sizeLine/\E (.ref C) none H1
theorem jC (hm:X.mg x=some (.ref C))(hc:ND X.K C)(hx:C9 X E)(ha:PA X (e::es) t)(cm:X.calm=true:=by rfl)(hg:Gl X x:=by rfl)(hdb:(x==("__debug__" :Str))=false:=by decide)
  (he:starEach (e::es) X.env=(false,eval e X.env)::starEach es X.env:=by rfl)(hpl:(backTo cpos (starEach es X.env)).any (·.1)=false:=by rfl) :
  PS X (.Raise (some (.Call (.Name x np) (e::es) [] cpos)) none pos) (DY C E t):=by
 intro pins s σ H D I h;obtain⟨tl,N,nm,q,bs,hdct,sn,sub,ab,col,dd,k0,k1,k2,k3,k5,mN,hC,hN,hni,T⟩:=KB I.ok.mod.kin hc;refine wpAny_Raise_call_subT (C:=C) (nm:=nm) (q:=q) (N:=N) (bs:=bs) (bm:=tl) (hdct:=hdct) (sn:=sn) (sub:=sub) (ab:=ab) (col:=col) (dd:=dd) (k0:=k0) (k1:=k1) (k2:=k2) (k3:=k3) (k5:=k5)
  PySem.F.excBase_ValueError (mN:=mN) (T.hasType PySem.F.excBase_ValueError.hasBase) (I.ok.hd cm) (by rw[he];show (false||(backTo cpos (starEach es X.env)).any (·.1))=false;rw[hpl];rfl) hni (kU I hg hm ⟨rfl,?_⟩ hdb)
 have hh:=ha cpos pins s σ H _ I h;rw[he]at hh ⊢;refine Calls.evalArgs_plain (wpAny_mono hh (fun vs s₂ h₂=> ?_) fun _ _ y=>y);obtain⟨us,H2,I2,r,z,q2⟩:=h₂;exact⟨rfl,by rw[←r.length];exact z,I2.bk _ _ hC,hN.keeps I2.bk,T.keeps I2.bk,fun h' ea m=>hx pins σ H2 s₂ h' ea _ _ I2 m q2⟩
end
structure FcE (P:Program)(w:World)(K:PySem.W.Frag)(mg:Str->Option Value)(base:Heap)(x:Str)(k:Nat)(ps:List Str)(sp:Sp):Prop where
 ex:∃f fd,mg x=some (.ref f)/\PySem.W.keepIn K (.ref f)=true/\Binds K fd ps []/\bX P w K mg base (CXE P w) k f fd ps sp
section
variable {X:Cx}{k k':Nat}{sp:Sp}{x m:Str}{p pos apos:Pos}{e o:Expr}{es:List Expr}{ta:TE}{t:TA}{C:Addr}{dvs:List V}{E:XK}{ps:List Str}
theorem iV (F:FcE X.prog X.w X.K X.mg X.base x k ps sp)(hr:Room k' X.A)(hx:jE (CXE X.prog X.w) X E)(ha:PA X (e::es) t)(hk:k<=k':=by decide)(hg:Gl X x:=by rfl)
  (hdb:(x==("__debug__" :Str))=false:=by decide)(he:starEach (e::es) X.env=(false,eval e X.env)::starEach es X.env:=by rfl)(hpl:(backTo pos (starEach es X.env)).any (·.1)=false:=by rfl) :
  PE X (.Call (.Name x p) (e::es) [] pos) (o6 sp [] E t):=by
 obtain⟨f,fd,hm,kp,b,G⟩:=F.ex;exact zU G (hr.mono hk) hg hm kp b .nil hx ha hdb he hpl
end
section
variable {P:Program}{w:World}{K:PySem.W.Frag}{mg:Str->Option Value}{base:Heap}
theorem FunV.okE {x qual:Str}{st:Stmt}{f:Addr}{fd:FuncData}{N ps:List Str}{k:Nat}{sp:Sp} (F:FunV K x qual st f fd) (S:bE N ps (aD st)) (len:∀vs H Q E,sp vs H Q E->vs.length=ps.length)
  (hbody:∀(cdv:Value) (A:Around) (outer:List Env) (s:Shared) (H:Hp) (vs:List V) (Q:VK) (E:XK),Room k (A.deeper (envOfC qual (aD st) s.heap.objs.size f cdv))->sp vs H Q E →
   ∃t,PSs (eR (CXE P w) P w K mg base N qual (aD st) f cdv A outer s H E) (aU st) t/\t { nx:=fun _ H'=>Q .non H',rt:=Q } (fX N vs) H):bX P w K mg base (CXE P w) (k+1) f fd ps sp:=by
 obtain⟨oc,od,dV,kV,doc,pm,an,cdv,ct,osl,rfl,lk,hcd⟩:=F.ex;exact JF lk hcd S len fun A outer s H vs Q E hr h=>hbody cdv A outer s H vs Q E hr h
end
end L2
namespace L2
open PySem PySem.Spec PyProof.Rows PySem.W
def BN (h base:Heap)(ea:Addr)(cls:Value)(dd:Option Addr)(a0 mk:Value):Prop :=
 ∃ob fv tb tbo tv,h.get? ea=some ob/\ob.cls=cls/\ob.dict=dd/\fv[0]? =some a0/\ob.data= .fields fv/\fv[1]? =some (.ref tb)/\base.get? tb=none/\tb≠ea/\h.get? tb=some tbo/\tbo.data= .fields tv/\tv[3]? =some mk
def IG (base:Heap)(l:List Env)(ea:Addr)(cls:Value)(dd:Option Addr)(a0 mk:Value)(h h':Heap):Prop :=
 base.StaysIn h'/\h'.FunFrames base l/\BN h' base ea cls dd a0 mk/\h.UpToSlots h'
section
variable {M:Model}{A:Around}{E:Value->Shared->Prop}{s:Shared}{base:Heap}{env:Env}{outer:List Env}{L ea:Addr}{Q:Unit->Shared->Prop}
theorem xX {ob:Obj}{fv:Array Value}{hd0 a0:Value}{nx:Bool} (hfr:A.frames=some (env::outer)) (ff:s.heap.FunFrames base (env::outer)) (hL:env.frame=some L) (go:s.heap.get? ea=some ob) (st:base.StaysIn s.heap)
  (nb:base.get? ea=none)(hdt:ob.data= .fields fv)(hz:1<fv.size)(h0:fv[0]? =some a0)(k:∀h',IG base (env::outer) ea ob.cls ob.dict a0 (rawInt L) s.heap h'->Q () { s with heap:=h' }) :
  wpAny M A (do let a ←frameOf env;let pl ←entryPlaceOf L nx;let b ←EntryCells.newEntry hd0 a .none (rawInt L) .none pl;setField (.ref ea) 1 b) Q E s:=by
 have nin:ea∉(env::outer).filterMap (·.frame):=fun hm=>by
  obtain⟨_,o,ho,hnf⟩:=ff.mem hm;rw[go]at ho;cases ho;exact hnf fv hdt
 refine wpAny_bind (wpAny_frameOf_fun hfr ff hL fun hA sA=>wpAny_bind (wpAny_entryPlaceOf fun pl hpl=> ?_));unfold EntryCells.newEntry newFields;refine wpAny_bind (wpAny_newObj_type ?_ (hpl.sizeOk5 _ _ _ _ _));have gA:hA.get? ea=some ob:=(sA.2.1 ea nin).trans go;have stA:base.StaysIn hA:=fun b o q=>(sA.2.1 b fun hm=>by rw[(ff.mem hm).1]at q;cases q).trans (st b o q);generalize hN:({ cls:= .type "traceback",dict:=none,data:= .fields ([hd0,.ref L,.none,rawInt L,.none]++(if pl.isEmpty then List.replicate 6 Value.none else pl)).toArray }:Obj)=nob;have hNd:∃tv,nob.data= .fields tv/\tv[3]? =some (rawInt L):=by
  rw[←hN];exact⟨_,rfl,by first|(simp;done)|(rcases hpl with rfl|⟨_,_,_,_,_,_,_,rfl⟩<;>simp)⟩
 obtain⟨tv,hNd,hN3⟩:=hNd;have gB:(hA.push nob).get? ea=some ob:=Heap.get?_push_of_some nob gA;refine wpAny_setField gB hdt hz (k _ ?_);have tne:hA.objs.size≠ea:=Nat.ne_of_gt (Heap.lt_size gA);have dC:=Obj.data_mapFields hdt (·.setIfInBounds 1 (Value.ref hA.objs.size));have gC:=Heap.get?_update_self (Obj.mapFields (·.setIfInBounds 1 (Value.ref hA.objs.size))) gB (Obj.isFreed_of_fields dC);have tC:((hA.push nob).update ea (Obj.mapFields (·.setIfInBounds 1 (Value.ref hA.objs.size)))).get? hA.objs.size=some nob:=(Heap.get?_update_other _ _ (Ne.symm tne)).trans (Heap.get?_push_size hA (Obj.isFreed_of_fields hNd));generalize hF:(hA.push nob).update ea (Obj.mapFields (·.setIfInBounds 1 (Value.ref hA.objs.size)))=hX at gC tC ⊢;have keepF:∀b o,b≠ea->hA.get? b=some o->hX.get? b=some o:=fun b o hb q=>by
  rw[←hF,Heap.get?_update_other _ _ (Ne.symm hb)];exact Heap.get?_push_of_some _ q
 have norec:∀b o,s.heap.get? b=some o->(∀vs,o.data≠ .fields vs)->b≠ea:=fun b o q hnf z=>by
  rw[z,go]at q;cases q;exact hnf fv hdt
 refine⟨fun b o q=>keepF b o (fun z=>by rw[z,nb]at q;cases q) (stA b o q),ff.of_keeps fun b o q hnf=> ?_,?_,fun b o q hnf=> ?_⟩
 ·obtain⟨sl,hs⟩:=sA.2.2 b o q;exact⟨_,keepF b _ (norec b o q hnf) hs,rfl⟩
 ·exact⟨_,_,hA.objs.size,_,_,gC,Obj.cls_mapFields _ _,tQ _ _,by rw[Array.getElem?_setIfInBounds_ne (by decide)];exact h0,dC,by simp[hz],stA.fresh,tne,tC,hNd,hN3⟩
 ·obtain⟨sl,hs⟩:=sA.2.2 b o q;exact⟨sl,keepF b _ (norec b o q hnf) hs⟩
theorem sX {cls a0:Value}{dd:Option Addr} (hfr:A.frames=some (env::outer)) (hL:env.frame=some L) (fl:FlyD base (env::outer) ea cls dd a0 s.heap)
  (k:∀h',IG base (env::outer) ea cls dd a0 (rawInt L) s.heap h'->Q () { s with heap:=h' }):wpAny M A (noteFrame (.ref ea) env) Q E s:=by
 obtain⟨st,nb,ff,ob,fv,tb,tbo,tv,go,ec,ed,h0,hdt,h1,nT,tne,gT,dT,h3⟩:=fl;subst ec ed;unfold noteFrame;simp only[hL];refine wpAny_bind (wpAny_field go hdt h1 ?_);rw[if_pos (show (Value.ref tb !=Value.none)=true from by simp)];refine wpAny_bind (wpAny_field gT dT h3 ?_);rw[if_neg (show ¬((Value.none==rawInt L)=true) from by simp[rawInt])];refine wpAny_bind (wpAny_setField gT dT (Array.getElem?_eq_some_iff.mp h3).1 ?_);have oth:∀b,b≠tb->(s.heap.update tb (Obj.mapFields (·.setIfInBounds 3 Value.none))).get? b=s.heap.get? b:=fun b hb=>Heap.get?_update_other _ _ (Ne.symm hb);have norec:∀b o,s.heap.get? b=some o->(∀vs,o.data≠ .fields vs)->b≠tb:=fun b o q hnf z=>by
  rw[z,gT]at q;cases q;exact hnf tv dT
 refine xX hfr (ff.of_keeps fun b o q hnf=>⟨o,(oth b (norec b o q hnf)).trans q,rfl⟩) hL ((oth ea (Ne.symm tne)).trans go) (fun b o q=>(oth b fun z=>by rw[z,nT]at q;cases q).trans (st b o q)) nb hdt (Array.getElem?_eq_some_iff.mp h1).1 h0 fun h' ⟨x1,x2,x3,x4⟩=> ?_;exact k h' ⟨x1,x2,x3,fun b o q hnf=>x4 b o ((oth b (norec b o q hnf)).trans q) hnf⟩
theorem v4 {l:List Env}{cls a0 mk:Value}{dd:Option Addr} (st:base.StaysIn s.heap) (nb:base.get? ea=none) (ff:s.heap.FunFrames base l) (tr:BN s.heap base ea cls dd a0 mk)
  (k:∀h',FlyD base l ea cls dd a0 h'->s.heap.UpToSlots h'->Q () { s with heap:=h' }):wpAny M A (setFlight (.ref ea) none) Q E s:=by
 obtain⟨ob,fv,tb,tbo,tv,go,ec,ed,h0,hdt,h1,nT,tne,gT,dT,h3⟩:=tr;have oth:∀b,b≠tb->(s.heap.update tb (Obj.mapFields (·.setIfInBounds 3 ((none:Option Addr).elim Value.none fun f=>rawInt f)))).get? b=s.heap.get? b:=fun b hb=>Heap.get?_update_other _ _ (Ne.symm hb);have norec:∀b o,s.heap.get? b=some o->(∀vs,o.data≠ .fields vs)->b≠tb:=fun b o q hnf z=>by
  rw[z,gT]at q;cases q;exact hnf tv dT
 have z3:=(Array.getElem?_eq_some_iff.mp h3).1;unfold setFlight;refine wpAny_bind (wpAny_field go hdt h1 ?_);rw[if_pos (show (Value.ref tb !=Value.none)=true from by simp)];refine wpAny_setField gT dT z3 (k _ ⟨fun b o q=>(oth b fun z=>by rw[z,nT]at q;cases q).trans (st b o q),nb,ff.of_keeps fun b o q hnf=>⟨o,(oth b (norec b o q hnf)).trans q,rfl⟩,?_⟩ fun b o q hnf=>⟨o.slots,(oth b (norec b o q hnf)).trans q⟩);exact⟨ob,fv,tb,_,_,(oth ea (Ne.symm tne)).trans go,ec,ed,h0,hdt,h1,nT,tne,Heap.get?_update_self _ gT (Obj.isFreed_of_fields (Obj.data_mapFields dT _)),Obj.data_mapFields dT _,by simp[z3]⟩
end
end L2
namespace L2
open PySem PySem.Spec PyProof.Rows PySem.W
abbrev Cx.inx (X:Cx)(ea:Addr):Cx:={ X with A:=X.A.mark (some (.ref ea)),calm:=false,xe:=fun _ _=>False }
section
variable {X:Cx}{pins:List (Addr×Obj)}{σ:St}{H:Hp}{s:Shared}{ea:Addr}
theorem Cx.Ok.inx (ok:X.Ok)(ea:Addr):(X.inx ea).Ok :=
 ⟨ok.mod,ok.kind,ok.glob,ok.blt,ok.above,ok.inj,ok.has,ok.cab,(fun z=>by cases z),ok.frames,ok.stk,ok.exf,ok.bs,ok.bsz,ok.noex,ok.exfs,ok.funs,ok.frf⟩
theorem Inv.inx (I:Inv X pins σ H s)(ea:Addr):Inv (X.inx ea) pins σ H s:=⟨I.ok.inx ea,I.os,I.bare,I.base,I.loc,I.cell,I.free,I.freeC,I.pin,I.hok,I.len⟩
theorem Inv.outx (ok:X.Ok)(I:Inv (X.inx ea) pins σ H s):Inv X pins σ H s:=⟨ok,I.os,I.bare,I.base,I.loc,I.cell,I.free,I.freeC,I.pin,I.hok,I.len⟩
end
theorem J0 {P:Program}{w:World}{fs:List Addr}{H1 H':Hp}{h1 h' h6 B:Heap} (un:Un fs [] H1 H' h1 h') (hok:HOk P w H' h') (cov:∀b,(H' b≠none∨∃o,h1.get? b=some o)->b∉fs->∃o,B.get? b=some o)
  (sb:B.StaysIn h')(st:B.StaysIn h6)(up:h'.UpToSlots h6)(hf:∀b∈fs,H' b=none/\∃o,h'.get? b=some o/\∀vs,o.data≠ .fields vs):Un fs [] H1 H' h1 h6/\HOk P w H' h6:=by
 have same:∀b o,(H' b≠none∨∃o,h1.get? b=some o)->b∉fs->h'.get? b=some o->h6.get? b=some o:=fun b o hc hb q=>by
  obtain⟨o',e⟩:=cov b hc hb;have e1:=sb b o' e;rw[q]at e1;cases e1;exact st b _ e
 have atf:∀b o,b∈fs->h'.get? b=some o->∃sl,h6.get? b=some { o with slots:=sl }:=fun b o hb q=>by
  obtain⟨_,o',e,d⟩:=hf b hb;rw[q]at e;cases e;exact up b _ q d
 refine⟨⟨fun b o q n hb hx=>same b o (.inr ⟨o,q⟩) hb (un.keep b o q n hb hx),fun b o q n hb hx=> ?_,un.free,fun b o q hx=> ?_,un.tups,un.frzs,un.tbls⟩,fun b u e=> ?_⟩
 ·obtain⟨sl,q1⟩:=un.slot b o q n hb hx;obtain⟨sl2,q2⟩:=atf b _ hb q1;exact⟨sl2,q2⟩
 ·obtain⟨o1,q1⟩:=un.there b o q hx
  by_cases hb:b∈fs
  ·obtain⟨sl,q2⟩:=atf b o1 hb q1;exact⟨_,q2⟩
  ·exact⟨o1,same b o1 (.inr ⟨o,q⟩) hb q1⟩
 ·refine(hok b u e).stay (fun c v hc q=> ?_) (fun _ q=>q) fun _ _ q=>q;have hn:H' c≠none:=by
   rcases hc with z|z
   ·rw[z,e];simp
   ·rw[z];simp
  exact same c v (.inl hn) (fun z=>hn (hf c z).1) q
def L9 (a C dx:Addr)(h:Heap):Prop:=∃o vs,h.get? a=some o/\o.cls= .ref C/\o.dict=some dx/\o.data= .fields vs
def uP (a C:Addr):Option Addr->HO
 | none=> .ext (fV a C)
 | some dx=> .ext (L9 a C dx)
theorem DT {P:Program}{w:World}{fs:List Addr}{H1 H':Hp}{h1 h6:Heap}{ea C:Addr}{φ:Heap->Prop} (un:Un fs [] H1 H' h1 h6) (hok:HOk P w H' h6) (new:h1.get? ea=none) (hn:H' ea=none) (x:φ h6) (tx:∃o,h6.get? ea=some o)
  (kx:∀g1 g2,φ g1->(∀o,g1.get? ea=some o->g2.get? ea=some o)->φ g2):Un fs [] H1 (upd H' ea (.ext φ)) h1 h6/\HOk P w (upd H' ea (.ext φ)) h6:=by
 have ne1:∀b o,h1.get? b=some o->b≠ea:=fun b o q z=>by rw[z,new]at q;cases q
 refine⟨⟨un.keep,un.slot,fun b o q n hx=>by rw[aI (ne1 b o q)];exact un.free b o q n hx,un.there,fun b xs q=> ?_,fun b o u q=> ?_,fun b ps q=> ?_⟩,fun b u e=> ?_⟩
 ·have z:=un.tups b xs q;rw[aI (bB z hn)];exact z
 ·have z:=un.frzs b o u q;rw[aI (bB z hn)];exact z
 ·obtain⟨m,z⟩:=un.tbls b ps q;exact⟨m,by rw[aI (bB z hn)];exact z⟩
 ·by_cases hb:b=ea
  ·subst hb;rw[bA]at e;cases e;exact⟨x,tx,kx⟩
  ·rw[aI hb]at e;exact(hok b u e).stay (fun _ _ _ q=>q) (fun c q=>by rw[aI (bB q hn)];exact q) fun c xs q=>by rw[aI (bB q hn)];exact q
theorem KJ {P:Program}{w:World}{fs:List Addr}{H1 H':Hp}{h1 h6:Heap}{ea C:Addr}{dd:Option Addr}{ob:Obj}{vs:Array Value} (un:Un fs [] H1 H' h1 h6) (hok:HOk P w H' h6) (new:h1.get? ea=none) (hn:H' ea=none) (go:h6.get? ea=some ob) (hc:ob.cls= .ref C) (hd:ob.dict=dd) (hf:ob.data= .fields vs) :
  Un fs [] H1 (upd H' ea (uP ea C dd)) h1 h6/\HOk P w (upd H' ea (uP ea C dd)) h6:=by
 cases dd with
 | none=>exact DT (C:=C) un hok new hn ⟨ob,vs,go,hc,hf⟩ ⟨_,go⟩ fun g1 g2 ⟨o',vs',q1,q2,q3⟩ k=>⟨o',vs',k _ q1,q2,q3⟩
 | some dx=>exact DT (C:=C) un hok new hn ⟨ob,vs,go,hc,hd,hf⟩ ⟨_,go⟩ fun g1 g2 ⟨o',vs',q1,q2,q3⟩ k=>⟨o',vs',k _ q1,q2,q3⟩
def XW (X:Cx)(pins:List (Addr×Obj))(σ:St)(R:XK)(e:Value)(s':Shared):Prop:=∃H1 s1,Inv X pins σ H1 s1/\CXE X.prog X.w X.stack H1 s1 R e s'
def PEx (X:Cx)(e:Expr)(t:XK->TE):Prop :=
 ∀(R:XK) (pins:List (Addr×Obj)) (s:Shared) (σ:St) (H:Hp) (Q:VK),Inv X pins σ H s->t R σ H Q->wpAny (model X.prog X.w) X.A (eval e X.env) (EP X pins σ Q) (XW X pins σ R) s
theorem PA.noxx {X:Cx}{es:List Expr}{t:TA} (h:PA X.nox es t) {E:Value->Shared->Prop}:∀(pos:Pos) (pins:List (Addr×Obj)) (s:Shared) (σ:St) (H:Hp) (Q:List V->Hp->Prop),Inv X pins σ H s->t σ H Q->wpAny (model X.prog X.w) X.A (spliced (backTo pos (starEach es X.env))) (AP X pins σ Q) E s :=
 fun pos pins s σ H Q I q=>wpAny_mono (h pos pins s σ H Q (I.wish _) q) (fun _ _ ⟨vs,H',I',r,z⟩=>⟨vs,H',I'.unwish,r,z⟩) fun _ _ z=>False.elim z
section
variable {X:Cx}{k k':Nat}{sp:Sp}{x m:Str}{p pos apos:Pos}{e o:Expr}{es:List Expr}{ta:TE}{t:TA}{C f:Addr}{dvs:List V}{ds:List Value}{R:XK}{ps:List Str}{fd:FuncData}
theorem LP {pins:List (Addr×Obj)}{σ:St}{H:Hp}{s:Shared}{Q:VK}{us:List Value}{vs:List V} (F:bX X.prog X.w X.K X.mg X.base (CXE X.prog X.w) k f fd ps sp) (hr:Room k X.A) (hb:Binds X.K fd ps ds) (hd:Vals dvs ds)
  (I:Inv X pins σ H s)(r:Vals vs us)(h:sp (vs++dvs) H Q R):wpAny (model X.prog X.w) X.A (call (.ref f) us) (EP X pins σ Q) (XW X pins σ R) s:=by
 have r2:Vals (vs++dvs) (us++ds):=r.append hd;have hl:(us++ds).length=ps.length:=by rw[←r2.length];exact F.len _ _ _ _ h
 refine wpAny_call (codeAny_mono (F.run X.A X.stack s H ⟨us,[]⟩ (us++ds) (vs++dvs) Q R hr I.env0 (hb s us I.kIn hl) r2 h) fun r s' hq=> ?_);cases r with
 | error e=>exact⟨H,s,I,hq⟩
 | ok fl =>
  cases fl with
  | ret u=>exact I.after hq
  | next=>exact False.elim hq
  | brk=>exact False.elim hq
  | cont=>exact False.elim hq
theorem PP (F:FcE X.prog X.w X.K X.mg X.base x k ps sp)(hr:Room k' X.A)(ha:PA X.nox (e::es) t)(hk:k<=k':=by decide)(hg:Gl X x:=by rfl)
  (hdb:(x==("__debug__" :Str))=false:=by decide)(he:starEach (e::es) X.env=(false,eval e X.env)::starEach es X.env:=by rfl)(hpl:(backTo pos (starEach es X.env)).any (·.1)=false:=by rfl) :
  PEx X (.Call (.Name x p) (e::es) [] pos) (fun R=>o6 sp [] R t):=by
 intro R pins s σ H Q I h;obtain⟨f,fd,hm,kp,b,G⟩:=F.ex;refine wpAny_Call_Name_kw (kU I hg hm ?_ hdb);refine PySem.W.callWith_K (h₀:=X.base) I.ok.mod.kin kp (thn (ha.noxx pos pins s σ H _ I h) fun us s1 ⟨vs,H1,I1,r,q⟩=>⟨I1.kIn,?_⟩) he hpl;exact LP G (hr.mono hk) b .nil I1 r q
end
section
variable {X:Cx}{k k':Nat}{sp:Sp}{x m:Str}{p pos apos:Pos}{e o:Expr}{es:List Expr}{ta:TE}{t:TA}{C:Addr}{dvs:List V}{R:XK}
end
theorem jS {X:Cx}{pins:List (Addr×Obj)}{σ:St}{H:Hp}{s:Shared}{M:Model}{A:Around}{E:Value->Shared->Prop}{i:Nat}{n:Str}{pos:Pos}{Q:Unit->Shared->Prop} (I:Inv X pins σ H s) (hN:X.N.Nodup) (hi:X.N[i]? =some n) (hk:X.env.scope.names.lookup n=some .local)
  (h:∀s',Inv X pins (σ.set i none) H s'->Q () s'):wpAny M A (do bindName X.env n .none;unbindBehindTheSuite X.env n pos) Q E s:=by
 obtain⟨m,hn,hl⟩:=id I.loc;have hcls:(X.env.scope.kind== .class||(X.env.scope.kind== .module&&X.env.locals !=X.env.globals))=false:=by rw[I.ok.kind];rfl
 have cne:=I.cne;have tracked:∀{a:Addr}{h':Heap},(∃o,s.heap.get? a=some o/\H a=none)->Heap.SameBut a s.heap h'->HOk X.prog X.w H h':=fun {a h'} ha hs b ob e=>by
  obtain⟨_,_,hfree⟩:=ha;refine(I.hok b ob e).stay (fun c w' hc q=>(hs.2 c ?_).trans q) (fun _ q=>q) fun _ _ q=>q;rintro rfl;rcases hc with rfl|hc
  ·rw[hfree]at e;cases e
  ·rw[hfree]at hc;cases hc
 refine wpAny_nameGoes_keeps hk hn hcls fun h' v hn' hs=> ?_;obtain⟨oL,_,_,hoL,_⟩:=id hn;refine h _ ⟨I.ok,I.os,I.bare,⟨fun b o e n hb hx=> ?_,fun b o e n hb hx=> ?_,I.base.free,fun b o e hx=> ?_,I.base.tups,I.base.frzs,I.base.tbls⟩,⟨_,hn',fun j y v' e1 e2 e3=> ?_⟩,fun y c e=> ?_,I.free,I.freeC,fun p hp=> ?_,tracked ⟨oL,hoL,I.free⟩ hs,by simpa using I.len⟩
 ·exact(hs.2 b (Nat.ne_of_lt (Nat.lt_of_lt_of_le (Heap.lt_size e) I.ok.above))).trans (I.base.keep b o e n hb hx)
 ·obtain⟨sl,e1⟩:=I.base.slot b o e n hb hx;exact⟨sl,(hs.2 b (Nat.ne_of_lt (Nat.lt_of_lt_of_le (Heap.lt_size e) I.ok.above))).trans e1⟩
 ·obtain⟨o',e1⟩:=I.base.there b o e hx;exact⟨o',(hs.2 b (Nat.ne_of_lt (Nat.lt_of_lt_of_le (Heap.lt_size e) I.ok.above))).trans e1⟩
 ·by_cases hj:j=i
  ·subst hj;rw[List.getElem?_set]at e2;simp at e2
  ·rw[List.getElem?_set_ne (Ne.symm hj)]at e2;obtain⟨u',r',q⟩:=hl j y v' e1 e2 e3;refine⟨u',r',?_⟩;rcases q with⟨k,e⟩|⟨k,c,e,z⟩
   ·refine .inl ⟨k,?_⟩;have:y≠n:=fun e=>hj (pP hN e1 (e▸hi));simp[this,e]
   ·exact .inr ⟨k,c,e,z.sameBut hs (cne y c e)⟩
 ·obtain⟨w',z⟩:=I.cell y c e;exact⟨w',z.sameBut hs (cne y c e)⟩
 ·obtain⟨e,n,ne,nf,d⟩:=I.pin p hp;exact⟨(hs.2 p.1 ne).trans e,n,ne,nf,d⟩
section
variable {X:Cx}{i:Nat}{n x:Str}{T:Addr}{np hpos pos epos:Pos}{e:Expr}{tc:XK->TE}{b₀:Stmt}{suite:List Stmt}{ts:TS}
def IW (K:PySem.W.Frag)(T:Addr)(i:Nat)(ts:TS)(D:gE)(σ:St):XK:=fun cls dd H1=>∃C,cls= .ref C/\PySem.W.exmOne K (.ref C) (.ref T)=some true ∧
 ∀ea,H1 ea=none->ts { nx:=fun σ' H'=>D.nx (σ'.set i none) H',rt:=D.rt,bk:=fun σ' H'=>D.bk (σ'.set i none) H',ct:=fun σ' H'=>D.ct (σ'.set i none) H' } (σ.set i (some (.ref ea))) (upd H1 ea (uP ea C dd))
def PXs (X:Cx)(st:List Stmt)(t:XK->TS):Prop :=
 ∀(R:XK) (pins:List (Addr×Obj)) (s:Shared) (σ:St) (H:Hp) (D:gE),Inv X pins σ H s->t R D σ H->wpAny (model X.prog X.w) X.A (execs st X.env) (SP X pins D) (XW X pins σ R) s
def QI (K:PySem.W.Frag)(T:Addr)(i:Nat)(tc:XK->TE)(ts:TS):TS:=fun D σ H=>tc (IW K T i ts D σ) σ H fun _ H1=>D.nx σ H1
def txE (tc:XK->TE):XK->TS:=fun R D σ H=>tc R σ H fun _ H1=>D.nx σ H1
theorem P3 (he:PEx X e tc)(hsw:swapsWith e none epos.line X.env=pure false:=by rfl):PXs X [.Expr e epos] (txE tc):=by
 intro R pins s σ H D I h;refine wpAny_execs_cons (wpAny_Expr_any ?_ I.quiet hsw);exact wpAny_mono (he R pins s σ H _ I h) (fun v s1 ⟨v',H1,I1,r1,q1⟩=>wpAny_execs_nil ⟨σ,H1,I1,q1⟩) fun _ _ z=>z
theorem KF {body:List Stmt}{tb:XK->TS} (hN:X.N.Nodup) (hi:X.N[i]? =some n) (hk:X.env.scope.names.lookup n=some .local) (hst:X.stack=X.env::X.outer) (hfr:X.env.frame=some X.env.locals) (hm:X.mg x=some (.ref T)) (he:PXs X body tb) (hs:∀ea,PSs (X.inx ea) (b₀::suite) ts)
  (hg:Gl X x:=by rfl)(hdb:(x==("__debug__" :Str))=false:=by decide) :
  PS X (.Try body [.ExceptHandler (some (.Name x np)) (some n) (b₀::suite) hpos] [] [] pos) (fun D σ H=>tb (IW X.K T i ts D σ) D σ H):=by
 intro pins s σ H D I h;refine wpAny_Try_except ?_;refine wpAny_mono (he _ pins s σ H _ I h) (fun f s1 q=> ?_) fun ev s' hx=> ?_
 ·cases f with
  | next=>exact wpAny_execs_nil q
  | ret v=>exact q
  | brk=>exact q
  | cont=>exact q
 obtain⟨H1,s1,I1,ea,cls,dd,a0,H',B,rfl,os,bare,un,hok,hn,new,fl,cov,C,rfl,hex,hq⟩:=hx;have frms:∀b∈frs X.stack,H' b=none:=fun b hb=>by
  obtain⟨_,o,ho,_⟩:=I1.stack.mem hb;exact un.free b o ho (I1.stkFree b hb) (by simp)
 have fl0:=fl;rw[hst]at fl0;refine sX (by rw[I.ok.frames,hst]) hfr fl0 fun h4 ⟨k1,k2,k3,up4⟩=> ?_;refine v4 k1 fl.2.1 k2 k3 fun h5 hfl5 up5=> ?_;have step:∀h6,FlyD B (X.env::X.outer) ea (.ref C) dd a0 h6->s'.heap.UpToSlots h6->Inv X pins σ (upd H' ea (uP ea C dd)) { s' with heap:=h6 }:=fun h6 f6 up6=>by
  obtain⟨un2,hok2⟩:=J0 un hok cov fl.1 f6.1 up6 fun b hb=>⟨frms b hb,(fl.2.2.1.mem hb).2⟩
  obtain⟨oe,vs,q1,q2,q3,q4⟩:=f6.there;obtain⟨un3,hok3⟩:=KJ (C:=C) un2 hok2 new hn q1 q2 q3 q4;exact I1.call' (s':={ s' with heap:=h6 }) (ch:=[]) os un3 hok3 bare fun b z=>absurd z (by simp)
 have I5:=step h5 hfl5 (up4.trans up5);obtain⟨ob,_,hob,hobc,_⟩:=hfl5.there;have LT:Looks (model X.prog X.w) h5 (typeOf (.ref ea)) (.ref C):=by
  rw[←hobc];exact(Looks.ld hob).andThen .now
 refine wpAny_handleBy_cons (codeAny_handlers_test ?_) (by intro q;cases q);refine kU (X:=X.inx ea) (I5.inx ea) hg hm ?_ hdb;refine(PySem.W.exm_one I5.kIn LT hex).here ?_;show codeAny _ _ _ _ _;refine codeAny_handlers_suite_as ?_;obtain⟨l1,l2,l3,l4⟩:=hfl5;refine v4 l1 l2 l3 l4 fun h6 hfl6 up6=> ?_;have I6:=step h6 hfl6 ((up4.trans up5).trans up6);refine pZ (X:=X.inx ea) (v:= .ref ea) (I6.inx ea) hN hi (.inl hk) rfl (fun s7 I7=> ?_) (.inr hk);refine wpAny_mono (hs ea pins s7 _ _ _ I7 (hq ea hn)) (fun f s8 hsp=> ?_) fun _ _ z=>False.elim z;cases f with
 | next =>
  obtain⟨σ',H8,I8,q8⟩:=hsp;exact jS (I8.outx I.ok) hN hi hk fun s9 I9=>⟨_,H8,I9,q8⟩
 | brk =>
  obtain⟨σ',H8,I8,q8⟩:=hsp;exact jS (I8.outx I.ok) hN hi hk fun s9 I9=>⟨_,H8,I9,q8⟩
 | cont =>
  obtain⟨σ',H8,I8,q8⟩:=hsp;exact jS (I8.outx I.ok) hN hi hk fun s9 I9=>⟨_,H8,I9,q8⟩
 | ret u =>
  obtain⟨v,σ',H8,I8,r8,q8⟩:=hsp;exact jS (I8.outx I.ok) hN hi hk fun s9 I9=>⟨v,_,H8,I9,r8,q8⟩
theorem NO (hN:X.N.Nodup)(hi:X.N[i]? =some n)(hk:X.env.scope.names.lookup n=some .local)(hst:X.stack=X.env::X.outer)(hfr:X.env.frame=some X.env.locals)(hm:X.mg x=some (.ref T))(he:PEx X e tc)(hs:∀ea,PSs (X.inx ea) (b₀::suite) ts)
  (hg:Gl X x:=by rfl)(hdb:(x==("__debug__" :Str))=false:=by decide)(hsw:swapsWith e none epos.line X.env=pure false:=by rfl) :
  PS X (.Try [.Expr e epos] [.ExceptHandler (some (.Name x np)) (some n) (b₀::suite) hpos] [] [] pos) (QI X.K T i tc ts):=KF hN hi hk hst hfr hm (P3 he hsw) hs hg hdb
end
def IsX (H:Hp)(a C:Addr):Prop:=∃φ,H a=some (.ext φ)/\∀h,φ h->fV a C h
def HS (K:PySem.W.Frag):List V->Hp->VK->Prop:=fun xs H Q=>∃a C c u b,xs=[.ref a,c]/\IsX H a C/\iQ K C/\(c= .ref u/\PySem.W.kitOne K (.ref C) (.ref u)=some b)/\Q (.bl b) H
def AV (K:PySem.W.Frag):List V->Hp->VK->Prop:=fun xs H Q=>∃a C n b,xs=[.ref a,.ty n]/\IsX H a C/\iQ K C/\PySem.W.kitOne K (.ref C) (.type n)=some b/\Q (.bl b) H
theorem GG {X:Cx}:b9 X (.builtin "isinstance") (HS X.K):=by
 intro pins s σ H xs us Q I r h;obtain⟨a,C,c,u,b,rfl,hs,k,⟨rfl,e⟩,q⟩:=h;obtain⟨v1,v2,rfl,r1,r2⟩:=AM r;obtain rfl:v1= .ref a:=r1;obtain rfl:v2= .ref u:=r2;obtain⟨φ,hs,hφ⟩:=hs;obtain⟨z,_⟩:=I.hok a _ hs;exact kia_one (v8 k) I.kIn (hφ _ z) e (fun z=>by cases z) fun tk=>⟨.bl b,H,I.tok tk,rfl,q⟩
theorem E3 {X:Cx}:b9 X (.builtin "isinstance") (AV X.K):=by
 intro pins s σ H xs us Q I r h;obtain⟨a,C,n,b,rfl,hs,k,e,q⟩:=h;obtain⟨v1,v2,rfl,r1,r2⟩:=AM r;obtain rfl:v1= .ref a:=r1;obtain rfl:v2= .type n:=r2;obtain⟨φ,hs,hφ⟩:=hs;obtain⟨z,_⟩:=I.hok a _ hs;exact kia_one (v8 k) I.kIn (hφ _ z) e (fun z=>by cases z) fun tk=>⟨.bl b,H,I.tok tk,rfl,q⟩
end L2
namespace L2
open PySem PySem.Spec PyProof.Rows PySem.W
theorem uX {P:Program}{w:World}{X:Cx}:jE (CXE P w) X E0:=fun _ _ _ _ _ _ _ h=>by
 obtain⟨_,_,_,_,_,_,_,_,_,_,_,_,_,_,_,q⟩:=h;exact q.elim
section
variable {X:Cx}{x:Str}{j:Nat}{p pos:Pos}{e v1 v2:Expr}{es:List Expr}{te:TE}{t:TJ}
end
theorem jB {C:Addr}{E:XK}{t:TA}{D:gE}{σ:St}{H:Hp} (h:t σ H fun vs H1=>vs.length<=sizeLine/\E (.ref C) none H1):DY C E t D σ H:=h
end L2
namespace L2
open PySem PySem.W
theorem t8:bootBuiltins "ValueError" =some (.type "ValueError"):=PyProof.Rows.Boot.«ValueError»
section
variable {K:Frag}{C D:Addr}{cd:ClassData}{b:Bool}
theorem NS (c:clsIn K D=some cd)(t:typeIn K (.ref D)=some (.type "type"))(sb:subIn K (.ref D) (.type "BaseException")=some true)(s:subIn K (.ref C) (.ref D)=some b):exmOne K (.ref C) (.ref D)=some b:=by
 unfold exmOne;rw[if_pos (by rw[sb];rfl)];show (if ((clsIn K D).isSome&&typeIn K (.ref D)==some (.type "type"))=true then subIn K (.ref C) (.ref D) else none)=_;rw[c,t,if_pos (by rfl)];exact s
theorem MY {n:String}(hm:kitMeta n=true)(s:subIn K (.ref C) (.type n)=some b):kitOne K (.ref C) (.type n)=some b:=by
 unfold kitOne;rw[if_neg (by intro h;cases (beq_iff_eq.mp h))];show (if kitMeta n=true then subIn K (.ref C) (.type n) else none)=_;rw[if_pos hm];exact s
end
theorem oF:kitMeta "ValueError" =true:=by decide +kernel
variable {K:Frag}{H:Hp}{Q:VK}
theorem M7 {a C D:Addr}{b:Bool} (e:H a=some (.ext (fV a C))) (k:iQ K C) (i:kitOne K (.ref C) (.ref D)=some b) (h:Q (.bl b) H):HS K [.ref a,.ref D] H Q:=⟨a,C,.ref D,D,b,rfl,⟨_,e,fun _ z=>z⟩,k,⟨rfl,i⟩,h⟩
theorem LG {a C:Addr}{n:String}{b:Bool} (e:H a=some (.ext (fV a C))) (k:iQ K C) (i:kitOne K (.ref C) (.type n)=some b) (h:Q (.bl b) H):AV K [.ref a,.ty n] H Q:=⟨a,C,n,b,rfl,⟨_,e,fun _ z=>z⟩,k,i,h⟩
end L2
namespace L2
open PySem PySem.W
theorem tS {X:Cx}(K:Frag)(h:X.K=K):b9 X (.builtin "isinstance") (HS K):=by
 subst h;exact GG
theorem CC {X:Cx}(K:Frag)(h:X.K=K):b9 X (.builtin "isinstance") (AV K):=by
 subst h;exact E3
end L2
set_option maxHeartbeats 4000000
namespace L2
open PySem PySem.Spec PyProof.Rows
section
variable {X:Cx}{pins:List (Addr×Obj)}{σ:St}{H:Hp}{s:Shared}
end
section
variable {X:Cx}{CX:CXT}{k k':Nat}{sp:Sp}{E:XK}{x y:Str}{p pos:Pos}{e:Expr}{es:List Expr}{t:TA}{i:Nat}{c:Addr}
end
section
variable {P:Program}{w:World}{K:PySem.W.Frag}{mg:Str->Option Value}{base:Heap}
end
section
variable {X:Cx}{k k':Nat}{x:Str}{p pos:Pos}{e:Expr}{es:List Expr}{t:TA}
end
section
variable {X:Cx}{args:Arguments}{body:Expr}{lsc:Scope}{pos:Pos}{y:Str}{c cL PL:Addr}
end
end L2
namespace L2
open PySem PySem.Spec PyProof.Rows
section
variable {P:Program}{w:World}{K:PySem.W.Frag}{mg:Str->Option Value}{base:Heap}
end
section
variable {X:Cx}{o:Expr}{to:TE}{ap pos:Pos}
end
section
variable {X:Cx}{k k':Nat}{sp:Sp}{x m:Str}{p pos apos:Pos}{e:Expr}{es:List Expr}{t:TA}{dvs:List V}
end
end L2
namespace L2
open PySem PySem.Spec PyProof.Rows
section
variable {P:Program}{w:World}
end
section
variable {P:Program}{w:World}{K:PySem.W.Frag}{mg:Str->Option Value}{base:Heap}
end
section
variable {X:Cx}{st:Stmt}{rest:List Stmt}{t:TS}{u:gE->(St->V->Hp->Prop)->St->Hp->Prop}{e:Expr}{te:TE}{pos:Pos}
end
section
variable {P:Program}{w:World}{K:PySem.W.Frag}{mg:Str->Option Value}{base:Heap}
end
section
open PySem.W
variable {X:Cx}{i j:Nat}{n x y:Str}{T:Addr}{np yp hpos pos epos:Pos}{e:Expr}{tc:XK->TE}{b₀:Stmt}{suite:List Stmt}{ts:TS}
end
end L2
namespace L2
open PySem PySem.Spec PyProof.Rows
end L2
namespace L2
open PySem PySem.Spec PyProof.Rows
section
variable {X:Cx}
def NM (K:PySem.W.Frag):R2:=fun x y H Q=>∃a b xs,x= .ref a/\y= .ref b/\SqL K H a xs/\SqL K H b []/\Q (.bl (!xs.isEmpty)) H
theorem DV (hu:X.A.units<cLine):OpR X (compareOp .NotEq) (NM X.K):=by
 intro pins s σ H x y v u Q I rx ry h;obtain⟨a,b,xs,rfl,rfl,ha,hb,q⟩:=h;cases rx;cases ry;obtain⟨its,r,pl,hz⟩:=I.list ha;obtain⟨its2,r2,pl2,_⟩:=I.list hb;cases r2;cases xs with
 | nil =>
  cases r;refine SeqAt.RcNeAt.lists (e:=fun _=>true) pl.isList pl2.isList rfl hu (fun j h1=>absurd h1 (Nat.not_lt_zero _)) X.prog X.w X.xe _ ⟨.bl false,H,I,rfl,q⟩
 | cons x xs =>
  cases r with
  | cons r1 r2 =>
   exact SeqAt.RcNeAt.lists_lengths pl.isList pl2.isList (by simp) hu X.prog X.w X.xe _ ⟨.bl true,H,I,rfl,q⟩
theorem DW {K:PySem.W.Frag}{H:Hp}{Q:VK}{a b:Addr}{xs:List V} (ha:SqL K H a xs) (hb:SqL K H b []) (h:Q (.bl (!xs.isEmpty)) H):NM K (.ref a) (.ref b) H Q:=⟨a,b,xs,rfl,rfl,ha,hb,h⟩
end
end L2
namespace L2
open PySem PySem.Spec PyProof.Rows
section
variable {κ:Type}[DecidableEq κ]
def cC (kvs:List (κ×V))(k:κ):Option V:=(kvs.find? fun kv=>decide (kv.1=k)).map (·.2)
def dI (kvs:List (κ×V))(k:κ)(v:V):List (κ×V) :=
 if (kvs.any fun kv=>decide (kv.1=k))=true then kvs.map (fun kv=>if kv.1=k then (kv.1,v) else kv) else kvs++[(k,v)]
theorem cU {p:κ×V}{r:List (κ×V)}{k:κ} (e:p.1=k):cC (p::r) k=some p.2:=by simp[cC,List.find?_cons,e]
theorem cT {p:κ×V}{r:List (κ×V)}{k:κ} (e:¬p.1=k):cC (p::r) k=cC r k:=by simp[cC,List.find?_cons,e]
theorem mG (k:κ):∀kvs:List (κ×V),(kvs.any fun kv=>decide (kv.1=k))=(cC kvs k).isSome
 | []=>rfl
 | p::r=>by
  rw[List.any_cons]
  by_cases e:p.1=k
  ·simp only[cU e,decide_eq_true e,Bool.true_or,Option.isSome_some]
  ·rw[cT e,decide_eq_false e,Bool.false_or];exact mG k r
theorem w5 (k j:κ)(y:V):∀kvs:List (κ×V),cC (kvs.map fun kv=>if kv.1=k then (kv.1,y) else kv) j=(cC kvs j).map fun x=>if j=k then y else x
 | []=>rfl
 | p::r=>by
  have ih:=w5 k j y r;rw[List.map_cons]
  by_cases h:p.1=k
  ·rw[if_pos h]
   by_cases e:p.1=j
   ·rw[cU (p:=(p.1,y)) e,cU e,Option.map_some,if_pos (e.symm.trans h)]
   ·rw[cT (p:=(p.1,y)) e,cT e,ih]
  ·rw[if_neg h]
   by_cases e:p.1=j
   ·rw[cU (p:=p) e,cU e,Option.map_some,if_neg (fun z=>h (e.trans z))]
   ·rw[cT (p:=p) e,cT e,ih]
theorem tG (k j:κ)(y:V):∀kvs:List (κ×V),cC kvs k=none->cC (kvs++[(k,y)]) j=if j=k then some y else cC kvs j
 | [],_=>by
  by_cases e:k=j
  ·rw[if_pos e.symm];exact cU (p:=(k,y)) e
  ·rw[if_neg (fun z=>e z.symm)];exact cT (p:=(k,y)) e
 | p::r,hn=>by
  rw[List.cons_append];have hk:¬p.1=k:=fun z=>by rw[cU z]at hn;cases hn
  rw[cT hk]at hn;have ih:=tG k j y r hn
  by_cases e:p.1=j
  ·rw[cU e,cU e,if_neg (fun z=>hk (e.trans z))]
  ·rw[cT e,cT e,ih]
theorem HG (kvs:List (κ×V))(k j:κ)(y:V):cC (dI kvs k y) j=if j=k then some y else cC kvs j:=by
 unfold dI
 by_cases a:(kvs.any fun kv=>decide (kv.1=k))=true
 ·rw[if_pos a,w5];rw[mG]at a
  by_cases e:j=k
  ·obtain⟨x,hx⟩:=Option.isSome_iff_exists.mp a;rw[if_pos e,e,hx,Option.map_some,if_pos rfl]
  ·rw[if_neg e];cases cC kvs j with
   | none=>rfl
   | some x=>rw[Option.map_some,if_neg e]
 ·rw[if_neg a];refine tG k j y kvs ?_;rw[mG]at a;cases q:cC kvs k with
  | none=>rfl
  | some x=>rw[q]at a;exact(a rfl).elim
theorem fL (kvs:List (κ×V))(k:κ)(v:V):(dI kvs k v).length<=kvs.length+1:=by
 unfold dI
 split
 ·rw[List.length_map];lia
 ·rw[List.length_append,List.length_cons,List.length_nil];lia
theorem RelO.isSome_eq {o:Option V}{u:Option Value} (r:RelO o u):o.isSome=u.isSome:=by
 cases o with
 | none=>cases u with
  | none=>rfl
  | some _=>exact(show False from r).elim
 | some _=>cases u with
  | none=>exact(show False from r).elim
  | some _=>rfl
theorem RelO.getD {o:Option V}{u:Option Value}{d:V}{d':Value} (r:RelO o u) (rd:RelV d d'):RelV (o.getD d) (u.getD d'):=by
 cases o with
 | none=>cases u with
  | none=>exact rd
  | some _=>exact(show False from r).elim
 | some _=>cases u with
  | none=>exact(show False from r).elim
  | some _=>exact r
theorem KV.val {kvs:List (κ×V)}{vs:List (κ×Value)} (r:KV kvs vs) (k:κ):RelO (cC kvs k) (valueAt vs k):=by
 unfold KV at r
 induction r with
 | nil=>exact True.intro
 | @cons p q ps qs h t ih =>
  obtain⟨h1,h2⟩:=h
  by_cases e:p.1=k
  ·have e':q.1=k:=h1.symm.trans e;have b:valueAt (q::qs) k=some q.2:=by simp[valueAt,List.find?_cons,e']
   rw[cU e,b];exact h2
  ·have e':¬q.1=k:=fun z=>e (h1.trans z);have b:valueAt (q::qs) k=valueAt qs k:=by simp[valueAt,List.find?_cons,e']
   rw[cT e,b];exact ih
theorem KV.any {kvs:List (κ×V)}{vs:List (κ×Value)} (r:KV kvs vs) (k:κ):(kvs.any fun kv=>decide (kv.1=k))=vs.any fun kv=>decide (kv.1=k):=by
 unfold KV at r
 induction r with
 | nil=>rfl
 | cons h t ih=>rw[List.any_cons,List.any_cons,ih,h.1]
theorem KV.repl {kvs:List (κ×V)}{vs:List (κ×Value)} (r:KV kvs vs) (k:κ) {y:V}{u:Value} (ry:RelV y u) :
  KV (kvs.map fun kv=>if kv.1=k then (kv.1,y) else kv) (vs.map fun kv=>if kv.1=k then (kv.1,u) else kv):=by
 unfold KV at r ⊢
 induction r with
 | nil=>exact .nil
 | @cons p q ps qs h t ih =>
  rw[List.map_cons,List.map_cons];refine .cons ?_ ih;obtain⟨h1,h2⟩:=h
  by_cases e:p.1=k
  ·rw[if_pos e,if_pos (h1.symm.trans e)];exact⟨h1,ry⟩
  ·rw[if_neg e,if_neg (fun z=>e (h1.trans z))];exact⟨h1,h2⟩
theorem KV.put {kvs:List (κ×V)}{vs:List (κ×Value)} (r:KV kvs vs) (k:κ) {y:V}{u:Value} (ry:RelV y u):KV (dI kvs k y) (stored vs k u):=by
 unfold dI stored;rw[r.any k]
 by_cases e:(vs.any fun kv=>decide (kv.1=k))=true
 ·rw[if_pos e,if_pos e];exact r.repl k ry
 ·rw[if_neg e,if_neg e];exact Paired.snoc r ⟨rfl,ry⟩
theorem KV.length {kvs:List (κ×V)}{vs:List (κ×Value)} (r:KV kvs vs):kvs.length=vs.length:=Paired.length r
end
theorem BD {P:Program}{w:World}{k:Key}{u:Value} (r:RelV (kV k) u):(cK P w).is k u=true:=by
 cases k with
 | inl i=>obtain⟨t,e⟩:=(show ∃t,u=Value.int i t from r);subst e;exact yF P w i t
 | inr x=>obtain⟨t,e⟩:=(show ∃t,u=Value.str x t from r);subst e;exact xY P w x t
theorem MD {a b:Key}(e:kV a=kV b):a=b:=by
 cases a with
 | inl i=>cases b with
  | inl j=>have e':V.int i=V.int j:=e;injection e' with e';rw[e']
  | inr y=>exact nomatch (show V.int i=V.str y from e)
 | inr x=>cases b with
  | inl j=>exact nomatch (show V.str x=V.int j from e)
  | inr y=>have e':V.str x=V.str y:=e;injection e' with e';rw[e']
theorem zB:∀{a b:List Key},a.map kV=b.map kV->a=b
 | [],[],_=>rfl
 | [],_::_,e=>by simp at e
 | _::_,[],e=>by simp at e
 | x::xs,y::ys,e=>by
  rw[List.map_cons,List.map_cons]at e;injection e with e1 e2;rw[MD e1,zB e2]
theorem tJ {P:Program}{w:World}:∀{ks:List Key}{us:List Value},Vals (ks.map kV) us->ItemsAre (cK P w) ks us
 | [],_,r=>by rw[List.map_nil]at r;cases r;exact .nil
 | k::ks,_,r=>by
  rw[List.map_cons]at r;cases r with
  | cons h t=>exact .cons (BD h) (tJ t)
abbrev KT (H:Hp):List (List Key×V)->List (List Key×Addr×Value)->Prop:=Paired fun p q=>p.1=q.1/\H q.2.1=some (.tup (p.1.map kV))/\RelV p.2 q.2.2
theorem KT.val {H:Hp}{kvs:List (List Key×V)}{xs:List (List Key×Addr×Value)} (r:KT H kvs xs) (k:List Key):RelO (cC kvs k) ((atKey xs k).map (·.2)):=by
 induction r with
 | nil=>exact True.intro
 | @cons p q ps qs h t ih =>
  obtain⟨h1,_,h2⟩:=h
  by_cases e:p.1=k
  ·have e':q.1=k:=h1.symm.trans e;have b:atKey (q::qs) k=some q.2:=by simp[atKey,List.find?_cons,e']
   rw[cU e,b];exact h2
  ·have e':¬q.1=k:=fun z=>e (h1.trans z);have b:atKey (q::qs) k=atKey qs k:=by simp[atKey,List.find?_cons,e']
   rw[cT e,b];exact ih
theorem KT.repl {H:Hp}{kvs:List (List Key×V)}{xs:List (List Key×Addr×Value)} (r:KT H kvs xs) (k:List Key) {y:V}{u:Value} (ry:RelV y u) :
  KT H (kvs.map fun kv=>if kv.1=k then (kv.1,y) else kv) (xs.map (putAt k u)):=by
 induction r with
 | nil=>exact .nil
 | @cons p q ps qs h t ih =>
  rw[List.map_cons,List.map_cons];refine .cons ?_ ih;obtain⟨h1,h2,h3⟩:=h;unfold putAt
  by_cases e:p.1=k
  ·rw[if_pos e,if_pos (h1.symm.trans e)];exact⟨h1,h2,ry⟩
  ·rw[if_neg e,if_neg (fun z=>e (h1.trans z))];exact⟨h1,h2,h3⟩
theorem KT.put {H:Hp}{kvs:List (List Key×V)}{xs:List (List Key×Addr×Value)} (r:KT H kvs xs) (k:List Key) {b:Addr}{y:V}{u:Value} (hb:H b=some (.tup (k.map kV))) (ry:RelV y u) :
  KT H (dI kvs k y) (storedH xs k b u):=by
 have e:(kvs.any fun kv=>decide (kv.1=k))=(atKey xs k).isSome:=by
  rw[mG,(r.val k).isSome_eq,Option.isSome_map]
 unfold dI storedH;rw[e]
 by_cases q:(atKey xs k).isSome=true
 ·rw[if_pos q,if_pos q];exact r.repl k ry
 ·rw[if_neg q,if_neg q];exact Paired.snoc r ⟨rfl,hb,ry⟩
theorem KT.keeps {H H':Hp}{kvs:List (List Key×V)}{xs:List (List Key×Addr×Value)} (r:KT H kvs xs) (ht:∀b ys,H b=some (.tup ys)->H' b=some (.tup ys)):KT H' kvs xs :=
 Paired.mapP r fun _ _ z=>⟨z.1,ht _ _ z.2.1,z.2.2⟩
section
variable {P:Program}{w:World}{H:Hp}{h:Heap}{a:Addr}
theorem I0 {u:HO}(ok:HOk P w H h)(e:Rd H a u):ObjOk P w H h a u:=e.ok ok
theorem AU {kvs:List (Key×V)}(ok:HOk P w H h)(e:Rd H a (.dK kvs)):kvs.length<=sizeLine/\(a==sysModules)=false/\∃vs,KV kvs vs/\h.DictOf (cK P w) a vs :=
 show ObjOk P w H h a (.dK kvs) from I0 ok e
theorem OZ {kvs:List (Key×V)}(ok:HOk P w H h)(e:H a=some (.dK kvs)):kvs.length<=sizeLine/\(a==sysModules)=false/\∃vs,KV kvs vs/\h.DictOf (cK P w) a vs:=AU ok (.inl e)
theorem wH {ks:List Key}(ok:HOk P w H h)(e:H a=some (.tup (ks.map kV))):(tupleKind (cK P w)).is h ks a:=by
 obtain⟨_,its,r,o,h1,h2,n,h3⟩:=(show ObjOk P w H h a (.tup (ks.map kV)) from ok a _ e)
 exact⟨o,its.toArray,n,h1,h2,h3,by simpa using tJ r⟩
theorem A3 {kvs:List (List Key×V)}(ok:HOk P w H h)(e:Rd H a (.dT kvs)):kvs.length<=sizeLine/\(a==sysModules)=false ∧
  ∃xs,KT H kvs xs/\h.DictOfH (tupleKind (cK P w)) a xs:=by
 obtain⟨z,y,xs,r,o,es,ep,h1,h2,h3,h4,h5⟩:=(show ObjOk P w H h a (.dT kvs) from I0 ok e)
 refine⟨z,y,xs,r,o,es,ep,h1,h2,h3,h4,fun x hx=> ?_,h5⟩;have all:∀{l:List (List Key×V)}{m:List (List Key×Addr×Value)},KT H l m->∀x∈m,(tupleKind (cK P w)).is h x.1 x.2.1:=by
  intro l m q
  induction q with
  | nil=>intro x hx;exact nomatch hx
  | @cons p q ps qs hq t ih =>
   intro x hx;rcases List.mem_cons.mp hx with e|hx
   ·subst e;exact wH ok (by rw[←hq.1];exact hq.2.1)
   ·exact ih x hx
 exact all r x hx
theorem PN {kvs:List (List Key×V)}(ok:HOk P w H h)(e:H a=some (.dT kvs)):kvs.length<=sizeLine/\(a==sysModules)=false ∧
  ∃xs,KT H kvs xs/\h.DictOfH (tupleKind (cK P w)) a xs:=A3 ok (.inl e)
end
def DGet (H:Hp)(a:Addr)(y:V)(r:Option V):Prop :=
 (∃kvs k,Rd H a (.dK kvs)/\y=kV k/\r=cC kvs k)∨∃kvs k b,Rd H a (.dT kvs)/\y= .ref b/\H b=some (.tup (k.map kV))/\r=cC kvs k
def DPut (H:Hp)(a:Addr)(y v:V)(H':Hp):Prop :=
 (∃kvs k,H a=some (.dK kvs)/\y=kV k/\kvs.length<sizeLine/\H'=upd H a (.dK (dI kvs k v))) ∨
 ∃kvs k b,H a=some (.dT kvs)/\y= .ref b/\H b=some (.tup (k.map kV))/\kvs.length<sizeLine/\H'=upd H a (.dT (dI kvs k v))
theorem DGet.t {H:Hp}{a b:Addr}{kvs:List (List Key×V)}{k:List Key} (e:H a=some (.dT kvs)) (eb:H b=some (.tup (k.map kV))):DGet H a (.ref b) (cC kvs k):= .inr ⟨kvs,k,b,.inl e,rfl,eb,rfl⟩
theorem DPut.t {H:Hp}{a b:Addr}{kvs:List (List Key×V)}{k:List Key}{v:V} (e:H a=some (.dT kvs)) (eb:H b=some (.tup (k.map kV))) (hl:kvs.length<sizeLine) :
  DPut H a (.ref b) v (upd H a (.dT (dI kvs k v))):= .inr ⟨kvs,k,b,e,rfl,eb,hl,rfl⟩
section
variable {X:Cx}{pins:List (Addr×Obj)}{σ:St}{H:Hp}{s:Shared}{a:Addr}{y v:V}{u r:Value}{o:Option V}{A:Around}{E:Value->Shared->Prop}
theorem Inv.big (I:Inv X pins σ H s):sysModules<s.heap.objs.size:=by
 have h:mainGlobals<s.heap.objs.size:=(I.mod.glob.keeps I.bk).lt;exact Nat.lt_trans (by decide) h
theorem zK {h':Heap}{t':Nat}{ob:HO} (I:Inv X pins σ H s) (mu:Mut (H a)) (hs:Heap.SameBut a s.heap h') (he:∃q,h'.get? a=some q) (new:ObjOk X.prog X.w (upd H a ob) h' a ob) :
  Inv X pins σ (upd H a ob) { s with heap:=h',toks:=t' } :=
 I.write (x:=a) (e:=a) mu (.inl rfl) (fun b q hb z=>(hs.2 b hb).trans z) he new
theorem LQ {P:Program}{w:World}{H':Hp}{h':Heap}{kvs:List (Key×V)}{vs:List (Key×Value)} (z:kvs.length<=sizeLine) (hd:(a==sysModules)=false) (rel:KV kvs vs) (dd:h'.DictOf (cK P w) a vs) :
  ObjOk P w H' h' a (.dK kvs):=⟨z,hd,vs,rel,dd⟩
theorem DL {H':Hp}{Q:Unit->Shared->Prop} (hu:A.units+1<cLine) (I:Inv X pins σ H s) (g:DPut H a y v H') (ry:RelV y u) (rv:RelV v r) (h:∀s',Inv X pins σ H' s'->Q () s') :
  wpAny (model X.prog X.w) A (setItem (.ref a) u r) Q E s:=by
 rcases g with⟨kvs,k,e,ey,l,eH⟩|⟨kvs,k,b,e,ey,eb,l,eH⟩
 ·subst ey eH;obtain⟨z,hd,vs,rel,dd⟩:=OZ I.hok e;have hz:vs.length<=sizeLine:=by rw[←rel.length];exact z
  have hl:(dI kvs k v).length<=sizeLine:=by have:=fL kvs k v;lia
  refine wpAny_setItem_pairs (hsz:=hz) (BD ry) dd fun h' dd' hs=>h _ ?_;have he:∃q,h'.get? a=some q:=let ⟨q,_,_,hq,_⟩:=dd';⟨q,hq⟩;exact zK I (by rw[e];exact True.intro) hs he (LQ hl hd (rel.put k rv) dd')
 ·subst ey eH;cases (show u=Value.ref b from ry);obtain⟨z,hd,xs,rel,dd⟩:=PN I.hok e;have hz:xs.length<=sizeLine:=by rw[←Paired.length rel];exact z
  have hl:(dI kvs k v).length<=sizeLine:=by have:=fL kvs k v;lia
  refine wpAny_setItem_heap (hsz:=hz) (tupleKind_room_in1 hu) (wH I.hok eb) dd fun h' dd' hs=>h _ ?_;obtain⟨q,es,ep,hq,h2,h3,h4,_,h5⟩:=dd';refine zK I (by rw[e];exact True.intro) hs ⟨q,hq⟩ ⟨hl,hd,_,(rel.put k eb rv).keeps fun c ys ec=> ?_,q,es,ep,hq,h2,h3,h4,h5⟩;rw[aI (OP ec e (fun z=>nomatch z))];exact ec
end
section
variable {X:Cx}{pins:List (Addr×Obj)}{σ:St}{H:Hp}{s:Shared}{a:Addr}{kvs:List (Key×V)}{k:Key}{u:Value}{A:Around}{E:Value->Shared->Prop}
end
def IO (td ty tv:TE):TS:=fun D σ H=>tv σ H fun v H1=>td σ H1 fun x H2=>ty σ H2 fun y H3=>∃a H4,x= .ref a/\DPut H3 a y v H4/\D.nx σ H4
section
variable {X:Cx}{o i e value:Expr}{pos pos' tpos:Pos}{td ty tv:TE}
theorem rG (hu:X.A.units+1<cLine)(ho:PE X o td)(hi:PE X i ty)(hv:PE X value tv)(hs:swapsWith value (some (.Subscript o i pos')) pos.line X.env=pure false) :
  PS X (.Assign [.Subscript o i pos'] value pos) (IO td ty tv):=by
 intro pins s σ H D I h;refine wpAny_Assign_Subscript (thn (hv pins s σ H _ I h) fun r s1 ⟨v,H1,I1,rv,q1⟩=>thn (ho pins s1 σ H1 _ I1 q1) fun u s2 ⟨x,H2,I2,rx,q2⟩=>thn (hi pins s2 σ H2 _ I2 q2) fun iv s3 ⟨y,H3,I3,ry,a,H4,ex,g,q3⟩=> ?_) hs;subst ex;obtain rfl:u=Value.ref a:=rx;exact DL hu I3 g ry rv fun s4 I4=>⟨σ,H4,I4,q3⟩
end
theorem GH {P:Program}{w:World}{H:Hp} (h:Heap) (hb:sysModules<h.objs.size):ObjOk P w H (h.push { cls:= .type "dict",data:= .dict #[] }) h.objs.size (.dT []) :=
 ⟨Nat.zero_le _,beq_eq_false_iff_ne.mpr (Ne.symm (Nat.ne_of_lt hb)),[],.nil,_,#[],0,Heap.get?_push_size _ rfl,⟨rfl,rfl,rfl⟩,rfl,rfl,List.nodup_nil⟩
def CV:TE:=fun _ H Q=>∀p,H p=none->Q (.ref p) (upd H p (.dT []))
section
variable {X:Cx}{pos:Pos}
theorem w6:PE X (.Dict [] [] pos) CV:=fun pins s σ H Q I h =>
 wpAny_Dict_empty ⟨.ref s.heap.objs.size,_,I.laid (a:=s.heap.objs.size) (o:= .dT []) (t':=s.toks) (fun _ _ q=>Heap.get?_push_of_some _ q) (Nat.le_refl _) (GH s.heap I.big),rfl,h _ (I.hok.fresh (Nat.le_refl _))⟩
end
structure M2 (X:Cx)(o:Expr)(m:Str)(apos:Pos)(e f:Expr)(cpos:Pos):Prop where
 base:attributeBase o m X.env (eval o X.env)=eval o X.env
 few:((backTo cpos (starEach [e,f] X.env)).all (fun x=> !x.1)&&(backToKw cpos (keywordEach [] X.env)).all (fun x=>x.1.isSome)
  && decide (([e,f]:List Expr).length+([]:List Keyword).length+(if ([]:List Keyword).isEmpty then 0 else 1)<30))=true
 line:(apos.endLine==cpos.line)=true
 trees:backTo cpos (starEach [e,f] X.env)=[(false,eval e X.env),(false,eval f X.env)]
def IsD (H:Hp)(a:Addr):Prop:=(∃kvs,Rd H a (.dK kvs))∨∃kvs,Rd H a (.dT kvs)
theorem CS {X:Cx}{pins:List (Addr×Obj)}{σ:St}{H:Hp}{s:Shared}{a:Addr} (I:Inv X pins σ H s) (d:IsD H a) :
  s.TypeIs (.ref a) "dict" /\(∀b,Value.ref a= .ref b->∃ob,s.heap.get? b=some ob/\ob.dict=none)/\(a==sysModules)=false:=by
 rcases d with⟨kvs,e⟩|⟨kvs,e⟩
 ·obtain⟨_,hd,vs,_,dd⟩:=AU I.hok e;refine⟨dd.typeIs,fun b q=> ?_,hd⟩;cases q;obtain⟨ob,_,_,h1,h2,_⟩:=dd;exact⟨ob,h1,h2.2.1⟩
 ·obtain⟨_,hd,xs,_,dd⟩:=A3 I.hok e;refine⟨dd.typeIs,fun b q=> ?_,hd⟩;cases q;obtain⟨ob,_,_,h1,h2,_⟩:=dd;exact⟨ob,h1,h2.2.1⟩
section
variable {X:Cx}{pins:List (Addr×Obj)}{σ:St}{H:Hp}{s:Shared}{a:Addr}{y d:V}{u r:Value}{o:Option V}{A:Around}{E:Value->Shared->Prop}
theorem NB {Q:Value->Shared->Prop}(hu:A.units+1<cLine)(I:Inv X pins σ H s)(g:DGet H a y o)(ry:RelV y u)(rd:RelV d r)(h:∀w' s',Inv X pins σ H s'->RelV (o.getD d) w'->Q w' s') :
  wpAny (model X.prog X.w) A (call (.builtin "dict.get") [.ref a,u,r]) Q E s:=by
 rcases g with⟨kvs,k,e,ey,l⟩|⟨kvs,k,b,e,ey,eb,l⟩
 ·subst ey;obtain⟨z,hd,vs,rel,dd⟩:=AU I.hok e;refine call_meetsIn PySem.F.slot_dict_get dd.typeIs PySem.F.entry_dict_get (PySem.F.args_dict_get_3 _ _ _) (meets_dict_get_default (cK X.prog X.w) a (BD ry) hd r) ⟨_,dd.mapOf,h _ _ (I.tok _) ?_⟩;rw[l];exact(rel.val k).getD rd
 ·subst ey;cases (show u=Value.ref b from ry);obtain⟨z,hd,xs,rel,dd⟩:=A3 I.hok e;refine call_meetsIn PySem.F.slot_dict_get dd.typeIs PySem.F.entry_dict_get (PySem.F.args_dict_get_3 _ _ _) (meetsH_dict_get_default (tupleKind (cK X.prog X.w)) a b hd r) ⟨tupleKind_room_in1 hu,k,xs,wH I.hok eb,dd,h _ _ (I.tok _) ?_⟩;rw[l];exact(rel.val k).getD rd
end
def C0 (td ty tx:TE):TE:=fun σ H Q=>td σ H fun x H1=>∃a,x= .ref a/\IsD H1 a/\ty σ H1 fun y H2=>tx σ H2 fun z H3=>∃o,DGet H3 a y o/\Q (o.getD z) H3
section
variable {X:Cx}{o e f:Expr}{apos cpos:Pos}{td ty tx:TE}
theorem F0 (hu:X.A.units+1<cLine)(ho:PE X o td)(he:PE X e ty)(hf:PE X f tx)(m:M2 X o "get" apos e f cpos):PE X (.Call (.Attribute o "get" apos) [e,f] [] cpos) (C0 td ty tx):=by
 intro pins s σ H Q I h;refine wpAny_Call_method m.base m.few m.line PySem.F.plainAttrs_dict PySem.F.slot_dict_get PySem.F.type_dict_get (thn (ho pins s σ H _ I h) fun u s1 ⟨x,H1,I1,rx,a,ex,d,q1⟩=> ?_);subst ex;obtain rfl:u=Value.ref a:=rx;obtain⟨t1,t2,_⟩:=CS I1 d;refine⟨t1,t2,?_⟩;rw[m.trees];refine Calls.callWith_builtin rfl (Calls.evalArgs_plain (Calls.spliced_cons (thn (he pins s1 σ H1 _ I1 q1) fun iv s2 ⟨y,H2,I2,ry,q2⟩ =>
  Calls.spliced_cons (thn (hf pins s2 σ H2 _ I2 q2) fun fv s3 ⟨z,H3,I3,rz,ov,g,q3⟩=>Calls.spliced_nil ?_))))
 exact NB hu I3 g ry rz fun w' s4 I4 rw'=>⟨_,H3,I4,rw',q3⟩
end
section
variable {X:Cx}{pins:List (Addr×Obj)}{σ:St}{H:Hp}{s:Shared}{a:Addr}{kvs:List (Key×V)}{A:Around}{E:Value->Shared->Prop}
end
section
variable {X:Cx}{pins:List (Addr×Obj)}{σ:St}{H:Hp}{s:Shared}{a:Addr}{y:V}{u:Value}{A:Around}{E:Value->Shared->Prop}
end
end L2
namespace L2
open PySem PySem.Spec PyProof.Rows
section
variable {κ:Type}[DecidableEq κ]
theorem zO:∀{l:List κ}{k:κ},l.Nodup->¬k∈l->(l++[k]).Nodup
 | [],k,_,_=>by simp
 | a::r,k,h,hk=>by
  obtain⟨h1,h2⟩:=List.nodup_cons.mp h;show (a::(r++[k])).Nodup;refine List.nodup_cons.mpr ⟨fun m=> ?_,zO h2 fun m=>hk (List.mem_cons.mpr (Or.inr m))⟩;rcases List.mem_append.mp m with q|q
  ·exact h1 q
  ·exact hk (List.mem_cons.mpr (Or.inl (List.mem_singleton.mp q).symm))
end
end L2
namespace L2
open PySem PySem.W PyProof.Rows
def aM {α:Type}(c:Nat->Nat->Bool):KasT α->α
 | .ret a=>a
 | .ask i j k=>aM c (k (c i j))
def KasIn {α:Type}(n:Nat)(R:α->Prop):KasT α->Prop
 | .ret a=>R a
 | .ask i j k=>i<n/\j<n/\∀b,KasIn n R (k b)
theorem KasIn.bind {α β:Type}{n:Nat}{R:α->Prop}{S:β->Prop}{f:α->KasT β} (hf:∀a,R a->KasIn n S (f a)):∀{t:KasT α},KasIn n R t->KasIn n S (t.bind f)
 | .ret _,h=>hf _ h
 | .ask _ _ _,h=>⟨h.1,h.2.1,fun b=>KasIn.bind hf (h.2.2 b)⟩
theorem KasIn.val {α:Type}{n:Nat}{R:α->Prop} (c:Nat->Nat->Bool):∀{t:KasT α},KasIn n R t->R (aM c t)
 | .ret _,h=>h
 | .ask i j k,h=>KasIn.val c (t:=k (c i j)) (h.2.2 (c i j))
theorem KasIn.wp {α:Type}{n:Nat}{R:α->Prop}{c:Nat->Nat->Bool}{cmp:Nat->Nat->(Bool->Shared->Prop)->Shared->Prop}{s:Shared} (hc:∀i j,i<n->j<n->∀C,C (c i j) s->cmp i j C s) {Q:α->Shared->Prop} :
  ∀{t:KasT α},KasIn n R t->Q (aM c t) s->t.kasWp cmp Q s
 | .ret _,_,q=>q
 | .ask i j k,h,q=>hc i j h.1 h.2.1 _ (KasIn.wp hc (t:=k (c i j)) (h.2.2 (c i j)) q)
abbrev Places (n:Nat)(p:Array Nat):Prop:=p.Perm (List.range n).toArray
theorem Places.lt {n:Nat}{p:Array Nat} (h:Places n p) (h0:0<n) (i:Nat):p.getD i 0<n:=by
 by_cases hi:i<p.size
 ·have e:p.getD i 0=p[i]:=by simp[Array.getD,hi]
  rw[e];have:=h.mem_iff.mp (Array.getElem_mem hi)
  simpa using this
 ·have e:p.getD i 0=0:=by simp[Array.getD,hi]
  rw[e];exact h0
theorem gD {n:Nat}{p:Array Nat} (h:Places n p) (i j:Nat):Places n (kas_rev p i j):=(mirror_perm _ _ _ _).trans h
theorem vI {n:Nat}{p:Array Nat} (h0:0<n) (hp:Places n p):∀(f k:Nat),KasIn n (fun _=>True) (kas_asc p f k)
 | 0,_=>trivial
 | f+1,k=>⟨hp.lt h0 _,hp.lt h0 _,fun b=>by cases b with|true=>exact trivial|false=>exact vI h0 hp f (k+1)⟩
theorem oZ {n:Nat}(h0:0<n):∀(f:Nat) {p:Array Nat},Places n p->∀k q,KasIn n (fun r:Array Nat×Nat×Nat=>Places n r.1) (kas_desc f p k q)
 | 0,_,hp,_,_=>hp
 | f+1,p,hp,k,q=>by
  refine⟨hp.lt h0 _,hp.lt h0 _,fun b=> ?_⟩;cases b with
  | true =>
   show KasIn n _ (if q>0 then _ else _)
   split
   ·exact oZ h0 f (gD hp _ _) _ _
   ·exact oZ h0 f hp _ _
  | false =>
   refine⟨hp.lt h0 _,hp.lt h0 _,fun b=> ?_⟩;cases b with
   | true=>exact hp
   | false=>exact oZ h0 f hp _ _
theorem vU {n k m:Nat}{p:Array Nat} (h0:0<n) (hp:Places n p):KasIn n (fun r:Nat×Array Nat=>Places n r.2) (kas_tail3 k m p) :=
 KasIn.bind (R:=fun _=>True) (S:=fun r:Nat×Array Nat=>Places n r.2) (f:=fun j=> .ret (j,kas_rev p 0 k)) (fun _ _=>gD hp 0 k) (vI h0 (gD hp 0 k) (m - k) k)
theorem o9 {n k m:Nat}{p:Array Nat} (h0:0<n) (hp:Places n p):KasIn n (fun r:Nat×Array Nat=>Places n r.2) (kas_descPart k m p) :=
 KasIn.bind (fun r hr=>by
  split
  ·exact vU h0 (gD hr _ _)
  ·exact vU h0 hr) (oZ h0 _ hp _ _)
theorem F2 {n m:Nat}{p:Array Nat} (h0:0<n) (hp:Places n p):KasIn n (fun r:Nat×Array Nat=>Places n r.2) (kas_count m p) :=
 KasIn.bind (fun k _=>by
  split
  ·exact hp
  ·split
   ·refine⟨hp.lt h0 _,hp.lt h0 _,fun b=> ?_⟩;cases b with
    | true=>exact hp
    | false=>exact o9 h0 (gD hp _ _)
   ·exact o9 h0 hp) (vI h0 hp _ _)
theorem pR {n k:Nat}{p:Array Nat} (h0:0<n) (hp:Places n p):∀(f l r:Nat),KasIn n (fun _=>True) (kas_place p k f l r)
 | 0,_,_=>trivial
 | f+1,l,r=>by
  unfold kas_place
  split
  ·exact trivial
  ·refine⟨hp.lt h0 _,hp.lt h0 _,fun b=> ?_⟩;cases b with
   | true=>exact pR h0 hp f _ _
   | false=>exact pR h0 hp f _ _
theorem EO {n:Nat}(h0:0<n):∀(f:Nat) {p:Array Nat} (k:Nat),Places n p->KasIn n (Places n) (kas_bin f p k)
 | 0,_,_,hp=>hp
 | f+1,_,k,hp=>KasIn.bind (fun _ _=>EO h0 f (k+1) ((bubble_perm _ _ _).trans hp)) (pR h0 hp _ _ _)
theorem r9 {n:Nat}(h0:0<n):KasIn n (Places n) (kas_sort n) :=
 KasIn.bind (fun r hr=>by
  split
  ·exact EO h0 _ _ hr
  ·exact hr) (F2 h0 (Array.Perm.refl _))
def aY {α:Type}(d:α)(c:Nat->Nat->Bool)(l:List α):List α:=if l.length<2 then l else (aM c (kas_sort l.length)).toList.map fun i=>l.getD i d
theorem c5 {n:Nat}(c:Nat->Nat->Bool)(h:0<n):Places n (aM c (kas_sort n)):=(r9 h).val c
theorem kX {α:Type}(d:α)(c:Nat->Nat->Bool)(l:List α):(aY d c l).length=l.length:=by
 unfold aY
 split
 ·rfl
 ·have h:=(c5 (n:=l.length) c (by lia)).size_eq;rw[List.length_map,Array.length_toList,h];simp
end L2
namespace L2
open PySem PySem.W PyProof.Rows PySem.Calls
section
variable {prog:Program}{w:World}{A:Around}{E:Value->Shared->Prop}{s:Shared}
abbrev eL (a:Addr)(h h':Heap):Prop:=∀b o,b≠a->h.get? b=some o->h'.get? b=some o
theorem KI {a:Addr}{vs:List Value}{n:Nat}{P:PySem.Fin->Shared->Prop} (c:Nat->Nat->Bool) (κ:SortKind) (ho:s.heap.get? a=some (seqObj "list" vs.toArray n)) (h64:vs.length<64)
  (hk:2<=vs.length->∀h',eL a s.heap h'->∀R:SortKind->Shared->Prop,R κ { s with heap:=h' }->wpAny (model prog w) A (keyKind' vs.toArray) R (fun _ _=>False) { s with heap:=h' })
  (hc:2<=vs.length->∀h',eL a s.heap h'->∀i j,i<vs.length->j<vs.length->∀C,C (c i j) { s with heap:=h' }->kas_ask prog w A κ vs i j C { s with heap:=h' })
  (h:∀h' e,eL a s.heap h'->h'.get? a=some (seqObj "list" (aY Value.none c vs).toArray e)->P (.done (.ret .none)) { s with heap:=h' }) :
  wpAny (model prog w) A (Builtin.«list.sort» ⟨[.ref a],[]⟩) P E s:=by
 have lt:a<s.heap.objs.size:=Heap.lt_size ho;generalize hg1:s.heap.update a (Obj.mapSeq fun _=>(#[]:Array Value))=g1;have sb1:Heap.SameBut a s.heap g1:=hg1▸Heap.SameBut.update s.heap a (Obj.mapSeq fun _=>(#[]:Array Value));obtain⟨e1,o1⟩:∃e1,g1.get? a=some (seqObj "list" #[] e1):=hg1▸⟨_,get?_update_seq ho fun _=> #[]⟩;have lt1:a<g1.objs.size:=Heap.lt_size o1;have kp:eL a s.heap ((g1.push (seqObj "tuple" vs.toArray 0)).push (seqObj "list" #[] 0)):=fun b o hb q =>
  Heap.get?_push_of_some _ (Heap.get?_push_of_some _ ((sb1.2 b hb).trans q))
 have o3:((g1.push (seqObj "tuple" vs.toArray 0)).push (seqObj "list" #[] 0)).get? a=some (seqObj "list" #[] e1):=Heap.get?_push_of_some _ (Heap.get?_push_of_some _ o1);generalize hg3:(g1.push (seqObj "tuple" vs.toArray 0)).push (seqObj "list" #[] 0)=g3 at kp o3;have fin:∀out:List Value,out.length=vs.length->out=aY Value.none c vs->wpAny (model prog w) A (do
   let touched:=(←seqEpoch a) !=e1
   Builtin.List.listUpdate (.ref a) fun _=>out.toArray
   if let some e:=(none:Option Value) then rule "list.sort.comparison-raised";throw e
   if touched then rule "list.sort.modified";raiseError "ValueError" "list modified during sort"
   ret .none) P E { s with heap:=g3 }:=by
  intro out hl ho';obtain⟨e2,o4⟩:∃e2,(g3.update a (Obj.mapSeq fun _=>out.toArray)).get? a=some (seqObj "list" out.toArray e2):=⟨_,get?_update_seq o3 fun _=>out.toArray⟩
  refine wpAny_bind (seqEpoch_at (s:={ s with heap:=g3 }) o3 rfl ?_);refine wpAny_bind (listUpdate_at (s:={ s with heap:=g3 }) o3 rfl ?_ (Nat.zero_le _) (by rw[List.size_toArray,sizeLine_eq];lia));simp only[bne_self_eq_false,Bool.false_eq_true,if_false];refine wpAny_pure (h _ e2 (fun b o hb q=> ?_) (ho'▸o4));exact((Heap.SameBut.update g3 a (Obj.mapSeq fun _=>out.toArray)).2 b hb).trans (kp b o hb q)
 rw[list_sort_plain];refine wpAny_bind (listItems_at ho rfl (wpAny_bind (listUpdate_at ho rfl ?_ (by rw[List.size_toArray,sizeLine_eq];lia) (Nat.zero_le _))));rw[hg1];refine wpAny_bind (seqEpoch_at (s:={ s with heap:=g1 }) o1 rfl ?_);refine wpAny_bind (wpAny_newTuple ?_ (by show vs.length<=_;rw[sizeLine_eq];lia));refine wpAny_bind (wpAny_newList ?_ (Nat.zero_le _));refine wpAny_holding ?_;show wpAny (model prog w) A _ P E { s with heap:=(g1.push (seqObj "tuple" vs.toArray 0)).push (seqObj "list" #[] 0) };rw[hg3]
 dsimp only
 by_cases h2:vs.toArray.size<2
 ·rw[if_pos h2,if_pos h2];have h2':vs.length<2:=by rwa [List.size_toArray]at h2
  refine wpAny_bind (wpAny_pure ?_);rw[StateT.run_pure];refine wpAny_bind (wpAny_pure ?_)
  dsimp only
  have ez:(arrOf (SortSt.mk' general' (vs.toArray.zip vs.toArray) #[] 7 none)).map (·.2)=vs.toArray:=by
   show (vs.toArray.zip vs.toArray).map (·.2)=_
   apply Array.toList_inj.mp
   rw[Array.toList_map,Array.toList_zip,List.map_snd_zip];exact Nat.le_refl _
  rw[ez];exact fin vs rfl (by unfold aY;rw[if_pos h2'])
 ·rw[if_neg h2,if_neg h2];have h2':2<=vs.length:=by rw[List.size_toArray]at h2;lia
  refine wpAny_bind (wpAny_mono (hk h2' _ kp (fun κ' s'=>κ'=κ/\s'={ s with heap:=g3 }) ⟨rfl,rfl⟩) ?_ fun _ _ x=>x.elim);rintro _ _ ⟨rfl,rfl⟩;refine wpAny_bind (wpAny_mono (kat_run (Q:=fun st' s'=>∃p:Array Nat,p=aM c (kas_sort vs.length)/\arrOf st'=p.map (kas_item (vs.toArray.zip vs.toArray))/\failedOf st'=none/\s'={ s with heap:=g3 }) (G:=fun p s'=>p=aM c (kas_sort vs.length)/\s'={ s with heap:=g3 })
   rfl h2' h64 (fun p st' s' _ a2 a3 a4=>⟨p,a4.1,a2,a3,a4.2⟩) ((r9 (by lia)).wp (hc h2' _ kp) ⟨rfl,rfl⟩)) ?_ fun _ _ e=>e)
  rintro ⟨⟨⟩,st'⟩ _ ⟨p,rfl,har,hf,rfl⟩
  dsimp only
  rw[kat_snds rfl har,hf];have hz:=(c5 (n:=vs.length) c (by lia)).size_eq;exact fin _ (by rw[List.length_map,Array.length_toList,hz];simp) (by unfold aY;rw[if_neg (by lia)])
theorem ED {l:Addr}{vs:List Value}{Q:Value->Shared->Prop} (c:Nat->Nat->Bool) (κ:SortKind) (hl:s.heap.IsList l vs.toArray) (h64:vs.length<64)
  (hk:2<=vs.length->∀h',(∀b o,s.heap.get? b=some o->h'.get? b=some o)->∀R:SortKind->Shared->Prop,R κ { s with heap:=h' }->wpAny (model prog w) A.in1.in1 (keyKind' vs.toArray) R (fun _ _=>False) { s with heap:=h' })
  (hc:2<=vs.length->∀h',(∀b o,s.heap.get? b=some o->h'.get? b=some o)->∀i j,i<vs.length->j<vs.length->∀C,C (c i j) { s with heap:=h' }->kas_ask prog w A.in1.in1 κ vs i j C { s with heap:=h' })
  (h:∀D h' e,s.heap.objs.size<=D->(∀b o,s.heap.get? b=some o->h'.get? b=some o)->h'.get? D=some (seqObj "list" (aY Value.none c vs).toArray e)->Q (.ref D) { s with heap:=h' }) :
  wpAny (model prog w) A (call (.builtin "sorted") [.ref l]) Q E s:=by
 have hz64:vs.length<=sizeLine:=by rw[sizeLine_eq];lia
 refine Calls.call_function_entry kind_sorted plain_sorted entry_sorted (args_sorted1 _) ?_;unfold Builtin.«sorted»;refine wpAny_bind (m:=checkCount "sorted" 1 1 _) (wpAny_pure (wpAny_bind (collect_list hl ?_ hz64)));refine wpAny_bind (wpAny_newList ?_ hz64);generalize hq:(s.heap.push (seqObj "list" #[] 0)).update s.heap.objs.size (Obj.mapSeq (·++vs.toArray))=q;have qs:q.objs.size=s.heap.objs.size+1:=by rw[←hq,Heap.size_update,size_push']
 have qk:∀b o,s.heap.get? b=some o->q.get? b=some o:=fun b o e=>by
  have bl:b<s.heap.objs.size:=Heap.lt_size e;rw[←hq,Heap.get?_update_ne _ _ _ _ (Nat.ne_of_lt bl),Heap.get?_push_ne _ _ _ (Nat.ne_of_lt bl)];exact e
 have oD:(q.push (seqObj "list" vs.toArray 0)).get? q.objs.size=some (seqObj "list" vs.toArray 0):=Heap.get?_push_size _ rfl;have kD:∀h',eL q.objs.size (q.push (seqObj "list" vs.toArray 0)) h'->∀b o,s.heap.get? b=some o->h'.get? b=some o:=fun h' k b o e =>
  k b o (Nat.ne_of_lt (by rw[qs];exact Nat.lt_succ_of_lt (Heap.lt_size e))) (Heap.get?_push_of_some _ (qk b o e))
 refine wpAny_bind (wpAny_holding (wpAny_call_entry slot_list_sort ⟨_,oD,rfl⟩ entry_list_sort ?body (args_list_sort _)))
 case body =>
  refine KI (s:={ s with heap:=q.push (seqObj "list" vs.toArray 0) }) c κ oD h64 (fun h2 h' k=>hk h2 h' (kD h' k)) (fun h2 h' k=>hc h2 h' (kD h' k)) fun h' e k o'=> ?_;exact⟨_,rfl,wpAny_pure ⟨_,rfl,h _ h' e (by show s.heap.objs.size<=q.objs.size;rw[qs];exact Nat.le_succ _) (kD h' k) o'⟩⟩
end
end L2
namespace L2
open PySem PySem.W PyProof.Rows
def b7:Key->Bool
 | .inl _=>true
 | .inr _=>false
def d6:Key->Key->Bool
 | .inl i,.inl j=>decide (i<j)
 | .inr x,.inr y=>decide (x.cps.toList<y.cps.toList)
 | _,_=>false
def cF:List Key->List Key->Bool
 | a::as,b::bs=>if a=b then cF as bs else d6 a b
 | _,_=>false
section
variable {prog:Program}{w:World}{A:Around}{s:Shared}
theorem N5 {a b:Key}{u v:Value}{Q:Bool->Shared->Prop}{E:Value->Shared->Prop} (k:b7 a=b7 b) (ru:RelV (kV a) u) (rv:RelV (kV b) v) (q:Q (decide (a=b)) s):wpAny (model prog w) A (eqBool u v) Q E s:=by
 cases a<;>cases b<;>first|(cases k;done)|skip
 ·obtain⟨t,rfl⟩:=ru;obtain⟨t',rfl⟩:=rv;refine wpAny_eqBool_int ?_;rename_i i j;have e:(i==j)=decide ((Sum.inl i:Key)=Sum.inl j):=by
   by_cases z:i=j
   ·subst z;simp
   ·rw[beq_false_of_ne z,decide_eq_false (fun y=>z (Sum.inl.inj y))]
  rw[e];exact q
 ·obtain⟨t,rfl⟩:=ru;obtain⟨t',rfl⟩:=rv;refine wpAny_eqBool_str ?_;rename_i i j;have e:decide (i=j)=decide ((Sum.inr i:Key)=Sum.inr j):=by
   by_cases z:i=j
   ·subst z;simp
   ·rw[decide_eq_false z,decide_eq_false (fun y=>z (Sum.inr.inj y))]
  rw[e];exact q
theorem OH {a b:Key}{u v:Value}{Q:Bool->Shared->Prop}{E:Value->Shared->Prop} (k:b7 a=b7 b) (ru:RelV (kV a) u) (rv:RelV (kV b) v) (q:Q (d6 a b) s) (t:Bool):wpAny (model prog w) A (oneLt' t u v) Q E s:=by
 cases a<;>cases b<;>first|(cases k;done)|skip
 ·obtain⟨t1,rfl⟩:=ru;obtain⟨t2,rfl⟩:=rv;cases t with
  | true=>exact oneLt_int q
  | false=>exact kat_one _ _ (lt_int q)
 ·obtain⟨t1,rfl⟩:=ru;obtain⟨t2,rfl⟩:=rv;cases t with
  | true=>exact oneLt_str q
  | false=>exact kat_one _ _ (lt_str q)
theorem wK {Q:Bool->Shared->Prop}:∀{as bs:List Key}{us vs:List Value} (i:Nat),as.map b7=bs.map b7->Vals (as.map kV) us->Vals (bs.map kV) vs->Q (cF as bs) s->KatLex prog w A true false Q (us.zip vs) i s
 | [],[],_,_,_,_,.nil,.nil,q=>kat_nil q
 | [],_::_,_,_,_,k,_,_,_=>by cases k
 | _::_,[],_,_,_,k,_,_,_=>by cases k
 | a::as,b::bs,_,_,i,k,.cons ra rs,.cons rb rt,q=>by
  have k1:b7 a=b7 b:=(List.cons.inj k).1;refine kat_cons (N5 k1 ra rb ?_);have q':Q (if a=b then cF as bs else d6 a b) s:=q
  by_cases z:a=b
  ·rw[if_pos z]at q';rw[decide_eq_true z];exact kat_yes (wK (i+1) (List.cons.inj k).2 rs rt q')
  ·rw[if_neg z]at q';rw[decide_eq_false z];exact kat_no (OH k1 ra rb q' _)
end
abbrev KRows (H:Hp):List V->List (List Key)->Prop:=Paired fun v r=>∃p,v= .ref p/\H p=some (.tup (r.map kV))
theorem KRows.map {H H':Hp}(f:∀p xs,H p=some (.tup xs)->H' p=some (.tup xs)):∀{vs:List V}{rs:List (List Key)},KRows H vs rs->KRows H' vs rs
 | _,_,.nil=> .nil
 | _,_,.cons ⟨p,e,h⟩ r=> .cons ⟨p,e,f _ _ h⟩ (KRows.map f r)
theorem KRows.same {H H':Hp}{vs:List V}{rs:List (List Key)} (x:KRows H vs rs) (s:Same H H'):KRows H' vs rs:=x.map fun p xs h=>s _ _ h
theorem KRows.get {H:Hp}:∀{vs:List V}{rs:List (List Key)}{i:Nat}{v:V},KRows H vs rs->vs[i]? =some v->∃p r,v= .ref p/\rs[i]? =some r/\H p=some (.tup (r.map kV))
 | _,_,0,_,.cons ⟨p,e,h⟩ _,z=>by cases z;exact⟨p,_,e,rfl,h⟩
 | _,_,i+1,_,.cons _ t,z=>KRows.get (i:=i) t (by simpa using z)
 | _,_,_,_,.nil,z=>by simp at z
def iE (rs:List (List Key))(i j:Nat):Bool:=cF (rs.getD i []) (rs.getD j [])
def uO (rs:List (List Key))(vs:List V):List V:=aY .non (iE rs) vs
section
variable {X:Cx}{pins:List (Addr×Obj)}{σ:St}{H:Hp}{s:Shared}
theorem hE (I:Inv X pins σ H s){p:Addr}{r:List Key} (e:H p=some (.tup (r.map kV))):∃(o:Obj) (us:List Value) (n:Nat),s.heap.get? p=some o/\o.cls= .type "tuple" /\o.data= .seq us.toArray n/\Vals (r.map kV) us:=by
 obtain⟨_,its,r',o,h1,h2,n,h3⟩:=(show ObjOk X.prog X.w H s.heap p (.tup (r.map kV)) from I.hok p _ e)
 exact⟨o,its,n,h1,h2,h3,r'⟩
theorem m9 (I:Inv X pins σ H s){sh:List Bool}{T:Value}{h':Heap} (kp:∀b o,s.heap.get? b=some o->h'.get? b=some o) (hT:∀(k:Key) (u:Value),sh.head? =some (b7 k)->RelV (kV k) u->Looks (model X.prog X.w) h' (typeOf u) T) :
  ∀{vs:List V}{rs:List (List Key)}{us:List Value},KRows H vs rs->Vals vs us->(∀r∈rs,r.map b7=sh)->sh≠[]->∃fs,KatTups h' us fs/\fs.length=us.length/\∀v∈fs,Looks (model X.prog X.w) h' (typeOf v) T
 | _,_,_,.nil,.nil,_,_=>⟨[],trivial,rfl,fun _ z=>nomatch z⟩
 | _::_,r::_,_::_,.cons ⟨p,hv,e⟩ q,.cons rv rt,hs,hn=>by
  obtain⟨fs,f1,f2,f3⟩:=m9 I kp hT q rt (fun r hr=>hs r (List.mem_cons_of_mem _ hr)) hn;subst hv;cases rv;have hr:=hs r (.head _);cases r with
  | nil=>exact absurd hr.symm hn
  | cons k ks =>
   obtain⟨o,us,n,o1,o2,o3,o4⟩:=hE I e;cases o4 with
   | cons r1 r2 =>
    rename_i u us;refine⟨u::fs,KatTups.cons (kp _ _ o1) o2 o3 (by simp) f1,by simp[f2],fun v hv=> ?_⟩;rcases List.mem_cons.mp hv with rfl|hv
    ·exact hT k _ (by rw[←hr];rfl) r1
    ·exact f3 v hv
def zX (K:PySem.W.Frag):List V->Hp->VK->Prop:=fun xs H Q=>∃p vs rs sh,xs=[.ref p]/\SqL K H p vs/\KRows H vs rs/\vs.length<64/\(∀r∈rs,r.map b7=sh)/\sh≠[]/\∀l,H l=none->Q (.ref l) (upd H l (.lst (uO rs vs)))
theorem oE {xs:List V}{us:List Value} (c:Nat->Nat->Bool) (r:Vals xs us):Vals (aY .non c xs) (aY Value.none c us):=by
 have hl:=r.length;unfold aY;rw[hl]
 split
 ·exact r
 ·have hp:=c5 (n:=us.length) c (by lia);have hm:∀i∈(aM c (kas_sort us.length)).toList,i<us.length:=fun i hi=>by
   have h:=hp.mem_iff.mp (Array.mem_toList_iff.mp hi)
   simpa using h
  revert hm;generalize (aM c (kas_sort us.length)).toList=l;intro hm
  induction l with
  | nil=>exact .nil
  | cons i l ih =>
   refine .cons ?_ (ih fun j hj=>hm j (List.mem_cons_of_mem _ hj));have hi:=hm i (.head _);have hx:xs[i]? =some (xs[i]'(by lia)):=List.getElem?_eq_getElem _;obtain⟨u,hu,ru⟩:=r.get hx;show RelV (xs.getD i .non) (us.getD i Value.none);rw[List.getD_eq_getElem?_getD,List.getD_eq_getElem?_getD,hx,hu];exact ru
theorem vB:b9 X (.builtin "sorted") (zX X.K):=by
 intro pins s σ H xs us Q I r h;obtain⟨p,vs,rs,sh,rfl,hq,kr,h64,hs,hn,q⟩:=h;obtain⟨u,rfl,rx⟩:=fD r;cases rx;obtain⟨its,rv,pl,hz⟩:=I.list hq;have hl:=rv.length;have hT:∃T:Value,(T==T)=true/\(T !=Value.type "tuple")=true/\∀(h':Heap) (k:Key) (u:Value),sh.head? =some (b7 k)->RelV (kV k) u->Looks (model X.prog X.w) h' (typeOf u) T:=by
  cases sh with
  | nil=>exact absurd rfl hn
  | cons b sh =>
   cases b with
   | true =>
    refine⟨.type "int",rfl,by decide,fun h' k u hk ru=> ?_⟩;cases k with
    | inl i=>obtain⟨t,rfl⟩:=ru;exact Looks.of_pure rfl
    | inr x=>cases hk
   | false =>
    refine⟨.type "str",rfl,by decide,fun h' k u hk ru=> ?_⟩;cases k with
    | inl i=>cases hk
    | inr x=>obtain⟨t,rfl⟩:=ru;exact Looks.of_pure rfl
 obtain⟨T,t1,t2,t3⟩:=hT;refine ED (iE rs) (tuples' true) pl.isList (by lia) (fun h2 h' kp R hR=> ?_) (fun h2 h' kp i j hi hj C hC=> ?_) fun D h' e hD kp o'=> ?_
 ·obtain⟨fs,f1,f2,f3⟩:=m9 I kp (fun k u=>t3 h' k u) kr rv hs hn;refine kat_kind (s:={ s with heap:=h' }) f1 (by lia) f3 t1 ?_;rw[t2];exact hR
 ·obtain⟨p1,r1,x1,y1,z1⟩:=kr.get (i:=i) (List.getElem?_eq_getElem (by lia));obtain⟨p2,r2,x2,y2,z2⟩:=kr.get (i:=j) (List.getElem?_eq_getElem (by lia));obtain⟨u1,v1,w1⟩:=rv.get (List.getElem?_eq_getElem (show i<vs.length by lia));obtain⟨u2,v2,w2⟩:=rv.get (List.getElem?_eq_getElem (show j<vs.length by lia));rw[x1]at w1;rw[x2]at w2;cases w1;cases w2;obtain⟨o1,us1,n1,g1,c1,d1,l1⟩:=hE I z1;obtain⟨o2,us2,n2,g2,c2,d2,l2⟩:=hE I z2;have s1:=hs r1 (List.mem_of_getElem? y1);have s2:=hs r2 (List.mem_of_getElem? y2);have e1:=l1.length;have e2:=l2.length;rw[List.length_map]at e1 e2;have e3:r1.length=r2.length:=by rw[←List.length_map (f:=b7),s1,←s2,List.length_map]
  unfold kas_ask;rw[List.getD_eq_getElem?_getD,List.getD_eq_getElem?_getD,v1,v2];refine kat_lt (s:={ s with heap:=h' }) (kp _ _ g1) d1 (kp _ _ g2) d2 ?_;rw[show decide (us1.toArray.size<us2.toArray.size)=false from decide_eq_false (by rw[List.size_toArray,List.size_toArray];lia)];refine wK 0 (s1.trans s2.symm) l1 l2 ?_;have ec:iE rs i j=cF r1 r2:=by
   unfold iE;rw[List.getD_eq_getElem?_getD,List.getD_eq_getElem?_getD,y1,y2];rfl
  rw[ec]at hC;exact hC
 ·exact⟨.ref D,_,I.laid (t':=s.toks) kp hD (show ObjOk X.prog X.w _ h' _ (.lst _) from⟨by rw[kX];exact hz,_,e,oE _ rv,o'⟩),rfl,q _ (I.hok.fresh hD)⟩
end
end L2
namespace L2
open PySem PySem.W PyProof.Rows
section
variable {prog:Program}{w:World}{A:Around}{E:Value->Shared->Prop}{s:Shared}{d it:Addr}{o:Obj}{es:Array DictEntry}{ep i:Nat}
end
end L2
namespace L2
open PySem PySem.W PyProof.Rows
theorem KT.len {H:Hp}{kvs:List (List Key×V)}{xs:List (List Key×Addr×Value)} (r:KT H kvs xs):kvs.length=xs.length:=Paired.length r
section
variable {X:Cx}{tg:Expr}
theorem Inv.freeze {pins:List (Addr×Obj)}{σ:St}{H:Hp}{s:Shared}{a:Addr}{u:HO}{o:Obj} (I:Inv X pins σ H s) (mu:Mut (some u)) (e:H a=some u) (ho:s.heap.get? a=some o) (new:ObjOk X.prog X.w (upd H a (.frz o u)) s.heap a (.frz o u)):Inv X pins σ (upd H a (.frz o u)) s :=
 I.write (t':=s.toks) (h':=s.heap) (by rw[e];exact mu) (.inl rfl) (fun b u _ z=>z) ⟨_,ho⟩ new
end
end L2
namespace L2
open PySem PySem.W PyProof.Rows
section
variable {X:Cx}{e c:Expr}{te:TE}{lo hi:Option Expr}{tl th ts:TO}{pos p2:Pos}
end
def qE:V->Bool
 | .ref _=>true
 | x=>qL x
section
variable {X:Cx}
end
section
variable {X:Cx}{pins:List (Addr×Obj)}{σ:St}{H:Hp}{s:Shared}
end
section
variable {X:Cx}
end
end L2
namespace L2
open PySem PySem.W PyProof.Rows
section
variable {K:PySem.W.Frag}{ti:TT}{te:TE}{σ:St}{ci:List Nat}{rest:St}{fin:List V->Hp->Prop}{H:Hp}{a:Addr}
end
end L2
namespace L2
open PySem PySem.W PyProof.Rows
theorem tY:bootBuiltins "sorted" =some (.builtin "sorted"):=by decide +kernel
theorem Room.units1 {k:Nat}{A:Around} (r:Room k A):A.units+1<cLine:=by have:=r.un;lia
section
variable {K:PySem.W.Frag}{H:Hp}{Q:VK}
end
section
variable {H:Hp}{Q:VK}{σ:St}
theorem FO (h:∀p H',H p=none->Same H H'->H' p=some (.dT [])->Q (.ref p) H'):CV σ H Q:=d9 h
theorem vQ {κ:Type}[DecidableEq κ]{kvs:List (κ×V)}{k:κ}{v:V}{e:κ×V} (h:e∈dI kvs k v):e∈kvs∨e.1=k/\e.2=v:=by
 unfold dI at h
 split at h
 ·obtain⟨p,hp,e1⟩:=List.mem_map.mp h
  by_cases z:p.1=k
  ·rw[if_pos z]at e1;subst e1;exact .inr ⟨z,rfl⟩
  ·rw[if_neg z]at e1;subst e1;exact .inl hp
 ·rcases List.mem_append.mp h with h|h
  ·exact .inl h
  ·cases List.mem_singleton.mp h;exact .inr ⟨rfl,rfl⟩
end
end L2
namespace L2
open PySem PySem.W PyProof.Rows
section
variable {X:Cx}{K:PySem.W.Frag}
theorem o0 {es:List Expr}{k:Nat}{t:TGs}{n:Nat}{pos:Pos} (hc:X.calm=true) (h:PGs X es t) (hK:X.K=K:=by rfl)
  (hn:(assignEach es X.env).length=n:=by rfl)(hst:(assignEach es X.env).findIdx? (·.1)=none:=by rfl):PG X (.Tuple es k pos) (sG K n t):=by
 subst hK;exact CY hc h hn hst
theorem yY (hK:X.K=K:=by rfl):IxR X (MT K):=by
 subst hK;exact NU
end
def JC (nx:St->Hp->Prop)(σ:St)(x v:V):VK:=fun y H3=>∃a H4,x= .ref a/\DPut H3 a y v H4/\nx σ H4
section
variable {K:PySem.W.Frag}{H:Hp}{Q:VK}{σ:St}{nx rt bk ct:St->Hp->Prop}
theorem KA {td ty tv:TE}{nx:St->Hp->Prop}{rt:VK}{bk ct:St->Hp->Prop} (h:tv σ H fun v H1=>td σ H1 fun x H2=>ty σ H2 (JC nx σ x v)):IO td ty tv ⟨nx,rt,bk,ct⟩ σ H:=h
theorem pF {p b:Addr}{v:V}{kvs:List (List Key×V)} (k:List Key) (e:H p=some (.dT kvs)) (eb:H b=some (.tup (k.map kV))) (hl:kvs.length<sizeLine)
  (h:∀H',SameBut p H H'->H' p=some (.dT (dI kvs k v))->nx σ H'):JC nx σ (.ref p) v (.ref b) H :=
 ⟨p,_,rfl,DPut.t e eb hl,h _ SameBut.upd bA⟩
end
end L2
namespace L2
open PySem PySem.W PyProof.Rows
theorem mX:entryFor table "dict_itemiterator.__iter__" =some Builtin.«dict_keyiterator.__iter__»:=entryFor_alias (id':= "dict_keyiterator.__iter__") (by kernel_rfl) rfl (by decide +kernel) (by kernel_rfl)
section
variable {X:Cx}{tg:Expr}
end
section
variable {X:Cx}
end
end L2
namespace L2
open PySem PySem.W PyProof.Rows
section
variable {X:Cx}{pins:List (Addr×Obj)}{σ:St}{H:Hp}{s:Shared}{a:Addr}{o:Obj}{u:HO}
theorem Inv.thaw (I:Inv X pins σ H s)(h0:∀o u,X.H₀ a≠some (.frz o u))(e:H a=some (.frz o u)):Inv X pins σ (upd H a u) s:=by
 have nn:∀b,H b=none->b≠a:=fun b n z=>by rw[z,e]at n;cases n
 have no:∀b c,H b=some (.own c)->b≠a:=fun b c n z=>by rw[z,e]at n;cases n
 have nt:∀b xs,H b=some (.tup xs)->b≠a:=fun b c n z=>by rw[z,e]at n;cases n
 refine⟨I.ok,I.os,I.bare,⟨I.base.keep,I.base.slot,fun b ob q n hx=> ?_,I.base.there,fun b xs q=> ?_,fun b ob xs q=> ?_,fun b ps q=> ?_⟩,I.loc,I.cell,?_,fun x c ec=> ?_,fun p hp=> ?_,fun b v q=> ?_,I.len⟩
 ·have z:=I.base.free b ob q n hx;rw[aI (nn b z)];exact z
 ·have z:=I.base.tups b xs q;rw[aI (nt b xs z)];exact z
 ·have z:=I.base.frzs b ob xs q;have hb:b≠a:=fun y=>h0 ob xs (by rw[←y];exact q);rw[aI hb];exact z
 ·obtain⟨more,z⟩:=I.base.tbls b ps q;refine⟨more,?_⟩;rw[aI (fun y=>by rw[y,e]at z;cases z)];exact z
 ·rw[aI (nn _ I.free)];exact I.free
 ·rw[aI (nn _ (I.freeC x c ec))];exact I.freeC x c ec
 ·obtain⟨p1,p2,p3⟩:=I.pin p hp;exact⟨p1,by rw[aI (nn _ p2)];exact p2,p3⟩
 ·have so:∀b c,H b=some (.own c)->upd H a u b=some (.own c):=fun b c z=>by rw[aI (no b c z)];exact z
  have st:∀b xs,H b=some (.tup xs)->upd H a u b=some (.tup xs):=fun b c z=>by rw[aI (nt b c z)];exact z
  by_cases hb:b=a
  ·subst hb;rw[bA]at q;cases q;obtain⟨_,z⟩:=(show ObjOk X.prog X.w H s.heap b (.frz o u) from I.hok b _ e)
   exact z.stay (fun _ _ _ q=>q) (fun c z=>so c b z) st
  ·rw[aI hb]at q;exact(I.hok b v q).stay (fun _ _ _ q=>q) (fun c z=>so c b z) st
theorem Inv.wasFree (I:Inv X pins σ H s)(h:∀o u,H a≠some (.frz o u)):∀o u,X.H₀ a≠some (.frz o u):=fun o u z=>h o u (I.base.frzs a o u z)
end
def u6 (a:Addr)(R:Hp->Prop):Hp->Prop:=fun H=>∃o u,H a=some (.frz o u)/\R (upd H a u)
def JG (te:TE):TE:=fun σ H Q=>∃a,(∀o u,H a≠some (.frz o u))/\te σ H fun x=>u6 a (Q x)
section
variable {X:Cx}
theorem K6 {e:Expr}{te:TE} (he:PE X e te):PE X e (JG te):=by
 intro pins s σ H Q I h;obtain⟨a,h0,h⟩:=h;refine thn (he pins s σ H _ I h) fun v s1 ⟨x,H1,I1,r1,o,u,e,q⟩=> ?_;exact⟨x,_,I1.thaw (I.wasFree h0) e,r1,q⟩
end
end L2
namespace L2
open PySem PySem.W PyProof.Rows
section
variable {X:Cx}
end
section
variable {K:PySem.W.Frag}{H:Hp}{Q:VK}
end
end L2
namespace L2
open PySem PySem.W PyProof.Rows
section
variable {prog:Program}{w:World}{A:Around}{E:Value->Shared->Prop}{s:Shared}
end
end L2
namespace L2
open PySem PySem.W PyProof.Rows
section
variable {prog:Program}{w:World}{A:Around}{E:Value->Shared->Prop}{κ:Type} [DecidableEq κ] {knd:KeyKind prog w κ}{I d:Addr}{fp wr:List Addr}{n:Nat}{P:Nat->Value->Prop}{St:Nat->Heap->Prop}{R:Result->Shared->Prop}
end
end L2
namespace L2
open PySem PySem.W PyProof.Rows
section
variable {prog:Program}{w:World}{A:Around}{E:Value->Shared->Prop}{κ:Type} [DecidableEq κ] {knd:KeyKind prog w κ}{s:Shared}{l:Addr}{its:Array Value}{c:Nat}
end
end L2
namespace L2
open PySem PySem.W PyProof.Rows
section
variable {X:Cx}{pins:List (Addr×Obj)}{σ:St}{H:Hp}{s:Shared}
end
end L2
namespace L2
open PySem PySem.W PyProof.Rows
section
variable {prog:Program}{w:World}{A:Around}{E:Value->Shared->Prop}{s:Shared}{d it:Addr}{o:Obj}{es:Array DictEntry}{ep i:Nat}{k0 v0:Value}
theorem DP {Q:Option Value->Shared->Prop}{e:DictEntry} (st:IsItemIter s.heap it d i es.size ep k0 v0) (ho:s.heap.get? d=some o) (hq:o.data= .dict es ep) (hx:es[i]? =some e)
  (k:∀h',IsItemIterOut h' it d (i+1) es.size ep e.key e.val s.heap.objs.size->h'.get? s.heap.objs.size=some { cls:= .type "tuple",data:= .seq #[e.key,e.val] } →
   (∀b u,b≠it->s.heap.get? b=some u->h'.get? b=some u)->Q (some (.ref s.heap.objs.size)) { s with heap:=h' }):wpAny (model prog w) A (pyNext (.ref it)) Q E s:=by
 obtain⟨hp,g,dr,tk,os⟩:=s;have T:Shared.TypeIs ⟨hp,g,dr,tk,os⟩ (.ref it) "dict_itemiterator" :=⟨_,st,rfl⟩
 unfold pyNext;refine wpAny_bind (wpAny_attempt (wpAny_callSpecial?_slot (name:=Str.ofString "__next__") T F.slot_dict_itemiterator_next (wpAny_call_entry F.slot_dict_itemiterator_next T F.entry_dict_itemiterator_next ?_ (F.args_dict_itemiterator_next_1 _))));refine wpAny_bind (wpAny_pure (wpAny_bind (wpAny_bind ?_)))
 first|refine wpAny_bind (wpAny_typeNameOfWhole_itemiter T (wpAny_pure (wpAny_bind (wpAny_fieldsOf st rfl ?_))))|refine wpAny_bind (wpAny_typeNameOf_itemiter T (wpAny_pure (wpAny_bind (wpAny_fieldsOf st rfl ?_))))
 simp only[show Builtin.Dict_items.ownsTuple "dict_itemiterator" =true by decide,if_true];show wpAny _ A.in1 (if (Value.ref d==Value.none)=true then _ else _) _ _ (⟨hp,g,dr,tk,os⟩:Shared);rw[if_neg (show ¬(Value.ref d==Value.none)=true from Bool.false_ne_true)];refine wpAny_bind (wpAny_pure (wpAny_bind (wpAny_dictEntries ho hq ?_)));rw[if_neg (by simp)];refine wpAny_bind (wpAny_pure (wpAny_bind (wpAny_dictEpoch ho hq ?_)));rw[if_neg (by simp)];refine wpAny_pure ?_;simp only[show ¬((i:Int)<0) from by lia,if_false,Int.toNat_natCast,hx];refine wpAny_bind ?_
 first|refine wpAny_bind (wpAny_typeNameOfWhole_itemiter T (wpAny_pure (wpAny_bind (wpAny_isOneOf_itemiter T ?_))))|refine wpAny_bind (wpAny_typeNameOf_itemiter T (wpAny_pure (wpAny_bind (wpAny_isOneOf_itemiter T ?_))))
 show wpAny _ A.in1 (setField (.ref it) 3 (rawInt ((i:Int)+1)) >>= _) _ _ (⟨hp,g,dr,tk,os⟩:Shared);refine wpAny_bind (wpAny_setField_rec st (by simp) fun h1 e1 s1=> ?_)
 replace s1:Heap.SameBut it hp h1:=s1
 replace e1:IsItemIter h1 it d (i+1) es.size ep k0 v0:=by
  unfold IsItemIter;rw[show ((i+1:Nat):Int)=(i:Int)+1 by lia];simpa [rawInt] using e1
 have T1:Shared.TypeIs ⟨h1,g,dr,tk,os⟩ (.ref it) "dict_itemiterator" :=⟨_,e1,rfl⟩
 refine wpAny_bind (wpAny_holding (wpAny_bind (wpAny_isOneOf_itemiter T1 (wpAny_bind (wpAny_isOneOf_itemiter T1 ?_)))));show wpAny _ A.in1 (Builtin.Dict_items.pairFromOwner (.ref it) 6 e.key e.val) _ _ (⟨h1,g,dr,tk,os⟩:Shared);unfold Builtin.Dict_items.pairFromOwner;refine wpAny_bind (wpAny_newTuple ?_);have e2:IsItemIter (h1.push { cls:= .type "tuple",data:= .seq #[e.key,e.val] }) it d (i+1) es.size ep k0 v0:=Heap.get?_push_of_some _ e1;generalize q2:h1.push { cls:= .type "tuple",data:= .seq #[e.key,e.val] }=h2 at e2;have z1:h1.objs.size=hp.objs.size:=s1.1;have il:it<hp.objs.size:=Heap.lt_size st;have t2:h2.get? hp.objs.size=some { cls:= .type "tuple",data:= .seq #[e.key,e.val] }:=by rw[←q2,←z1];exact Heap.get?_push_size _ rfl
 have k2:∀b u,b≠it->hp.get? b=some u->h2.get? b=some u:=fun b u hb z=>by rw[←q2];exact Heap.get?_push_of_some _ (s1.extBut b u hb z)
 show wpAny _ A.in1 (Builtin.Dict_items.ownedTupleIsFree (.ref it) >>= _) _ _ (⟨h2,g,dr,tk,os⟩:Shared);rw[z1];clear q2 e1 s1 T1 z1 h1;refine wpAny_bind ?_;unfold Builtin.Dict_items.ownedTupleIsFree;refine wpAny_bind (wpAny_field e2 rfl (x:= .none) rfl (wpAny_pure ?_));simp only[if_true];refine wpAny_bind (wpAny_field e2 rfl (x:=k0) rfl (wpAny_bind (wpAny_field e2 rfl (x:=v0) rfl ?_)));refine wpAny_bind (wpAny_setField_rec e2 (by simp) fun h3 e3 s3=> ?_)
 replace s3:Heap.SameBut it h2 h3:=s3
 replace e3:IsItemIter h3 it d (i+1) es.size ep e.key v0:=e3
 refine wpAny_bind (wpAny_setField_rec e3 (by simp) fun h4 e4 s4=> ?_)
 replace s4:Heap.SameBut it h3 h4:=s4
 replace e4:IsItemIter h4 it d (i+1) es.size ep e.key e.val:=e4
 refine wpAny_bind (wpAny_setField_rec e4 (by simp) fun h5 e5 s5=> ?_)
 replace s5:Heap.SameBut it h4 h5:=s5
 replace e5:IsItemIterOut h5 it d (i+1) es.size ep e.key e.val hp.objs.size:=e5
 refine wpAny_bind (wpAny_setField_rec e5 (by simp) fun h6 e6 s6=> ?_)
 replace s6:Heap.SameBut it h5 h6:=s6
 replace e6:IsItemIterOut h6 it d (i+1) es.size ep e.key e.val hp.objs.size:=e6
 have kk:∀b u,b≠it->h2.get? b=some u->h6.get? b=some u:=fun b u hb z=>s6.extBut b u hb (s5.extBut b u hb (s4.extBut b u hb (s3.extBut b u hb z)));exact wpAny_bind (wpAny_letGo (wpAny_pure (wpAny_pure ⟨_,rfl,wpAny_pure (k h6 e6 (kk _ _ (Nat.ne_of_gt il) t2) fun b u hb z=>kk b u hb (k2 b u hb z))⟩)))
theorem FY {Q:Option Value->Shared->Prop}(hh:A.handled=none)(st:IsItemIter s.heap it d i es.size ep k0 v0)(ho:s.heap.get? d=some o)(hq:o.data= .dict es ep)(hx:es.size<=i)
  (k:∀h',Heap.ExtBut it s.heap h'->Q none { s with heap:=h' }):wpAny (model prog w) A (pyNext (.ref it)) Q E s:=by
 have T:s.TypeIs (.ref it) "dict_itemiterator" :=⟨_,st,rfl⟩
 unfold pyNext;refine wpAny_bind (wpAny_attempt (wpAny_callSpecial?_slot (name:=Str.ofString "__next__") T F.slot_dict_itemiterator_next (wpAny_call_entry F.slot_dict_itemiterator_next T F.entry_dict_itemiterator_next ?_ (F.args_dict_itemiterator_next_1 _))));refine wpAny_bind (wpAny_pure (wpAny_bind (wpAny_bind ?_)))
 first|refine wpAny_bind (wpAny_typeNameOfWhole_itemiter T (wpAny_pure (wpAny_bind (wpAny_fieldsOf st rfl ?_))))|refine wpAny_bind (wpAny_typeNameOf_itemiter T (wpAny_pure (wpAny_bind (wpAny_fieldsOf st rfl ?_))))
 simp only[show Builtin.Dict_items.ownsTuple "dict_itemiterator" =true by decide,if_true];show wpAny _ A.in1 (if (Value.ref d==Value.none)=true then _ else _) _ _ s;rw[if_neg (show ¬(Value.ref d==Value.none)=true from Bool.false_ne_true)];refine wpAny_bind (wpAny_pure (wpAny_bind (wpAny_dictEntries ho hq ?_)));rw[if_neg (by simp)];refine wpAny_bind (wpAny_pure (wpAny_bind (wpAny_dictEpoch ho hq ?_)));rw[if_neg (by simp)];refine wpAny_pure ?_;simp only[show ¬((i:Int)<0) from by lia,if_false,Int.toNat_natCast,Array.getElem?_eq_none hx];refine wpAny_bind ?_
 first|refine wpAny_bind (wpAny_typeNameOfWhole_itemiter T (wpAny_pure ?_))|refine wpAny_bind (wpAny_typeNameOf_itemiter T (wpAny_pure ?_))
 show wpAny _ A.in1 (setField (.ref it) 2 .none >>= _) _ _ s;refine wpAny_bind (wpAny_setField st rfl (by simp) ?_);show wpAny _ A.in1 (newExc (.type "StopIteration") [] >>= _) _ _ _;refine wpAny_bind ?_;simp only[newExc,newTuple];refine wpAny_bind (wpAny_newObj_type (wpAny_bind (m:=firstArgMember _ _) (wpAny_of_eq (a:=Value.none) (by first|rfl|(simp only[firstArgMember];rfl)) (wpAny_newObj_type ?_ (by size_fits)))) (by size_fits));simp only[raiseNew];refine wpAny_bind (wpAny_handled ?_);rw[show A.in1.handled=none from hh];refine wpAny_bind (wpAny_pure (wpAny_throw ?_));refine wpAny_bind (wpAny_isInstance (b:=true) (T:= "StopIteration") ⟨_,Heap.get?_push_size _ rfl,rfl⟩ isSubtype_stop ?_);exact wpAny_pure (k _ (((Heap.SameBut.update ..).extBut.push _).push _))
end
end L2
namespace L2
open PySem PySem.W PyProof.Rows
section
variable {prog:Program}{w:World}{A:Around}{E:Value->Shared->Prop}{s:Shared}{d it:Addr}{o:Obj}{es:Array DictEntry}{ep i:Nat}
theorem BB {Q:Value->Shared->Prop}(hd:(d==sysModules)=false)(T:s.TypeIs (.ref d) "dict")
  (k:Q (.ref s.heap.objs.size) { s with heap:=s.heap.push { cls:= .type "dict_items",data:= .fields #[.ref d] } }):wpAny (model prog w) A (call (.builtin "dict.items") [.ref d]) Q E s:=by
 refine wpAny_call_entry F.slot_dict_items T F.entry_dict_items ?_ (F.args_dict_items_1 _);unfold Builtin.«dict.items» Builtin.Dict.noArgs;refine wpAny_bind (wpAny_bind (wpAny_notOrdered_dict T (wpAny_pure ?_)));show wpAny _ A.in1 (Builtin.Dict.showsAll d >>= _) _ _ s;unfold Builtin.Dict.showsAll;rw[if_neg (fun z=>by rw[hd]at z;cases z)];exact wpAny_bind (wpAny_pure (wpAny_bind (wpAny_newObj_type (wpAny_pure ⟨_,rfl,k⟩))))
theorem DC {v:Addr}{Q:Value->Shared->Prop} (hv:s.heap.IsItemsView v d) (ho:s.heap.get? d=some o) (hq:o.data= .dict es ep)
  (k:Q (.ref s.heap.objs.size) { s with heap:=s.heap.push { cls:= .type "dict_itemiterator",data:= .fields #[.none,.bool false,.ref d,.int 0 0,.int es.size 0,.int ep 0,.none,.none] } }):wpAny (model prog w) A (pyIter (.ref v)) Q E s:=by
 obtain⟨ov,hov,hcv,hdv⟩:=id hv;refine wpAny_pyIter_slot hv.typeIs F.slot_dict_items_iter (wpAny_call_entry F.slot_dict_items_iter hv.typeIs F.entry_dict_items_iter ?_ (F.args_dict_items_iter_1 _));unfold Builtin.«dict_items.__iter__» Builtin.Dict_items.dictOf Builtin.Dict_items.newIterator;refine wpAny_bind (wpAny_pure (wpAny_bind (wpAny_bind (wpAny_field hov hdv (x:= .ref d) rfl (wpAny_pure (wpAny_bind (wpAny_bind (wpAny_dictEntries ho hq (wpAny_bind (wpAny_dictEpoch ho hq ?_))))))))));simp only[show Builtin.Dict_items.ownsTuple "dict_itemiterator" =true by decide,if_true];refine wpAny_newObj_type (wpAny_pure ⟨_,rfl,"dict_itemiterator",_,⟨_,Heap.get?_push_size _ rfl,rfl⟩,F.slot_dict_itemiterator_next.lookup,?_⟩) (by simp only[sizeOk,Builtin.Dict_items.ownedTupleFields,List.size_toArray,List.length_append,List.length_cons,List.length_nil,sizeLine_eq];lia)
 simpa [rawInt,Builtin.Dict_items.ownedTupleFields] using k
end
def Itj (a:Addr)(o:Obj)(kvs:List (List Key×V)):It :=
 ⟨fun i H=>H a=some (.frz o (.dT kvs))/\i<kvs.length,fun i H x H'=>∃k v p q,kvs[i]? =some (k,v)/\x= .ref q/\H p=some (.tup (k.map kV))/\H q=none/\H'=upd H q (.tup [.ref p,v]),fun i H=>H a=some (.frz o (.dT kvs))/\kvs.length<=i⟩
theorem KT.get2 {H:Hp}:∀{kvs:List (List Key×V)}{xs:List (List Key×Addr×Value)}{i:Nat},KT H kvs xs->i<kvs.length->∃k v b u,kvs[i]? =some (k,v)/\xs[i]? =some (k,b,u)/\H b=some (.tup (k.map kV))/\RelV v u
 | _,_,0,.cons h _,_=>⟨_,_,_,_,rfl,by rw[h.1];rfl,h.2.1,h.2.2⟩
 | _,_,i+1,.cons _ t,hi=>by
  obtain⟨k,v,b,u,e1,e2,e3⟩:=KT.get2 (i:=i) t (by simpa using hi);exact⟨k,v,b,u,by simpa using e1,by simpa using e2,e3⟩
 | _,_,_,.nil,hi=>by simp at hi
theorem xZ {P:Program}{w:World}{K:PySem.W.Frag}{elts:List Expr}{x1:Nat}{tpos:Pos} (a it:Addr) {o:Obj}{es:Array DictEntry}{ep:Nat} (kvs:List (List Key×V)) (hd:o.data= .dict es ep) (hz:es.size=kvs.length) :
  lG P w K (.Tuple elts x1 tpos) (Itj a o kvs) [it] it (fun i h=>∃ok ov,IsItemIter h it a i es.size ep ok ov) where
 mem:=by simp
 obj:=fun i h st b hb=>by
  have e:b=it:=by simpa using hb
  subst e;obtain⟨ok,ov,e⟩:=st;exact⟨_,e,fun v z=>by cases z⟩
 keep:=fun i h h' st k=>let ⟨ok,ov,e⟩:=st;⟨ok,ov,k it (by simp) _ e⟩
 item:=by
  intro X hP hw hK hc i pins s σ H E I hf st hg;subst hP hw hK;obtain⟨ha,hi⟩:=hg;obtain⟨ok,ov,st⟩:=st;obtain⟨ho,z,y,xs,r,o',es',ep',h1,h2,h3,h4,h5⟩:=(show ObjOk X.prog X.w H s.heap a (.frz o (.dT kvs)) from I.hok a _ ha)
  rw[ho]at h1;cases h1;rw[hd]at h3;cases h3;obtain⟨k,v,b,u,e1,e2,e3,e5⟩:=KT.get2 r hi;have e4:=entry_at h4 i;rw[e2]at e4;obtain⟨f0,f1,f2,f3,f4,f5⟩:=hf it (by simp);refine DP st ho hd e4 fun h' st' ht kp=> ?_;refine⟨_,rfl,?_⟩;refine wpAny_letOwnedTupleGo_items (s:={ s with heap:=h' }) st' fun h'' st'' sb=> ?_;have hq:H s.heap.objs.size=none:=I.hok.fresh (Nat.le_refl _);have hne:s.heap.objs.size≠it:=fun z=>by
   have:=Heap.lt_size (show s.heap.get? it=some _ from st);rw[z]at this;exact Nat.lt_irrefl _ this
  have tup:Vals [.ref b,v] [.ref b,u]:= .cons rfl (.cons e5 .nil);have I1:Inv X pins σ (upd H s.heap.objs.size (.tup [.ref b,v])) { s with heap:=s.heap.push { cls:= .type "tuple",data:= .seq #[.ref b,u] } } :=
   I.laid (t':=s.toks) (fun b u e=>Heap.get?_push_of_some _ e) (Nat.le_refl _) ⟨(show 2<=sizeLine by rw[sizeLine_eq];decide),[.ref b,u],tup,⟨_,Heap.get?_push_size _ rfl,rfl,0,rfl⟩⟩
  have n0:upd H s.heap.objs.size (.tup [.ref b,v]) it=none:=by rw[aI (Ne.symm hne)];exact f0
  have I2:Inv X pins σ (upd H s.heap.objs.size (.tup [.ref b,v])) { s with heap:=h'' }:=Inv.turned (s:={ s with heap:=s.heap.push { cls:= .type "tuple",data:= .seq #[.ref b,u] } }) (h':=h'') (t':=s.toks) (it:=it) I1 (fun c o hb e=>by
   rcases Heap.get?_push_cases e with⟨rfl,rfl⟩|e
   ·exact(sb.2 _ hb).trans ht
   ·exact(sb.2 c hb).trans (kp c o hb e)) n0 f1 f3 f4 f5
  exact⟨.ref s.heap.objs.size,_,I2,rfl,⟨k,v,b,_,e1,rfl,e3,hq,rfl⟩,⟨_,_,st''⟩,fun b hb=>by
   have e:b=it:=by simpa using hb
   rw[e];exact n0⟩
 done:=by
  intro X hP hw hK hc i pins s σ H E I hf st hg;subst hP hw hK;obtain⟨ha,hi⟩:=hg;obtain⟨ok,ov,st⟩:=st;obtain⟨ho,hok⟩:=(show ObjOk X.prog X.w H s.heap a (.frz o (.dT kvs)) from I.hok a _ ha)
  obtain⟨f0,f1,f2,f3,f4,f5⟩:=hf it (by simp);exact FY (I.ok.hd hc) st ho hd (by lia) fun h' eb=>⟨rfl,I.turned (t':=s.toks) (fun b o hb e=>eb b o hb e) f0 f1 f3 f4 f5⟩
 self:=fun A i s Q E st h=>by
  obtain⟨ok,ov,st⟩:=st;have T:s.TypeIs (.ref it) "dict_itemiterator" :=⟨_,st,rfl⟩
  refine wpAny_pyIter_slot T F.slot_dict_itemiterator_iter (wpAny_call_entry F.slot_dict_itemiterator_iter T mX ?_ (F.args_dict_itemiterator_iter_1 _));show wpAny _ _ (ret (.ref it)) _ _ s;exact wpAny_pure ⟨_,rfl,"dict_itemiterator",_,T,F.slot_dict_itemiterator_next.lookup,h⟩
def zF (td:TE):TI:=fun σ H R=>td σ H fun x H1=>∃a kvs,x= .ref a/\H1 a=some (.dT kvs)/\∀o,R (Itj a o kvs) (upd H1 a (.frz o (.dT kvs)))
section
variable {X:Cx}
theorem tX {l:Expr}{td:TE}{elts:List Expr}{x1:Nat}{tpos apos cpos:Pos} (hl:PE X l td) (hbase:attributeBase l "items" X.env (eval l X.env)=eval l X.env:=by rfl) (hline:(apos.endLine==cpos.line)=true:=by rfl) :
  PI X (.Tuple elts x1 tpos) (.Call (.Attribute l "items" apos) [] [] cpos) (zF td):=by
 intro pins s σ H R I h;refine wpAny_Call_method0_late hbase hline (thn (hl pins s σ H _ I h) fun v s1 ⟨x,H1,I1,r1,q1⟩=> ?_);obtain⟨a,kvs,rfl,hq,q⟩:=q1;cases r1;obtain⟨t1,t2,_⟩:=CS I1 (.inr ⟨kvs,.inl hq⟩);refine⟨"dict","dict.items",F.plainAttrs_dict,F.slot_dict_items,F.type_dict_items,t1,t2,Calls.callWith_builtin rfl (PySem.evalArgs_none ?_)⟩;obtain⟨z,y,xs,r,o,es,ep,h1,h2,h3,h4,h5⟩:=(show ObjOk X.prog X.w H1 s1.heap a (.dT kvs) from I1.hok a _ hq)
 have hz:es.size=kvs.length:=by rw[size_of_entries h4,KT.len r]
 refine BB y t1 ?_;have hne:∀b ys,H1 b=some (.tup ys)->upd H1 a (.frz o (.dT kvs)) b=some (.tup ys):=fun b ys e=>by
  have hb:b≠a:=fun z=>by rw[z,hq]at e;cases e
  rw[aI hb];exact e
 have new:ObjOk X.prog X.w (upd H1 a (.frz o (.dT kvs))) s1.heap a (.frz o (.dT kvs)):=⟨h1,z,y,xs,KT.keeps r hne,o,es,ep,h1,h2,h3,h4,h5⟩
 have I2:Inv X pins σ (upd H1 a (.frz o (.dT kvs))) s1:=I1.freeze trivial hq h1 new;have I3:Inv X pins σ (upd H1 a (.frz o (.dT kvs))) { s1 with heap:=s1.heap.push { cls:= .type "dict_items",data:= .fields #[.ref a] } }:=I2.kept (t':=s1.toks) fun b o e=>Heap.get?_push_of_some _ e;refine DC ⟨_,Heap.get?_push_size _ rfl,rfl,rfl⟩ (Heap.get?_push_of_some _ h1) h3 ?_;refine⟨_,[_],_,_,upd H1 a (.frz o (.dT kvs)),rfl,I3.kept (t':=s1.toks) fun b o e=>Heap.get?_push_of_some _ e,xZ a _ kvs h3 hz,⟨.none,.none,Heap.get?_push_size _ rfl⟩,fun b hb=> ?_,q o⟩;obtain rfl:=List.mem_singleton.mp hb;exact I3.fpOk (Nat.le_refl _) (I3.hok.fresh (Nat.le_refl _))
end
end L2
namespace L2
open PySem PySem.W PyProof.Rows
section
variable (r:Nat->Int)
def rk (p:Array Nat)(i:Nat):Int:=r (p.getD i 0)
def Asc (p:Array Nat)(m:Nat):Prop:=∀i j,i<=j->j<m->rk r p i<=rk r p j
def cR (i j:Nat):Bool:=decide (r i<r j)
variable {r}{p:Array Nat}
theorem i8 {p q:Array Nat}{i j:Nat} (h:p[i]? =q[j]?):rk r p i=rk r q j:=by
 unfold rk;rw[Array.getD_eq_getD_getElem?,Array.getD_eq_getD_getElem?,h]
theorem tK {src d:Nat}(hs:src<p.size)(hd:d<=src)(k:Nat):rk r (bubble p src d) k=if k=src - d then rk r p src else if src - d<k/\k<=src then rk r p (k - 1) else rk r p k:=by
 have e:=getElem?_bubble hs d hd k
 split
 ·rename_i h;rw[if_pos h]at e;exact i8 e
 ·rename_i h;rw[if_neg h]at e
  split
  ·rename_i h2;rw[if_pos h2]at e;exact i8 e
  ·rename_i h2;rw[if_neg h2]at e;exact i8 e
theorem gS {α β:Type}(c:Nat->Nat->Bool)(f:α->KasT β):∀t:KasT α,aM c (t.bind f)=aM c (f (aM c t))
 | .ret _=>rfl
 | .ask i j k=>gS c f (k (c i j))
theorem pI {k:Nat}(hk:Asc r p k):∀(f a b:Nat),a<=b->b<=k->b - a<=f->(∀i,i<a->rk r p i<=rk r p k)->(∀i,b<=i->i<k->rk r p k<rk r p i) →
  aM (cR r) (kas_place p k f a b)<=k/\(∀i,i<aM (cR r) (kas_place p k f a b)->rk r p i<=rk r p k)/\∀i,aM (cR r) (kas_place p k f a b)<=i->i<k->rk r p k<rk r p i
 | 0,a,b,h1,h2,h3,h4,h5=>by
  have e:aM (cR r) (kas_place p k 0 a b)=a:=rfl;rw[e];exact⟨by lia,h4,fun i hi=>h5 i (by lia)⟩
 | f+1,a,b,h1,h2,h3,h4,h5=>by
  unfold kas_place
  by_cases hab:a≥b
  ·rw[if_pos hab];show a<=k/\(∀i,i<a->_)/\∀i,a<=i->i<k->_;exact⟨by lia,h4,fun i hi=>h5 i (by lia)⟩
  ·rw[if_neg hab];have ea:aM (cR r) (KasT.ask (p.getD k 0) (p.getD ((a+b)/2) 0) fun c=>if c=true then kas_place p k f a ((a+b)/2) else kas_place p k f ((a+b)/2+1) b) =
    aM (cR r) (if cR r (p.getD k 0) (p.getD ((a+b)/2) 0)=true then kas_place p k f a ((a+b)/2) else kas_place p k f ((a+b)/2+1) b):=rfl
   rw[ea]
   by_cases hc:cR r (p.getD k 0) (p.getD ((a+b)/2) 0)=true
   ·rw[if_pos hc];have hc':rk r p k<rk r p ((a+b)/2):=of_decide_eq_true hc;refine pI hk f a ((a+b)/2) (by lia) (by lia) (by lia) h4 fun i hi hik=> ?_;have:=hk ((a+b)/2) i hi hik
    lia
   ·rw[if_neg hc];have hc':¬rk r p k<rk r p ((a+b)/2):=fun z=>hc (decide_eq_true z);refine pI hk f ((a+b)/2+1) b (by lia) h2 (by lia) (fun i hi=> ?_) h5;have:=hk i ((a+b)/2) (by lia) (by lia)
    lia
theorem B0 {k l:Nat}(hs:k<p.size)(hk:Asc r p k)(hl:l<=k)(h1:∀i,i<l->rk r p i<=rk r p k)(h2:∀i,l<=i->i<k->rk r p k<rk r p i):Asc r (bubble p k (k - l)) (k+1):=by
 intro i j hij hj;rw[tK hs (by lia),tK hs (by lia),show k - (k - l)=l by lia]
 by_cases e1:i=l
 ·rw[if_pos e1]
  by_cases e2:j=l
  ·rw[if_pos e2];exact Int.le_refl _
  ·rw[if_neg e2];rw[if_pos (by lia)];have:=h2 (j - 1) (by lia) (by lia)
   lia
 ·rw[if_neg e1]
  by_cases e2:j=l
  ·rw[if_pos e2,if_neg (by lia)];exact h1 i (by lia)
  ·rw[if_neg e2]
   by_cases e3:l<i
   ·rw[if_pos (by lia),if_pos (by lia)];exact hk (i - 1) (j - 1) (by lia) (by lia)
   ·rw[if_neg (by lia)]
    by_cases e4:l<j
    ·rw[if_pos (by lia)];exact hk i (j - 1) (by lia) (by lia)
    ·rw[if_neg (by lia)];exact hk i j hij (by lia)
theorem E4 {n:Nat}:∀(f:Nat) {p:Array Nat} (k:Nat),p.size=n->k+f=n->Asc r p k->Asc r (aM (cR r) (kas_bin f p k)) n
 | 0,p,k,hs,hk,h=>by
  have e:k=n:=by lia
  rw[←e];exact h
 | f+1,p,k,hs,hk,h=>by
  unfold kas_bin;rw[gS];obtain⟨h1,h2,h3⟩:=pI h k 0 k (Nat.zero_le _) (Nat.le_refl _) (by lia) (fun i hi=>by lia) (fun i h1 h2=>by lia);exact E4 f (k+1) ((bubble_size _ _ _).trans hs) (by lia) (B0 (by lia) h h1 h2 h3)
theorem vT:∀(f k:Nat),1<=k->Asc r p k->k<=aM (cR r) (kas_asc p f k)/\aM (cR r) (kas_asc p f k)<=k+f/\Asc r p (aM (cR r) (kas_asc p f k))/\(aM (cR r) (kas_asc p f k)<k+f->rk r p (aM (cR r) (kas_asc p f k))<rk r p (aM (cR r) (kas_asc p f k) - 1))
 | 0,k,h0,h=>by
  show k<=k/\k<=k+0/\Asc r p k/\(k<k+0->_);exact⟨Nat.le_refl _,Nat.le_refl _,h,fun z=>by lia⟩
 | f+1,k,h0,h=>by
  unfold kas_asc;have ea:aM (cR r) (KasT.ask (p.getD k 0) (p.getD (k - 1) 0) fun c=>if c=true then .ret k else kas_asc p f (k+1))=aM (cR r) (if cR r (p.getD k 0) (p.getD (k - 1) 0)=true then .ret k else kas_asc p f (k+1)):=rfl;rw[ea]
  by_cases hc:cR r (p.getD k 0) (p.getD (k - 1) 0)=true
  ·rw[if_pos hc];show k<=k/\k<=k+(f+1)/\Asc r p k/\(k<k+(f+1)->rk r p k<rk r p (k - 1));exact⟨Nat.le_refl _,by lia,h,fun _=>of_decide_eq_true hc⟩
  ·rw[if_neg hc];have hc':¬rk r p k<rk r p (k - 1):=fun z=>hc (decide_eq_true z);have h':Asc r p (k+1):=fun i j hij hj=>by
    by_cases e:j=k
    ·subst e
     by_cases e2:i=j
     ·subst e2;exact Int.le_refl _
     ·have:=h i (j - 1) (by lia) (by lia)
      lia
    ·exact h i j hij (by lia)
   obtain⟨a1,a2,a3,a4⟩:=vT f (k+1) (by lia) h';exact⟨by lia,by lia,a3,fun z=>a4 (by lia)⟩
end
end L2
namespace L2
open PySem PySem.W PyProof.Rows
section
variable {r:Nat->Int}{p:Array Nat}
def Dif (r:Nat->Int)(p:Array Nat):Prop:=∀i j,i<p.size->j<p.size->rk r p i=rk r p j->i=j
def Dsc (r:Nat->Int)(p:Array Nat)(m:Nat):Prop:=∀i j,i<j->j<m->rk r p j<rk r p i
theorem DH {m:Nat}(hm:m<=p.size)(k:Nat):rk r (kas_rev p 0 m) k=if k<m then rk r p (m - 1 - k) else rk r p k:=by
 have e:=getElem?_mirror_all (i:=0) hm k
 split
 ·rename_i h;rw[if_pos ⟨Nat.zero_le _,h⟩,Nat.zero_add]at e;exact i8 e
 ·rename_i h;rw[if_neg (by lia)]at e;exact i8 e
theorem zJ (hd:Dif r p):∀(f k:Nat),1<=k->k+f<=p.size->Dsc r p k->∃m,aM (cR r) (kas_desc f p k 0)=(p,m,0)/\k<=m/\m<=k+f/\Dsc r p m
 | 0,k,h0,h1,h=>⟨k,rfl,Nat.le_refl _,Nat.le_refl _,h⟩
 | f+1,k,h0,h1,h=>by
  unfold kas_desc
  by_cases hc:cR r (p.getD k 0) (p.getD (k - 1) 0)=true
  ·have hc':rk r p k<rk r p (k - 1):=of_decide_eq_true hc;have h':Dsc r p (k+1):=fun i j hij hj=>by
    by_cases e:j=k
    ·subst e
     by_cases e2:i=j - 1
     ·subst e2;exact hc'
     ·have:=h i (j - 1) (by lia) (by lia)
      lia
    ·exact h i j hij (by lia)
   obtain⟨m,e,a1,a2,a3⟩:=zJ hd f (k+1) (by lia) (by lia) h';refine⟨m,?_,by lia,by lia,a3⟩;rw[←e];show aM (cR r) (if cR r (p.getD k 0) (p.getD (k - 1) 0)=true then _ else _)=_;rw[if_pos hc];rfl
  ·have hc':¬rk r p k<rk r p (k - 1):=fun z=>hc (decide_eq_true z);have hn:rk r p (k - 1)<rk r p k:=by
    have h2:rk r p (k - 1)≠rk r p k:=fun z=>by
     have:=hd (k - 1) k (by lia) (by lia) z
     lia
    lia
   refine⟨k,?_,Nat.le_refl _,by lia,h⟩;show aM (cR r) (if cR r (p.getD k 0) (p.getD (k - 1) 0)=true then _ else _)=_;rw[if_neg hc];show aM (cR r) (if cR r (p.getD (k - 1) 0) (p.getD k 0)=true then _ else _)=_;rw[if_pos (show cR r (p.getD (k - 1) 0) (p.getD k 0)=true from decide_eq_true hn)];rfl
theorem GW {m n:Nat}(h1:1<=m)(hm:m<=n)(hs:p.size=n)(h:Dsc r p m):∃a q,aM (cR r) (kas_tail3 m n p)=(a,q)/\a<=n/\q.size=n/\Asc r q a:=by
 have hasc:Asc r (kas_rev p 0 m) m:=fun i j hij hj=>by
  rw[DH (by lia),DH (by lia),if_pos (by lia),if_pos hj]
  by_cases e:i=j
  ·subst e;exact Int.le_refl _
  ·exact Int.le_of_lt (h (m - 1 - j) (m - 1 - i) (by lia) (by lia))
 obtain⟨a1,a2,a3,_⟩:=vT (n - m) m h1 hasc;refine⟨_,kas_rev p 0 m,by unfold kas_tail3;rw[gS];rfl,by lia,(mirror_size _ _ _ _).trans hs,a3⟩
theorem F1 {n:Nat}(hn:1<=n)(hs:p.size=n)(hd:Dif r p):∃a q,aM (cR r) (kas_count n p)=(a,q)/\a<=n/\q.size=n/\Asc r q a:=by
 have h0:Asc r p 1:=fun i j hij hj=>by
  have:i=j:=by lia
  subst this;exact Int.le_refl _
 obtain⟨a1,a2,a3,a4⟩:=vT (n - 1) 1 (Nat.le_refl _) h0;unfold kas_count;rw[gS];generalize aM (cR r) (kas_asc p (n - 1) 1)=k at a1 a2 a3 a4 ⊢
 by_cases e1:k=n
 ·rw[if_pos (by rw[e1];exact beq_self_eq_true _)];exact⟨k,p,rfl,by lia,hs,a3⟩
 ·rw[if_neg (by rw[beq_iff_eq];exact e1)]
  by_cases e2:k>1
  ·rw[if_pos e2];have hlt:rk r p 0<rk r p (k - 1):=by
    have h2:=a3 0 (k - 1) (Nat.zero_le _) (by lia);have h3:rk r p 0≠rk r p (k - 1):=fun z=>by
     have:=hd 0 (k - 1) (by lia) (by lia) z
     lia
    lia
   refine⟨k,p,?_,by lia,hs,a3⟩;show aM (cR r) (if cR r (p.getD 0 0) (p.getD (k - 1) 0)=true then _ else _)=_;rw[if_pos (show cR r (p.getD 0 0) (p.getD (k - 1) 0)=true from decide_eq_true hlt)];rfl
  ·rw[if_neg e2];have ek:k=1:=by lia
   subst ek;have h10:rk r p 1<rk r p 0:=a4 (by lia);unfold kas_descPart;rw[gS];obtain⟨m,e,b1,b2,b3⟩:=zJ hd (n - (1+1)) (1+1) (by lia) (by lia) (fun i j hij hj=>by
    have:i=0/\j=1:=by lia
    rw[this.1,this.2];exact h10)
   rw[e];have hmn:m<=n:=by
    have:2<=n:=by lia
    lia
   exact GW (p:=p) (m:=m) (n:=n) (by lia) hmn hs b3
theorem HI {n:Nat}(hn:1<=n)(hr:∀i j,i<n->j<n->r i=r j->i=j):Asc r (aM (cR r) (kas_sort n)) n:=by
 unfold kas_sort;rw[gS];have hs:(List.range n).toArray.size=n:=by simp
 have eg:∀i,i<n->(List.range n).toArray.getD i 0=i:=fun i hi=>by simp[Array.getD,hi]
 obtain⟨a,q,e,h1,h2,h3⟩:=F1 (r:=r) hn hs (fun i j hi hj z=>by
  unfold rk at z;rw[hs]at hi hj;rw[eg i hi,eg j hj]at z;exact hr i j hi hj z)
 rw[e]
 by_cases hlt:a<n
 ·show Asc r (aM (cR r) (if a<n then _ else _)) n;rw[if_pos hlt];refine E4 _ _ h2 (by lia) fun i j hij hj=> ?_
  by_cases ha:a=0
  ·have:i=j:=by lia
   subst this;exact Int.le_refl _
  ·exact h3 i j hij (by lia)
 ·show Asc r (aM (cR r) (if a<n then _ else _)) n;rw[if_neg hlt];have:a=n:=by lia
  rw[←this];exact h3
end
end L2
namespace L2
open PySem PySem.W PyProof.Rows
theorem tU {α:Type}{n:Nat}{R:α->Prop}{c c':Nat->Nat->Bool} (h:∀i j,i<n->j<n->c i j=c' i j):∀{t:KasT α},KasIn n R t->aM c t=aM c' t
 | .ret _,_=>rfl
 | .ask i j k,q=>by
  show aM c (k (c i j))=aM c' (k (c' i j));rw[h i j q.1 q.2.1];exact tU h (q.2.2 _)
theorem nX {α:Type}{p q:α->Bool}:∀{l:List α},(∀y∈l,p y=true->q y=true)->(∃x∈l,q x=true/\p x=false)->l.countP p<l.countP q
 | [],_,⟨x,hx,_⟩=>nomatch hx
 | a::l,h,⟨x,hx,h1,h2⟩=>by
  have hl:l.countP p<=l.countP q:=List.countP_mono_left fun y hy=>h y (List.mem_cons_of_mem _ hy);rcases List.mem_cons.mp hx with e|hx
  ·subst e;rw[List.countP_cons_of_pos h1,List.countP_cons_of_neg (by rw[h2];exact Bool.false_ne_true)]
   lia
  ·have ih:=nX (fun y hy=>h y (List.mem_cons_of_mem _ hy)) ⟨x,hx,h1,h2⟩;cases hp:p a with
   | true =>
    rw[List.countP_cons_of_pos hp,List.countP_cons_of_pos (h a (.head _) hp)]
    lia
   | false =>
    rw[List.countP_cons_of_neg (by rw[hp];exact Bool.false_ne_true)];cases hq:q a with
    | true=>rw[List.countP_cons_of_pos hq];lia
    | false=>rw[List.countP_cons_of_neg (by rw[hq];exact Bool.false_ne_true)];exact ih
structure Ord {α:Type}(lt:α->α->Bool)(l:List α):Prop where
 irr:∀x∈l,lt x x=false
 tr:∀x∈l,∀y∈l,∀z∈l,lt x y=true->lt y z=true->lt x z=true
 tot:∀x∈l,∀y∈l,x≠y->lt x y=true∨lt y x=true
section
variable {α:Type}{lt:α->α->Bool}{l:List α}{d:α}
theorem c6 {i:Nat}(h:i<l.length):l.getD i d∈l:=by
 rw[List.getD_eq_getElem?_getD,List.getElem?_eq_getElem h];exact List.getElem_mem h
theorem mF (nd:l.Nodup){i j:Nat}(hi:i<l.length)(hj:j<l.length)(e:l.getD i d=l.getD j d):i=j:=by
 rw[List.getD_eq_getElem?_getD,List.getElem?_eq_getElem hi,List.getD_eq_getElem?_getD,List.getElem?_eq_getElem hj]at e;have hp:=List.pairwise_iff_getElem.mp nd;rcases Nat.lt_trichotomy i j with h|h|h
 ·exact absurd e (hp i j hi hj h)
 ·exact h
 ·exact absurd e.symm (hp j i hj hi h)
theorem DX (o:Ord lt l)(nd:l.Nodup)(h2:2<=l.length):∀i j,i<j->j<l.length->lt (l.getD ((aM (fun i j=>lt (l.getD i d) (l.getD j d)) (kas_sort l.length)).getD i 0) d) (l.getD ((aM (fun i j=>lt (l.getD i d) (l.getD j d)) (kas_sort l.length)).getD j 0) d)=true:=by
 let r:Nat->Int:=fun i=>((l.countP fun y=>lt y (l.getD i d):Nat):Int)
 have hlt:∀i j,i<l.length->j<l.length->lt (l.getD i d) (l.getD j d)=true->r i<r j:=fun i j hi hj h=>by
  have:=nX (l:=l) (p:=fun y=>lt y (l.getD i d)) (q:=fun y=>lt y (l.getD j d)) (fun y hy h'=>o.tr y hy _ (c6 hi) _ (c6 hj) h' h) ⟨l.getD i d,c6 hi,h,o.irr _ (c6 hi)⟩;exact Int.ofNat_lt.mpr this
 have hrc:∀i j,i<l.length->j<l.length->(fun i j=>lt (l.getD i d) (l.getD j d)) i j=cR r i j:=fun i j hi hj=>by
  show lt (l.getD i d) (l.getD j d)=decide (r i<r j);cases e:lt (l.getD i d) (l.getD j d) with
  | true=>rw[decide_eq_true (hlt i j hi hj e)]
  | false =>
   rw[decide_eq_false];intro z
   by_cases e2:l.getD i d=l.getD j d
   ·rw[mF nd hi hj e2]at z;exact absurd z (Int.lt_irrefl _)
   ·rcases o.tot _ (c6 hi) _ (c6 hj) e2 with h|h
    ·rw[h]at e;cases e
    ·have:=hlt j i hj hi h
     lia
 have hinj:∀i j,i<l.length->j<l.length->r i=r j->i=j:=fun i j hi hj e=>by
  by_cases e2:l.getD i d=l.getD j d
  ·exact mF nd hi hj e2
  ·rcases o.tot _ (c6 hi) _ (c6 hj) e2 with h|h
   ·have:=hlt i j hi hj h;lia
   ·have:=hlt j i hj hi h;lia
 rw[tU hrc (r9 (by lia))];have hs:=HI (n:=l.length) (by lia) hinj;have hp:=c5 (n:=l.length) (cR r) (by lia);generalize aM (cR r) (kas_sort l.length)=q at hs hp;intro i j hij hj;have hqs:q.size=l.length:=by have:=hp.size_eq;simpa using this
 have li:=hp.lt (by lia) i;have lj:=hp.lt (by lia) j;have hne:q.getD i 0≠q.getD j 0:=fun z=>by
  have hnd:q.toList.Nodup:=by
   have h1:=Array.perm_iff_toList_perm.mp hp;exact h1.nodup_iff.mpr (by simpa using List.nodup_range)
  have ei:q.getD i 0=q.toList.getD i 0:=by simp[Array.getD,List.getD_eq_getElem?_getD,show i<q.size by lia]
  have ej:q.getD j 0=q.toList.getD j 0:=by simp[Array.getD,List.getD_eq_getElem?_getD,show j<q.size by lia]
  rw[ei,ej]at z;have:=mF hnd (by rw[Array.length_toList];lia) (by rw[Array.length_toList];lia) z
  lia
 have hle:=hs i j (by lia) (by lia);have e3:l.getD (q.getD i 0) d≠l.getD (q.getD j 0) d:=fun z=>hne (mF nd li lj z);rcases o.tot _ (c6 li) _ (c6 lj) e3 with h|h
 ·exact h
 ·have:=hlt _ _ lj li h;unfold rk at hle
  lia
theorem i7 (c:Nat->Nat->Bool):(aY d c l).Perm l:=by
 unfold aY
 split
 ·exact List.Perm.refl _
 ·have h:=Array.perm_iff_toList_perm.mp (c5 (n:=l.length) c (by lia));refine(h.map fun i=>l.getD i d).trans ?_;have e:((List.range l.length).toArray.toList.map fun i=>l.getD i d)=l:=by
   apply List.ext_getElem?
   intro i
   by_cases hi:i<l.length
   ·simp[hi,List.getD_eq_getElem?_getD]
   ·simp[hi]
  rw[e]
theorem qI (o:Ord lt l)(nd:l.Nodup):(aY d (fun i j=>lt (l.getD i d) (l.getD j d)) l).Pairwise fun x y=>lt x y=true:=by
 unfold aY
 split
 ·rename_i h
  match l,h with
  | [],_=>exact .nil
  | [x],_=>exact List.pairwise_singleton _ _
 ·rename_i h;have ha:=DX (d:=d) o nd (by lia);have hp:=c5 (n:=l.length) (fun i j=>lt (l.getD i d) (l.getD j d)) (by lia);generalize aM (fun i j=>lt (l.getD i d) (l.getD j d)) (kas_sort l.length)=q at ha hp;have hqs:q.size=l.length:=by have:=hp.size_eq;simpa using this
  rw[List.pairwise_iff_getElem];intro i j hi hj hij;rw[List.length_map,Array.length_toList]at hi hj;have:=ha i j hij (by lia)
  simpa [Array.getD,hi,hj] using this
theorem rQ:∀{l k:List α},(∀x∈l,lt x x=false)->(∀x∈l,∀y∈l,∀z∈l,lt x y=true->lt y z=true->lt x z=true)->l.Perm k->l.Pairwise (fun x y=>lt x y=true)->k.Pairwise (fun x y=>lt x y=true)->l=k
 | [],k,_,_,hp,_,_=>(List.nil_perm.mp hp).symm
 | a::l,[],_,_,hp,_,_=>nomatch (List.perm_nil.mp hp)
 | a::l,b::k,hi,ht,hp,h1,h2=>by
  have ha:a∈b::k:=hp.mem_iff.mp (.head _);have hb:b∈a::l:=hp.mem_iff.mpr (.head _);have e:a=b:=by
   rcases List.mem_cons.mp ha with e|ha'
   ·exact e
   ·rcases List.mem_cons.mp hb with e|hb'
    ·exact e.symm
    ·have q1:=(List.pairwise_cons.mp h2).1 a ha';have q2:=(List.pairwise_cons.mp h1).1 b hb';have:=ht a (.head _) b hb a (.head _) q2 q1;rw[hi a (.head _)]at this;cases this
  subst e;rw[rQ (fun x hx=>hi x (List.mem_cons_of_mem _ hx)) (fun x hx y hy z hz=>ht x (List.mem_cons_of_mem _ hx) y (List.mem_cons_of_mem _ hy) z (List.mem_cons_of_mem _ hz)) (List.perm_cons a |>.mp hp) (List.pairwise_cons.mp h1).2 (List.pairwise_cons.mp h2).2]
end
end L2
namespace L2
open PySem PySem.W PyProof.Rows
def ltS (x y:Str):Bool:=decide (x.cps.toList<y.cps.toList)
theorem GS {x y:Str}(h:x.cps.toList=y.cps.toList):x=y:=by
 cases x;cases y
 congr 1
 exact Array.toList_inj.mp h
theorem LH (x:Str):ltS x x=false:=decide_eq_false (List.lt_irrefl _)
theorem OD {x y z:Str}(h1:ltS x y=true)(h2:ltS y z=true):ltS x z=true:=decide_eq_true (List.lt_trans (of_decide_eq_true h1) (of_decide_eq_true h2))
theorem KW {x y:Str}(h:x≠y):ltS x y=true∨ltS y x=true:=by
 by_cases h1:x.cps.toList<y.cps.toList
 ·exact .inl (decide_eq_true h1)
 ·by_cases h2:y.cps.toList<x.cps.toList
  ·exact .inr (decide_eq_true h2)
  ·exact absurd (GS (List.le_antisymm (List.not_lt.mp h2) (List.not_lt.mp h1))) h
theorem yC {α β:Type}(f:α->β)(d:α)(e:β)(c:Nat->Nat->Bool)(l:List α):aY e c (l.map f)=(aY d c l).map f:=by
 unfold aY;rw[List.length_map]
 split
 ·rfl
 ·rename_i h;rw[List.map_map]
  apply List.map_congr_left
  intro i hi;have h':=(c5 (n:=l.length) c (by lia)).mem_iff.mp (Array.mem_toList_iff.mp hi);have hl:i<l.length:=by simpa using h'
  show (l.map f).getD i e=f (l.getD i d);rw[List.getD_eq_getElem?_getD,List.getD_eq_getElem?_getD,List.getElem?_map,List.getElem?_eq_getElem hl];rfl
section
variable {X:Cx}
end
def EF (rs:List (List Key)):Prop:=∃sh,∀r∈rs,r.map b7=sh
theorem EZ (a:Key):d6 a a=false:=by
 cases a with
 | inl i=>exact decide_eq_false (Int.lt_irrefl _)
 | inr x=>exact LH x
theorem FX {a b c:Key}(h1:d6 a b=true)(h2:d6 b c=true):d6 a c=true:=by
 cases a<;>cases b<;>cases c<;>first|(cases h1;done)|(cases h2;done)|skip
 ·exact decide_eq_true (Int.lt_trans (of_decide_eq_true h1) (of_decide_eq_true h2))
 ·exact OD h1 h2
theorem DK {a b:Key}(k:b7 a=b7 b)(h:a≠b):d6 a b=true∨d6 b a=true:=by
 cases a<;>cases b<;>first|(cases k;done)|skip
 ·rename_i i j;have hij:i≠j:=fun z=>h (by rw[z]);rcases Int.lt_or_gt_of_ne hij with z|z
  ·exact .inl (decide_eq_true z)
  ·exact .inr (decide_eq_true z)
 ·rename_i x y;exact KW fun z=>h (by rw[z])
theorem mI:∀a:List Key,cF a a=false
 | []=>rfl
 | a::as=>by
  show (if a=a then cF as as else d6 a a)=false;rw[if_pos rfl];exact mI as
theorem w9:∀{a b:List Key},a.map b7=b.map b7->a≠b->cF a b=true∨cF b a=true
 | [],[],_,h=>absurd rfl h
 | [],_::_,k,_=>by cases k
 | _::_,[],k,_=>by cases k
 | a::as,b::bs,k,h=>by
  show (if a=b then cF as bs else d6 a b)=true∨(if b=a then cF bs as else d6 b a)=true
  by_cases e:a=b
  ·subst e;rw[if_pos rfl,if_pos rfl];exact w9 (List.cons.inj k).2 fun z=>h (by rw[z])
  ·rw[if_neg e,if_neg (fun z=>e z.symm)];exact DK (List.cons.inj k).1 e
theorem rN:∀{a b c:List Key},cF a b=true->cF b c=true->cF a c=true
 | [],_,_,h,_=>by cases h
 | _::_,[],_,h,_=>by cases h
 | _::_,_::_,[],_,h=>by cases h
 | a::as,b::bs,c::cs,h1,h2=>by
  have h1':(if a=b then cF as bs else d6 a b)=true:=h1;have h2':(if b=c then cF bs cs else d6 b c)=true:=h2;show (if a=c then cF as cs else d6 a c)=true
  by_cases e1:a=b
  ·subst e1;rw[if_pos rfl]at h1'
   by_cases e2:a=c
   ·subst e2;rw[if_pos rfl]at h2' ⊢;exact rN h1' h2'
   ·rw[if_neg e2]at h2' ⊢;exact h2'
  ·rw[if_neg e1]at h1'
   by_cases e2:b=c
   ·subst e2;rw[if_neg e1];exact h1'
   ·rw[if_neg e2]at h2';have h3:=FX h1' h2'
    by_cases e3:a=c
    ·subst e3;rw[EZ]at h3;cases h3
    ·rw[if_neg e3];exact h3
theorem wG {rs:List (List Key)}(h:EF rs):Ord cF rs:=⟨fun x _=>mI x,fun _ _ _ _ _ _ h1 h2=>rN h1 h2,fun x hx y hy e=>by
 obtain⟨sh,h⟩:=h;exact w9 ((h x hx).trans (h y hy).symm) e⟩
def fG (rs:List (List Key)):List (List Key):=aY [] (iE rs) rs
theorem gH (rs:List (List Key)):(fG rs).Perm rs:=i7 _
theorem pT {rs:List (List Key)}(h:EF rs)(nd:rs.Nodup):(fG rs).Pairwise fun x y=>cF x y=true:=qI (d:=[]) (wG h) nd
theorem qF {H:Hp}{vs:List V}{rs:List (List Key)} (k:KRows H vs rs):KRows H (uO rs vs) (fG rs):=by
 have hl:vs.length=rs.length:=Paired.length k;unfold uO fG aY;rw[hl]
 split
 ·exact k
 ·have hp:=c5 (n:=rs.length) (iE rs) (by lia);have hm:∀i∈(aM (iE rs) (kas_sort rs.length)).toList,i<rs.length:=fun i hi=>by
   have h:=hp.mem_iff.mp (Array.mem_toList_iff.mp hi)
   simpa using h
  revert hm;generalize (aM (iE rs) (kas_sort rs.length)).toList=l;intro hm
  induction l with
  | nil=>exact .nil
  | cons i l ih =>
   refine .cons ?_ (ih fun j hj=>hm j (List.mem_cons_of_mem _ hj));have hi:=hm i (.head _);obtain⟨p,r,e1,e2,e3⟩:=k.get (i:=i) (v:=vs.getD i .non) (by rw[List.getD_eq_getElem?_getD,List.getElem?_eq_getElem (by lia)];rfl);refine⟨p,e1,?_⟩;show H p=some (.tup ((rs.getD i []).map kV));rw[List.getD_eq_getElem?_getD,e2];exact e3
end L2
namespace L2
open PySem PySem.W PyProof.Rows
section
variable {X:Cx}{pins:List (Addr×Obj)}{σ:St}{H:Hp}{s:Shared}
end
end L2
namespace L2
open PySem PySem.W PyProof.Rows
section
variable {X:Cx}
end
end L2
namespace L2
open PySem PySem.W PyProof.Rows
theorem Paired.snoc {α β:Type}{F:α->β->Prop}:∀{l:List α}{m:List β}{a:α}{b:β},Paired F l m->F a b->Paired F (l++[a]) (m++[b])
 | _,_,_,_,.nil,h=> .cons h .nil
 | _,_,_,_,.cons r t,h=> .cons r (Paired.snoc t h)
theorem Paired.at2 {α β:Type}{F:α->β->Prop}:∀{l:List α}{m:List β}{i:Nat}{a:α}{b:β},Paired F l m->l[i]? =some a->m[i]? =some b->F a b
 | _,_,0,_,_,.cons r _,h1,h2=>by cases h1;cases h2;exact r
 | _,_,i+1,_,_,.cons _ t,h1,h2=>Paired.at2 (i:=i) t (by simpa using h1) (by simpa using h2)
 | _,_,_,_,_,.nil,h1,_=>by simp at h1
theorem mE {α:Type}{J:It}{g:TG}{ti:TT}{te:TE}{σ0:St}{fin:List V->Hp->Prop}{H:Hp} (xs:List α) (c:α->Bool) (P:α->V->Hp->Prop) (hm:∀x y H1 H2,P x y H1->Same H1 H2->P x y H2) (hn:xs.length<=sizeLine)
  (hgo:∀i H1,Same H H1->i<xs.length->J.go i H1)(hst:∀H1,Same H H1->J.stop xs.length H1)
  (hb:∀i x H1,xs[i]? =some x->Same H H1->∀v H',J.yld i H1 v H'->Same H1 H'/\∃σ2:St,σ2.length=σ0.length/\(∀(j:Nat) v,σ0[j]? =some (some v)->σ2[j]? =some (some v))/\(∀R:St->Hp->Prop,R σ2 H'->g v σ0 H' R) ∧
   (∀R:Bool->Hp->Prop,(∀H2,Same H' H2->R (c x) H2)->ti σ2 H' R)/\(c x=true->∀H2,Same H' H2->∀R:VK,(∀y H3,P x y H3->Same H2 H3->R y H3)->te σ2 H2 R))
  (hf:∀ys H1,Same H H1->Paired (fun x y=>P x y H1) (xs.filter c) ys->fin ys H1):eV J g ti te σ0 fin H:=by
 refine⟨fun i m ys H1=>i+m=xs.length/\Same H H1/\Paired (fun x y=>P x y H1) ((xs.take i).filter c) ys,⟨xs.length,by lia,Same.refl _,.nil⟩,?_⟩;rintro i m ys H1 ⟨e1,s1,pr⟩;cases m with
 | zero =>
  have ei:i=xs.length:=by lia
  subst ei;rw[List.take_length]at pr;exact .inl ⟨hst H1 s1,hf ys H1 s1 pr⟩
 | succ m =>
  have hi:i<xs.length:=by lia
  refine .inr ⟨hgo i H1 s1 hi,fun v H' y=> ?_⟩;have ex:xs[i]? =some xs[i]:=List.getElem?_eq_getElem hi;have etake:xs.take (i+1)=xs.take i++[xs[i]]:=by rw[List.take_succ,ex];rfl
  have hlen:ys.length<=i:=by
   rw[←Paired.length pr];exact Nat.le_trans (List.length_filter_le _ _) (by rw[List.length_take];lia)
  obtain⟨s2,σ2,l2,c2,hg,ht,he⟩:=hb i xs[i] H1 ex s1 v H' y;refine hg _ ⟨⟨l2,c2⟩,ht _ fun H2 s3=> ?_⟩;cases hc:c xs[i] with
  | true =>
   show te σ2 H2 _;refine he hc H2 s3 _ fun y H3 py s4=>⟨by lia,m,by lia,by lia,((s1.trans s2).trans s3).trans s4,?_⟩
   rw[etake,List.filter_append,List.filter_cons_of_pos hc];exact Paired.snoc (Paired.imp' (fun a b h=>hm a b _ _ h ((s2.trans s3).trans s4)) pr) py
  | false =>
   show ∃m',_;refine⟨m,by lia,by lia,(s1.trans s2).trans s3,?_⟩;rw[etake,List.filter_append,List.filter_cons_of_neg (by rw[hc];exact Bool.false_ne_true),List.filter_nil,List.append_nil];exact Paired.imp' (fun a b h=>hm a b _ _ h (s2.trans s3)) pr
section
variable {K:PySem.W.Frag}{ti:TT}{te:TE}{σ:St}{ci:List Nat}{rest:St}{fin:List V->Hp->Prop}{H:Hp}{a:Addr}
theorem GI {n:Nat}(hr:ci.map (fun i=>(σ[i]?).join)=rest):bG n ci σ=List.replicate n none++rest:=by unfold bG;rw[hr]
end
end L2
namespace L2
open PySem PySem.W PyProof.Rows
section
variable {K:PySem.W.Frag}{ti:TT}{te:TE}{σ:St}{ci:List Nat}{rest:St}{fin:List V->Hp->Prop}{H:Hp}{a:Addr}
theorem uZ {H:Hp}{q:Addr}{o:HO} (h:H q=none):Same H (upd H q o):=fun b u e=>by
 have:b≠q:=fun z=>by rw[z,h]at e;cases e
 rw[aI this];exact e
theorem KC {α:Type}{vs:List V}{xs:List α} (f1 f2 f3:α->V) (c:α->Bool) (P:α->V->Hp->Prop) (hm:∀x y H1 H2,P x y H1->Same H1 H2->P x y H2) (hn:xs.length<=sizeLine) (hr:ci.map (fun i=>(σ[i]?).join)=rest) (hl:SqL K H a vs)
  (hv:Paired (fun v x=>∃q,v= .ref q/\H q=some (.tup [f1 x,f2 x,f3 x])) vs xs)
  (ht:∀x H1,x∈xs->Same H H1->∀R:Bool->Hp->Prop,(∀H2,Same H1 H2->R (c x) H2)->ti (some (f1 x)::some (f2 x)::some (f3 x)::rest) H1 R)
  (he:∀x H1,x∈xs->c x=true->Same H H1->∀R:VK,(∀y H2,P x y H2->Same H1 H2->R y H2)->te (some (f1 x)::some (f2 x)::some (f3 x)::rest) H1 R)
  (hf:∀ys H1,Same H H1->Paired (fun x y=>P x y H1) (xs.filter c) ys->fin ys H1):eV (Itl K a) (sG K 3 (iW (dH 0) (iW (dH 1) (iW (dH 2) u8)))) ti te (bG 3 ci σ) fin H:=by
 have e0:bG 3 ci σ=none::none::none::rest:=GI hr;rw[e0];have hlen:vs.length=xs.length:=Paired.length hv;refine mE xs c P hm hn (fun i H1 s hi=>⟨vs,vs[i],s.seq hl,List.getElem?_eq_getElem (by lia)⟩) (fun H1 s=>⟨vs,s.seq hl,by lia⟩) (fun i x H1 hx s1 v H' y=> ?_) hf;obtain⟨rfl,e2⟩:=y;have ev:=e2 vs (s1.seq hl);obtain⟨q,rfl,hq⟩:∃q,v= .ref q/\H q=some (.tup [f1 x,f2 x,f3 x]):=Paired.at2 hv ev hx;have hmem:=List.mem_of_getElem? hx;refine⟨Same.refl _,some (f1 x)::some (f2 x)::some (f3 x)::rest,rfl,fun j v hv=> ?_,fun R h=>⟨q,[f1 x,f2 x,f3 x],rfl,.inl (.inl (s1 _ _ hq)),rfl,f1 x,[f2 x,f3 x],rfl,f2 x,[f3 x],rfl,f3 x,[],rfl,rfl,h⟩,fun R h=>ht x _ hmem s1 R h,fun hc H2 s2 R h=>he x H2 hmem hc (s1.trans s2) R h⟩
 match j,hv with
 | 0,hv=>cases hv
 | 1,hv=>cases hv
 | 2,hv=>cases hv
 | j+3,hv=>exact hv
theorem ET {kvs:List (List Key×V)}{o:Obj} (c:List Key×V->Bool) (P:List Key×V->V->Hp->Prop) (hm:∀x y H1 H2,P x y H1->Same H1 H2->P x y H2) (hn:kvs.length<=sizeLine) (hr:ci.map (fun i=>(σ[i]?).join)=rest) (h0:H a=some (.frz o (.dT kvs)))
  (ht:∀x H1 p,x∈kvs->Same H H1->H1 p=some (.tup (x.1.map kV))->∀R:Bool->Hp->Prop,(∀H2,Same H1 H2->R (c x) H2)->ti (some (.ref p)::some x.2::rest) H1 R)
  (he:∀x H1 p,x∈kvs->c x=true->Same H H1->H1 p=some (.tup (x.1.map kV))->∀R:VK,(∀y H2,P x y H2->Same H1 H2->R y H2)->te (some (.ref p)::some x.2::rest) H1 R)
  (hf:∀ys H1,Same H H1->Paired (fun x y=>P x y H1) (kvs.filter c) ys->fin ys H1):eV (Itj a o kvs) (sG K 2 (iW (dH 0) (iW (dH 1) u8))) ti te (bG 2 ci σ) fin H:=by
 have e0:bG 2 ci σ=none::none::rest:=GI hr;rw[e0];refine mE kvs c P hm hn (fun i H1 s hi=>⟨s _ _ h0,hi⟩) (fun H1 s=>⟨s _ _ h0,Nat.le_refl _⟩) (fun i x H1 hx s1 v H' y=> ?_) hf;obtain⟨k,u,p,q,e2,rfl,hp,hq,rfl⟩:=y;rw[hx]at e2;cases e2;have hmem:=List.mem_of_getElem? hx;have sq:Same H1 (upd H1 q (.tup [.ref p,u])):=uZ hq;refine⟨sq,some (.ref p)::some u::rest,rfl,fun j v hv=> ?_,fun R h=>⟨q,[.ref p,u],rfl,.inl (.inl bA),rfl,.ref p,[u],rfl,u,[],rfl,rfl,h⟩,fun R h=>ht _ _ p hmem (s1.trans sq) (sq _ _ hp) R h,fun hc H2 s2 R h=>he _ H2 p hmem hc ((s1.trans sq).trans s2) (s2 _ _ (sq _ _ hp)) R h⟩
 match j,hv with
 | 0,hv=>cases hv
 | 1,hv=>cases hv
 | j+2,hv=>exact hv
end
section
variable {σ:St}{H:Hp}{g:TG}{tb:TS}{nx bk ct:St->Hp->Prop}{rt:VK}
end
def zZ (R:It->Hp->Prop):VK:=fun x H1=>∃a kvs,x= .ref a/\H1 a=some (.dT kvs)/\∀o,R (Itj a o kvs) (upd H1 a (.frz o (.dT kvs)))
def DN (σ:St)(ty tx:TE)(Q:VK):VK:=fun x H1=>∃a,x= .ref a/\IsD H1 a/\ty σ H1 fun y H2=>tx σ H2 fun z H3=>∃o,DGet H3 a y o/\Q (o.getD z) H3
def NV (a:Addr)(Q:VK)(y:V):VK:=fun z H3=>∃o,DGet H3 a y o/\Q (o.getD z) H3
section
variable {K:PySem.W.Frag}{H:Hp}{Q:VK}{σ:St}{nx:St->Hp->Prop}{R:It->Hp->Prop}{td ty tx:TE}
theorem CD (h:td σ H (zZ R)):zF td σ H R:=h
theorem sR {p:Addr}{kvs:List (List Key×V)} (e:H p=some (.dT kvs)) (h:∀o H',SameBut p H H'->H' p=some (.frz o (.dT kvs))->R (Itj p o kvs) H'):zZ R (.ref p) H:=⟨p,kvs,rfl,e,fun o=>h o _ SameBut.upd bA⟩
theorem HK (h:td σ H (DN σ ty tx Q)):C0 td ty tx σ H Q:=h
theorem EX {p:Addr}{kvs:List (List Key×V)} (e:H p=some (.dT kvs)) (h:ty σ H fun y H2=>tx σ H2 (NV p Q y)):DN σ ty tx Q (.ref p) H:=⟨p,rfl,.inr ⟨kvs,.inl e⟩,h⟩
theorem GC {p b:Addr}{z:V}{kvs:List (List Key×V)} (k:List Key) (e:H p=some (.dT kvs)) (eb:H b=some (.tup (k.map kV))) (h:Q ((cC kvs k).getD z) H):NV p Q (.ref b) z H:=⟨_,DGet.t e eb,h⟩
theorem FP {p:Addr}{vs:List V}{rs:List (List Key)}{sh:List Bool} (e:SqL K H p vs) (kr:KRows H vs rs) (hl:vs.length<64) (hs:∀r∈rs,r.map b7=sh) (hn:sh≠[]) (h:∀l ws H',H l=none->Same H H'->H' l=some (.lst ws)->KRows H' ws (fG rs)->Q (.ref l) H'):zX K [.ref p] H Q :=
 ⟨p,vs,rs,sh,rfl,e,kr,hl,hs,hn,d9 fun l H' n S e=>h l _ H' n S e ((qF kr).same S)⟩
theorem F4 {te:TE}{p:Addr}{u:HO} (e:H p=some u) (nf:∀o x,u≠ .frz o x) (h:te σ H fun x=>u6 p (Q x)):JG te σ H Q:=⟨p,fun o x z=>nf o x (by rw[e]at z;exact Option.some.inj z),h⟩
theorem EQ {p:Addr}{o:Obj}{u:HO}{R:Hp->Prop} (e:H p=some (.frz o u)) (h:∀H',SameBut p H H'->H' p=some u->R H'):u6 p R H:=⟨o,u,e,h _ SameBut.upd bA⟩
end
section
variable {X:Cx}{K:PySem.W.Frag}
end
end L2
namespace L2
open PySem PySem.W PyProof.Rows
section
variable {K:PySem.W.Frag}{ti:TT}{te:TE}{σ:St}{ci:List Nat}{rest:St}{fin:List V->Hp->Prop}{H:Hp}{a:Addr}{α:Type}
theorem rV {vs:List V}{xs:List α} (F:V->α->Prop) (c:α->Bool) (P:α->V->Hp->Prop) (hm:∀x y H1 H2,P x y H1->Same H1 H2->P x y H2) (hn:xs.length<=sizeLine) (hr:ci.map (fun i=>(σ[i]?).join)=rest) (hl:SqL K H a vs) (hv:Paired F vs xs)
  (ht:∀v x H1,F v x->x∈xs->Same H H1->∀R:Bool->Hp->Prop,(∀H2,Same H1 H2->R (c x) H2)->ti (some v::rest) H1 R)
  (he:∀v x H1,F v x->x∈xs->c x=true->Same H H1->∀R:VK,(∀y H2,P x y H2->Same H1 H2->R y H2)->te (some v::rest) H1 R)
  (hf:∀ys H1,Same H H1->Paired (fun x y=>P x y H1) (xs.filter c) ys->fin ys H1):eV (Itl K a) (dH 0) ti te (bG 1 ci σ) fin H:=by
 rw[ES hr];have hlen:vs.length=xs.length:=Paired.length hv;refine mE xs c P hm hn (fun i H1 s hi=>⟨vs,vs[i],s.seq hl,List.getElem?_eq_getElem (by lia)⟩) (fun H1 s=>⟨vs,s.seq hl,by lia⟩) (fun i x H1 hx s1 v H' y=> ?_) hf;obtain⟨rfl,e2⟩:=y;have ev:=e2 vs (s1.seq hl);have hF:=Paired.at2 hv ev hx;have hmem:=List.mem_of_getElem? hx;refine⟨Same.refl _,some v::rest,rfl,fun j v hv=> ?_,fun R h=>h,fun R h=>ht v x _ hF hmem s1 R h,fun hc H2 s2 R h=>he v x H2 hF hmem hc (s1.trans s2) R h⟩;cases j with
 | zero=>cases hv
 | succ j=>exact hv
end
end L2
namespace L2
open PySem PySem.W PyProof.Rows
abbrev aG:=Int×Str×Int
def cV (t:Int)(n:Str):List Key:=[.inl t,.inr n]
def bY (r:aG):List Key:=[.inl r.1,.inr r.2.1,.inl r.2.2]
def uJ:V->Int
 | .int i=>i
 | _=>0
def BV (kvs:List (List Key×V))(r:aG):List (List Key×V):=dI kvs (cV r.1 r.2.1) (.int (uJ ((cC kvs (cV r.1 r.2.1)).getD (.int 0))+r.2.2))
def gF (rows:List aG):List (List Key×V):=rows.foldl BV []
theorem jV (rows:List aG)(r:aG):gF (rows++[r])=BV (gF rows) r:=by unfold gF;rw[List.foldl_append];rfl
def d7 (rows:List aG)(t:Int)(n:Str):Int:=((rows.filter fun r=>decide (r.1=t)&&decide (r.2.1=n)).map (·.2.2)).sum
theorem BG (rows:List aG)(r:aG)(t:Int)(n:Str):d7 (rows++[r]) t n=d7 rows t n+if r.1=t/\r.2.1=n then r.2.2 else 0:=by
 unfold d7;rw[List.filter_append,List.map_append,List.sum_append]
 congr 1
 by_cases h:r.1=t/\r.2.1=n
 ·rw[if_pos h,List.filter_cons_of_pos (by simp[h])];simp
 ·rw[if_neg h,List.filter_cons_of_neg (by simpa using h)];simp
theorem HE {t t':Int}{n n':Str} (h:cV t n=cV t' n'):t=t'/\n=n':=by
 unfold cV at h;injection h with h1 h2;injection h2 with h2;exact⟨Sum.inl.inj h1,Sum.inr.inj h2⟩
theorem rZ {α:Type}{P:List α->Prop} (h0:P []) (hs:∀l a,P l->P (l++[a])) (l:List α):P l:=by
 have:∀m:List α,P m.reverse:=fun m=>by
  induction m with
  | nil=>exact h0
  | cons a m ih=>rw[List.reverse_cons];exact hs _ _ ih
 rw[←List.reverse_reverse l];exact this _
theorem vE (t:Int)(n:Str)(rows:List aG):uJ ((cC (gF rows) (cV t n)).getD (.int 0))=d7 rows t n:=by
 induction rows using rZ with
 | h0=>rfl
 | hs l r ih =>
  rw[jV,BG];unfold BV;rw[HG]
  by_cases e:cV t n=cV r.1 r.2.1
  ·obtain⟨rfl,rfl⟩:=HE e;rw[if_pos rfl,if_pos ⟨rfl,rfl⟩,←ih];rfl
  ·rw[if_neg e,if_neg (fun h=>e (by rw[h.1,h.2])),ih];lia
theorem tV {κ:Type}[DecidableEq κ]{kvs:List (κ×V)}{k:κ}{v:V} (nd:(kvs.map (·.1)).Nodup):((dI kvs k v).map (·.1)).Nodup:=by
 unfold dI
 split
 ·have e:(kvs.map fun kv=>if kv.1=k then (kv.1,v) else kv).map (·.1)=kvs.map (·.1):=by
   rw[List.map_map]
   apply List.map_congr_left
   intro x _;show (if x.1=k then (x.1,v) else x).1=x.1
   split<;>rfl
  rw[e];exact nd
 ·rename_i h;rw[List.map_append];refine zO nd fun hk=>h ?_;obtain⟨x,hx,e⟩:=List.mem_map.mp hk;rw[List.any_eq_true];exact⟨x,hx,decide_eq_true e⟩
theorem oN {κ:Type}[DecidableEq κ]:∀{kvs:List (κ×V)}{e:κ×V},(kvs.map (·.1)).Nodup->e∈kvs->cC kvs e.1=some e.2
 | a::l,e,nd,h=>by
  have nd':=List.pairwise_cons.mp nd;rcases List.mem_cons.mp h with rfl|h
  ·exact cU rfl
  ·rw[cT (nd'.1 e.1 (List.mem_map.mpr ⟨e,h,rfl⟩))];exact oN nd'.2 h
theorem tD {κ:Type}[DecidableEq κ]{kvs:List (κ×V)}{k:κ}{v:V} (h:cC kvs k=some v):(k,v)∈kvs:=by
 unfold cC at h;obtain⟨x,hx,e⟩:=Option.map_eq_some_iff.mp h;have h1:=List.find?_some hx;have h2:=List.mem_of_find?_eq_some hx;have h3:x.1=k:=of_decide_eq_true h1;rw[←h3,←e];exact h2
def QQ (kvs:List (List Key×V)):Prop:=(kvs.map (·.1)).Nodup/\∀e∈kvs,∃t n i,e=(cV t n,.int i)
theorem dJ (rows:List aG):QQ (gF rows):=by
 induction rows using rZ with
 | h0=>exact⟨List.nodup_nil,fun e h=>nomatch h⟩
 | hs l r ih =>
  rw[jV];refine⟨tV ih.1,fun e he=> ?_⟩;rcases vQ he with h|⟨h1,h2⟩
  ·exact ih.2 e h
  ·exact⟨_,_,_,Prod.ext h1 h2⟩
theorem GZ (rows:List aG)(t:Int)(n:Str):∃i,(cC (gF rows) (cV t n)).getD (.int 0)= .int i:=by
 cases h:cC (gF rows) (cV t n) with
 | none=>exact⟨0,rfl⟩
 | some v =>
  obtain⟨t',n',i,e⟩:=(dJ rows).2 _ (tD h);cases e;exact⟨i,rfl⟩
theorem pN (rows:List aG):(gF rows).length<=rows.length:=by
 induction rows using rZ with
 | h0=>exact Nat.le_refl _
 | hs l r ih =>
  rw[jV,List.length_append];exact Nat.le_trans (fL _ _ _) (by simp;lia)
def GO (e:List Key×V):Bool:=decide (0<uJ e.2)
def f9 (e:List Key×V):List Key:=e.1++[.inl (uJ e.2)]
def d0 (rows:List aG):List (List Key):=((gF rows).filter GO).map f9
theorem mem_told {rows:List aG}{k:List Key}:k∈d0 rows↔∃t n,k=bY (t,n,d7 rows t n)/\0<d7 rows t n:=by
 unfold d0
 constructor
 ·intro h;obtain⟨e,he,rfl⟩:=List.mem_map.mp h;obtain⟨h1,h2⟩:=List.mem_filter.mp he;obtain⟨t,n,i,rfl⟩:=(dJ rows).2 e h1;have hv:=oN (dJ rows).1 h1;have ht:=vE t n rows;rw[hv]at ht;have ht':i=d7 rows t n:=ht;refine⟨t,n,?_,?_⟩
  ·rw[←ht'];rfl
  ·rw[←ht'];exact of_decide_eq_true h2
 ·rintro ⟨t,n,rfl,h⟩;have ht:=vE t n rows;cases hv:cC (gF rows) (cV t n) with
  | none =>
   rw[hv]at ht;have:(0:Int)=d7 rows t n:=ht
   lia
  | some v =>
   have hm:=tD hv;obtain⟨t',n',i,e⟩:=(dJ rows).2 _ hm;obtain⟨e1,e2⟩:=Prod.mk.inj e;subst e2;rw[hv]at ht;have ht':i=d7 rows t n:=ht;refine List.mem_map.mpr ⟨(cV t n,.int i),List.mem_filter.mpr ⟨hm,?_⟩,?_⟩
   ·show decide (0<i)=true;rw[ht'];exact decide_eq_true h
   ·rw[ht'];rfl
theorem lH (rows:List aG):(d0 rows).Nodup:=by
 unfold d0;have h1:((gF rows).filter GO).Pairwise fun a b=>a.1≠b.1:=by
  have:=(dJ rows).1;rw[List.Nodup,List.pairwise_map]at this;exact this.filter _
 rw[List.Nodup,List.pairwise_map];refine List.Pairwise.imp_of_mem ?_ h1;intro a b ha hb h z;obtain⟨t,n,i,rfl⟩:=(dJ rows).2 a (List.mem_filter.mp ha).1;obtain⟨t',n',i',rfl⟩:=(dJ rows).2 b (List.mem_filter.mp hb).1
 apply h
 have z':bY (t,n,i)=bY (t',n',i'):=z;unfold bY at z';injection z' with z1 z2;injection z2 with z2 z3;show cV t n=cV t' n';have y1:t=t':=Sum.inl.inj z1;have y2:n=n':=Sum.inr.inj z2;rw[y1,y2]
theorem lS (rows:List aG):∀r∈d0 rows,r.map b7=[true,false,true]:=fun r hr=>by
 obtain⟨t,n,rfl,_⟩:=mem_told.mp hr;rfl
theorem gP {a b:aG}(h:bY a=bY b):a=b:=by
 unfold bY at h;injection h with h1 h2;injection h2 with h2 h3;injection h3 with h3;exact Prod.ext (Sum.inl.inj h1) (Prod.ext (Sum.inr.inj h2) (Sum.inl.inj h3))
end L2
namespace L2
open PySem PySem.W PyProof.Rows
section
variable {prog:Program}{w:World}{A:Around}{E:Value->Shared->Prop}{s:Shared}{d:Addr}{κ:Type} [DecidableEq κ] {knd:KeyKind prog w κ}{ps:List (κ×Value)}{ep:Nat}
end
section
variable {X:Cx}
end
end L2
namespace L2
open PySem PySem.W PyProof.Rows
section
variable {X:Cx}
end
end L2
namespace L2
open PySem PySem.W PyProof.Rows
section
variable {X:Cx}{pins:List (Addr×Obj)}{σ:St}{H:Hp}{s:Shared}{h':Heap}
theorem Inv.turns {t':Nat}{ch:List Addr} (I:Inv X pins σ H s) (k:∀b o,b∉ch->s.heap.get? b=some o->h'.get? b=some o) (hf:∀b∈ch,eO X pins H b):Inv X pins σ H { s with heap:=h',toks:=t' }:=by
 have nit:∀b u,H b=some u->b∉ch:=fun b u e z=>by have:=(hf b z).1;rw[e]at this;cases this
 refine I.step (g':=s.gens) (d':=s.drawn) (ch:=ch) (fun b hb=> ?_) (fun b o _ _ hc e _=>k b o hc e) (fun b o _ _ hc e _=>⟨o.slots,k b o hc e⟩) (fun _ _ _ _ n=>n) (fun b o hc e=>⟨o,k b o hc e⟩) (fun _ _ e=>e) (fun _ _ _ e=>e) (fun b ps e=>⟨#[],by rw[e];simp⟩) (fun m hm=> ?_) (fun b u e=> ?_) I.bare
 ·obtain⟨f0,f1,f2,f3,f4,f5⟩:=hf b hb;exact⟨f3,f1,f4,f5⟩
 ·obtain⟨o,es,ep,ho,r⟩:=hm;exact⟨o,es,ep,k _ o (fun z=>(hf _ z).2.1 rfl) ho,r⟩
 ·refine(I.hok b u e).stay (fun c v hc q=>k c v ?_ q) (fun _ q=>q) fun _ _ q=>q;rcases hc with z|z
  ·rw[z];exact nit b u e
  ·exact nit c _ z
end
section
variable {X:Cx}
end
end L2
namespace L2
open PySem PySem.W PyProof.Rows
section
variable {K:PySem.W.Frag}{H:Hp}{Q:VK}{σ:St}{nx:St->Hp->Prop}{td ty tv:TE}{rd:V->V->Hp->VK->Prop}{rt:VK}{bk ct:St->Hp->Prop}{R:It->Hp->Prop}
end
end L2
namespace L2
open PySem PySem.W PyProof.Rows
end L2
namespace L2
open PySem PySem.W PyProof.Rows PySem.Calls
section
variable {prog:Program}{w:World}{A:Around}{E:Value->Shared->Prop}{s:Shared}{d v:Addr}{o:Obj}{es:Array DictEntry}{ep:Nat}
end
section
variable {X:Cx}
end
section
variable {K:PySem.W.Frag}{H:Hp}{Q:VK}{σ:St}{td:TE}
end
end L2
namespace L2
open PySem PySem.W PyProof.Rows
def iS (z:Str)(n:Nat):Str:=⟨(List.replicate n z.cps).foldl (·++·) #[]⟩
theorem xJ:∀(l:List (Array Nat)) (a:Array Nat),(l.foldl (·++·) a).toList=a.toList++(l.map Array.toList).flatten
 | [],a=>by simp
 | x::l,a=>by rw[List.foldl_cons,xJ l];simp
theorem tM (z:Str)(n:Nat):(iS z n).cps.toList=(List.replicate n z.cps.toList).flatten:=by
 unfold iS;rw[xJ];simp
def IE:R2:=fun x y H Q=>∃z n,x= .str z/\y= .int n/\0<=n/\n<=1000/\z.length<=1000/\Q (.str (iS z n.toNat)) H
section
variable {X:Cx}
theorem y6:OpR X (binaryOp .Mult) IE:=by
 intro pins s σ H x y v u Q I rx ry h;obtain⟨z,n,rfl,rfl,h0,h1,h2,q⟩:=h;obtain⟨t,rfl⟩:=rx;obtain⟨t',rfl⟩:=ry;have hl:z.length * n.toNat<=1000 * 1000:=Nat.mul_le_mul h2 (by lia);refine P.mul_str ?_ (fun h3 _=> ?_) (fun _ _=> ?_) ?_
 ·rw[decide_eq_false (by lia),decide_eq_false (by lia)];rfl
 ·have h4:(1000:Int)<=(2^63 - 1)/n:=Int.le_ediv_of_mul_le (by lia) (by lia)
  lia
 ·exact decide_eq_false (by rw[sizeLine_eq];lia)
 ·by_cases h3:n<1
  ·rw[if_pos h3];have e:iS z n.toNat=Str.empty:=by rw[show n.toNat=0 by lia];rfl
   rw[e]at q;exact⟨by decide,⟨.str Str.empty,H,I.tok _,⟨_,rfl⟩,q⟩⟩
  ·rw[if_neg h3]
   by_cases h4:(n==1||z.length==0)=true
   ·rw[if_pos h4];have e:iS z n.toNat=z:=by
     apply JQ
     rw[tM];rcases (Bool.or_eq_true _ _).mp h4 with h5|h5
     ·rw[show n.toNat=1 by have:=eq_of_beq h5;lia];simp
     ·have h6:z.cps.toList=[]:=by
       have:z.length=0:=eq_of_beq h5;exact List.length_eq_zero_iff.mp (by rw[Array.length_toList];exact this)
      rw[h6];simp
    rw[e]at q;exact⟨.str z,H,I,⟨_,rfl⟩,q⟩
   ·rw[if_neg h4];exact⟨(by
     show (iS z n.toNat).cps.size<=sizeLine;rw[←Array.length_toList,tM,List.length_flatten,List.map_replicate,List.sum_replicate_nat,Array.length_toList,sizeLine_eq];have hl':n.toNat * z.cps.size<=1000 * 1000:=by rw[Nat.mul_comm];exact hl
     lia),⟨.str (iS z n.toNat),H,I.tok _,⟨_,rfl⟩,q⟩⟩
end
section
variable {X:Cx}{P:Program}{w:World}{K:PySem.W.Frag}{mg:Str->Option Value}{base:Heap}{k':Nat}{o e:Expr}{es:List Expr}{m:Str}{ta:TE}{t:TA}{apos pos:Pos}
end
theorem AD {H:Hp}{Q:VK}{z:Str}{n:Int} (h0:0<=n) (h1:n<=1000) (h2:z.length<=1000) (h:Q (.str (iS z n.toNat)) H):IE (.str z) (.int n) H Q:=⟨z,n,rfl,rfl,h0,h1,h2,h⟩
end L2
namespace L2
open PySem PySem.W PyProof.Rows
theorem Room.units9 {k:Nat}{A:Around} (r:Room k A):A.units+9<cLine:=by have:=r.un;have:cLine=9900:=rfl;lia
def DeepEq (K:PySem.W.Frag)(H:Hp):Nat->V->V->Prop
 | 0,x,y=>x=y/\qE x=true
 | n+1,x,y=>(x=y/\qE x=true)∨(∃a b xs ys,x= .ref a/\y= .ref b/\SqL K H a xs/\SqL K H b ys/\Paired (DeepEq K H n) xs ys)∨(∃a b xs ys,x= .ref a/\y= .ref b/\H a=some (.tup xs)/\H b=some (.tup ys)/\Paired (DeepEq K H n) xs ys)
theorem sY {A:Around}{s:Shared}{x:V}{u v:Value} (h:qE x=true) (ru:RelV x u) (rv:RelV x v):SeqAt.EqAt A s u v true:=by
 have base:qL x=true->SeqAt.EqAt A s u v true:=fun hx=>by
  have:=NF (A:=A) (s:=s) ru rv hx hx;rw[F9 hx]at this;exact this
 cases x<;>first|(cases ru;cases rv;exact SeqAt.EqAt.same _)|exact base h
theorem l5 {A:Around}{s:Shared}{F:V->V->Prop} (hF:∀x y u v,F x y->RelV x u->RelV y v->SeqAt.EqAt A s u v true):∀{xs ys:List V}{us ws:List Value},Paired F xs ys->Vals xs us->Vals ys ws->∀j (h1:j<us.length) (h2:j<ws.length),SeqAt.EqAt A s us[j] ws[j] true
 | _,_,_,_,.nil,.nil,.nil,j,h1,_=>absurd h1 (Nat.not_lt_zero _)
 | _,_,_,_,.cons h _,.cons r1 _,.cons r2 _,0,_,_=>hF _ _ _ _ h r1 r2
 | _,_,_,_,.cons _ t,.cons _ t1,.cons _ t2,j+1,h1,h2=>l5 hF t t1 t2 j (Nat.lt_of_succ_lt_succ h1) (Nat.lt_of_succ_lt_succ h2)
section
variable {X:Cx}{pins:List (Addr×Obj)}{σ:St}{H:Hp}{s:Shared}
theorem sH (I:Inv X pins σ H s):∀(n:Nat) (A:Around),A.units+n<cLine->∀x y u v,DeepEq X.K H n x y->RelV x u->RelV y v->SeqAt.EqAt A s u v true
 | 0,A,hu,x,y,u,v,h,ru,rv=>by obtain⟨rfl,h⟩:=h;exact sY h ru rv
 | n+1,A,hu,x,y,u,v,h,ru,rv=>by
  rcases h with⟨rfl,h⟩|⟨a,b,xs,ys,rfl,rfl,ha,hb,pr⟩|⟨a,b,xs,ys,rfl,rfl,ha,hb,pr⟩
  ·exact sY h ru rv
  ·cases ru;cases rv
   by_cases hab:a=b
   ·subst hab;exact SeqAt.EqAt.same _
   ·obtain⟨its,r,pl,hz⟩:=I.list ha;obtain⟨its2,r2,pl2,_⟩:=I.list hb;have hl:its.length=its2.length:=by rw[←r.length,←r2.length];exact Paired.length pr
    have:=SeqAt.EqAt.of_refs hab (SeqAt.RcAt.lists (A:=A) (e:=fun _=>true) pl.isList pl2.isList (by simpa using hl) (by lia) fun j h1 h2=>by
     have h1':j<its.length:=by simpa using h1
     have h2':j<its2.length:=by simpa using h2
     have:=l5 (A:=A.in1) (sH I n A.in1 (by show A.units+1+n<cLine;lia)) pr r r2 j h1' h2'
     simpa using this)
    rw[pW]at this;exact this
  ·cases ru;cases rv
   by_cases hab:a=b
   ·subst hab;exact SeqAt.EqAt.same _
   ·obtain⟨_,its,r,o1,g1,c1,n1,d1⟩:=(show ObjOk X.prog X.w H s.heap a (.tup xs) from I.hok a _ ha)
    obtain⟨_,its2,r2,o2,g2,c2,n2,d2⟩:=(show ObjOk X.prog X.w H s.heap b (.tup ys) from I.hok b _ hb)
    have hl:its.length=its2.length:=by rw[←r.length,←r2.length];exact Paired.length pr
    have:=SeqAt.EqAt.of_refs hab (SeqAt.RcAt.tuples (A:=A) (e:=fun _=>true) ⟨o1,g1,c1,n1,d1⟩ ⟨o2,g2,c2,n2,d2⟩ (by lia) fun j h1 h2=>by
     have h1':j<its.length:=by simpa using h1
     have h2':j<its2.length:=by simpa using h2
     have:=l5 (A:=A.in1) (sH I n A.in1 (by show A.units+1+n<cLine;lia)) pr r r2 j h1' h2'
     simpa using this)
    simpa [pW,hl] using this
end
section
variable {X:Cx}
def DG (K:PySem.W.Frag)(r:Bool):R2:=fun x y H Q=>∃a b xs ys,x= .ref a/\y= .ref b/\SqL K H a xs/\SqL K H b ys/\Paired (DeepEq K H 4) xs ys/\Q (.bl r) H
theorem wI (hu:X.A.units+9<cLine):OpR X (compareOp .NotEq) (DG X.K false):=by
 intro pins s σ H x y v u Q I rx ry h;obtain⟨a,b,xs,ys,rfl,rfl,ha,hb,pr,q⟩:=h;cases rx;cases ry;obtain⟨its,r,pl,hz⟩:=I.list ha;obtain⟨its2,r2,pl2,_⟩:=I.list hb;have hl:its.length=its2.length:=by rw[←r.length,←r2.length];exact Paired.length pr
 refine SeqAt.RcNeAt.lists (e:=fun _=>true) pl.isList pl2.isList (by simpa using hl) (by lia) (fun j h1 h2=> ?_) X.prog X.w X.xe _ ⟨.bl false,H,I,by rw[pW];rfl,q⟩;have:=l5 (A:=X.A.in1) (sH I 4 X.A.in1 (by show X.A.units+1+4<cLine;lia)) pr r r2 j (by simpa using h1) (by simpa using h2)
 simpa using this
end
section
variable {K:PySem.W.Frag}{H H':Hp}{Q:VK}
theorem pQ {a b:Addr}{xs ys:List V}{r:Bool} (ha:SqL K H a xs) (hb:SqL K H b ys) (pr:Paired (DeepEq K H 4) xs ys) (h:Q (.bl r) H):DG K r (.ref a) (.ref b) H Q:=⟨a,b,xs,ys,rfl,rfl,ha,hb,pr,h⟩
theorem DeepEq.self {n:Nat}{x:V} (h:qE x=true):DeepEq K H n x x:=by cases n with|zero=>exact⟨rfl,h⟩|succ n=>exact .inl ⟨rfl,h⟩
theorem DeepEq.tup {n:Nat}{a b:Addr}{xs ys:List V} (ha:H a=some (.tup xs)) (hb:H b=some (.tup ys)) (pr:Paired (DeepEq K H n) xs ys):DeepEq K H (n+1) (.ref a) (.ref b):= .inr (.inr ⟨a,b,xs,ys,rfl,rfl,ha,hb,pr⟩)
theorem qZ {n:Nat}:∀{xs:List V},xs.all qE=true->Paired (DeepEq K H n) xs xs
 | [],_=> .nil
 | x::xs,h=>by
  rw[List.all_cons,Bool.and_eq_true]at h;exact .cons (DeepEq.self h.1) (qZ h.2)
end
section
variable {H:Hp}{Q:VK}{σ:St}{ty tx:TE}
end
end L2
namespace L2
open PySem PySem.W PyProof.Rows
section
variable {H:Hp}{Q:VK}
end
end L2
namespace L2
open PySem PySem.Spec PyProof.Rows
section
variable {X:Cx}{args:Arguments}{body:Expr}{lsc:Scope}{pos:Pos}{y:Str}{c cL PL:Addr}
end
section
variable {K:PySem.W.Frag}{ti:TT}{te:TE}{σ:St}{ci:List Nat}{rest:St}{fin:List V->Hp->Prop}{H:Hp}{a:Addr}{α:Type}
end
end L2
namespace L2
open PySem PySem.W PyProof.Rows
theorem NC {A:Around}{s:Shared}{a b:Key}{u v:Value} (ru:RelV (kV a) u) (rv:RelV (kV b) v):SeqAt.EqAt A s u v (decide (a=b)):=by
 cases a with
 | inl i =>
  cases b with
  | inl j =>
   obtain⟨t,rfl⟩:=ru;obtain⟨t',rfl⟩:=rv;have e:decide ((Sum.inl i:Key)=Sum.inl j)=(i==j):=by rw[Bool.eq_iff_iff];simp
   rw[e];exact SeqAt.EqAt.int_int _ _ _ _
  | inr j =>
   obtain⟨t,rfl⟩:=ru;obtain⟨t',rfl⟩:=rv;rw[decide_eq_false (fun h=>nomatch h)];exact SeqAt.EqAt.int_str _ _ _ _
 | inr i =>
  cases b with
  | inl j =>
   obtain⟨t,rfl⟩:=ru;obtain⟨t',rfl⟩:=rv;rw[decide_eq_false (fun h=>nomatch h)];exact SeqAt.EqAt.str_int _ _ _ _
  | inr j =>
   obtain⟨t,rfl⟩:=ru;obtain⟨t',rfl⟩:=rv;have e:decide ((Sum.inr i:Key)=Sum.inr j)=(i==j):=by rw[Bool.eq_iff_iff];simp
   rw[e];exact SeqAt.EqAt.str_str _ _ _ _
theorem sZ {r:List Key}{us:List Value} (h:Vals (r.map kV) us) {j:Nat} (hj:j<us.length):∃k,r[j]? =some k/\RelV (kV k) us[j]:=by
 have hl:=h.length;rw[List.length_map]at hl;have hx:(r.map kV)[j]? =some (kV (r[j]'(by lia))):=by rw[List.getElem?_map,List.getElem?_eq_getElem (by lia)];rfl
 obtain⟨u,e,ru⟩:=h.get hx;have:us[j]=u:=by simpa using (List.getElem?_eq_some_iff.mp e).2
 exact⟨_,List.getElem?_eq_getElem (by lia),this▸ru⟩
theorem GP {r r2:List Key}:((List.range (min r.length r2.length)).all (fun j=>decide (r[j]? =r2[j]?))&&r.length==r2.length)=decide (r=r2):=by
 rw[Bool.eq_iff_iff,Bool.and_eq_true,decide_eq_true_eq,List.all_eq_true,beq_iff_eq]
 constructor
 ·rintro ⟨h1,h2⟩
  apply List.ext_getElem?
  intro i
  by_cases hi:i<r.length
  ·have:=h1 i (List.mem_range.mpr (by lia))
   simpa using this
  ·rw[List.getElem?_eq_none (by lia),List.getElem?_eq_none (by lia)]
 ·rintro rfl;exact⟨fun x _=>by simp,rfl⟩
section
variable {X:Cx}{pins:List (Addr×Obj)}{σ:St}{H:Hp}{s:Shared}
theorem KG {A:Around}(I:Inv X pins σ H s)(hu:A.units<cLine){p q:Addr}{r r2:List Key} (e:H p=some (.tup (r.map kV))) (e2:H q=some (.tup (r2.map kV))):SeqAt.EqAt A s (.ref p) (.ref q) (decide (r=r2)):=by
 by_cases hpq:p=q
 ·subst hpq;rw[e]at e2;have h:r=r2:=zB (by injection e2 with h;injection h);rw[decide_eq_true h];exact SeqAt.EqAt.same _
 ·obtain⟨o1,us1,n1,g1,c1,d1,l1⟩:=hE I e;obtain⟨o2,us2,n2,g2,c2,d2,l2⟩:=hE I e2;have hl1:=l1.length;have hl2:=l2.length;rw[List.length_map]at hl1 hl2;have:=SeqAt.EqAt.of_refs hpq (SeqAt.RcAt.tuples (A:=A) (s:=s) (e:=fun j=>decide (r[j]? =r2[j]?)) ⟨o1,g1,c1,n1,d1⟩ ⟨o2,g2,c2,n2,d2⟩ hu fun j h1 h2=>by
   have h1':j<us1.length:=by simpa using h1
   have h2':j<us2.length:=by simpa using h2
   obtain⟨k1,x1,y1⟩:=sZ l1 h1';obtain⟨k2,x2,y2⟩:=sZ l2 h2';rw[x1,x2];have:=NC (A:=A.in1) (s:=s) y1 y2;have e3:decide (some k1=some k2)=decide (k1=k2):=by rw[Bool.eq_iff_iff];simp
   rw[e3]
   simpa using this)
  rw[List.size_toArray,List.size_toArray,←hl1,←hl2,GP]at this;exact this
end
open Classical in
section
variable {X:Cx}{K:PySem.W.Frag}
open Classical in
open Classical in
open Classical in
end
end L2
namespace L2
open PySem PySem.W PyProof.Rows
section
variable {K:PySem.W.Frag}{ti:TT}{te:TE}{σ:St}{ci:List Nat}{rest:St}{fin:List V->Hp->Prop}{H:Hp}{a:Addr}
end
end L2
namespace L2
open PySem PySem.W PyProof.Rows
section
variable {X:Cx}
end
end L2
namespace L2
open PySem PySem.W PyProof.Rows
section
variable {X:Cx}{ek ev:Expr}{tk tv:TE}{pos:Pos}
end
end L2
namespace L2
open PySem PySem.W PyProof.Rows
section
variable {K:Frag}{x qual:Str}{st:Stmt}{f:Addr}
end
end L2
namespace L2
open PySem PySem.W PyProof.Rows
def rnk (ρ:Keyed->Int)(a:Array Keyed)(i:Nat):Int:=ρ (a.getD i (.none,.none))
def Up (ρ:Keyed->Int)(a:Array Keyed)(lo hi:Nat):Prop:=∀i j,lo<=i->i<j->j<hi->rnk ρ a i<rnk ρ a j
structure iT (prog:Program)(w:World)(A:Around)(E:Value->Shared->Prop)(s:Shared)(κ:SortKind)(D:Keyed->Prop)(ρ:Keyed->Int):Prop where
 lt:∀{x y:Keyed}{st:SortSt}{Q:Option Bool->SortSt->Prop},D x->D y->kindOf st=κ->Q (some (decide (ρ x<ρ y))) st->wpS (model prog w) A E s (lt' x y) Q st
def zD:Bool->Keyed->Array Keyed->Nat->Nat->Nat->StateT SortSt Sem (Option Nat):=sortPriv% PySem.Builtin.gallop
section
variable {prog:Program}{w:World}{A:Around}{E:Value->Shared->Prop}{s:Shared}{κ:SortKind}{D:Keyed->Prop}{ρ:Keyed->Int}{st:SortSt}
theorem aL {a:Array Keyed}{i:Nat}{Q:Keyed->SortSt->Prop} (hi:i<a.size) (h:Q (a.getD i (.none,.none)) st):wpS (model prog w) A E s (elem' a i) Q st:=by
 rw[elem'_eq];have e:a[i]? =some (a.getD i (.none,.none)):=by simp[Array.getD,hi]
 rw[e];exact wpS_pure h
theorem aK {a:Array Keyed}{i:Nat} (hi:i<a.size):a.getD i (.none,.none)∈a.toList:=by simp[Array.getD,hi]
def bey (ρ:Keyed->Int)(left:Bool)(key:Keyed)(arr:Array Keyed)(i:Nat):Bool:=if left=true then decide (rnk ρ arr i<ρ key) else !decide (ρ key<rnk ρ arr i)
theorem LV (C:iT prog w A E s κ D ρ)(hk:kindOf st=κ){left:Bool}{key:Keyed}{arr:Array Keyed}{i:Nat} (hD:D key) (hA:∀x∈arr.toList,D x) (hi:i<arr.size) {Q:Option Bool->SortSt->Prop} (h:Q (some (bey ρ left key arr i)) st) :
  wpS (model prog w) A E s (do let x ←elem' arr i;if left=true then lt' x key else do let r ←lt' key x;pure (Option.map (fun x=> !x) r)) Q st:=by
 refine wpS_bind (aL hi ?_);have hx:=hA _ (aK hi);unfold bey at h;cases left with
 | true =>
  rw[if_pos rfl]at h ⊢;exact C.lt hx hD hk h
 | false =>
  rw[if_neg Bool.false_ne_true]at h ⊢;exact wpS_bind (C.lt hD hx hk (wpS_pure h))
theorem FE {left:Bool}{key:Keyed}{arr:Array Keyed}{lo hi i j:Nat} (up:Up ρ arr lo hi) (h0:lo<=i) (hij:i<=j) (hj:j<hi) (h:bey ρ left key arr j=true):bey ρ left key arr i=true:=by
 rcases Nat.lt_or_ge i j with hlt|hge
 ·have:=up i j h0 hlt hj;unfold bey at h ⊢;cases left with
  | true =>
   rw[if_pos rfl]at h ⊢;have:=of_decide_eq_true h;exact decide_eq_true (by lia)
  | false =>
   rw[if_neg Bool.false_ne_true]at h ⊢;simp only[Bool.not_eq_true',decide_eq_false_iff_not]at h ⊢
   lia
 ·have:i=j:=by lia
  rw[this];exact h
theorem b4 (C:iT prog w A E s κ D ρ)(hk:kindOf st=κ){left:Bool}{key:Keyed}{arr:Array Keyed}{base n hint:Nat} (hD:D key) (hA:∀x∈arr.toList,D x) (hn:base+n<=arr.size) (hh:hint<n) (up:Up ρ arr base (base+n)) {Q:Option Nat->SortSt->Prop}
  (h:∀k,k<=n->(∀i,i<k->bey ρ left key arr (base+i)=true)->(∀i,k<=i->i<n->bey ρ left key arr (base+i)=false)->Q (some k) st) :
  wpS (model prog w) A E s (zD left key arr base n hint) Q st:=by
 unfold zD;have ask:∀{i:Nat}{Q:Option Bool->SortSt->Prop},i<n->Q (some (bey ρ left key arr (base+i))) st->wpS (model prog w) A E s (do let x ←elem' arr (base+i);if left=true then lt' x key else do let r ←lt' key x;pure (Option.map (fun x=> !x) r)) Q st:=fun hi hq=>LV C hk hD hA (by lia) hq;have anti:∀{i j:Nat},i<=j->j<n->bey ρ left key arr (base+j)=true->bey ρ left key arr (base+i)=true:=fun hij hj hb=>FE up (by lia) (by lia) (by lia) hb;have antiF:∀{i j:Nat},i<=j->j<n->bey ρ left key arr (base+i)=false->bey ρ left key arr (base+j)=false:=fun {i j} hij hj hb=>by
  cases e:bey ρ left key arr (base+j) with
  | false=>rfl
  | true=>rw[anti hij hj e]at hb;cases hb
 have fin:∀lo hi:Nat,lo<=hi->hi<=n->(∀i,i<lo->bey ρ left key arr (base+i)=true)->(∀i,hi<=i->i<n->bey ρ left key arr (base+i)=false)->∀(f:Nat->Option (Option Nat)×Nat×Nat->StateT SortSt Sem (ForInStep (Option (Option Nat)×Nat×Nat))),
   (∀x l r,l<r->r<=n->∀Q':ForInStep (Option (Option Nat)×Nat×Nat)->SortSt->Prop,(bey ρ left key arr (base+(l+(r - l)/2))=true->Q' (.yield (none,l+(r - l)/2+1,r)) st)->(bey ρ left key arr (base+(l+(r - l)/2))=false->Q' (.yield (none,l,l+(r - l)/2)) st)->wpS (model prog w) A E s (f x (none,l,r)) Q' st) →
   (∀x l r,r<=l->∀Q':ForInStep (Option (Option Nat)×Nat×Nat)->SortSt->Prop,Q' (.done (none,l,r)) st->wpS (model prog w) A E s (f x (none,l,r)) Q' st) →
   wpS (model prog w) A E s (forIn [:n] (none,lo,hi) f) (fun c st'=>st'=st/\∃k,c=(none,k,k)/\k<=n/\(∀i,i<k->bey ρ left key arr (base+i)=true)/\(∀i,k<=i->i<n->bey ρ left key arr (base+i)=false)) st:=by
  intro lo hi hlh hhn hl hr f f1 f2;refine wpS_forRange (I:=fun x c st'=>st'=st/\∃l r,c=(none,l,r)/\l<=r/\r<=n/\r - l<=n - x/\(∀i,i<l->bey ρ left key arr (base+i)=true)/\(∀i,r<=i->i<n->bey ρ left key arr (base+i)=false)) ?_ ?_ ⟨rfl,lo,hi,rfl,hlh,hhn,by lia,hl,hr⟩
  ·rintro x c _ _ hx ⟨rfl,l,r,rfl,a1,a2,a3,a4,a5⟩;rcases Nat.lt_or_ge l r with hlr|hlr
   ·refine f1 x l r hlr a2 _ (fun hb=>⟨rfl,_,_,rfl,by lia,a2,by lia,fun i hi=>anti (by lia) (by lia) hb,a5⟩) fun hb=>⟨rfl,_,_,rfl,by lia,by lia,by lia,a4,fun i h1 h2=>antiF h1 h2 hb⟩
   ·have:l=r:=by lia
    subst this;exact f2 x l l hlr _ ⟨rfl,l,rfl,a2,a4,a5⟩
  ·rintro c _ ⟨rfl,l,r,rfl,a1,a2,a3,a4,a5⟩;have:l=r:=by lia
   subst this;exact⟨rfl,l,rfl,a2,a4,a5⟩
 refine wpS_bind (ask hh ?_)
 dsimp only
 cases hb:bey ρ left key arr (base+hint) with
 | true =>
  rw[if_pos rfl];refine wpS_bind (wpS_mono (wpS_forRange (I:=fun x c st'=>st'=st/\∃lo of:Nat,c=(none,lo,of)/\lo<of/\x+1<=of/\hint+lo<n/\bey ρ left key arr (base+(hint+lo))=true) (Q:=fun c st'=>st'=st/\∃lo of:Nat,c=(none,lo,of)/\lo<of/\hint+lo<n/\bey ρ left key arr (base+(hint+lo))=true/\(n - hint<=of∨(hint+of<n/\bey ρ left key arr (base+(hint+of))=false))) ?_ ?_ ⟨rfl,0,1,rfl,by lia,by lia,by lia,hb⟩) ?_)
  ·rintro x c _ _ hx ⟨rfl,lo,of,rfl,a1,a2,a3,a4⟩
   dsimp only
   by_cases hm:of≥n - hint
   ·rw[if_pos hm];exact wpS_pure ⟨rfl,lo,of,rfl,a1,a3,a4,.inl hm⟩
   ·rw[if_neg hm];refine wpS_bind (ask (i:=hint+of) (by lia) ?_)
    dsimp only
    cases hc:bey ρ left key arr (base+(hint+of)) with
    | true =>
     rw[if_neg (by decide)];exact wpS_pure ⟨rfl,of,2 * of+1,rfl,by lia,by lia,by lia,hc⟩
    | false =>
     rw[if_pos (by decide)];exact wpS_pure ⟨rfl,lo,of,rfl,a1,a3,a4,.inr ⟨by lia,hc⟩⟩
  ·rintro c _ ⟨rfl,lo,of,rfl,a1,a2,a3,a4⟩;exact⟨rfl,lo,of,rfl,a1,a3,a4,.inl (by lia)⟩
  ·rintro c _ ⟨rfl,lo,of,rfl,a1,a3,a4,a5⟩
   dsimp only
   refine wpS_bind (wpS_mono (fin (hint+lo+1) (hint+min of (n - hint)) (by lia) (by lia) (fun i hi=>anti (by lia) a3 a4) (fun i h1 h2=> ?_) _ ?_ ?_) ?_)
   ·rcases a5 with a5|⟨a5,a6⟩
    ·lia
    ·exact antiF (by lia) h2 a6
   ·intro x l r hlr hrn Q' q1 q2
    dsimp only
    rw[if_neg (by lia)];refine wpS_bind (ask (i:=l+(r - l)/2) (by lia) ?_)
    dsimp only
    cases hc:bey ρ left key arr (base+(l+(r - l)/2)) with
    | true=>rw[if_pos rfl];exact wpS_pure (q1 hc)
    | false=>rw[if_neg Bool.false_ne_true];exact wpS_pure (q2 hc)
   ·intro x l r hrl Q' q1
    dsimp only
    rw[if_pos hrl];exact wpS_pure q1
   ·rintro c _ ⟨rfl,k,rfl,b1,b2,b3⟩
    dsimp only
    exact wpS_pure (h k b1 b2 b3)
 | false =>
  rw[if_neg Bool.false_ne_true];refine wpS_bind (wpS_mono (wpS_forRange (I:=fun x c st'=>st'=st/\∃lo of:Nat,c=(none,lo,of)/\lo<of/\x+1<=of/\lo<=hint/\bey ρ left key arr (base+(hint - lo))=false) (Q:=fun c st'=>st'=st/\∃lo of:Nat,c=(none,lo,of)/\lo<of/\lo<=hint/\bey ρ left key arr (base+(hint - lo))=false/\(hint+1<=of∨(of<=hint/\bey ρ left key arr (base+(hint - of))=true))) ?_ ?_ ⟨rfl,0,1,rfl,by lia,by lia,by lia,hb⟩) ?_)
  ·rintro x c _ _ hx ⟨rfl,lo,of,rfl,a1,a2,a3,a4⟩
   dsimp only
   by_cases hm:of≥hint+1
   ·rw[if_pos hm];exact wpS_pure ⟨rfl,lo,of,rfl,a1,a3,a4,.inl hm⟩
   ·rw[if_neg hm];refine wpS_bind (ask (i:=hint - of) (by lia) ?_)
    dsimp only
    cases hc:bey ρ left key arr (base+(hint - of)) with
    | true =>
     rw[if_pos rfl];exact wpS_pure ⟨rfl,lo,of,rfl,a1,a3,a4,.inr ⟨by lia,hc⟩⟩
    | false =>
     rw[if_neg Bool.false_ne_true];exact wpS_pure ⟨rfl,of,2 * of+1,rfl,by lia,by lia,by lia,hc⟩
  ·rintro c _ ⟨rfl,lo,of,rfl,a1,a2,a3,a4⟩;exact⟨rfl,lo,of,rfl,a1,a3,a4,.inl (by lia)⟩
  ·rintro c _ ⟨rfl,lo,of,rfl,a1,a3,a4,a5⟩
   dsimp only
   refine wpS_bind (wpS_mono (fin (hint+1 - min of (hint+1)) (hint - lo) (by lia) (by lia) (fun i hi=> ?_) (fun i h1 h2=>antiF h1 h2 a4) _ ?_ ?_) ?_)
   ·rcases a5 with a5|⟨a5,a6⟩
    ·lia
    ·exact anti (by lia) (by lia) a6
   ·intro x l r hlr hrn Q' q1 q2
    dsimp only
    rw[if_neg (by lia)];refine wpS_bind (ask (i:=l+(r - l)/2) (by lia) ?_)
    dsimp only
    cases hc:bey ρ left key arr (base+(l+(r - l)/2)) with
    | true=>rw[if_pos rfl];exact wpS_pure (q1 hc)
    | false=>rw[if_neg Bool.false_ne_true];exact wpS_pure (q2 hc)
   ·intro x l r hrl Q' q1
    dsimp only
    rw[if_pos hrl];exact wpS_pure q1
   ·rintro c _ ⟨rfl,k,rfl,b1,b2,b3⟩
    dsimp only
    exact wpS_pure (h k b1 b2 b3)
end
end L2
namespace L2
open PySem PySem.W PyProof.Rows
def uY:Array Keyed->Array Keyed->StateT SortSt Sem (Array Keyed):=sortPriv% PySem.Builtin.mergeLo
def v9:Array Keyed->Array Keyed->StateT SortSt Sem (Array Keyed):=sortPriv% PySem.Builtin.mergeHi
abbrev aO (st:SortSt)(g:Nat):SortSt:=SortSt.mk' (kindOf st) (arrOf st) (pendingOf st) g (failedOf st)
def SameSt (st st':SortSt):Prop:=kindOf st'=kindOf st/\arrOf st'=arrOf st/\pendingOf st'=pendingOf st/\failedOf st'=failedOf st
theorem SameSt.refl (st:SortSt):SameSt st st:=⟨rfl,rfl,rfl,rfl⟩
section
variable {ρ:Keyed->Int}
abbrev bO (ρ:Keyed->Int)(l:List Keyed):Prop:=l.Pairwise fun x y=>ρ x<ρ y
structure Mi (ρ:Keyed->Int)(all o ra rb:List Keyed):Prop where
 so:bO ρ o
 oa:∀x∈o,∀y∈ra,ρ x<ρ y
 ob:∀x∈o,∀y∈rb,ρ x<ρ y
 sa:bO ρ ra
 sb:bO ρ rb
 pm:(o++ra++rb).Perm all
variable {all o p ra rb:List Keyed}
theorem Mi.goA (h:Mi ρ all o (p++ra) rb)(hp:∀x∈p,∀y∈rb,ρ x<ρ y):Mi ρ all (o++p) ra rb:=by
 obtain⟨so,oa,ob,sa,sb,pm⟩:=h;have sa':=List.pairwise_append.mp sa;refine⟨List.pairwise_append.mpr ⟨so,sa'.1,fun x hx y hy=>oa x hx y (List.mem_append_left _ hy)⟩,fun x hx y hy=> ?_,fun x hx y hy=> ?_,sa'.2.1,sb,?_⟩
 ·rcases List.mem_append.mp hx with hx|hx
  ·exact oa x hx y (List.mem_append_right _ hy)
  ·exact sa'.2.2 x hx y hy
 ·rcases List.mem_append.mp hx with hx|hx
  ·exact ob x hx y hy
  ·exact hp x hx y hy
 ·rw[List.append_assoc o p ra];exact pm
theorem Mi.swap (h:Mi ρ all o ra rb):Mi ρ all o rb ra:=⟨h.so,h.ob,h.oa,h.sb,h.sa,by
 refine List.Perm.trans ?_ h.pm;rw[List.append_assoc,List.append_assoc];exact List.Perm.append_left o List.perm_append_comm⟩
theorem Mi.goB (h:Mi ρ all o ra (p++rb))(hp:∀x∈p,∀y∈ra,ρ x<ρ y):Mi ρ all (o++p) ra rb:=(h.swap.goA hp).swap
theorem Mi.end (h:Mi ρ all o ra rb)(hab:∀x∈ra,∀y∈rb,ρ x<ρ y):bO ρ (o++ra++rb)/\(o++ra++rb).Perm all:=by
 refine⟨List.pairwise_append.mpr ⟨List.pairwise_append.mpr ⟨h.so,h.sa,h.oa⟩,h.sb,fun x hx y hy=> ?_⟩,h.pm⟩;rcases List.mem_append.mp hx with hx|hx
 ·exact h.ob x hx y hy
 ·exact hab x hx y hy
theorem Mi.len (h:Mi ρ all o ra rb):o.length+ra.length+rb.length=all.length:=by
 have:=h.pm.length_eq;rw[List.length_append,List.length_append]at this;exact this
theorem cM {a:Array Keyed}{i:Nat} (hi:i<a.size):a.toList.drop i=a.getD i (.none,.none)::a.toList.drop (i+1):=by
 have h:i<a.toList.length:=by simpa using hi
 rw[List.drop_eq_getElem_cons h]
 congr 1
 simp[Array.getD,hi]
theorem wL {a:Array Keyed}{i:Nat} (hi:a.size<=i):a.toList.drop i=[]:=List.drop_eq_nil_of_le (by simpa using hi)
theorem cA {a:Array Keyed}{i:Nat}{x:Keyed} (h:x∈a.toList.drop i):∃j,i<=j/\j<a.size/\ρ x=rnk ρ a j:=by
 obtain⟨k,hk,e⟩:=List.getElem_of_mem h;rw[List.length_drop]at hk;rw[List.getElem_drop]at e;refine⟨i+k,by lia,by rw[Array.length_toList]at hk;lia,?_⟩;unfold rnk;have hl:i+k<a.size:=by rw[Array.length_toList]at hk;lia
 rw[←e]
 congr 1
 simp[Array.getD,hl]
theorem oR {a:Array Keyed}(h:Up ρ a 0 a.size):bO ρ a.toList:=by
 rw[bO,List.pairwise_iff_getElem];intro i j hi hj hij;rw[Array.length_toList]at hi hj;have:=h i j (Nat.zero_le _) hij hj;unfold rnk at this
 simpa [Array.getD,hi,hj] using this
theorem gQ {a:Array Keyed}{i k:Nat}:a.toList.drop i=(a.extract i (i+k)).toList++a.toList.drop (i+k):=by
 rw[Array.toList_extract,List.extract_eq_drop_take,Nat.add_sub_cancel_left,←List.drop_drop,List.take_append_drop]
end
end L2
namespace L2
open PySem PySem.W PyProof.Rows
theorem g9 {a:Array Keyed}{i:Nat}:(a.extract i).toList=a.toList.drop i:=by
 rw[Array.toList_extract,List.extract_eq_drop_take,List.take_of_length_le];rw[List.length_drop,Array.length_toList];exact Nat.le_refl _
section
variable {prog:Program}{w:World}{A:Around}{E:Value->Shared->Prop}{s:Shared}{κ:SortKind}{D:Keyed->Prop}{ρ:Keyed->Int}{st:SortSt}
theorem eJ {a:Array Keyed}{i n:Nat} (h:Up ρ a 0 a.size) (hn:i+n<=a.size):Up ρ a i (i+n):=fun x y _ h2 h3=>h x y (Nat.zero_le _) h2 (by lia)
theorem gY {a:Array Keyed}{i k:Nat}{x:Keyed} (h:x∈(a.extract i (i+k)).toList):∃u,(i<=u/\u<i+k/\u<a.size)/\ρ x=rnk ρ a u:=by
 rw[Array.toList_extract,List.extract_eq_drop_take,Nat.add_sub_cancel_left]at h;obtain⟨v,hv,e⟩:=List.getElem_of_mem h;rw[List.length_take,List.length_drop,Array.length_toList]at hv;rw[List.getElem_take,List.getElem_drop]at e;have hl:i+v<a.size:=by lia
 refine⟨i+v,⟨by lia,by lia,hl⟩,?_⟩;unfold rnk;rw[←e]
 congr 1
 simp[Array.getD,hl]
theorem fE {a:Array Keyed}{i:Nat}{y:Keyed}{z:Int} (up:Up ρ a 0 a.size) (hy:y∈a.toList.drop i) (hz:z<ρ (a.getD i (.none,.none))):z<ρ y:=by
 obtain⟨u,h1,h2,e⟩:=cA (ρ:=ρ) hy;rw[e];have hz:z<rnk ρ a i:=hz;rcases Nat.lt_or_ge i u with h|h
 ·have:=up i u (Nat.zero_le _) h h2
  lia
 ·have:i=u:=by lia
  rw[←this];exact hz
theorem P4 (C:iT prog w A E s κ D ρ)(hk:kindOf st=κ){a b:Array Keyed}{Q:Array Keyed->SortSt->Prop} (dA:∀x∈a.toList,D x) (dB:∀x∈b.toList,D x) (upA:Up ρ a 0 a.size) (upB:Up ρ b 0 b.size) (a0:0<a.size) (b0:0<b.size) (ne:∀x∈a.toList,∀y∈b.toList,ρ x≠ρ y)
  (fst:rnk ρ b 0<rnk ρ a 0)(lst:rnk ρ b (b.size - 1)<rnk ρ a (a.size - 1))(hQ:∀m st',SameSt st st'->bO ρ m.toList->m.toList.Perm (a.toList++b.toList)->Q m st') :
  wpS (model prog w) A E s (uY a b) Q st:=by
 have bl:∀y∈b.toList,ρ y<rnk ρ a (a.size - 1):=fun y hy=>by
  obtain⟨u,_,h2,e⟩:=cA (ρ:=ρ) (i:=0) (show y∈b.toList.drop 0 from hy);rw[e];rcases Nat.lt_or_ge u (b.size - 1) with h|h
  ·have:=upB u (b.size - 1) (Nat.zero_le _) h (by lia)
   lia
  ·have:u=b.size - 1:=by lia
   rw[this];exact lst
 have doneR:∀{o:Array Keyed}{i j:Nat},Mi ρ (a.toList++b.toList) o.toList (a.toList.drop i) (b.toList.drop j)->j=b.size->bO ρ (o++a.extract i++b.extract j).toList/\(o++a.extract i++b.extract j).toList.Perm (a.toList++b.toList):=fun hm hj=>by
  rw[Array.toList_append,Array.toList_append,g9,g9];refine hm.end fun x _ y hy=> ?_;rw[wL (by lia)]at hy;exact nomatch hy
 have doneR2:∀{o:Array Keyed}{i j:Nat},Mi ρ (a.toList++b.toList) o.toList (a.toList.drop i) (b.toList.drop j)->i=a.size->bO ρ (o++a.extract i++b.extract j).toList/\(o++a.extract i++b.extract j).toList.Perm (a.toList++b.toList):=fun hm hj=>by
  rw[Array.toList_append,Array.toList_append,g9,g9];refine hm.end fun x hx y _=> ?_;rw[wL (by lia)]at hx;exact nomatch hx
 have lastR:∀{o:Array Keyed}{i j:Nat},Mi ρ (a.toList++b.toList) o.toList (a.toList.drop i) (b.toList.drop j)->i+1=a.size->bO ρ (o++b.extract j++a.extract i).toList/\(o++b.extract j++a.extract i).toList.Perm (a.toList++b.toList):=fun {o i j} hm hi=>by
  rw[Array.toList_append,Array.toList_append,g9,g9];refine hm.swap.end fun x hx y hy=> ?_;obtain⟨u,h1,h2,e⟩:=cA (ρ:=ρ) hy;have:u=a.size - 1:=by lia
  rw[e,this];exact bl x (List.mem_of_mem_drop hx)
 unfold uY;refine wpS_bind (wpS_lift (wpAny_rule ⟨rfl,?_⟩))
 try dsimp only
 refine wpS_bind (aL b0 ?_)
 try dsimp only
 have m0:Mi ρ (a.toList++b.toList) (#[b.getD 0 (.none,.none)]:Array Keyed).toList (a.toList.drop 0) (b.toList.drop 1):=by
  have hb:b.toList=b.getD 0 (.none,.none)::b.toList.drop 1:=cM b0;have rb:=oR upB;rw[hb]at rb;have rb':=List.pairwise_cons.mp rb;refine⟨List.pairwise_singleton _ _,fun x hx y hy=> ?_,fun x hx y hy=> ?_,oR upA,rb'.2,?_⟩
  ·cases List.mem_singleton.mp hx;exact fE upA hy fst
  ·cases List.mem_singleton.mp hx;exact rb'.1 y hy
  ·conv=>rhs;rw[hb]
   show (b.getD 0 (.none,.none)::(a.toList++b.toList.drop 1)).Perm _;exact List.perm_middle.symm
 by_cases h1:1=b.size
 ·rw[if_pos (by simpa using h1)];exact wpS_pure (let r:=doneR m0 h1;hQ _ _ (SameSt.refl _) r.1 r.2)
 rw[if_neg (by simpa using h1)]
 by_cases h2:0+1=a.size
 ·rw[if_pos (by simpa using h2)];exact wpS_pure (let r:=lastR m0 h2;hQ _ _ (SameSt.refl _) r.1 r.2)
 rw[if_neg (by simpa using h2)];refine wpS_bind (wpS_get ?_)
 try dsimp only
 have leq:∀{o:Array Keyed}{i j:Nat},Mi ρ (a.toList++b.toList) o.toList (a.toList.drop i) (b.toList.drop j)->i<a.size->j<b.size->o.size+2<=a.size+b.size:=fun hm hi hj=>by
  have:=hm.len;rw[Array.length_toList,List.length_drop,List.length_drop,List.length_append,Array.length_toList,Array.length_toList]at this
  lia
 refine wpS_bind (wpS_mono (wpS_forRange (I:=fun x c st'=>SameSt st st'/\∃(o:Array Keyed) (i j g:Nat),c=(none,o,i,j,g)/\x+1<=o.size/\i+1<a.size/\j<b.size/\Mi ρ (a.toList++b.toList) o.toList (a.toList.drop i) (b.toList.drop j))
  (Q:=fun c st'=>SameSt st st'/\∃(r:Array Keyed) (rest:Array Keyed×Nat×Nat×Nat),c=(some r,rest)/\bO ρ r.toList/\r.toList.Perm (a.toList++b.toList)) ?_ ?_ ⟨SameSt.refl _,_,_,_,_,rfl,Nat.le_refl _,by lia,by lia,m0⟩) ?_)
 ·rintro x c st' _ hx ⟨hs,o,i,j,g,rfl,hx1,hi,hj,hm⟩
  try dsimp only
  have hk':kindOf st'=κ:=hs.1.trans hk;refine wpS_bind (wpS_mono (wpS_forRange (I:=fun y c st''=>st''=st'/\∃(oo:Array Keyed) (ii jj ac bc:Nat),c=(none,oo,ii,jj,ac,bc)/\o.size+y<=oo.size/\ii+1<a.size/\jj<b.size/\Mi ρ (a.toList++b.toList) oo.toList (a.toList.drop ii) (b.toList.drop jj))
   (Q:=fun c st''=>st''=st'/\((∃(r:Array Keyed) (rest:Array Keyed×Nat×Nat×Nat×Nat),c=(some r,rest)/\bO ρ r.toList/\r.toList.Perm (a.toList++b.toList))∨∃(oo:Array Keyed) (ii jj ac bc:Nat),c=(none,oo,ii,jj,ac,bc)/\o.size+1<=oo.size/\ii+1<a.size/\jj<b.size/\Mi ρ (a.toList++b.toList) oo.toList (a.toList.drop ii) (b.toList.drop jj))) ?_ ?_ ⟨rfl,o,i,j,0,0,rfl,Nat.le_refl _,hi,hj,hm⟩) ?_)
  ·rintro y c _ _ hy ⟨rfl,oo,ii,jj,ac,bc,rfl,hy1,hi,hj,hM⟩
   try dsimp only
   refine wpS_bind (aL hj (wpS_bind (aL (by lia) (wpS_bind (C.lt (dB _ (aK hj)) (dA _ (aK (by lia))) hk' ?_)))))
   try dsimp only
   by_cases hc:ρ (b.getD jj (.none,.none))<ρ (a.getD ii (.none,.none))
   ·rw[decide_eq_true hc,if_pos rfl];refine wpS_bind (aL hj ?_)
    try dsimp only
    have mB:=(show Mi ρ (a.toList++b.toList) oo.toList (a.toList.drop ii) ([b.getD jj (.none,.none)]++b.toList.drop (jj+1)) by rw[cM hj]at hM;exact hM).goB (fun x hx y hy=>by cases List.mem_singleton.mp hx;exact fE upA hy hc);rw[←Array.toList_push]at mB
    by_cases he:jj+1=b.size
    ·rw[if_pos (by simpa using he)];exact wpS_pure ⟨rfl,.inl ⟨_,_,rfl,doneR mB he⟩⟩
    ·rw[if_neg (by simpa using he)]
     by_cases hg:bc+1≥g
     ·rw[if_pos hg];exact wpS_pure ⟨rfl,.inr ⟨_,_,_,_,_,rfl,by rw[Array.size_push];lia,hi,by lia,mB⟩⟩
     ·rw[if_neg hg];exact wpS_pure ⟨rfl,_,_,_,_,_,rfl,by rw[Array.size_push];lia,hi,by lia,mB⟩
   ·rw[decide_eq_false hc,if_neg Bool.false_ne_true];refine wpS_bind (aL (i:=ii) (by lia) ?_)
    try dsimp only
    have hlt:ρ (a.getD ii (.none,.none))<ρ (b.getD jj (.none,.none)):=by
     have:=ne _ (aK (a:=a) (i:=ii) (by lia)) _ (aK (a:=b) (i:=jj) hj)
     lia
    have mA:=(show Mi ρ (a.toList++b.toList) oo.toList ([a.getD ii (.none,.none)]++a.toList.drop (ii+1)) (b.toList.drop jj) by rw[cM (i:=ii) (by lia)]at hM;exact hM).goA (fun x hx y hy=>by cases List.mem_singleton.mp hx;exact fE upB hy hlt);rw[←Array.toList_push]at mA
    by_cases he:ii+1+1=a.size
    ·rw[if_pos (by simpa using he)];exact wpS_pure ⟨rfl,.inl ⟨_,_,rfl,lastR mA he⟩⟩
    ·rw[if_neg (by simpa using he)]
     by_cases hg:ac+1≥g
     ·rw[if_pos hg];exact wpS_pure ⟨rfl,.inr ⟨_,_,_,_,_,rfl,by rw[Array.size_push];lia,by lia,hj,mA⟩⟩
     ·rw[if_neg hg];exact wpS_pure ⟨rfl,_,_,_,_,_,rfl,by rw[Array.size_push];lia,by lia,hj,mA⟩
  ·rintro c _ ⟨rfl,oo,ii,jj,ac,bc,rfl,hy1,hi,hj,hM⟩;have:=leq hM (by lia) hj
   lia
  ·rintro c _ ⟨rfl,⟨r,rest,rfl,hr⟩|⟨oo,ii,jj,ac,bc,rfl,ho,hi,hj,hM⟩⟩
   ·try dsimp only
    exact wpS_pure ⟨hs,_,_,rfl,hr⟩
   try dsimp only
   refine wpS_bind (wpS_lift (wpAny_rule ⟨rfl,?_⟩));refine wpS_bind (wpS_mono (wpS_forRange (I:=fun y c st''=>SameSt st st''/\∃(oo:Array Keyed) (ii jj gg ac bc:Nat),c=(none,oo,ii,jj,gg,ac,bc)/\x+2<=oo.size/\y<=oo.size/\ii+1<a.size/\jj<b.size/\Mi ρ (a.toList++b.toList) oo.toList (a.toList.drop ii) (b.toList.drop jj))
    (Q:=fun c st''=>SameSt st st''/\((∃(r:Array Keyed) (rest:Array Keyed×Nat×Nat×Nat×Nat×Nat),c=(some r,rest)/\bO ρ r.toList/\r.toList.Perm (a.toList++b.toList))∨∃(oo:Array Keyed) (ii jj gg ac bc:Nat),c=(none,oo,ii,jj,gg,ac,bc)/\x+2<=oo.size/\ii+1<a.size/\jj<b.size/\Mi ρ (a.toList++b.toList) oo.toList (a.toList.drop ii) (b.toList.drop jj))) ?_ ?_ ⟨hs,oo,ii,jj,_,_,_,rfl,by lia,by lia,hi,hj,hM⟩) ?_)
   ·clear hM hi hj ho oo ii jj ac bc;rintro y c st'' _ hy ⟨hs1,oo,ii,jj,gg,ac,bc,rfl,hx2,hy2,hi,hj,hM⟩
    try dsimp only
    by_cases hgg:gg>1
    ·rw[if_pos hgg]
     try dsimp only
     refine wpS_bind (wpS_modify ?_);have hs2:SameSt st (aO st'' (gg - 1)):=hs1;refine wpS_bind (aL hj ?_);refine wpS_bind (b4 (st:=aO st'' (gg - 1)) (hint:=0) C (show kindOf (aO st'' (gg - 1))=κ from hs1.1.trans hk) (dB _ (aK hj)) dA (n:=a.size - ii) (by lia) (by lia) (eJ upA (by lia)) fun k1 hk1 r1 r2=> ?_)
     try dsimp only
     have p1:∀x∈(a.extract ii (ii+k1)).toList,∀y∈b.toList.drop jj,ρ x<ρ y:=fun x hx y hy=>by
      obtain⟨u,hu,e⟩:=gY (ρ:=ρ) hx;have:=r1 (u - ii) (by lia);rw[show ii+(u - ii)=u by lia]at this;have h1:¬ρ (b.getD jj (.none,.none))<rnk ρ a u:=of_decide_eq_false (by unfold bey at this;rw[if_neg Bool.false_ne_true]at this;simpa using this);have h2:=ne _ (aK (a:=a) (i:=u) hu.2.2) _ (aK (a:=b) (i:=jj) hj);refine fE upB hy ?_;rw[e];have h2:rnk ρ a u≠ρ (b.getD jj (.none,.none)):=h2
      lia
     have p2':∀y∈a.toList.drop (ii+k1),ρ (b.getD jj (.none,.none))<ρ y:=fun y hy=>by
      obtain⟨u,hu1,hu2,e⟩:=cA (ρ:=ρ) hy;have:=r2 (u - ii) (by lia) (by lia);rw[show ii+(u - ii)=u by lia]at this;rw[e];unfold bey at this;rw[if_neg Bool.false_ne_true]at this
      simpa using this
     by_cases hk1':k1>0
     ·rw[if_pos hk1'];have mA:Mi ρ (a.toList++b.toList) (oo++a.extract ii (ii+k1)).toList (a.toList.drop (ii+k1)) (b.toList.drop jj):=by
       rw[Array.toList_append (xs:=oo)];exact(show Mi ρ (a.toList++b.toList) oo.toList ((a.extract ii (ii+k1)).toList++a.toList.drop (ii+k1)) (b.toList.drop jj) by rw[←gQ];exact hM).goA p1
      by_cases hl:ii+k1+1=a.size
      ·rw[if_pos (by simpa using hl)];exact wpS_pure ⟨hs2,.inl ⟨_,_,rfl,lastR mA hl⟩⟩
      rw[if_neg (by simpa using hl)]
      by_cases hl2:ii+k1=a.size
      ·rw[if_pos (by simpa using hl2)];exact wpS_pure ⟨hs2,.inl ⟨_,_,rfl,doneR2 mA hl2⟩⟩
      rw[if_neg (by simpa using hl2)];have hM:=mA;have p2:=p2';refine wpS_bind (aL hj ?_)
      try dsimp only
      have mB:=(show Mi ρ (a.toList++b.toList) (oo++a.extract ii (ii+k1)).toList (a.toList.drop (ii+k1)) ([b.getD jj (.none,.none)]++b.toList.drop (jj+1)) by rw[cM hj]at hM;exact hM).goB (fun x hx y hy=>by cases List.mem_singleton.mp hx;exact p2 y hy);rw[←Array.toList_push]at mB
      by_cases he:jj+1=b.size
      ·rw[if_pos (by simpa using he)];exact wpS_pure ⟨hs2,.inl ⟨_,_,rfl,doneR mB he⟩⟩
      ·rw[if_neg (by simpa using he)];have hj2:jj+1<b.size:=by lia
       refine wpS_bind (aL (i:=ii+k1) (by lia) ?_);refine wpS_bind (b4 (st:=aO st'' (gg - 1)) (hint:=0) C (show kindOf (aO st'' (gg - 1))=κ from hs1.1.trans hk) (dA _ (aK (by lia))) dB (n:=b.size - (jj+1)) (by lia) (by lia) (eJ upB (by lia)) fun k2 hk2 r1 r2=> ?_)
       try dsimp only
       have q1:∀x∈(b.extract (jj+1) (jj+1+k2)).toList,∀y∈a.toList.drop (ii+k1),ρ x<ρ y:=fun x hx y hy=>by
        obtain⟨u,hu,e⟩:=gY (ρ:=ρ) hx;rw[e];have:=r1 (u - (jj+1)) (by lia);rw[show jj+1+(u - (jj+1))=u by lia]at this;exact fE upA hy (of_decide_eq_true this)
       have q2:∀y∈b.toList.drop (jj+1+k2),ρ (a.getD (ii+k1) (.none,.none))<ρ y:=fun y hy=>by
        have hym:y∈b.toList:=List.mem_of_mem_drop hy;obtain⟨u,hu1,hu2,e⟩:=cA (ρ:=ρ) hy;have:=r2 (u - (jj+1)) (by lia) (by lia);rw[show jj+1+(u - (jj+1))=u by lia]at this;have h1:=of_decide_eq_false this;have h2:=ne _ (aK (a:=a) (i:=ii+k1) (by lia)) y hym;rw[e]at h2 ⊢
        lia
       by_cases hk0:k2>0
       ·rw[if_pos hk0];have mC:Mi ρ (a.toList++b.toList) ((oo++a.extract ii (ii+k1)).push (b.getD jj (.none,.none))++b.extract (jj+1) (jj+1+k2)).toList (a.toList.drop (ii+k1)) (b.toList.drop (jj+1+k2)):=by
         rw[Array.toList_append (xs:=(oo++a.extract ii (ii+k1)).push (b.getD jj (.none,.none)))];exact(show Mi ρ (a.toList++b.toList) ((oo++a.extract ii (ii+k1)).push (b.getD jj (.none,.none))).toList (a.toList.drop (ii+k1)) ((b.extract (jj+1) (jj+1+k2)).toList++b.toList.drop (jj+1+k2)) by rw[←gQ];exact mB).goB q1
        by_cases hz:jj+1+k2=b.size
        ·rw[if_pos (by simpa using hz)];exact wpS_pure ⟨hs2,.inl ⟨_,_,rfl,doneR mC hz⟩⟩
        ·rw[if_neg (by simpa using hz)];have hj3:jj+1+k2<b.size:=by lia
         refine wpS_bind (aL (i:=ii+k1) (by lia) ?_)
         try dsimp only
         have mD:=(show Mi ρ (a.toList++b.toList) (((oo++a.extract ii (ii+k1)).push (b.getD jj (.none,.none))++b.extract (jj+1) (jj+1+k2))).toList ([a.getD (ii+k1) (.none,.none)]++a.toList.drop (ii+k1+1)) (b.toList.drop (jj+1+k2)) by rw[cM (i:=ii+k1) (by lia)]at mC;exact mC).goA (fun x hx y hy=>by cases List.mem_singleton.mp hx;exact q2 y hy);rw[←Array.toList_push]at mD
         by_cases hl:ii+k1+1+1=a.size
         ·rw[if_pos (by simpa using hl)];exact wpS_pure ⟨hs2,.inl ⟨_,_,rfl,lastR mD hl⟩⟩
         ·rw[if_neg (by simpa using hl)];have sz:oo.size+1<=((((oo++a.extract ii (ii+k1)).push (b.getD jj (.none,.none))++b.extract (jj+1) (jj+1+k2))).push (a.getD (ii+k1) (.none,.none))).size:=by simp only[Array.size_push,Array.size_append];lia
          have ip:ii+k1+1+1<a.size/\(jj+1+k2)<b.size/\Mi ρ (a.toList++b.toList) ((((oo++a.extract ii (ii+k1)).push (b.getD jj (.none,.none))++b.extract (jj+1) (jj+1+k2))).push (a.getD (ii+k1) (.none,.none))).toList (a.toList.drop (ii+k1+1)) (b.toList.drop (jj+1+k2)):=⟨by lia,hj3,mD⟩
          by_cases hg:(decide (k1<7)&&decide (k2<7))=true
          ·rw[if_pos hg];exact wpS_pure ⟨hs2,.inr ⟨_,_,_,_,_,_,rfl,by lia,ip⟩⟩
          ·rw[if_neg hg];exact wpS_pure ⟨hs2,_,_,_,_,_,_,rfl,by lia,by lia,ip⟩
       ·rw[if_neg hk0];have hk00:k2=0:=by lia
        subst hk00;refine wpS_bind (aL (i:=ii+k1) (by lia) ?_)
        try dsimp only
        have mD:=(show Mi ρ (a.toList++b.toList) (((oo++a.extract ii (ii+k1)).push (b.getD jj (.none,.none)))).toList ([a.getD (ii+k1) (.none,.none)]++a.toList.drop (ii+k1+1)) (b.toList.drop (jj+1)) by rw[cM (i:=ii+k1) (by lia)]at mB;exact mB).goA (fun x hx y hy=>by cases List.mem_singleton.mp hx;exact q2 y hy);rw[←Array.toList_push]at mD
        by_cases hl:ii+k1+1+1=a.size
        ·rw[if_pos (by simpa using hl)];exact wpS_pure ⟨hs2,.inl ⟨_,_,rfl,lastR mD hl⟩⟩
        ·rw[if_neg (by simpa using hl)];have sz:oo.size+1<=((((oo++a.extract ii (ii+k1)).push (b.getD jj (.none,.none)))).push (a.getD (ii+k1) (.none,.none))).size:=by simp only[Array.size_push,Array.size_append];lia
         have ip:ii+k1+1+1<a.size/\(jj+1)<b.size/\Mi ρ (a.toList++b.toList) ((((oo++a.extract ii (ii+k1)).push (b.getD jj (.none,.none)))).push (a.getD (ii+k1) (.none,.none))).toList (a.toList.drop (ii+k1+1)) (b.toList.drop (jj+1)):=⟨by lia,hj2,mD⟩
         by_cases hg:(decide (k1<7)&&decide (0<7))=true
         ·rw[if_pos hg];exact wpS_pure ⟨hs2,.inr ⟨_,_,_,_,_,_,rfl,by lia,ip⟩⟩
         ·rw[if_neg hg];exact wpS_pure ⟨hs2,_,_,_,_,_,_,rfl,by lia,by lia,ip⟩
     ·rw[if_neg hk1'];have hk10:k1=0:=by lia
      subst hk10;have p2:=p2';refine wpS_bind (aL hj ?_)
      try dsimp only
      have mB:=(show Mi ρ (a.toList++b.toList) (oo).toList (a.toList.drop (ii)) ([b.getD jj (.none,.none)]++b.toList.drop (jj+1)) by rw[cM hj]at hM;exact hM).goB (fun x hx y hy=>by cases List.mem_singleton.mp hx;exact p2 y hy);rw[←Array.toList_push]at mB
      by_cases he:jj+1=b.size
      ·rw[if_pos (by simpa using he)];exact wpS_pure ⟨hs2,.inl ⟨_,_,rfl,doneR mB he⟩⟩
      ·rw[if_neg (by simpa using he)];have hj2:jj+1<b.size:=by lia
       refine wpS_bind (aL (i:=ii) (by lia) ?_);refine wpS_bind (b4 (st:=aO st'' (gg - 1)) (hint:=0) C (show kindOf (aO st'' (gg - 1))=κ from hs1.1.trans hk) (dA _ (aK (by lia))) dB (n:=b.size - (jj+1)) (by lia) (by lia) (eJ upB (by lia)) fun k2 hk2 r1 r2=> ?_)
       try dsimp only
       have q1:∀x∈(b.extract (jj+1) (jj+1+k2)).toList,∀y∈a.toList.drop (ii),ρ x<ρ y:=fun x hx y hy=>by
        obtain⟨u,hu,e⟩:=gY (ρ:=ρ) hx;rw[e];have:=r1 (u - (jj+1)) (by lia);rw[show jj+1+(u - (jj+1))=u by lia]at this;exact fE upA hy (of_decide_eq_true this)
       have q2:∀y∈b.toList.drop (jj+1+k2),ρ (a.getD (ii) (.none,.none))<ρ y:=fun y hy=>by
        have hym:y∈b.toList:=List.mem_of_mem_drop hy;obtain⟨u,hu1,hu2,e⟩:=cA (ρ:=ρ) hy;have:=r2 (u - (jj+1)) (by lia) (by lia);rw[show jj+1+(u - (jj+1))=u by lia]at this;have h1:=of_decide_eq_false this;have h2:=ne _ (aK (a:=a) (i:=ii) (by lia)) y hym;rw[e]at h2 ⊢
        lia
       by_cases hk0:k2>0
       ·rw[if_pos hk0];have mC:Mi ρ (a.toList++b.toList) ((oo).push (b.getD jj (.none,.none))++b.extract (jj+1) (jj+1+k2)).toList (a.toList.drop (ii)) (b.toList.drop (jj+1+k2)):=by
         rw[Array.toList_append (xs:=(oo).push (b.getD jj (.none,.none)))];exact(show Mi ρ (a.toList++b.toList) ((oo).push (b.getD jj (.none,.none))).toList (a.toList.drop (ii)) ((b.extract (jj+1) (jj+1+k2)).toList++b.toList.drop (jj+1+k2)) by rw[←gQ];exact mB).goB q1
        by_cases hz:jj+1+k2=b.size
        ·rw[if_pos (by simpa using hz)];exact wpS_pure ⟨hs2,.inl ⟨_,_,rfl,doneR mC hz⟩⟩
        ·rw[if_neg (by simpa using hz)];have hj3:jj+1+k2<b.size:=by lia
         refine wpS_bind (aL (i:=ii) (by lia) ?_)
         try dsimp only
         have mD:=(show Mi ρ (a.toList++b.toList) (((oo).push (b.getD jj (.none,.none))++b.extract (jj+1) (jj+1+k2))).toList ([a.getD (ii) (.none,.none)]++a.toList.drop (ii+1)) (b.toList.drop (jj+1+k2)) by rw[cM (i:=ii) (by lia)]at mC;exact mC).goA (fun x hx y hy=>by cases List.mem_singleton.mp hx;exact q2 y hy);rw[←Array.toList_push]at mD
         by_cases hl:ii+1+1=a.size
         ·rw[if_pos (by simpa using hl)];exact wpS_pure ⟨hs2,.inl ⟨_,_,rfl,lastR mD hl⟩⟩
         ·rw[if_neg (by simpa using hl)];have sz:oo.size+1<=((((oo).push (b.getD jj (.none,.none))++b.extract (jj+1) (jj+1+k2))).push (a.getD (ii) (.none,.none))).size:=by simp only[Array.size_push,Array.size_append];lia
          have ip:ii+1+1<a.size/\(jj+1+k2)<b.size/\Mi ρ (a.toList++b.toList) ((((oo).push (b.getD jj (.none,.none))++b.extract (jj+1) (jj+1+k2))).push (a.getD (ii) (.none,.none))).toList (a.toList.drop (ii+1)) (b.toList.drop (jj+1+k2)):=⟨by lia,hj3,mD⟩
          by_cases hg:(decide (0<7)&&decide (k2<7))=true
          ·rw[if_pos hg];exact wpS_pure ⟨hs2,.inr ⟨_,_,_,_,_,_,rfl,by lia,ip⟩⟩
          ·rw[if_neg hg];exact wpS_pure ⟨hs2,_,_,_,_,_,_,rfl,by lia,by lia,ip⟩
       ·rw[if_neg hk0];have hk00:k2=0:=by lia
        subst hk00;refine wpS_bind (aL (i:=ii) (by lia) ?_)
        try dsimp only
        have mD:=(show Mi ρ (a.toList++b.toList) (((oo).push (b.getD jj (.none,.none)))).toList ([a.getD (ii) (.none,.none)]++a.toList.drop (ii+1)) (b.toList.drop (jj+1)) by rw[cM (i:=ii) (by lia)]at mB;exact mB).goA (fun x hx y hy=>by cases List.mem_singleton.mp hx;exact q2 y hy);rw[←Array.toList_push]at mD
        by_cases hl:ii+1+1=a.size
        ·rw[if_pos (by simpa using hl)];exact wpS_pure ⟨hs2,.inl ⟨_,_,rfl,lastR mD hl⟩⟩
        ·rw[if_neg (by simpa using hl)];have sz:oo.size+1<=((((oo).push (b.getD jj (.none,.none)))).push (a.getD (ii) (.none,.none))).size:=by simp only[Array.size_push,Array.size_append];lia
         have ip:ii+1+1<a.size/\(jj+1)<b.size/\Mi ρ (a.toList++b.toList) ((((oo).push (b.getD jj (.none,.none)))).push (a.getD (ii) (.none,.none))).toList (a.toList.drop (ii+1)) (b.toList.drop (jj+1)):=⟨by lia,hj2,mD⟩
         by_cases hg:(decide (0<7)&&decide (0<7))=true
         ·rw[if_pos hg];exact wpS_pure ⟨hs2,.inr ⟨_,_,_,_,_,_,rfl,by lia,ip⟩⟩
         ·rw[if_neg hg];exact wpS_pure ⟨hs2,_,_,_,_,_,_,rfl,by lia,by lia,ip⟩
    ·rw[if_neg hgg]
     try dsimp only
     refine wpS_bind (wpS_modify ?_);have hs2:SameSt st (aO st'' (gg)):=hs1;refine wpS_bind (aL hj ?_);refine wpS_bind (b4 (st:=aO st'' (gg)) (hint:=0) C (show kindOf (aO st'' (gg))=κ from hs1.1.trans hk) (dB _ (aK hj)) dA (n:=a.size - ii) (by lia) (by lia) (eJ upA (by lia)) fun k1 hk1 r1 r2=> ?_)
     try dsimp only
     have p1:∀x∈(a.extract ii (ii+k1)).toList,∀y∈b.toList.drop jj,ρ x<ρ y:=fun x hx y hy=>by
      obtain⟨u,hu,e⟩:=gY (ρ:=ρ) hx;have:=r1 (u - ii) (by lia);rw[show ii+(u - ii)=u by lia]at this;have h1:¬ρ (b.getD jj (.none,.none))<rnk ρ a u:=of_decide_eq_false (by unfold bey at this;rw[if_neg Bool.false_ne_true]at this;simpa using this);have h2:=ne _ (aK (a:=a) (i:=u) hu.2.2) _ (aK (a:=b) (i:=jj) hj);refine fE upB hy ?_;rw[e];have h2:rnk ρ a u≠ρ (b.getD jj (.none,.none)):=h2
      lia
     have p2':∀y∈a.toList.drop (ii+k1),ρ (b.getD jj (.none,.none))<ρ y:=fun y hy=>by
      obtain⟨u,hu1,hu2,e⟩:=cA (ρ:=ρ) hy;have:=r2 (u - ii) (by lia) (by lia);rw[show ii+(u - ii)=u by lia]at this;rw[e];unfold bey at this;rw[if_neg Bool.false_ne_true]at this
      simpa using this
     by_cases hk1':k1>0
     ·rw[if_pos hk1'];have mA:Mi ρ (a.toList++b.toList) (oo++a.extract ii (ii+k1)).toList (a.toList.drop (ii+k1)) (b.toList.drop jj):=by
       rw[Array.toList_append (xs:=oo)];exact(show Mi ρ (a.toList++b.toList) oo.toList ((a.extract ii (ii+k1)).toList++a.toList.drop (ii+k1)) (b.toList.drop jj) by rw[←gQ];exact hM).goA p1
      by_cases hl:ii+k1+1=a.size
      ·rw[if_pos (by simpa using hl)];exact wpS_pure ⟨hs2,.inl ⟨_,_,rfl,lastR mA hl⟩⟩
      rw[if_neg (by simpa using hl)]
      by_cases hl2:ii+k1=a.size
      ·rw[if_pos (by simpa using hl2)];exact wpS_pure ⟨hs2,.inl ⟨_,_,rfl,doneR2 mA hl2⟩⟩
      rw[if_neg (by simpa using hl2)];have hM:=mA;have p2:=p2';refine wpS_bind (aL hj ?_)
      try dsimp only
      have mB:=(show Mi ρ (a.toList++b.toList) (oo++a.extract ii (ii+k1)).toList (a.toList.drop (ii+k1)) ([b.getD jj (.none,.none)]++b.toList.drop (jj+1)) by rw[cM hj]at hM;exact hM).goB (fun x hx y hy=>by cases List.mem_singleton.mp hx;exact p2 y hy);rw[←Array.toList_push]at mB
      by_cases he:jj+1=b.size
      ·rw[if_pos (by simpa using he)];exact wpS_pure ⟨hs2,.inl ⟨_,_,rfl,doneR mB he⟩⟩
      ·rw[if_neg (by simpa using he)];have hj2:jj+1<b.size:=by lia
       refine wpS_bind (aL (i:=ii+k1) (by lia) ?_);refine wpS_bind (b4 (st:=aO st'' (gg)) (hint:=0) C (show kindOf (aO st'' (gg))=κ from hs1.1.trans hk) (dA _ (aK (by lia))) dB (n:=b.size - (jj+1)) (by lia) (by lia) (eJ upB (by lia)) fun k2 hk2 r1 r2=> ?_)
       try dsimp only
       have q1:∀x∈(b.extract (jj+1) (jj+1+k2)).toList,∀y∈a.toList.drop (ii+k1),ρ x<ρ y:=fun x hx y hy=>by
        obtain⟨u,hu,e⟩:=gY (ρ:=ρ) hx;rw[e];have:=r1 (u - (jj+1)) (by lia);rw[show jj+1+(u - (jj+1))=u by lia]at this;exact fE upA hy (of_decide_eq_true this)
       have q2:∀y∈b.toList.drop (jj+1+k2),ρ (a.getD (ii+k1) (.none,.none))<ρ y:=fun y hy=>by
        have hym:y∈b.toList:=List.mem_of_mem_drop hy;obtain⟨u,hu1,hu2,e⟩:=cA (ρ:=ρ) hy;have:=r2 (u - (jj+1)) (by lia) (by lia);rw[show jj+1+(u - (jj+1))=u by lia]at this;have h1:=of_decide_eq_false this;have h2:=ne _ (aK (a:=a) (i:=ii+k1) (by lia)) y hym;rw[e]at h2 ⊢
        lia
       by_cases hk0:k2>0
       ·rw[if_pos hk0];have mC:Mi ρ (a.toList++b.toList) ((oo++a.extract ii (ii+k1)).push (b.getD jj (.none,.none))++b.extract (jj+1) (jj+1+k2)).toList (a.toList.drop (ii+k1)) (b.toList.drop (jj+1+k2)):=by
         rw[Array.toList_append (xs:=(oo++a.extract ii (ii+k1)).push (b.getD jj (.none,.none)))];exact(show Mi ρ (a.toList++b.toList) ((oo++a.extract ii (ii+k1)).push (b.getD jj (.none,.none))).toList (a.toList.drop (ii+k1)) ((b.extract (jj+1) (jj+1+k2)).toList++b.toList.drop (jj+1+k2)) by rw[←gQ];exact mB).goB q1
        by_cases hz:jj+1+k2=b.size
        ·rw[if_pos (by simpa using hz)];exact wpS_pure ⟨hs2,.inl ⟨_,_,rfl,doneR mC hz⟩⟩
        ·rw[if_neg (by simpa using hz)];have hj3:jj+1+k2<b.size:=by lia
         refine wpS_bind (aL (i:=ii+k1) (by lia) ?_)
         try dsimp only
         have mD:=(show Mi ρ (a.toList++b.toList) (((oo++a.extract ii (ii+k1)).push (b.getD jj (.none,.none))++b.extract (jj+1) (jj+1+k2))).toList ([a.getD (ii+k1) (.none,.none)]++a.toList.drop (ii+k1+1)) (b.toList.drop (jj+1+k2)) by rw[cM (i:=ii+k1) (by lia)]at mC;exact mC).goA (fun x hx y hy=>by cases List.mem_singleton.mp hx;exact q2 y hy);rw[←Array.toList_push]at mD
         by_cases hl:ii+k1+1+1=a.size
         ·rw[if_pos (by simpa using hl)];exact wpS_pure ⟨hs2,.inl ⟨_,_,rfl,lastR mD hl⟩⟩
         ·rw[if_neg (by simpa using hl)];have sz:oo.size+1<=((((oo++a.extract ii (ii+k1)).push (b.getD jj (.none,.none))++b.extract (jj+1) (jj+1+k2))).push (a.getD (ii+k1) (.none,.none))).size:=by simp only[Array.size_push,Array.size_append];lia
          have ip:ii+k1+1+1<a.size/\(jj+1+k2)<b.size/\Mi ρ (a.toList++b.toList) ((((oo++a.extract ii (ii+k1)).push (b.getD jj (.none,.none))++b.extract (jj+1) (jj+1+k2))).push (a.getD (ii+k1) (.none,.none))).toList (a.toList.drop (ii+k1+1)) (b.toList.drop (jj+1+k2)):=⟨by lia,hj3,mD⟩
          by_cases hg:(decide (k1<7)&&decide (k2<7))=true
          ·rw[if_pos hg];exact wpS_pure ⟨hs2,.inr ⟨_,_,_,_,_,_,rfl,by lia,ip⟩⟩
          ·rw[if_neg hg];exact wpS_pure ⟨hs2,_,_,_,_,_,_,rfl,by lia,by lia,ip⟩
       ·rw[if_neg hk0];have hk00:k2=0:=by lia
        subst hk00;refine wpS_bind (aL (i:=ii+k1) (by lia) ?_)
        try dsimp only
        have mD:=(show Mi ρ (a.toList++b.toList) (((oo++a.extract ii (ii+k1)).push (b.getD jj (.none,.none)))).toList ([a.getD (ii+k1) (.none,.none)]++a.toList.drop (ii+k1+1)) (b.toList.drop (jj+1)) by rw[cM (i:=ii+k1) (by lia)]at mB;exact mB).goA (fun x hx y hy=>by cases List.mem_singleton.mp hx;exact q2 y hy);rw[←Array.toList_push]at mD
        by_cases hl:ii+k1+1+1=a.size
        ·rw[if_pos (by simpa using hl)];exact wpS_pure ⟨hs2,.inl ⟨_,_,rfl,lastR mD hl⟩⟩
        ·rw[if_neg (by simpa using hl)];have sz:oo.size+1<=((((oo++a.extract ii (ii+k1)).push (b.getD jj (.none,.none)))).push (a.getD (ii+k1) (.none,.none))).size:=by simp only[Array.size_push,Array.size_append];lia
         have ip:ii+k1+1+1<a.size/\(jj+1)<b.size/\Mi ρ (a.toList++b.toList) ((((oo++a.extract ii (ii+k1)).push (b.getD jj (.none,.none)))).push (a.getD (ii+k1) (.none,.none))).toList (a.toList.drop (ii+k1+1)) (b.toList.drop (jj+1)):=⟨by lia,hj2,mD⟩
         by_cases hg:(decide (k1<7)&&decide (0<7))=true
         ·rw[if_pos hg];exact wpS_pure ⟨hs2,.inr ⟨_,_,_,_,_,_,rfl,by lia,ip⟩⟩
         ·rw[if_neg hg];exact wpS_pure ⟨hs2,_,_,_,_,_,_,rfl,by lia,by lia,ip⟩
     ·rw[if_neg hk1'];have hk10:k1=0:=by lia
      subst hk10;have p2:=p2';refine wpS_bind (aL hj ?_)
      try dsimp only
      have mB:=(show Mi ρ (a.toList++b.toList) (oo).toList (a.toList.drop (ii)) ([b.getD jj (.none,.none)]++b.toList.drop (jj+1)) by rw[cM hj]at hM;exact hM).goB (fun x hx y hy=>by cases List.mem_singleton.mp hx;exact p2 y hy);rw[←Array.toList_push]at mB
      by_cases he:jj+1=b.size
      ·rw[if_pos (by simpa using he)];exact wpS_pure ⟨hs2,.inl ⟨_,_,rfl,doneR mB he⟩⟩
      ·rw[if_neg (by simpa using he)];have hj2:jj+1<b.size:=by lia
       refine wpS_bind (aL (i:=ii) (by lia) ?_);refine wpS_bind (b4 (st:=aO st'' (gg)) (hint:=0) C (show kindOf (aO st'' (gg))=κ from hs1.1.trans hk) (dA _ (aK (by lia))) dB (n:=b.size - (jj+1)) (by lia) (by lia) (eJ upB (by lia)) fun k2 hk2 r1 r2=> ?_)
       try dsimp only
       have q1:∀x∈(b.extract (jj+1) (jj+1+k2)).toList,∀y∈a.toList.drop (ii),ρ x<ρ y:=fun x hx y hy=>by
        obtain⟨u,hu,e⟩:=gY (ρ:=ρ) hx;rw[e];have:=r1 (u - (jj+1)) (by lia);rw[show jj+1+(u - (jj+1))=u by lia]at this;exact fE upA hy (of_decide_eq_true this)
       have q2:∀y∈b.toList.drop (jj+1+k2),ρ (a.getD (ii) (.none,.none))<ρ y:=fun y hy=>by
        have hym:y∈b.toList:=List.mem_of_mem_drop hy;obtain⟨u,hu1,hu2,e⟩:=cA (ρ:=ρ) hy;have:=r2 (u - (jj+1)) (by lia) (by lia);rw[show jj+1+(u - (jj+1))=u by lia]at this;have h1:=of_decide_eq_false this;have h2:=ne _ (aK (a:=a) (i:=ii) (by lia)) y hym;rw[e]at h2 ⊢
        lia
       by_cases hk0:k2>0
       ·rw[if_pos hk0];have mC:Mi ρ (a.toList++b.toList) ((oo).push (b.getD jj (.none,.none))++b.extract (jj+1) (jj+1+k2)).toList (a.toList.drop (ii)) (b.toList.drop (jj+1+k2)):=by
         rw[Array.toList_append (xs:=(oo).push (b.getD jj (.none,.none)))];exact(show Mi ρ (a.toList++b.toList) ((oo).push (b.getD jj (.none,.none))).toList (a.toList.drop (ii)) ((b.extract (jj+1) (jj+1+k2)).toList++b.toList.drop (jj+1+k2)) by rw[←gQ];exact mB).goB q1
        by_cases hz:jj+1+k2=b.size
        ·rw[if_pos (by simpa using hz)];exact wpS_pure ⟨hs2,.inl ⟨_,_,rfl,doneR mC hz⟩⟩
        ·rw[if_neg (by simpa using hz)];have hj3:jj+1+k2<b.size:=by lia
         refine wpS_bind (aL (i:=ii) (by lia) ?_)
         try dsimp only
         have mD:=(show Mi ρ (a.toList++b.toList) (((oo).push (b.getD jj (.none,.none))++b.extract (jj+1) (jj+1+k2))).toList ([a.getD (ii) (.none,.none)]++a.toList.drop (ii+1)) (b.toList.drop (jj+1+k2)) by rw[cM (i:=ii) (by lia)]at mC;exact mC).goA (fun x hx y hy=>by cases List.mem_singleton.mp hx;exact q2 y hy);rw[←Array.toList_push]at mD
         by_cases hl:ii+1+1=a.size
         ·rw[if_pos (by simpa using hl)];exact wpS_pure ⟨hs2,.inl ⟨_,_,rfl,lastR mD hl⟩⟩
         ·rw[if_neg (by simpa using hl)];have sz:oo.size+1<=((((oo).push (b.getD jj (.none,.none))++b.extract (jj+1) (jj+1+k2))).push (a.getD (ii) (.none,.none))).size:=by simp only[Array.size_push,Array.size_append];lia
          have ip:ii+1+1<a.size/\(jj+1+k2)<b.size/\Mi ρ (a.toList++b.toList) ((((oo).push (b.getD jj (.none,.none))++b.extract (jj+1) (jj+1+k2))).push (a.getD (ii) (.none,.none))).toList (a.toList.drop (ii+1)) (b.toList.drop (jj+1+k2)):=⟨by lia,hj3,mD⟩
          by_cases hg:(decide (0<7)&&decide (k2<7))=true
          ·rw[if_pos hg];exact wpS_pure ⟨hs2,.inr ⟨_,_,_,_,_,_,rfl,by lia,ip⟩⟩
          ·rw[if_neg hg];exact wpS_pure ⟨hs2,_,_,_,_,_,_,rfl,by lia,by lia,ip⟩
       ·rw[if_neg hk0];have hk00:k2=0:=by lia
        subst hk00;refine wpS_bind (aL (i:=ii) (by lia) ?_)
        try dsimp only
        have mD:=(show Mi ρ (a.toList++b.toList) (((oo).push (b.getD jj (.none,.none)))).toList ([a.getD (ii) (.none,.none)]++a.toList.drop (ii+1)) (b.toList.drop (jj+1)) by rw[cM (i:=ii) (by lia)]at mB;exact mB).goA (fun x hx y hy=>by cases List.mem_singleton.mp hx;exact q2 y hy);rw[←Array.toList_push]at mD
        by_cases hl:ii+1+1=a.size
        ·rw[if_pos (by simpa using hl)];exact wpS_pure ⟨hs2,.inl ⟨_,_,rfl,lastR mD hl⟩⟩
        ·rw[if_neg (by simpa using hl)];have sz:oo.size+1<=((((oo).push (b.getD jj (.none,.none)))).push (a.getD (ii) (.none,.none))).size:=by simp only[Array.size_push,Array.size_append];lia
         have ip:ii+1+1<a.size/\(jj+1)<b.size/\Mi ρ (a.toList++b.toList) ((((oo).push (b.getD jj (.none,.none)))).push (a.getD (ii) (.none,.none))).toList (a.toList.drop (ii+1)) (b.toList.drop (jj+1)):=⟨by lia,hj2,mD⟩
         by_cases hg:(decide (0<7)&&decide (0<7))=true
         ·rw[if_pos hg];exact wpS_pure ⟨hs2,.inr ⟨_,_,_,_,_,_,rfl,by lia,ip⟩⟩
         ·rw[if_neg hg];exact wpS_pure ⟨hs2,_,_,_,_,_,_,rfl,by lia,by lia,ip⟩
   ·rintro c st'' ⟨hs1,oo,ii,jj,gg,ac,bc,rfl,hx2,hy2,hi,hj,hM⟩;have:=leq hM (by lia) hj
    lia
   ·rintro c st'' ⟨hs1,⟨r,rest,rfl,hr⟩|⟨oo,ii,jj,gg,ac,bc,rfl,ho,hi,hj,hM⟩⟩
    ·try dsimp only
     exact wpS_pure ⟨hs1,_,_,rfl,hr⟩
    ·try dsimp only
     refine wpS_bind (wpS_modify (wpS_pure ⟨hs1,_,_,_,_,rfl,ho,hi,hj,hM⟩))
 ·rintro c st' ⟨hs,o,i,j,g,rfl,hx1,hi,hj,hm⟩;have:=leq hm (by lia) hj
  lia
 ·rintro c st' ⟨hs,r,rest,rfl,hr⟩
  try dsimp only
  exact wpS_pure (hQ _ _ hs hr.1 hr.2)
end
end L2
namespace L2
open PySem PySem.W PyProof.Rows
section
variable {prog:Program}{w:World}{A:Around}{E:Value->Shared->Prop}{s:Shared}{κ:SortKind}{D:Keyed->Prop}{ρ:Keyed->Int}{st:SortSt}
theorem b8 {a:Array Keyed}{n:Nat} (h0:0<n) (hn:n<=a.size):(a.toList.take n).reverse=a.getD (n - 1) (.none,.none)::(a.toList.take (n - 1)).reverse:=by
 obtain⟨k,rfl⟩:∃k,n=k+1:=⟨n - 1,by lia⟩
 have h:k<a.toList.length:=by rw[Array.length_toList];lia
 rw[List.take_succ,List.getElem?_eq_getElem h,Nat.add_sub_cancel];show (a.toList.take k++[_]).reverse=_;rw[List.reverse_append];show _::_=_::_
 congr 1
 have hl:k<a.size:=by lia
 simp[Array.getD,hl]
theorem gO {a:Array Keyed}{k n:Nat} (h:k<=n) (hn:n<=a.size):(a.toList.take n).reverse=(a.extract k n).toList.reverse++(a.toList.take k).reverse:=by
 rw[←List.reverse_append,Array.toList_extract,List.extract_eq_drop_take]
 congr 1
 have e:n=k+(n - k):=by lia
 conv=>lhs;rw[e]
 rw[List.take_add]
theorem b6 {a:Array Keyed}{n:Nat}{x:Keyed} (h:x∈(a.toList.take n).reverse):∃u,u<n/\u<a.size/\ρ x=rnk ρ a u:=by
 obtain⟨v,hv,e⟩:=List.getElem_of_mem (List.mem_reverse.mp h);rw[List.length_take,Array.length_toList]at hv;rw[List.getElem_take]at e;have hl:v<a.size:=by lia
 refine⟨v,by lia,hl,?_⟩;unfold rnk;rw[←e]
 congr 1
 simp[Array.getD,hl]
theorem gN {a:Array Keyed}{k n:Nat}{x:Keyed} (h:x∈(a.extract k n).toList):∃u,(k<=u/\u<n/\u<a.size)/\ρ x=rnk ρ a u:=by
 rcases Nat.le_total k n with hkn|hkn
 ·rw[show n=k+(n - k) by lia]at h;obtain⟨u,hu,e⟩:=gY (ρ:=ρ) h;exact⟨u,⟨hu.1,by lia,hu.2.2⟩,e⟩
 ·rw[Array.toList_extract,List.extract_eq_drop_take,show n - k=0 by lia]at h;exact nomatch h
theorem fC {a:Array Keyed}{n:Nat}{y:Keyed}{z:Int} (up:Up ρ a 0 a.size) (h0:0<n) (hn:n<=a.size) (hy:y∈(a.toList.take n).reverse) (hz:ρ (a.getD (n - 1) (.none,.none))<z):ρ y<z:=by
 obtain⟨u,h1,h2,e⟩:=b6 (ρ:=ρ) hy;rw[e];have hz:rnk ρ a (n - 1)<z:=hz;rcases Nat.lt_or_ge u (n - 1) with h|h
 ·have:=up u (n - 1) (Nat.zero_le _) h (by lia)
  lia
 ·have:u=n - 1:=by lia
  rw[this];exact hz
theorem xM {l:List Keyed}(h:bO (fun x=> - ρ x) l):bO ρ l.reverse:=by
 rw[bO,List.pairwise_reverse];exact List.Pairwise.imp (fun {x y} (hxy: - ρ x< - ρ y)=>by lia) h
theorem PH (C:iT prog w A E s κ D ρ)(hk:kindOf st=κ){a b:Array Keyed}{Q:Array Keyed->SortSt->Prop} (dA:∀x∈a.toList,D x) (dB:∀x∈b.toList,D x) (upA:Up ρ a 0 a.size) (upB:Up ρ b 0 b.size) (a0:0<a.size) (b0:0<b.size) (ne:∀x∈a.toList,∀y∈b.toList,ρ x≠ρ y)
  (fst:rnk ρ b 0<rnk ρ a 0)(lst:rnk ρ b (b.size - 1)<rnk ρ a (a.size - 1))(hQ:∀m st',SameSt st st'->bO ρ m.toList->m.toList.Perm (a.toList++b.toList)->Q m st') :
  wpS (model prog w) A E s (v9 a b) Q st:=by
 have doneR:∀{o:Array Keyed}{n m:Nat},Mi (fun x=> - ρ x) (a.toList++b.toList) o.toList (a.toList.take (n)).reverse (b.toList.take (m)).reverse->n=0∨m=0->bO ρ (a.extract 0 n++b.extract 0 m++o.reverse).toList/\(a.extract 0 n++b.extract 0 m++o.reverse).toList.Perm (a.toList++b.toList):=fun {o n m} hm hz=>by
  have e:(a.extract 0 n++b.extract 0 m++o.reverse).toList=(o.toList++(b.toList.take (m)).reverse++(a.toList.take (n)).reverse).reverse:=by
   simp only[Array.toList_append,Array.toList_extract,List.extract_eq_drop_take,List.drop_zero,Nat.sub_zero,Array.toList_reverse,List.reverse_append,List.reverse_reverse,List.append_assoc]
  have h:=hm.swap.end fun x hx y hy=>by
   rcases hz with rfl|rfl
   ·exact nomatch hy
   ·exact nomatch hx
  rw[e];exact⟨xM h.1,(List.reverse_perm _).trans h.2⟩
 have firstR:∀{o:Array Keyed}{n m:Nat},Mi (fun x=> - ρ x) (a.toList++b.toList) o.toList (a.toList.take (n)).reverse (b.toList.take (m)).reverse->m=1->bO ρ (b.extract 0 m++a.extract 0 n++o.reverse).toList/\(b.extract 0 m++a.extract 0 n++o.reverse).toList.Perm (a.toList++b.toList):=fun {o n m} hm hz=>by
  have e:(b.extract 0 m++a.extract 0 n++o.reverse).toList=(o.toList++(a.toList.take (n)).reverse++(b.toList.take (m)).reverse).reverse:=by
   simp only[Array.toList_append,Array.toList_extract,List.extract_eq_drop_take,List.drop_zero,Nat.sub_zero,Array.toList_reverse,List.reverse_append,List.reverse_reverse,List.append_assoc]
  have h:=hm.end fun x hx y hy=>by
   obtain⟨u,h1,h2,e1⟩:=b6 (ρ:=ρ) hx;obtain⟨v,g1,g2,e2⟩:=b6 (ρ:=ρ) hy;have hv:v=0:=by lia
   subst hv;show - ρ x< - ρ y;rw[e1,e2];rcases Nat.eq_zero_or_pos u with hu|hu
   ·subst hu;lia
   ·have:=upA 0 u (Nat.le_refl _) hu h2
    lia
  rw[e];exact⟨xM h.1,(List.reverse_perm _).trans h.2⟩
 unfold v9;refine wpS_bind (wpS_lift (wpAny_rule ⟨rfl,?_⟩))
 try dsimp only
 refine wpS_bind (aL (i:=a.size - 1) (by lia) ?_)
 try dsimp only
 have m0:Mi (fun x=> - ρ x) (a.toList++b.toList) (#[a.getD (a.size - 1) (.none,.none)]:Array Keyed).toList (a.toList.take (a.size - 1)).reverse (b.toList.take (b.size)).reverse:=by
  have ha:(a.toList.take a.size).reverse=a.getD (a.size - 1) (.none,.none)::(a.toList.take (a.size - 1)).reverse:=b8 a0 (Nat.le_refl _);refine⟨List.pairwise_singleton _ _,fun x hx y hy=> ?_,fun x hx y hy=> ?_,?_,?_,?_⟩
  ·cases List.mem_singleton.mp hx;obtain⟨u,h1,h2,e⟩:=b6 (ρ:=ρ) hy;have:=upA u (a.size - 1) (Nat.zero_le _) (by lia) (by lia);show - rnk ρ a (a.size - 1)< - ρ y;rw[e];lia
  ·cases List.mem_singleton.mp hx;have:=fC (z:=rnk ρ a (a.size - 1)) upB b0 (Nat.le_refl _) hy lst;show - rnk ρ a (a.size - 1)< - ρ y
   lia
  ·rw[bO,List.pairwise_reverse];exact List.Pairwise.imp (fun {x y} (hxy:ρ x<ρ y)=>by show - ρ y< - ρ x;lia) ((oR upA).take)
  ·rw[bO,List.pairwise_reverse];exact List.Pairwise.imp (fun {x y} (hxy:ρ x<ρ y)=>by show - ρ y< - ρ x;lia) ((oR upB).take)
  ·show (([a.getD (a.size - 1) (.none,.none)]++(a.toList.take (a.size - 1)).reverse)++(b.toList.take b.size).reverse).Perm _;have e1:[a.getD (a.size - 1) (.none,.none)]++(a.toList.take (a.size - 1)).reverse=(a.toList.take a.size).reverse:=ha.symm;have t1:a.toList.take a.size=a.toList:=List.take_of_length_le (by rw[Array.length_toList];exact Nat.le_refl _);have t2:b.toList.take b.size=b.toList:=List.take_of_length_le (by rw[Array.length_toList];exact Nat.le_refl _);rw[e1,t1,t2];exact List.Perm.append (List.reverse_perm _) (List.reverse_perm _)
 by_cases h1:a.size - 1=0
 ·rw[if_pos (by simpa using h1)];exact wpS_pure (let r:=doneR m0 (.inl h1);hQ _ _ (SameSt.refl _) r.1 r.2)
 rw[if_neg (by simpa using h1)]
 by_cases h2:b.size=1
 ·rw[if_pos (by simpa using h2)];exact wpS_pure (let r:=firstR m0 h2;hQ _ _ (SameSt.refl _) r.1 r.2)
 rw[if_neg (by simpa using h2)];refine wpS_bind (wpS_get ?_)
 try dsimp only
 have leq:∀{o:Array Keyed}{n m:Nat},Mi (fun x=> - ρ x) (a.toList++b.toList) o.toList (a.toList.take (n)).reverse (b.toList.take (m)).reverse->0<n->n<=a.size->0<m->m<=b.size->o.size+2<=a.size+b.size:=fun hm h1 h2 h3 h4=>by
  have:=hm.len;rw[Array.length_toList,List.length_reverse,List.length_reverse,List.length_take,List.length_take,List.length_append,Array.length_toList,Array.length_toList]at this
  lia
 refine wpS_bind (wpS_mono (wpS_forRange (I:=fun x c st'=>SameSt st st'/\∃(n m:Nat) (o:Array Keyed) (g:Nat),c=(none,n,m,o,g)/\x+1<=o.size/\0<n/\n<=a.size/\1<m/\m<=b.size/\Mi (fun x=> - ρ x) (a.toList++b.toList) o.toList (a.toList.take (n)).reverse (b.toList.take (m)).reverse)
  (Q:=fun c st'=>SameSt st st'/\∃(r:Array Keyed) (rest:Nat×Nat×Array Keyed×Nat),c=(some r,rest)/\bO ρ r.toList/\r.toList.Perm (a.toList++b.toList)) ?_ ?_ ⟨SameSt.refl _,_,_,_,_,rfl,Nat.le_refl _,by lia,by lia,by lia,by lia,m0⟩) ?_)
 ·rintro x c st' _ hx ⟨hs,n,m,o,g,rfl,hx1,hna,hnA,hnb1,hnb,hm⟩
  try dsimp only
  have hk':kindOf st'=κ:=hs.1.trans hk;refine wpS_bind (wpS_mono (wpS_forRange (I:=fun y c st''=>st''=st'/\∃(na nb:Nat) (oo:Array Keyed) (ac bc:Nat),c=(none,na,nb,oo,ac,bc)/\o.size+y<=oo.size/\0<na/\na<=a.size/\1<nb/\nb<=b.size/\Mi (fun x=> - ρ x) (a.toList++b.toList) oo.toList (a.toList.take (na)).reverse (b.toList.take (nb)).reverse)
   (Q:=fun c st''=>st''=st'/\((∃(r:Array Keyed) (rest:Nat×Nat×Array Keyed×Nat×Nat),c=(some r,rest)/\bO ρ r.toList/\r.toList.Perm (a.toList++b.toList))∨∃(na nb:Nat) (oo:Array Keyed) (ac bc:Nat),c=(none,na,nb,oo,ac,bc)/\o.size+1<=oo.size/\0<na/\na<=a.size/\1<nb/\nb<=b.size/\Mi (fun x=> - ρ x) (a.toList++b.toList) oo.toList (a.toList.take (na)).reverse (b.toList.take (nb)).reverse)) ?_ ?_ ⟨rfl,n,m,o,0,0,rfl,Nat.le_refl _,hna,hnA,hnb1,hnb,hm⟩) ?_)
  ·rintro y c _ _ hy ⟨rfl,na,nb,oo,ac,bc,rfl,hy1,hna,hnA,hnb1,hnb,hM⟩
   try dsimp only
   refine wpS_bind (aL (i:=nb - 1) (by lia) (wpS_bind (aL (i:=na - 1) (by lia) (wpS_bind (C.lt (dB _ (aK (by lia))) (dA _ (aK (by lia))) hk' ?_)))))
   try dsimp only
   by_cases hc:ρ (b.getD (nb - 1) (.none,.none))<ρ (a.getD (na - 1) (.none,.none))
   ·rw[decide_eq_true hc,if_pos rfl];refine wpS_bind (aL (i:=na - 1) (by lia) ?_)
    try dsimp only
    have mA:=(show Mi (fun x=> - ρ x) (a.toList++b.toList) oo.toList ([a.getD (na - 1) (.none,.none)]++(a.toList.take (na - 1)).reverse) (b.toList.take (nb)).reverse by rw[b8 hna hnA]at hM;exact hM).goA (fun x hx y hy=>by cases List.mem_singleton.mp hx;have:=fC upB (by lia) hnb hy hc;show - _< - _;lia);rw[←Array.toList_push]at mA
    by_cases he:na - 1=0
    ·rw[if_pos (by simpa using he)];exact wpS_pure ⟨rfl,.inl ⟨_,_,rfl,doneR mA (.inl he)⟩⟩
    ·rw[if_neg (by simpa using he)]
     by_cases hg:ac+1≥g
     ·rw[if_pos hg];exact wpS_pure ⟨rfl,.inr ⟨_,_,_,_,_,rfl,by rw[Array.size_push];lia,by lia,by lia,hnb1,hnb,mA⟩⟩
     ·rw[if_neg hg];exact wpS_pure ⟨rfl,_,_,_,_,_,rfl,by rw[Array.size_push];lia,by lia,by lia,hnb1,hnb,mA⟩
   ·rw[decide_eq_false hc,if_neg Bool.false_ne_true];refine wpS_bind (aL (i:=nb - 1) (by lia) ?_)
    try dsimp only
    have hlt:ρ (a.getD (na - 1) (.none,.none))<ρ (b.getD (nb - 1) (.none,.none)):=by
     have:=ne _ (aK (a:=a) (i:=na - 1) (by lia)) _ (aK (a:=b) (i:=nb - 1) (by lia))
     lia
    have mB:=(show Mi (fun x=> - ρ x) (a.toList++b.toList) oo.toList (a.toList.take (na)).reverse ([b.getD (nb - 1) (.none,.none)]++(b.toList.take (nb - 1)).reverse) by rw[b8 (a:=b) (by lia) hnb]at hM;exact hM).goB (fun x hx y hy=>by cases List.mem_singleton.mp hx;have:=fC upA hna hnA hy hlt;show - _< - _;lia);rw[←Array.toList_push]at mB
    by_cases he:nb - 1=1
    ·rw[if_pos (by simpa using he)];exact wpS_pure ⟨rfl,.inl ⟨_,_,rfl,firstR mB he⟩⟩
    ·rw[if_neg (by simpa using he)]
     by_cases hg:bc+1≥g
     ·rw[if_pos hg];exact wpS_pure ⟨rfl,.inr ⟨_,_,_,_,_,rfl,by rw[Array.size_push];lia,hna,hnA,by lia,by lia,mB⟩⟩
     ·rw[if_neg hg];exact wpS_pure ⟨rfl,_,_,_,_,_,rfl,by rw[Array.size_push];lia,hna,hnA,by lia,by lia,mB⟩
  ·rintro c _ ⟨rfl,na,nb,oo,ac,bc,rfl,hy1,hna,hnA,hnb1,hnb,hM⟩;have:=leq hM hna hnA (by lia) hnb
   lia
  ·rintro c _ ⟨rfl,⟨r,rest,rfl,hr⟩|⟨na,nb,oo,ac,bc,rfl,ho,hna,hnA,hnb1,hnb,hM⟩⟩
   ·try dsimp only
    exact wpS_pure ⟨hs,_,_,rfl,hr⟩
   try dsimp only
   refine wpS_bind (wpS_lift (wpAny_rule ⟨rfl,?_⟩));refine wpS_bind (wpS_mono (wpS_forRange (I:=fun y c st''=>SameSt st st''/\∃(na nb:Nat) (oo:Array Keyed) (gg ac bc:Nat),c=(none,na,nb,oo,gg,ac,bc)/\x+2<=oo.size/\y<=oo.size/\0<na/\na<=a.size/\1<nb/\nb<=b.size/\Mi (fun x=> - ρ x) (a.toList++b.toList) oo.toList (a.toList.take (na)).reverse (b.toList.take (nb)).reverse)
    (Q:=fun c st''=>SameSt st st''/\((∃(r:Array Keyed) (rest:Nat×Nat×Array Keyed×Nat×Nat×Nat),c=(some r,rest)/\bO ρ r.toList/\r.toList.Perm (a.toList++b.toList))∨∃(na nb:Nat) (oo:Array Keyed) (gg ac bc:Nat),c=(none,na,nb,oo,gg,ac,bc)/\x+2<=oo.size/\0<na/\na<=a.size/\1<nb/\nb<=b.size/\Mi (fun x=> - ρ x) (a.toList++b.toList) oo.toList (a.toList.take (na)).reverse (b.toList.take (nb)).reverse)) ?_ ?_ ⟨hs,na,nb,oo,_,_,_,rfl,by lia,by lia,hna,hnA,hnb1,hnb,hM⟩) ?_)
   ·clear hM hna hnA hnb1 hnb ho oo na nb ac bc;rintro y c st'' _ hy ⟨hs1,na,nb,oo,gg,ac,bc,rfl,hx2,hy2,hna,hnA,hnb1,hnb,hM⟩
    try dsimp only
    by_cases hgg:gg>1
    ·rw[if_pos hgg]
     try dsimp only
     refine wpS_bind (wpS_modify ?_);have hs2:SameSt st (aO st'' (gg - 1)):=hs1;refine wpS_bind (aL (i:=nb - 1) (by lia) ?_);refine wpS_bind (b4 (st:=aO st'' (gg - 1)) (base:=0) (n:=na) (hint:=na - 1) C (show kindOf (aO st'' (gg - 1))=κ from hs1.1.trans hk) (dB _ (aK (by lia))) dA (by lia) (by lia) (eJ upA (by lia)) fun k1 hk1 r1 r2=> ?_)
     try dsimp only
     have p1:∀x∈(a.extract k1 na).toList.reverse,∀y∈(b.toList.take (nb)).reverse,ρ y<ρ x:=fun x hx y hy=>by
      obtain⟨u,hu,e⟩:=gN (ρ:=ρ) (List.mem_reverse.mp hx);have:=r2 u (by lia) (by lia);rw[Nat.zero_add]at this;refine fC upB (by lia) hnb hy ?_;rw[e];unfold bey at this;rw[if_neg Bool.false_ne_true]at this
      simpa using this
     have p2':∀y∈(a.toList.take (k1)).reverse,ρ y<ρ (b.getD (nb - 1) (.none,.none)):=fun y hy=>by
      obtain⟨u,hu1,hu2,e⟩:=b6 (ρ:=ρ) hy;have:=r1 u hu1;rw[Nat.zero_add]at this;have h1:¬ρ (b.getD (nb - 1) (.none,.none))<rnk ρ a u:=of_decide_eq_false (by unfold bey at this;rw[if_neg Bool.false_ne_true]at this;simpa using this);have h2:=ne _ (aK (a:=a) (i:=u) hu2) _ (aK (a:=b) (i:=nb - 1) (by lia));rw[e];have h2:rnk ρ a u≠ρ (b.getD (nb - 1) (.none,.none)):=h2
      lia
     by_cases hk1':na - k1>0
     ·rw[if_pos hk1'];have mA:Mi (fun x=> - ρ x) (a.toList++b.toList) (oo++(a.extract k1 na).reverse).toList (a.toList.take (k1)).reverse (b.toList.take (nb)).reverse:=by
       rw[Array.toList_append (xs:=oo),Array.toList_reverse];exact(show Mi (fun x=> - ρ x) (a.toList++b.toList) oo.toList ((a.extract k1 na).toList.reverse++(a.toList.take (k1)).reverse) (b.toList.take (nb)).reverse by rw[←gO (by lia) (by lia)];exact hM).goA (fun x hx y hy=>by have:=p1 x hx y hy;show - _< - _;lia)
      by_cases hl:k1=0
      ·rw[if_pos (by simpa using hl)];exact wpS_pure ⟨hs2,.inl ⟨_,_,rfl,doneR mA (.inl hl)⟩⟩
      rw[if_neg (by simpa using hl)];have hM:=mA;have p2:=p2';have hna:0<k1:=by lia
      have hnA:k1<=a.size:=by lia
      refine wpS_bind (aL (i:=nb - 1) (by lia) ?_)
      try dsimp only
      have mB:=(show Mi (fun x=> - ρ x) (a.toList++b.toList) (oo++(a.extract k1 na).reverse).toList (a.toList.take (k1)).reverse ([b.getD (nb - 1) (.none,.none)]++(b.toList.take (nb - 1)).reverse) by rw[b8 (by lia) hnb]at hM;exact hM).goB (fun x hx y hy=>by cases List.mem_singleton.mp hx;have:=p2 y hy;show - _< - _;lia);rw[←Array.toList_push]at mB
      by_cases he:nb - 1=1
      ·rw[if_pos (by simpa using he)];exact wpS_pure ⟨hs2,.inl ⟨_,_,rfl,firstR mB he⟩⟩
      ·rw[if_neg (by simpa using he)];have hnb2:1<nb - 1:=by lia
       refine wpS_bind (aL (i:=k1 - 1) (by lia) ?_);refine wpS_bind (b4 (st:=aO st'' (gg - 1)) (base:=0) (n:=nb - 1) (hint:=nb - 1 - 1) C (show kindOf (aO st'' (gg - 1))=κ from hs1.1.trans hk) (dA _ (aK (by lia))) dB (by lia) (by lia) (eJ upB (by lia)) fun k2 hk2 r1 r2=> ?_)
       try dsimp only
       have q1:∀x∈(b.extract k2 (nb - 1)).toList.reverse,∀y∈(a.toList.take (k1)).reverse,ρ y<ρ x:=fun x hx y hy=>by
        obtain⟨u,hu,e⟩:=gN (ρ:=ρ) (List.mem_reverse.mp hx);have:=r2 u (by lia) (by lia);rw[Nat.zero_add]at this;have h1:¬rnk ρ b u<ρ (a.getD (k1 - 1) (.none,.none)):=of_decide_eq_false (by unfold bey at this;rw[if_pos rfl]at this;exact this);have h2:=ne _ (aK (a:=a) (i:=k1 - 1) (by lia)) _ (aK (a:=b) (i:=u) hu.2.2);refine fC upA hna hnA hy ?_;rw[e];have h2:ρ (a.getD (k1 - 1) (.none,.none))≠rnk ρ b u:=h2
        lia
       have q2:∀y∈(b.toList.take (k2)).reverse,ρ y<ρ (a.getD (k1 - 1) (.none,.none)):=fun y hy=>by
        obtain⟨u,hu1,hu2,e⟩:=b6 (ρ:=ρ) hy;have:=r1 u hu1;rw[Nat.zero_add]at this;rw[e];unfold bey at this;rw[if_pos rfl]at this;exact of_decide_eq_true this
       by_cases hk0:nb - 1 - k2>0
       ·rw[if_pos hk0];have mC:Mi (fun x=> - ρ x) (a.toList++b.toList) ((oo++(a.extract k1 na).reverse).push (b.getD (nb - 1) (.none,.none))++(b.extract k2 (nb - 1)).reverse).toList (a.toList.take (k1)).reverse (b.toList.take (k2)).reverse:=by
         rw[Array.toList_append (xs:=(oo++(a.extract k1 na).reverse).push (b.getD (nb - 1) (.none,.none))),Array.toList_reverse];exact(show Mi (fun x=> - ρ x) (a.toList++b.toList) ((oo++(a.extract k1 na).reverse).push (b.getD (nb - 1) (.none,.none))).toList (a.toList.take (k1)).reverse ((b.extract k2 (nb - 1)).toList.reverse++(b.toList.take (k2)).reverse) by rw[←gO (by lia) (by lia)];exact mB).goB (fun x hx y hy=>by have:=q1 x hx y hy;show - _< - _;lia)
        by_cases hz:k2=1
        ·rw[if_pos (by simpa using hz)];exact wpS_pure ⟨hs2,.inl ⟨_,_,rfl,firstR mC hz⟩⟩
        rw[if_neg (by simpa using hz)]
        by_cases hz0:k2=0
        ·rw[if_pos (by simpa using hz0)];exact wpS_pure ⟨hs2,.inl ⟨_,_,rfl,doneR mC (.inr hz0)⟩⟩
        rw[if_neg (by simpa using hz0)];have hn3:1<k2:=by lia
        have hn3':k2<=b.size:=by lia
        refine wpS_bind (aL (i:=k1 - 1) (by lia) ?_)
        try dsimp only
        have mD:=(show Mi (fun x=> - ρ x) (a.toList++b.toList) (((oo++(a.extract k1 na).reverse).push (b.getD (nb - 1) (.none,.none))++(b.extract k2 (nb - 1)).reverse)).toList ([a.getD (k1 - 1) (.none,.none)]++(a.toList.take (k1 - 1)).reverse) (b.toList.take (k2)).reverse by rw[b8 hna hnA]at mC;exact mC).goA (fun x hx y hy=>by cases List.mem_singleton.mp hx;have:=q2 y hy;show - _< - _;lia);rw[←Array.toList_push]at mD
        by_cases hl:k1 - 1=0
        ·rw[if_pos (by simpa using hl)];exact wpS_pure ⟨hs2,.inl ⟨_,_,rfl,doneR mD (.inl hl)⟩⟩
        ·rw[if_neg (by simpa using hl)];have sz:oo.size+1<=((((oo++(a.extract k1 na).reverse).push (b.getD (nb - 1) (.none,.none))++(b.extract k2 (nb - 1)).reverse)).push (a.getD (k1 - 1) (.none,.none))).size:=by simp only[Array.size_push,Array.size_append];lia
         have ip:0<k1 - 1/\k1 - 1<=a.size/\1<k2/\k2<=b.size/\Mi (fun x=> - ρ x) (a.toList++b.toList) ((((oo++(a.extract k1 na).reverse).push (b.getD (nb - 1) (.none,.none))++(b.extract k2 (nb - 1)).reverse)).push (a.getD (k1 - 1) (.none,.none))).toList (a.toList.take (k1 - 1)).reverse (b.toList.take (k2)).reverse:=⟨by lia,by lia,hn3,hn3',mD⟩
         by_cases hg:(decide (na - k1<7)&&decide (nb - 1 - (k2)<7))=true
         ·rw[if_pos hg];exact wpS_pure ⟨hs2,.inr ⟨_,_,_,_,_,_,rfl,by lia,ip⟩⟩
         ·rw[if_neg hg];exact wpS_pure ⟨hs2,_,_,_,_,_,_,rfl,by lia,by lia,ip⟩
       ·rw[if_neg hk0];have hk00:k2=nb - 1:=by lia
        subst hk00;have hn3':nb - 1<=b.size:=by lia
        refine wpS_bind (aL (i:=k1 - 1) (by lia) ?_)
        try dsimp only
        have mD:=(show Mi (fun x=> - ρ x) (a.toList++b.toList) (((oo++(a.extract k1 na).reverse).push (b.getD (nb - 1) (.none,.none)))).toList ([a.getD (k1 - 1) (.none,.none)]++(a.toList.take (k1 - 1)).reverse) (b.toList.take (nb - 1)).reverse by rw[b8 hna hnA]at mB;exact mB).goA (fun x hx y hy=>by cases List.mem_singleton.mp hx;have:=q2 y hy;show - _< - _;lia);rw[←Array.toList_push]at mD
        by_cases hl:k1 - 1=0
        ·rw[if_pos (by simpa using hl)];exact wpS_pure ⟨hs2,.inl ⟨_,_,rfl,doneR mD (.inl hl)⟩⟩
        ·rw[if_neg (by simpa using hl)];have sz:oo.size+1<=((((oo++(a.extract k1 na).reverse).push (b.getD (nb - 1) (.none,.none)))).push (a.getD (k1 - 1) (.none,.none))).size:=by simp only[Array.size_push,Array.size_append];lia
         have ip:0<k1 - 1/\k1 - 1<=a.size/\1<nb - 1/\nb - 1<=b.size/\Mi (fun x=> - ρ x) (a.toList++b.toList) ((((oo++(a.extract k1 na).reverse).push (b.getD (nb - 1) (.none,.none)))).push (a.getD (k1 - 1) (.none,.none))).toList (a.toList.take (k1 - 1)).reverse (b.toList.take (nb - 1)).reverse:=⟨by lia,by lia,hnb2,hn3',mD⟩
         by_cases hg:(decide (na - k1<7)&&decide (nb - 1 - (nb - 1)<7))=true
         ·rw[if_pos hg];exact wpS_pure ⟨hs2,.inr ⟨_,_,_,_,_,_,rfl,by lia,ip⟩⟩
         ·rw[if_neg hg];exact wpS_pure ⟨hs2,_,_,_,_,_,_,rfl,by lia,by lia,ip⟩
     ·rw[if_neg hk1'];have hk10:k1=na:=by lia
      subst hk10;have p2:=p2';refine wpS_bind (aL (i:=nb - 1) (by lia) ?_)
      try dsimp only
      have mB:=(show Mi (fun x=> - ρ x) (a.toList++b.toList) (oo).toList (a.toList.take (k1)).reverse ([b.getD (nb - 1) (.none,.none)]++(b.toList.take (nb - 1)).reverse) by rw[b8 (by lia) hnb]at hM;exact hM).goB (fun x hx y hy=>by cases List.mem_singleton.mp hx;have:=p2 y hy;show - _< - _;lia);rw[←Array.toList_push]at mB
      by_cases he:nb - 1=1
      ·rw[if_pos (by simpa using he)];exact wpS_pure ⟨hs2,.inl ⟨_,_,rfl,firstR mB he⟩⟩
      ·rw[if_neg (by simpa using he)];have hnb2:1<nb - 1:=by lia
       refine wpS_bind (aL (i:=k1 - 1) (by lia) ?_);refine wpS_bind (b4 (st:=aO st'' (gg - 1)) (base:=0) (n:=nb - 1) (hint:=nb - 1 - 1) C (show kindOf (aO st'' (gg - 1))=κ from hs1.1.trans hk) (dA _ (aK (by lia))) dB (by lia) (by lia) (eJ upB (by lia)) fun k2 hk2 r1 r2=> ?_)
       try dsimp only
       have q1:∀x∈(b.extract k2 (nb - 1)).toList.reverse,∀y∈(a.toList.take (k1)).reverse,ρ y<ρ x:=fun x hx y hy=>by
        obtain⟨u,hu,e⟩:=gN (ρ:=ρ) (List.mem_reverse.mp hx);have:=r2 u (by lia) (by lia);rw[Nat.zero_add]at this;have h1:¬rnk ρ b u<ρ (a.getD (k1 - 1) (.none,.none)):=of_decide_eq_false (by unfold bey at this;rw[if_pos rfl]at this;exact this);have h2:=ne _ (aK (a:=a) (i:=k1 - 1) (by lia)) _ (aK (a:=b) (i:=u) hu.2.2);refine fC upA hna hnA hy ?_;rw[e];have h2:ρ (a.getD (k1 - 1) (.none,.none))≠rnk ρ b u:=h2
        lia
       have q2:∀y∈(b.toList.take (k2)).reverse,ρ y<ρ (a.getD (k1 - 1) (.none,.none)):=fun y hy=>by
        obtain⟨u,hu1,hu2,e⟩:=b6 (ρ:=ρ) hy;have:=r1 u hu1;rw[Nat.zero_add]at this;rw[e];unfold bey at this;rw[if_pos rfl]at this;exact of_decide_eq_true this
       by_cases hk0:nb - 1 - k2>0
       ·rw[if_pos hk0];have mC:Mi (fun x=> - ρ x) (a.toList++b.toList) ((oo).push (b.getD (nb - 1) (.none,.none))++(b.extract k2 (nb - 1)).reverse).toList (a.toList.take (k1)).reverse (b.toList.take (k2)).reverse:=by
         rw[Array.toList_append (xs:=(oo).push (b.getD (nb - 1) (.none,.none))),Array.toList_reverse];exact(show Mi (fun x=> - ρ x) (a.toList++b.toList) ((oo).push (b.getD (nb - 1) (.none,.none))).toList (a.toList.take (k1)).reverse ((b.extract k2 (nb - 1)).toList.reverse++(b.toList.take (k2)).reverse) by rw[←gO (by lia) (by lia)];exact mB).goB (fun x hx y hy=>by have:=q1 x hx y hy;show - _< - _;lia)
        by_cases hz:k2=1
        ·rw[if_pos (by simpa using hz)];exact wpS_pure ⟨hs2,.inl ⟨_,_,rfl,firstR mC hz⟩⟩
        rw[if_neg (by simpa using hz)]
        by_cases hz0:k2=0
        ·rw[if_pos (by simpa using hz0)];exact wpS_pure ⟨hs2,.inl ⟨_,_,rfl,doneR mC (.inr hz0)⟩⟩
        rw[if_neg (by simpa using hz0)];have hn3:1<k2:=by lia
        have hn3':k2<=b.size:=by lia
        refine wpS_bind (aL (i:=k1 - 1) (by lia) ?_)
        try dsimp only
        have mD:=(show Mi (fun x=> - ρ x) (a.toList++b.toList) (((oo).push (b.getD (nb - 1) (.none,.none))++(b.extract k2 (nb - 1)).reverse)).toList ([a.getD (k1 - 1) (.none,.none)]++(a.toList.take (k1 - 1)).reverse) (b.toList.take (k2)).reverse by rw[b8 hna hnA]at mC;exact mC).goA (fun x hx y hy=>by cases List.mem_singleton.mp hx;have:=q2 y hy;show - _< - _;lia);rw[←Array.toList_push]at mD
        by_cases hl:k1 - 1=0
        ·rw[if_pos (by simpa using hl)];exact wpS_pure ⟨hs2,.inl ⟨_,_,rfl,doneR mD (.inl hl)⟩⟩
        ·rw[if_neg (by simpa using hl)];have sz:oo.size+1<=((((oo).push (b.getD (nb - 1) (.none,.none))++(b.extract k2 (nb - 1)).reverse)).push (a.getD (k1 - 1) (.none,.none))).size:=by simp only[Array.size_push,Array.size_append];lia
         have ip:0<k1 - 1/\k1 - 1<=a.size/\1<k2/\k2<=b.size/\Mi (fun x=> - ρ x) (a.toList++b.toList) ((((oo).push (b.getD (nb - 1) (.none,.none))++(b.extract k2 (nb - 1)).reverse)).push (a.getD (k1 - 1) (.none,.none))).toList (a.toList.take (k1 - 1)).reverse (b.toList.take (k2)).reverse:=⟨by lia,by lia,hn3,hn3',mD⟩
         by_cases hg:(decide (k1 - k1<7)&&decide (nb - 1 - (k2)<7))=true
         ·rw[if_pos hg];exact wpS_pure ⟨hs2,.inr ⟨_,_,_,_,_,_,rfl,by lia,ip⟩⟩
         ·rw[if_neg hg];exact wpS_pure ⟨hs2,_,_,_,_,_,_,rfl,by lia,by lia,ip⟩
       ·rw[if_neg hk0];have hk00:k2=nb - 1:=by lia
        subst hk00;have hn3':nb - 1<=b.size:=by lia
        refine wpS_bind (aL (i:=k1 - 1) (by lia) ?_)
        try dsimp only
        have mD:=(show Mi (fun x=> - ρ x) (a.toList++b.toList) (((oo).push (b.getD (nb - 1) (.none,.none)))).toList ([a.getD (k1 - 1) (.none,.none)]++(a.toList.take (k1 - 1)).reverse) (b.toList.take (nb - 1)).reverse by rw[b8 hna hnA]at mB;exact mB).goA (fun x hx y hy=>by cases List.mem_singleton.mp hx;have:=q2 y hy;show - _< - _;lia);rw[←Array.toList_push]at mD
        by_cases hl:k1 - 1=0
        ·rw[if_pos (by simpa using hl)];exact wpS_pure ⟨hs2,.inl ⟨_,_,rfl,doneR mD (.inl hl)⟩⟩
        ·rw[if_neg (by simpa using hl)];have sz:oo.size+1<=((((oo).push (b.getD (nb - 1) (.none,.none)))).push (a.getD (k1 - 1) (.none,.none))).size:=by simp only[Array.size_push,Array.size_append];lia
         have ip:0<k1 - 1/\k1 - 1<=a.size/\1<nb - 1/\nb - 1<=b.size/\Mi (fun x=> - ρ x) (a.toList++b.toList) ((((oo).push (b.getD (nb - 1) (.none,.none)))).push (a.getD (k1 - 1) (.none,.none))).toList (a.toList.take (k1 - 1)).reverse (b.toList.take (nb - 1)).reverse:=⟨by lia,by lia,hnb2,hn3',mD⟩
         by_cases hg:(decide (k1 - k1<7)&&decide (nb - 1 - (nb - 1)<7))=true
         ·rw[if_pos hg];exact wpS_pure ⟨hs2,.inr ⟨_,_,_,_,_,_,rfl,by lia,ip⟩⟩
         ·rw[if_neg hg];exact wpS_pure ⟨hs2,_,_,_,_,_,_,rfl,by lia,by lia,ip⟩
    ·rw[if_neg hgg]
     try dsimp only
     refine wpS_bind (wpS_modify ?_);have hs2:SameSt st (aO st'' (gg)):=hs1;refine wpS_bind (aL (i:=nb - 1) (by lia) ?_);refine wpS_bind (b4 (st:=aO st'' (gg)) (base:=0) (n:=na) (hint:=na - 1) C (show kindOf (aO st'' (gg))=κ from hs1.1.trans hk) (dB _ (aK (by lia))) dA (by lia) (by lia) (eJ upA (by lia)) fun k1 hk1 r1 r2=> ?_)
     try dsimp only
     have p1:∀x∈(a.extract k1 na).toList.reverse,∀y∈(b.toList.take (nb)).reverse,ρ y<ρ x:=fun x hx y hy=>by
      obtain⟨u,hu,e⟩:=gN (ρ:=ρ) (List.mem_reverse.mp hx);have:=r2 u (by lia) (by lia);rw[Nat.zero_add]at this;refine fC upB (by lia) hnb hy ?_;rw[e];unfold bey at this;rw[if_neg Bool.false_ne_true]at this
      simpa using this
     have p2':∀y∈(a.toList.take (k1)).reverse,ρ y<ρ (b.getD (nb - 1) (.none,.none)):=fun y hy=>by
      obtain⟨u,hu1,hu2,e⟩:=b6 (ρ:=ρ) hy;have:=r1 u hu1;rw[Nat.zero_add]at this;have h1:¬ρ (b.getD (nb - 1) (.none,.none))<rnk ρ a u:=of_decide_eq_false (by unfold bey at this;rw[if_neg Bool.false_ne_true]at this;simpa using this);have h2:=ne _ (aK (a:=a) (i:=u) hu2) _ (aK (a:=b) (i:=nb - 1) (by lia));rw[e];have h2:rnk ρ a u≠ρ (b.getD (nb - 1) (.none,.none)):=h2
      lia
     by_cases hk1':na - k1>0
     ·rw[if_pos hk1'];have mA:Mi (fun x=> - ρ x) (a.toList++b.toList) (oo++(a.extract k1 na).reverse).toList (a.toList.take (k1)).reverse (b.toList.take (nb)).reverse:=by
       rw[Array.toList_append (xs:=oo),Array.toList_reverse];exact(show Mi (fun x=> - ρ x) (a.toList++b.toList) oo.toList ((a.extract k1 na).toList.reverse++(a.toList.take (k1)).reverse) (b.toList.take (nb)).reverse by rw[←gO (by lia) (by lia)];exact hM).goA (fun x hx y hy=>by have:=p1 x hx y hy;show - _< - _;lia)
      by_cases hl:k1=0
      ·rw[if_pos (by simpa using hl)];exact wpS_pure ⟨hs2,.inl ⟨_,_,rfl,doneR mA (.inl hl)⟩⟩
      rw[if_neg (by simpa using hl)];have hM:=mA;have p2:=p2';have hna:0<k1:=by lia
      have hnA:k1<=a.size:=by lia
      refine wpS_bind (aL (i:=nb - 1) (by lia) ?_)
      try dsimp only
      have mB:=(show Mi (fun x=> - ρ x) (a.toList++b.toList) (oo++(a.extract k1 na).reverse).toList (a.toList.take (k1)).reverse ([b.getD (nb - 1) (.none,.none)]++(b.toList.take (nb - 1)).reverse) by rw[b8 (by lia) hnb]at hM;exact hM).goB (fun x hx y hy=>by cases List.mem_singleton.mp hx;have:=p2 y hy;show - _< - _;lia);rw[←Array.toList_push]at mB
      by_cases he:nb - 1=1
      ·rw[if_pos (by simpa using he)];exact wpS_pure ⟨hs2,.inl ⟨_,_,rfl,firstR mB he⟩⟩
      ·rw[if_neg (by simpa using he)];have hnb2:1<nb - 1:=by lia
       refine wpS_bind (aL (i:=k1 - 1) (by lia) ?_);refine wpS_bind (b4 (st:=aO st'' (gg)) (base:=0) (n:=nb - 1) (hint:=nb - 1 - 1) C (show kindOf (aO st'' (gg))=κ from hs1.1.trans hk) (dA _ (aK (by lia))) dB (by lia) (by lia) (eJ upB (by lia)) fun k2 hk2 r1 r2=> ?_)
       try dsimp only
       have q1:∀x∈(b.extract k2 (nb - 1)).toList.reverse,∀y∈(a.toList.take (k1)).reverse,ρ y<ρ x:=fun x hx y hy=>by
        obtain⟨u,hu,e⟩:=gN (ρ:=ρ) (List.mem_reverse.mp hx);have:=r2 u (by lia) (by lia);rw[Nat.zero_add]at this;have h1:¬rnk ρ b u<ρ (a.getD (k1 - 1) (.none,.none)):=of_decide_eq_false (by unfold bey at this;rw[if_pos rfl]at this;exact this);have h2:=ne _ (aK (a:=a) (i:=k1 - 1) (by lia)) _ (aK (a:=b) (i:=u) hu.2.2);refine fC upA hna hnA hy ?_;rw[e];have h2:ρ (a.getD (k1 - 1) (.none,.none))≠rnk ρ b u:=h2
        lia
       have q2:∀y∈(b.toList.take (k2)).reverse,ρ y<ρ (a.getD (k1 - 1) (.none,.none)):=fun y hy=>by
        obtain⟨u,hu1,hu2,e⟩:=b6 (ρ:=ρ) hy;have:=r1 u hu1;rw[Nat.zero_add]at this;rw[e];unfold bey at this;rw[if_pos rfl]at this;exact of_decide_eq_true this
       by_cases hk0:nb - 1 - k2>0
       ·rw[if_pos hk0];have mC:Mi (fun x=> - ρ x) (a.toList++b.toList) ((oo++(a.extract k1 na).reverse).push (b.getD (nb - 1) (.none,.none))++(b.extract k2 (nb - 1)).reverse).toList (a.toList.take (k1)).reverse (b.toList.take (k2)).reverse:=by
         rw[Array.toList_append (xs:=(oo++(a.extract k1 na).reverse).push (b.getD (nb - 1) (.none,.none))),Array.toList_reverse];exact(show Mi (fun x=> - ρ x) (a.toList++b.toList) ((oo++(a.extract k1 na).reverse).push (b.getD (nb - 1) (.none,.none))).toList (a.toList.take (k1)).reverse ((b.extract k2 (nb - 1)).toList.reverse++(b.toList.take (k2)).reverse) by rw[←gO (by lia) (by lia)];exact mB).goB (fun x hx y hy=>by have:=q1 x hx y hy;show - _< - _;lia)
        by_cases hz:k2=1
        ·rw[if_pos (by simpa using hz)];exact wpS_pure ⟨hs2,.inl ⟨_,_,rfl,firstR mC hz⟩⟩
        rw[if_neg (by simpa using hz)]
        by_cases hz0:k2=0
        ·rw[if_pos (by simpa using hz0)];exact wpS_pure ⟨hs2,.inl ⟨_,_,rfl,doneR mC (.inr hz0)⟩⟩
        rw[if_neg (by simpa using hz0)];have hn3:1<k2:=by lia
        have hn3':k2<=b.size:=by lia
        refine wpS_bind (aL (i:=k1 - 1) (by lia) ?_)
        try dsimp only
        have mD:=(show Mi (fun x=> - ρ x) (a.toList++b.toList) (((oo++(a.extract k1 na).reverse).push (b.getD (nb - 1) (.none,.none))++(b.extract k2 (nb - 1)).reverse)).toList ([a.getD (k1 - 1) (.none,.none)]++(a.toList.take (k1 - 1)).reverse) (b.toList.take (k2)).reverse by rw[b8 hna hnA]at mC;exact mC).goA (fun x hx y hy=>by cases List.mem_singleton.mp hx;have:=q2 y hy;show - _< - _;lia);rw[←Array.toList_push]at mD
        by_cases hl:k1 - 1=0
        ·rw[if_pos (by simpa using hl)];exact wpS_pure ⟨hs2,.inl ⟨_,_,rfl,doneR mD (.inl hl)⟩⟩
        ·rw[if_neg (by simpa using hl)];have sz:oo.size+1<=((((oo++(a.extract k1 na).reverse).push (b.getD (nb - 1) (.none,.none))++(b.extract k2 (nb - 1)).reverse)).push (a.getD (k1 - 1) (.none,.none))).size:=by simp only[Array.size_push,Array.size_append];lia
         have ip:0<k1 - 1/\k1 - 1<=a.size/\1<k2/\k2<=b.size/\Mi (fun x=> - ρ x) (a.toList++b.toList) ((((oo++(a.extract k1 na).reverse).push (b.getD (nb - 1) (.none,.none))++(b.extract k2 (nb - 1)).reverse)).push (a.getD (k1 - 1) (.none,.none))).toList (a.toList.take (k1 - 1)).reverse (b.toList.take (k2)).reverse:=⟨by lia,by lia,hn3,hn3',mD⟩
         by_cases hg:(decide (na - k1<7)&&decide (nb - 1 - (k2)<7))=true
         ·rw[if_pos hg];exact wpS_pure ⟨hs2,.inr ⟨_,_,_,_,_,_,rfl,by lia,ip⟩⟩
         ·rw[if_neg hg];exact wpS_pure ⟨hs2,_,_,_,_,_,_,rfl,by lia,by lia,ip⟩
       ·rw[if_neg hk0];have hk00:k2=nb - 1:=by lia
        subst hk00;have hn3':nb - 1<=b.size:=by lia
        refine wpS_bind (aL (i:=k1 - 1) (by lia) ?_)
        try dsimp only
        have mD:=(show Mi (fun x=> - ρ x) (a.toList++b.toList) (((oo++(a.extract k1 na).reverse).push (b.getD (nb - 1) (.none,.none)))).toList ([a.getD (k1 - 1) (.none,.none)]++(a.toList.take (k1 - 1)).reverse) (b.toList.take (nb - 1)).reverse by rw[b8 hna hnA]at mB;exact mB).goA (fun x hx y hy=>by cases List.mem_singleton.mp hx;have:=q2 y hy;show - _< - _;lia);rw[←Array.toList_push]at mD
        by_cases hl:k1 - 1=0
        ·rw[if_pos (by simpa using hl)];exact wpS_pure ⟨hs2,.inl ⟨_,_,rfl,doneR mD (.inl hl)⟩⟩
        ·rw[if_neg (by simpa using hl)];have sz:oo.size+1<=((((oo++(a.extract k1 na).reverse).push (b.getD (nb - 1) (.none,.none)))).push (a.getD (k1 - 1) (.none,.none))).size:=by simp only[Array.size_push,Array.size_append];lia
         have ip:0<k1 - 1/\k1 - 1<=a.size/\1<nb - 1/\nb - 1<=b.size/\Mi (fun x=> - ρ x) (a.toList++b.toList) ((((oo++(a.extract k1 na).reverse).push (b.getD (nb - 1) (.none,.none)))).push (a.getD (k1 - 1) (.none,.none))).toList (a.toList.take (k1 - 1)).reverse (b.toList.take (nb - 1)).reverse:=⟨by lia,by lia,hnb2,hn3',mD⟩
         by_cases hg:(decide (na - k1<7)&&decide (nb - 1 - (nb - 1)<7))=true
         ·rw[if_pos hg];exact wpS_pure ⟨hs2,.inr ⟨_,_,_,_,_,_,rfl,by lia,ip⟩⟩
         ·rw[if_neg hg];exact wpS_pure ⟨hs2,_,_,_,_,_,_,rfl,by lia,by lia,ip⟩
     ·rw[if_neg hk1'];have hk10:k1=na:=by lia
      subst hk10;have p2:=p2';refine wpS_bind (aL (i:=nb - 1) (by lia) ?_)
      try dsimp only
      have mB:=(show Mi (fun x=> - ρ x) (a.toList++b.toList) (oo).toList (a.toList.take (k1)).reverse ([b.getD (nb - 1) (.none,.none)]++(b.toList.take (nb - 1)).reverse) by rw[b8 (by lia) hnb]at hM;exact hM).goB (fun x hx y hy=>by cases List.mem_singleton.mp hx;have:=p2 y hy;show - _< - _;lia);rw[←Array.toList_push]at mB
      by_cases he:nb - 1=1
      ·rw[if_pos (by simpa using he)];exact wpS_pure ⟨hs2,.inl ⟨_,_,rfl,firstR mB he⟩⟩
      ·rw[if_neg (by simpa using he)];have hnb2:1<nb - 1:=by lia
       refine wpS_bind (aL (i:=k1 - 1) (by lia) ?_);refine wpS_bind (b4 (st:=aO st'' (gg)) (base:=0) (n:=nb - 1) (hint:=nb - 1 - 1) C (show kindOf (aO st'' (gg))=κ from hs1.1.trans hk) (dA _ (aK (by lia))) dB (by lia) (by lia) (eJ upB (by lia)) fun k2 hk2 r1 r2=> ?_)
       try dsimp only
       have q1:∀x∈(b.extract k2 (nb - 1)).toList.reverse,∀y∈(a.toList.take (k1)).reverse,ρ y<ρ x:=fun x hx y hy=>by
        obtain⟨u,hu,e⟩:=gN (ρ:=ρ) (List.mem_reverse.mp hx);have:=r2 u (by lia) (by lia);rw[Nat.zero_add]at this;have h1:¬rnk ρ b u<ρ (a.getD (k1 - 1) (.none,.none)):=of_decide_eq_false (by unfold bey at this;rw[if_pos rfl]at this;exact this);have h2:=ne _ (aK (a:=a) (i:=k1 - 1) (by lia)) _ (aK (a:=b) (i:=u) hu.2.2);refine fC upA hna hnA hy ?_;rw[e];have h2:ρ (a.getD (k1 - 1) (.none,.none))≠rnk ρ b u:=h2
        lia
       have q2:∀y∈(b.toList.take (k2)).reverse,ρ y<ρ (a.getD (k1 - 1) (.none,.none)):=fun y hy=>by
        obtain⟨u,hu1,hu2,e⟩:=b6 (ρ:=ρ) hy;have:=r1 u hu1;rw[Nat.zero_add]at this;rw[e];unfold bey at this;rw[if_pos rfl]at this;exact of_decide_eq_true this
       by_cases hk0:nb - 1 - k2>0
       ·rw[if_pos hk0];have mC:Mi (fun x=> - ρ x) (a.toList++b.toList) ((oo).push (b.getD (nb - 1) (.none,.none))++(b.extract k2 (nb - 1)).reverse).toList (a.toList.take (k1)).reverse (b.toList.take (k2)).reverse:=by
         rw[Array.toList_append (xs:=(oo).push (b.getD (nb - 1) (.none,.none))),Array.toList_reverse];exact(show Mi (fun x=> - ρ x) (a.toList++b.toList) ((oo).push (b.getD (nb - 1) (.none,.none))).toList (a.toList.take (k1)).reverse ((b.extract k2 (nb - 1)).toList.reverse++(b.toList.take (k2)).reverse) by rw[←gO (by lia) (by lia)];exact mB).goB (fun x hx y hy=>by have:=q1 x hx y hy;show - _< - _;lia)
        by_cases hz:k2=1
        ·rw[if_pos (by simpa using hz)];exact wpS_pure ⟨hs2,.inl ⟨_,_,rfl,firstR mC hz⟩⟩
        rw[if_neg (by simpa using hz)]
        by_cases hz0:k2=0
        ·rw[if_pos (by simpa using hz0)];exact wpS_pure ⟨hs2,.inl ⟨_,_,rfl,doneR mC (.inr hz0)⟩⟩
        rw[if_neg (by simpa using hz0)];have hn3:1<k2:=by lia
        have hn3':k2<=b.size:=by lia
        refine wpS_bind (aL (i:=k1 - 1) (by lia) ?_)
        try dsimp only
        have mD:=(show Mi (fun x=> - ρ x) (a.toList++b.toList) (((oo).push (b.getD (nb - 1) (.none,.none))++(b.extract k2 (nb - 1)).reverse)).toList ([a.getD (k1 - 1) (.none,.none)]++(a.toList.take (k1 - 1)).reverse) (b.toList.take (k2)).reverse by rw[b8 hna hnA]at mC;exact mC).goA (fun x hx y hy=>by cases List.mem_singleton.mp hx;have:=q2 y hy;show - _< - _;lia);rw[←Array.toList_push]at mD
        by_cases hl:k1 - 1=0
        ·rw[if_pos (by simpa using hl)];exact wpS_pure ⟨hs2,.inl ⟨_,_,rfl,doneR mD (.inl hl)⟩⟩
        ·rw[if_neg (by simpa using hl)];have sz:oo.size+1<=((((oo).push (b.getD (nb - 1) (.none,.none))++(b.extract k2 (nb - 1)).reverse)).push (a.getD (k1 - 1) (.none,.none))).size:=by simp only[Array.size_push,Array.size_append];lia
         have ip:0<k1 - 1/\k1 - 1<=a.size/\1<k2/\k2<=b.size/\Mi (fun x=> - ρ x) (a.toList++b.toList) ((((oo).push (b.getD (nb - 1) (.none,.none))++(b.extract k2 (nb - 1)).reverse)).push (a.getD (k1 - 1) (.none,.none))).toList (a.toList.take (k1 - 1)).reverse (b.toList.take (k2)).reverse:=⟨by lia,by lia,hn3,hn3',mD⟩
         by_cases hg:(decide (k1 - k1<7)&&decide (nb - 1 - (k2)<7))=true
         ·rw[if_pos hg];exact wpS_pure ⟨hs2,.inr ⟨_,_,_,_,_,_,rfl,by lia,ip⟩⟩
         ·rw[if_neg hg];exact wpS_pure ⟨hs2,_,_,_,_,_,_,rfl,by lia,by lia,ip⟩
       ·rw[if_neg hk0];have hk00:k2=nb - 1:=by lia
        subst hk00;have hn3':nb - 1<=b.size:=by lia
        refine wpS_bind (aL (i:=k1 - 1) (by lia) ?_)
        try dsimp only
        have mD:=(show Mi (fun x=> - ρ x) (a.toList++b.toList) (((oo).push (b.getD (nb - 1) (.none,.none)))).toList ([a.getD (k1 - 1) (.none,.none)]++(a.toList.take (k1 - 1)).reverse) (b.toList.take (nb - 1)).reverse by rw[b8 hna hnA]at mB;exact mB).goA (fun x hx y hy=>by cases List.mem_singleton.mp hx;have:=q2 y hy;show - _< - _;lia);rw[←Array.toList_push]at mD
        by_cases hl:k1 - 1=0
        ·rw[if_pos (by simpa using hl)];exact wpS_pure ⟨hs2,.inl ⟨_,_,rfl,doneR mD (.inl hl)⟩⟩
        ·rw[if_neg (by simpa using hl)];have sz:oo.size+1<=((((oo).push (b.getD (nb - 1) (.none,.none)))).push (a.getD (k1 - 1) (.none,.none))).size:=by simp only[Array.size_push,Array.size_append];lia
         have ip:0<k1 - 1/\k1 - 1<=a.size/\1<nb - 1/\nb - 1<=b.size/\Mi (fun x=> - ρ x) (a.toList++b.toList) ((((oo).push (b.getD (nb - 1) (.none,.none)))).push (a.getD (k1 - 1) (.none,.none))).toList (a.toList.take (k1 - 1)).reverse (b.toList.take (nb - 1)).reverse:=⟨by lia,by lia,hnb2,hn3',mD⟩
         by_cases hg:(decide (k1 - k1<7)&&decide (nb - 1 - (nb - 1)<7))=true
         ·rw[if_pos hg];exact wpS_pure ⟨hs2,.inr ⟨_,_,_,_,_,_,rfl,by lia,ip⟩⟩
         ·rw[if_neg hg];exact wpS_pure ⟨hs2,_,_,_,_,_,_,rfl,by lia,by lia,ip⟩
   ·rintro c st'' ⟨hs1,na,nb,oo,gg,ac,bc,rfl,hx2,hy2,hna,hnA,hnb1,hnb,hM⟩;have:=leq hM hna hnA (by lia) hnb
    lia
   ·rintro c st'' ⟨hs1,⟨r,rest,rfl,hr⟩|⟨na,nb,oo,gg,ac,bc,rfl,ho,ip⟩⟩
    ·try dsimp only
     exact wpS_pure ⟨hs1,_,_,rfl,hr⟩
    ·try dsimp only
     refine wpS_bind (wpS_modify (wpS_pure ⟨hs1,_,_,_,_,rfl,ho,ip⟩))
 ·rintro c st' ⟨hs,n,m,o,g,rfl,hx1,hna,hnA,hnb1,hnb,hm⟩;have:=leq hm hna hnA (by lia) hnb
  lia
 ·rintro c st' ⟨hs,r,rest,rfl,hr⟩
  try dsimp only
  exact wpS_pure (hQ _ _ hs hr.1 hr.2)
end
end L2
namespace L2
open PySem PySem.W PyProof.Rows
section
variable {prog:Program}{w:World}{A:Around}{E:Value->Shared->Prop}{s:Shared}{κ:SortKind}{D:Keyed->Prop}{ρ:Keyed->Int}{st:SortSt}
theorem eX {a:Array Keyed}{X Y Z:List Keyed} (e:a.toList=X++Y++Z) {i:Nat} (hi:i<Y.length):rnk ρ a (X.length+i)=ρ Y[i]:=by
 have hl:X.length+i<a.size:=by rw[←Array.length_toList,e,List.length_append,List.length_append];lia
 unfold rnk;have h1:a.getD (X.length+i) (.none,.none)=a.toList[X.length+i]'(by rw[Array.length_toList];exact hl):=by simp[Array.getD,hl]
 rw[h1]
 congr 1
 simp only[e];rw[List.getElem_append_left (by rw[List.length_append];lia),List.getElem_append_right (by lia)];simp
theorem u9 {a:Array Keyed}{X Y Z:List Keyed} (e:a.toList=X++Y++Z) (h:bO ρ Y):Up ρ a X.length (X.length+Y.length):=fun i j h1 h2 h3=>by
 obtain⟨u,rfl⟩:∃u,i=X.length+u:=⟨i - X.length,by lia⟩
 obtain⟨v,rfl⟩:∃v,j=X.length+v:=⟨j - X.length,by lia⟩
 rw[eX e (by lia),eX e (by lia)];exact(List.pairwise_iff_getElem.mp h) u v (by lia) (by lia) (by lia)
theorem EL {a:Array Keyed}(h:bO ρ a.toList):Up ρ a 0 a.size:=by
 have:=u9 (ρ:=ρ) (a:=a) (X:=[]) (Y:=a.toList) (Z:=[]) (by simp) h
 simpa using this
theorem zL {a:Array Keyed}{X Y Z:List Keyed} (e:a.toList=X++Y++Z) {i j:Nat} (hi:i=X.length) (hj:j=X.length+Y.length):(a.extract i j).toList=Y:=by
 subst hi hj;rw[Array.toList_extract,List.extract_eq_drop_take,e,Nat.add_sub_cancel_left,List.append_assoc,List.drop_left,List.take_left]
theorem wY {b0:Nat}:∀(m:List Keyed) (k:Nat) (a:Array Keyed) (X Y Z:List Keyed),a.toList=X++Y++Z->Y.length=m.length->X.length=b0+k->((m.zipIdx k).foldl (fun (a:Array Keyed) x=>match x with|(p,j)=>a.setIfInBounds (b0+j) p) a).toList=X++m++Z
 | [],k,a,X,Y,Z,e,h,_=>by
  have:Y=[]:=List.length_eq_zero_iff.mp h;subst this;exact e
 | p::m,k,a,X,Y,Z,e,h,hx=>by
  cases Y with
  | nil=>cases h
  | cons y Y =>
   have h':Y.length=m.length:=Nat.succ.inj h;rw[List.zipIdx_cons,List.foldl_cons];have:=wY (b0:=b0) m (k+1) (a.setIfInBounds (b0+k) p) (X++[p]) Y Z ?_ h' (by rw[List.length_append];show _+1=_;lia)
   ·rw[List.append_assoc X [p] m]at this;exact this
   ·rw[Array.toList_setIfInBounds,e,←hx,List.append_assoc,List.set_append_right _ _ (Nat.le_refl _),Nat.sub_self];show X++(p::(Y++Z))=_;simp
theorem OI {x:SortSt}{Q:PUnit->SortSt->Prop} (h:Q ⟨⟩ x):wpS (model prog w) A E s (set x:StateT SortSt Sem PUnit) Q st:=by
 unfold wpS;rw[StateT.run_set];exact wpAny_pure ⟨rfl,h⟩
theorem tT {a:Array Keyed}{X Y Z:List Keyed} (e:a.toList=X++Y++Z) {i:Nat} (hi:i<Y.length):a.getD (X.length+i) (.none,.none)=Y[i]:=by
 have hl:X.length+i<a.size:=by rw[←Array.length_toList,e,List.length_append,List.length_append];lia
 have h1:a.getD (X.length+i) (.none,.none)=a.toList[X.length+i]'(by rw[Array.length_toList];exact hl):=by simp[Array.getD,hl]
 rw[h1];simp only[e];rw[List.getElem_append_left (by rw[List.length_append];lia),List.getElem_append_right (by lia)];simp
theorem PY (C:iT prog w A E s κ D ρ)(hk:kindOf st=κ){X L R Z:List Keyed}{i pw pw2:Nat}{Q:Bool->SortSt->Prop} (ha:(arrOf st).toList=X++L++R++Z) (hL:L≠[]) (hR:R≠[]) (rL:bO ρ L) (rR:bO ρ R) (dis:∀x∈L,∀y∈R,ρ x≠ρ y) (dD:∀x∈(arrOf st).toList,D x)
  (hp1:(pendingOf st)[i]? =some (X.length,L.length,pw))(hp2:(pendingOf st)[i+1]? =some (X.length+L.length,R.length,pw2))(hf:failedOf st=none)
  (h:∀(st':SortSt) (M:List Keyed),kindOf st'=κ->failedOf st'=none->pendingOf st'=((pendingOf st).setIfInBounds i (X.length,L.length+R.length,pw)).eraseIdxIfInBounds (i+1)->(arrOf st').toList=X++M++Z->bO ρ M->M.Perm (L++R)->Q true st') :
  wpS (model prog w) A E s (mergeAt' i) Q st:=by
 have lL:0<L.length:=List.length_pos_iff.mpr hL;have lR:0<R.length:=List.length_pos_iff.mpr hR;have hsz:(arrOf st).size=X.length+L.length+R.length+Z.length:=by rw[←Array.length_toList,ha];simp only[List.length_append]
 have e1:(arrOf st).toList=X++L++(R++Z):=by rw[ha,List.append_assoc (X++L)]
 have e2:(arrOf st).toList=(X++L)++R++Z:=ha;have upL:=u9 e1 rL;have upR:=u9 e2 rR;rw[List.length_append]at upR;unfold mergeAt';refine wpS_bind (wpS_get ?_);rw[hp1,hp2]
 try dsimp only
 generalize hst1:setPending st (((pendingOf st).setIfInBounds i (X.length,L.length+R.length,pw)).eraseIdxIfInBounds (i+1))=st1;have k1:kindOf st1=κ:=by rw[←hst1];exact hk
 have a1:arrOf st1=arrOf st:=by rw[←hst1]
 have p1:pendingOf st1=((pendingOf st).setIfInBounds i (X.length,L.length+R.length,pw)).eraseIdxIfInBounds (i+1):=by rw[←hst1]
 have f1:failedOf st1=none:=by rw[←hst1];exact hf
 refine wpS_bind (OI ?_);show wpS _ _ _ _ _ _ (setPending st (((pendingOf st).setIfInBounds i (X.length,L.length+R.length,pw)).eraseIdxIfInBounds (i+1)));rw[hst1];have gR0:(arrOf st).getD (X.length+L.length) (.none,.none)=R[0]:=by
  have:=tT e2 (i:=0) lR
  rwa [List.length_append]at this
 refine wpS_bind (aL (a:=arrOf st) (show _<(arrOf st).size by lia) ?_);refine wpS_bind (b4 (st:=st1) (hint:=0) C k1 (dD _ (aK (by lia))) dD (by lia) lL upL fun k hkL r1 r2=> ?_)
 try dsimp only
 rw[gR0]at r1 r2;have le0:∀(u:Nat) (hu:u<k),ρ (L[u]'(by lia))<ρ R[0]:=fun u hu=>by
  have:=r1 u hu;unfold bey at this;rw[if_neg Bool.false_ne_true,eX e1 (by lia)]at this;have h1:¬ρ R[0]<ρ (L[u]'(by lia)):=of_decide_eq_false (by simpa using this);have h2:=dis _ (List.getElem_mem (show u<L.length by lia)) _ (List.getElem_mem lR)
  lia
 have ge0:∀(u:Nat) (h1:k<=u) (hu:u<L.length),ρ R[0]<ρ L[u]:=fun u h1 hu=>by
  have:=r2 u h1 hu;unfold bey at this;rw[if_neg Bool.false_ne_true,eX e1 hu]at this
  simpa using this
 have head_le:∀y∈R,ρ R[0]<=ρ y:=fun y hy=>by
  obtain⟨v,hv,rfl⟩:=List.getElem_of_mem hy;rcases Nat.eq_zero_or_pos v with hz|hz
  ·subst hz;exact Int.le_refl _
  ·have:=(List.pairwise_iff_getElem.mp rR) 0 v lR hv hz
   lia
 have rise_LR:(∀x∈L,ρ x<ρ R[0])->bO ρ (L++R):=fun hx=>List.pairwise_append.mpr ⟨rL,rR,fun x h1 y h2=>by have:=hx x h1;have:=head_le y h2;lia⟩;have same:(∀x∈L,ρ x<ρ R[0])->Q true st1:=fun hx=>h st1 (L++R) k1 f1 p1 (by rw[a1,ha];simp only[List.append_assoc]) (rise_LR hx) (List.Perm.refl _)
 by_cases hna:L.length - k=0
 ·rw[if_pos (by simpa using hna)];refine wpS_pure (same fun x hx=> ?_);obtain⟨u,hu,rfl⟩:=List.getElem_of_mem hx;exact le0 u (by lia)
 rw[if_neg (by simpa using hna)];have ix:X.length+k+(L.length - k) - 1=X.length+(L.length - 1):=by lia
 have gLl:(arrOf st).getD (X.length+k+(L.length - k) - 1) (.none,.none)=L[L.length - 1]'(by lia):=by
  rw[ix];exact tT e1 (by lia)
 refine wpS_bind (aL (a:=arrOf st) (show _<(arrOf st).size by lia) ?_);refine wpS_bind (b4 (st:=st1) (hint:=R.length - 1) C k1 (dD _ (aK (by lia))) dD (by lia) (by lia) upR fun k2 hkR r3 r4=> ?_)
 try dsimp only
 rw[gLl]at r3 r4;have lt2:∀(u:Nat) (hu:u<k2),ρ (R[u]'(by lia))<ρ (L[L.length - 1]'(by lia)):=fun u hu=>by
  have:=r3 u hu;unfold bey at this;have e:=eX (ρ:=ρ) e2 (i:=u) (by lia);rw[List.length_append]at e;rw[if_pos rfl,e]at this;exact of_decide_eq_true this
 have ge2:∀(u:Nat) (h1:k2<=u) (hu:u<R.length),ρ (L[L.length - 1]'(by lia))<ρ R[u]:=fun u h1 hu=>by
  have:=r4 u h1 hu;unfold bey at this;have e:=eX (ρ:=ρ) e2 (i:=u) hu;rw[List.length_append]at e;rw[if_pos rfl,e]at this;have h1:=of_decide_eq_false this;have h2:=dis _ (List.getElem_mem (show L.length - 1<L.length by lia)) _ (List.getElem_mem hu)
  lia
 have last_ge:∀x∈L,ρ x<=ρ (L[L.length - 1]'(by lia)):=fun x hx=>by
  obtain⟨u,hu,rfl⟩:=List.getElem_of_mem hx;rcases Nat.lt_or_ge u (L.length - 1) with hz|hz
  ·have:=(List.pairwise_iff_getElem.mp rL) u (L.length - 1) hu (by lia) hz
   lia
  ·have:u=L.length - 1:=by lia
   subst this;exact Int.le_refl _
 by_cases hnb:k2=0
 ·rw[if_pos (by simpa using hnb)];refine wpS_pure (same fun x hx=> ?_);have h1:=last_ge x hx;have h2:=ge2 0 (by lia) lR
  lia
 rw[if_neg (by simpa using hnb)]
 try dsimp only
 have cL:L=L.take k++L.drop k:=(List.take_append_drop k L).symm;have cR:R=R.take k2++R.drop k2:=(List.take_append_drop k2 R).symm;have ex:((arrOf st).extract (X.length+k) (X.length+L.length)).toList=L.drop k:=by
  refine zL (X:=X++L.take k) (Z:=R++Z) ?_ (by rw[List.length_append,List.length_take];lia) (by rw[List.length_append,List.length_take,List.length_drop];lia);rw[e1]
  conv=>lhs;rw[cL]
  simp only[List.append_assoc]
 have ey:((arrOf st).extract (X.length+L.length) (X.length+L.length+k2)).toList=R.take k2:=by
  refine zL (X:=X++L) (Z:=R.drop k2++Z) ?_ (by rw[List.length_append]) (by rw[List.length_append,List.length_take];lia);rw[e2]
  conv=>lhs;rw[cR]
  simp only[List.append_assoc]
 generalize hx:(arrOf st).extract (X.length+k) (X.length+L.length)=x at ex;generalize hy:(arrOf st).extract (X.length+L.length) (X.length+L.length+k2)=y at ey;have sx:x.size=L.length - k:=by rw[←Array.length_toList,ex,List.length_drop]
 have sy:y.size=k2:=by rw[←Array.length_toList,ey,List.length_take];lia
 have rkx:∀(u:Nat) (hu:u<L.length - k),rnk ρ x u=ρ (L[k+u]'(by lia)):=fun u hu=>by
  have:=eX (ρ:=ρ) (a:=x) (X:=[]) (Y:=L.drop k) (Z:=[]) (by rw[ex];simp) (i:=u) (by rw[List.length_drop];exact hu);rw[List.length_nil,Nat.zero_add,List.getElem_drop]at this;exact this
 have rky:∀(u:Nat) (hu:u<k2),rnk ρ y u=ρ (R[u]'(by lia)):=fun u hu=>by
  have:=eX (ρ:=ρ) (a:=y) (X:=[]) (Y:=R.take k2) (Z:=[]) (by rw[ey];simp) (i:=u) (by rw[List.length_take];lia);rw[List.length_nil,Nat.zero_add,List.getElem_take]at this;exact this
 have memL:∀z∈L.drop k,z∈L:=fun z hz=>List.mem_of_mem_drop hz;have memR:∀z∈R.take k2,z∈R:=fun z hz=>List.mem_of_mem_take hz;have inArr:∀z,z∈L∨z∈R->z∈(arrOf st).toList:=fun z hz=>by
  rw[ha];rcases hz with hz|hz<;>simp[hz]
 have dx:∀z∈x.toList,D z:=fun z hz=>dD z (inArr z (.inl (memL z (ex▸hz))));have dy:∀z∈y.toList,D z:=fun z hz=>dD z (inArr z (.inr (memR z (ey▸hz))));have ux:Up ρ x 0 x.size:=EL (by rw[ex];exact List.Pairwise.drop rL);have uy:Up ρ y 0 y.size:=EL (by rw[ey];exact List.Pairwise.take rR);have nexy:∀u∈x.toList,∀v∈y.toList,ρ u≠ρ v:=fun u hu v hv=>dis u (memL u (ex▸hu)) v (memR v (ey▸hv));have fst:rnk ρ y 0<rnk ρ x 0:=by
  rw[rkx 0 (by lia),rky 0 (by lia)];exact ge0 _ (by lia) (by lia)
 have lst:rnk ρ y (y.size - 1)<rnk ρ x (x.size - 1):=by
  rw[rkx (x.size - 1) (by lia),rky (y.size - 1) (by lia)];have:=lt2 (y.size - 1) (by lia);have e:k+(x.size - 1)=L.length - 1:=by lia
  simp only[e];exact this
 have fin:∀(m:Array Keyed) (st2:SortSt),SameSt st1 st2->bO ρ m.toList->m.toList.Perm (x.toList++y.toList)->Q true (setArr st2 (m.toList.zipIdx.foldl (fun (a:Array Keyed) z=>match z with|(p,j)=>a.setIfInBounds (X.length+k+j) p) (arrOf st2))):=fun m st2 hs rm pm=>by
  have pl:m.toList.length=(L.drop k++R.take k2).length:=by rw[pm.length_eq,ex,ey]
  have earr:(arrOf st2).toList=(X++L.take k)++(L.drop k++R.take k2)++(R.drop k2++Z):=by
   rw[hs.2.1,a1,ha]
   conv=>lhs;rw[cL,cR]
   simp only[List.append_assoc]
  have pb:=wY (b0:=X.length+k) m.toList 0 (arrOf st2) _ _ _ earr pl.symm (by rw[List.length_append,List.length_take];lia);have mm:∀z∈m.toList,z∈L.drop k∨z∈R.take k2:=fun z hz=>by
   have:=pm.mem_iff.mp hz;rw[ex,ey]at this;exact List.mem_append.mp this
  have tL:∀z∈L.take k,ρ z<ρ R[0]:=fun z hz=>by
   obtain⟨u,hu,rfl⟩:=List.getElem_of_mem hz;rw[List.length_take]at hu;rw[List.getElem_take];exact le0 u (by lia)
  have dR:∀z∈R.drop k2,ρ (L[L.length - 1]'(by lia))<ρ z:=fun z hz=>by
   obtain⟨u,hu,rfl⟩:=List.getElem_of_mem hz;rw[List.length_drop]at hu;rw[List.getElem_drop];exact ge2 _ (by lia) (by lia)
  have rL':=List.pairwise_append.mp (cL▸rL);have rR':=List.pairwise_append.mp (cR▸rR);refine h _ (L.take k++m.toList++R.drop k2) (hs.1.trans k1) (hs.2.2.2.trans f1) (hs.2.2.1.trans p1) ?_ ?_ ?_
  ·show (Array.toList _)=_;rw[pb];simp only[List.append_assoc]
  ·refine List.pairwise_append.mpr ⟨List.pairwise_append.mpr ⟨rL'.1,rm,fun u hu v hv=> ?_⟩,rR'.2.1,fun u hu v hv=> ?_⟩
   ·rcases mm v hv with hv|hv
    ·exact rL'.2.2 u hu v hv
    ·have h1:=tL u hu;have h2:=head_le v (memR v hv)
     lia
   ·rcases List.mem_append.mp hu with hu|hu
    ·have h1:=tL u hu;have h2:=head_le v (List.mem_of_mem_drop hv)
     lia
    ·rcases mm u hu with hu|hu
     ·have h1:=last_ge u (memL u hu);have h2:=dR v hv
      lia
     ·exact rR'.2.2 u hu v hv
  ·have p2:(L.take k++m.toList++R.drop k2).Perm (L.take k++(L.drop k++R.take k2)++R.drop k2):=List.Perm.append_right _ (List.Perm.append_left _ (by rw[ex,ey]at pm;exact pm));refine p2.trans ?_
   conv=>rhs;rw[cL,cR]
   simp only[List.append_assoc];exact List.Perm.refl _
 by_cases hc:L.length - k<=k2
 ·rw[if_pos hc];refine wpS_bind (P4 C k1 dx dy ux uy (by lia) (by lia) nexy fst lst fun m st2 hs rm pm=> ?_);refine wpS_bind (wpS_modify (wpS_bind (wpS_get (wpS_pure ?_))));have:=fin m st2 hs rm pm;have ff:failedOf st2=none:=hs.2.2.2.trans f1;show Q (failedOf st2).isNone _;rw[ff];exact this
 ·rw[if_neg hc];refine wpS_bind (PH C k1 dx dy ux uy (by lia) (by lia) nexy fst lst fun m st2 hs rm pm=> ?_);refine wpS_bind (wpS_modify (wpS_bind (wpS_get (wpS_pure ?_))));have:=fin m st2 hs rm pm;have ff:failedOf st2=none:=hs.2.2.2.trans f1;show Q (failedOf st2).isNone _;rw[ff];exact this
end
end L2
namespace L2
open PySem PySem.W PyProof.Rows
section
variable {prog:Program}{w:World}{A:Around}{E:Value->Shared->Prop}{s:Shared}{κ:SortKind}{D:Keyed->Prop}{ρ:Keyed->Int}{st:SortSt}
theorem iM {a b:Array Keyed}{i j:Nat} (h:a[i]? =b[j]?):rnk ρ a i=rnk ρ b j:=by
 have e:∀(a:Array Keyed) (i:Nat),a.getD i (.none,.none)=(a[i]?).getD (.none,.none):=fun a i=>by simp[Array.getD_eq_getD_getElem?]
 unfold rnk;rw[e,e,h]
def Apart (ρ:Keyed->Int)(a:Array Keyed):Prop:=(a.toList.map ρ).Nodup
theorem Apart.perm {a b:Array Keyed}(h:Apart ρ a)(p:b.Perm a):Apart ρ b:=((Array.perm_iff_toList_perm.mp p).map ρ).nodup_iff.mpr h
theorem Apart.ne {a:Array Keyed}(h:Apart ρ a){i j:Nat}(hi:i<a.size)(hj:j<a.size)(hij:i≠j):rnk ρ a i≠rnk ρ a j:=fun e=>by
 have hl:(a.toList.map ρ).length=a.size:=by rw[List.length_map,Array.length_toList]
 have e1:∀(k:Nat) (hk:k<a.size),(a.toList.map ρ)[k]'(by lia)=rnk ρ a k:=fun k hk=>by
  rw[List.getElem_map];unfold rnk;simp[Array.getD,hk]
 exact hij ((List.getElem_inj (h₀:=by lia) (h₁:=by lia) h).mp (by rw[e1 i hi,e1 j hj];exact e))
structure Rn (κ:SortKind)(st st':SortSt)(lo hi:Nat):Prop where
 kd:kindOf st'=κ
 fl:failedOf st'=failedOf st
 pn:pendingOf st'=pendingOf st
 pm:(arrOf st').Perm (arrOf st)
 lw:∀i,i<lo->(arrOf st')[i]? =(arrOf st)[i]?
 up:∀i,hi<=i->(arrOf st')[i]? =(arrOf st)[i]?
theorem Rn.refl {lo hi:Nat}(hk:kindOf st=κ):Rn κ st st lo hi:=⟨hk,rfl,rfl,Array.Perm.refl _,fun _ _=>rfl,fun _ _=>rfl⟩
theorem Rn.size {st':SortSt}{lo hi:Nat} (h:Rn κ st st' lo hi):(arrOf st').size=(arrOf st).size:=h.pm.size_eq
theorem Rn.set {st':SortSt}{lo hi:Nat} (h:Rn κ st st' lo hi) {xs:Array Keyed} (p:xs.Perm (arrOf st')) (h1:∀i,i<lo->xs[i]? =(arrOf st')[i]?) (h2:∀i,hi<=i->xs[i]? =(arrOf st')[i]?):Rn κ st (setArr st' xs) lo hi :=
 ⟨h.kd,h.fl,h.pn,p.trans h.pm,fun i hi=>(h1 i hi).trans (h.lw i hi),fun i hi=>(h2 i hi).trans (h.up i hi)⟩
theorem Rn.trans {st' st'':SortSt}{lo hi:Nat} (h:Rn κ st st' lo hi) (g:Rn κ st' st'' lo hi):Rn κ st st'' lo hi :=
 ⟨g.kd,g.fl.trans h.fl,g.pn.trans h.pn,g.pm.trans h.pm,fun i hi=>(g.lw i hi).trans (h.lw i hi),fun i hi=>(g.up i hi).trans (h.up i hi)⟩
theorem Rn.wide {st':SortSt}{lo hi hi':Nat} (h:Rn κ st st' lo hi) (hh:hi<=hi'):Rn κ st st' lo hi':=⟨h.kd,h.fl,h.pn,h.pm,h.lw,fun i hi=>h.up i (Nat.le_trans hh hi)⟩
theorem iY (C:iT prog w A E s κ D ρ)(hk:kindOf st=κ)(dD:∀x∈(arrOf st).toList,D x){i j:Nat}(hi:i<(arrOf st).size)(hj:j<(arrOf st).size){Q:Option Bool->SortSt->Prop}(h:Q (some (decide (rnk ρ (arrOf st) i<rnk ρ (arrOf st) j))) st):wpS (model prog w) A E s (ltAt' i j) Q st:=by
 rw[ltAt'_eq];refine wpS_bind (wpS_get ?_);exact wpS_bind (aL (a:=arrOf st) hi (wpS_bind (aL (a:=arrOf st) hj (C.lt (dD _ (aK hi)) (dD _ (aK hj)) hk h))))
theorem vG {a b:Array Keyed}(p:b.Perm a)(dD:∀x∈a.toList,D x):∀x∈b.toList,D x:=fun x hx=>dD x ((Array.perm_iff_toList_perm.mp p).mem_iff.mp hx)
theorem K8 (C:iT prog w A E s κ D ρ)(hk:kindOf st=κ)(dD:∀x∈(arrOf st).toList,D x)(ap:Apart ρ (arrOf st)){lo n ok:Nat}(hn:lo+n<=(arrOf st).size)(hok:ok<=n)(h1:1<=ok)(up:Up ρ (arrOf st) lo (lo+ok)){Q:Bool->SortSt->Prop}
  (h:∀st':SortSt,Rn κ st st' lo (lo+n)->Up ρ (arrOf st') lo (lo+n)->Q true st'):wpS (model prog w) A E s (binarySort' lo n ok) Q st:=by
 unfold binarySort';refine wpS_bind (wpS_mono (wpS_forRange (I:=fun k c st'=>c=(none,())/\Rn κ st st' lo (lo+n)/\Up ρ (arrOf st') lo (lo+min k n)) (Q:=fun c st'=>c=(none,())/\Rn κ st st' lo (lo+n)/\Up ρ (arrOf st') lo (lo+n)) ?_ ?_ ⟨rfl,Rn.refl hk,by rw[show min (max ok 1) n=ok by lia];exact up⟩) ?_)
 ·rintro k c st' hak hkn ⟨rfl,hr,hu⟩;rw[show min k n=k by lia]at hu;have sz:=hr.size;have dD':=vG hr.pm dD;have ap':=ap.perm hr.pm;refine wpS_bind (wpS_mono (wpS_forRange (I:=fun x c st''=>st'=st''/\∃l r:Nat,c=(none,l,r)/\l<=r/\r<=k/\r - l<=k - x/\(∀i,i<l->rnk ρ (arrOf st') (lo+i)<rnk ρ (arrOf st') (lo+k))/\(∀i,r<=i->i<k->rnk ρ (arrOf st') (lo+k)<rnk ρ (arrOf st') (lo+i)))
   (Q:=fun c st''=>st'=st''/\∃l r:Nat,c=(none,l,r)/\l<=k/\(∀i,i<l->rnk ρ (arrOf st') (lo+i)<rnk ρ (arrOf st') (lo+k))/\(∀i,l<=i->i<k->rnk ρ (arrOf st') (lo+k)<rnk ρ (arrOf st') (lo+i))) ?_ ?_ ⟨rfl,0,k,rfl,by lia,by lia,by lia,fun i hi=>by lia,fun i h1 h2=>by lia⟩) ?_)
  ·rintro x c _ _ hx ⟨rfl,l,r,rfl,a1,a2,a3,a4,a5⟩
   try dsimp only
   by_cases hge:l≥r
   ·rw[if_pos hge];have:l=r:=by lia
    subst this;exact wpS_pure ⟨rfl,l,l,rfl,a2,a4,a5⟩
   ·rw[if_neg hge];refine wpS_bind (iY C hr.kd dD' (i:=lo+k) (j:=lo+(l+r)/2) (by lia) (by lia) ?_)
    try dsimp only
    by_cases hless:rnk ρ (arrOf st') (lo+k)<rnk ρ (arrOf st') (lo+(l+r)/2)
    ·rw[decide_eq_true hless,if_pos rfl];refine wpS_pure ⟨rfl,l,(l+r)/2,rfl,by lia,by lia,by lia,a4,fun i g1 g2=> ?_⟩;rcases Nat.lt_or_ge ((l+r)/2) i with hz|hz
     ·have:=hu (lo+(l+r)/2) (lo+i) (by lia) (by lia) (by lia)
      lia
     ·have:i=(l+r)/2:=by lia
      rw[this];exact hless
    ·rw[decide_eq_false hless,if_neg Bool.false_ne_true];refine wpS_pure ⟨rfl,(l+r)/2+1,r,rfl,by lia,by lia,by lia,fun i g1=> ?_,a5⟩;have hne:=ap'.ne (i:=lo+k) (j:=lo+(l+r)/2) (by lia) (by lia) (by lia);rcases Nat.lt_or_ge i ((l+r)/2) with hz|hz
     ·have:=hu (lo+i) (lo+(l+r)/2) (by lia) (by lia) (by lia)
      lia
     ·have:i=(l+r)/2:=by lia
      rw[this];lia
  ·rintro c _ ⟨rfl,l,r,rfl,a1,a2,a3,a4,a5⟩;have:l=r:=by lia
   subst this;exact⟨rfl,l,l,rfl,a2,a4,a5⟩
  ·rintro c _ ⟨rfl,l,r,rfl,a2,a4,a5⟩
   try dsimp only
   have hks:lo+k<(arrOf st').size:=by lia
   have bb:∀j,(bubble (arrOf st') (lo+k) (lo+k - (lo+l)))[j]? =if j=lo+l then (arrOf st')[lo+k]? else if lo+l<j/\j<=lo+k then (arrOf st')[j - 1]? else (arrOf st')[j]? :=fun j=>by
    have:=getElem?_bubble hks (lo+k - (lo+l)) (by lia) j;rw[show lo+k - (lo+k - (lo+l))=lo+l by lia]at this;exact this
   refine wpS_bind (show wpS _ _ _ _ (moveDown' (lo+k) (lo+l)) _ _ from ?_);rw[moveDown'_eq];refine wpS_modify (wpS_pure ⟨rfl,hr.set (bubble_perm _ _ _) (fun i hi=> ?_) (fun i hi=> ?_),?_⟩)
   ·rw[bb,if_neg (by lia),if_neg (by lia)]
   ·rw[bb,if_neg (by lia),if_neg (by lia)]
   ·rw[show min (k+1) n=k+1 by lia];intro i j g1 g2 g3;have rb:∀j,rnk ρ (bubble (arrOf st') (lo+k) (lo+k - (lo+l))) j=if j=lo+l then rnk ρ (arrOf st') (lo+k) else if lo+l<j/\j<=lo+k then rnk ρ (arrOf st') (j - 1) else rnk ρ (arrOf st') j:=fun j=>by
     have e:=bb j
     by_cases c1:j=lo+l
     ·rw[if_pos c1]at e ⊢;exact iM e
     ·rw[if_neg c1]at e ⊢
      by_cases c2:lo+l<j/\j<=lo+k
      ·rw[if_pos c2]at e ⊢;exact iM e
      ·rw[if_neg c2]at e ⊢;exact iM e
    have lowR:∀u,lo<=u->u<lo+l->rnk ρ (arrOf st') u<rnk ρ (arrOf st') (lo+k):=fun u u1 u2=>by
     have:=a4 (u - lo) (by lia)
     rwa [show lo+(u - lo)=u by lia]at this
    have highR:∀u,lo+l<=u->u<lo+k->rnk ρ (arrOf st') (lo+k)<rnk ρ (arrOf st') u:=fun u u1 u2=>by
     have:=a5 (u - lo) (by lia) (by lia)
     rwa [show lo+(u - lo)=u by lia]at this
    show rnk ρ (bubble (arrOf st') (lo+k) (lo+k - (lo+l))) i<rnk ρ (bubble (arrOf st') (lo+k) (lo+k - (lo+l))) j;rw[rb,rb]
    repeat' split
    all_goals first
     | (exfalso;lia)
     | exact lowR _ (by lia) (by lia)
     | exact highR _ (by lia) (by lia)
     | exact hu _ _ (by lia) (by lia) (by lia)
     | (have h1:=lowR i (by lia) (by lia);have h2:=highR (j - 1) (by lia) (by lia);lia)
 ·rintro c st' ⟨rfl,hr,hu⟩;refine⟨rfl,hr,?_⟩
  rwa [show min (max (max ok 1) n) n=n by lia]at hu
 ·rintro c st' ⟨rfl,hr,hu⟩
  try dsimp only
  exact wpS_pure (h st' hr hu)
end
end L2
namespace L2
open PySem PySem.W PyProof.Rows
section
variable {prog:Program}{w:World}{A:Around}{E:Value->Shared->Prop}{s:Shared}{κ:SortKind}{D:Keyed->Prop}{ρ:Keyed->Int}{st:SortSt}
theorem N6 {a:Array Keyed}{lo:Nat}:Up ρ a lo (lo+1):=fun i j h1 h2 h3=>by lia
theorem AB {a:Array Keyed}{lo x:Nat} (h1:1<=x) (up:Up ρ a lo (lo+x)) (h:rnk ρ a (lo+x - 1)<rnk ρ a (lo+x)):Up ρ a lo (lo+(x+1)):=fun i j g1 g2 g3=>by
 by_cases hj:j<lo+x
 ·exact up i j g1 g2 hj
 ·have:j=lo+x:=by lia
  subst this;rcases Nat.lt_or_ge i (lo+x - 1) with hz|hz
  ·have:=up i (lo+x - 1) g1 hz (by lia)
   lia
  ·have:i=lo+x - 1:=by lia
   rw[this];exact h
def Dn (ρ:Keyed->Int)(a:Array Keyed)(lo hi:Nat):Prop:=∀i j,lo<=i->i<j->j<hi->rnk ρ a j<rnk ρ a i
theorem zP {a:Array Keyed}{lo x:Nat} (h1:1<=x) (dn:Dn ρ a lo (lo+x)) (h:rnk ρ a (lo+x)<rnk ρ a (lo+x - 1)):Dn ρ a lo (lo+(x+1)):=fun i j g1 g2 g3=>by
 by_cases hj:j<lo+x
 ·exact dn i j g1 g2 hj
 ·have:j=lo+x:=by lia
  subst this;rcases Nat.lt_or_ge i (lo+x - 1) with hz|hz
  ·have:=dn i (lo+x - 1) g1 hz (by lia)
   lia
  ·have:i=lo+x - 1:=by lia
   rw[this];exact h
theorem C8 (C:iT prog w A E s κ D ρ)(hk:kindOf st=κ)(dD:∀x∈(arrOf st).toList,D x)(ap:Apart ρ (arrOf st)){lo n:Nat}(hn:lo+n<=(arrOf st).size)(h1:1<=n){Q:Option Nat->SortSt->Prop}
  (h:∀(m:Nat) (st':SortSt),1<=m->m<=n->Rn κ st st' lo (lo+n)->Up ρ (arrOf st') lo (lo+m)->Q (some m) st'):wpS (model prog w) A E s (countRun' lo n) Q st:=by
 unfold countRun';refine wpS_bind (wpS_mono (wpS_forRange (I:=fun x c st''=>st=st''/\c=(none,x)/\Up ρ (arrOf st) lo (lo+x)) (Q:=fun c st''=>st=st''/\∃m,c=(none,m)/\1<=m/\m<=n/\Up ρ (arrOf st) lo (lo+m)/\(m=n∨rnk ρ (arrOf st) (lo+m)<rnk ρ (arrOf st) (lo+m - 1))) ?_ ?_ ⟨rfl,rfl,N6⟩) ?_)
 ·rintro x c _ hx1 hx ⟨rfl,rfl,hu⟩
  try dsimp only
  refine wpS_bind (iY C hk dD (i:=lo+x) (j:=lo+x - 1) (by lia) (by lia) ?_)
  try dsimp only
  by_cases hless:rnk ρ (arrOf st) (lo+x)<rnk ρ (arrOf st) (lo+x - 1)
  ·rw[decide_eq_true hless,if_pos rfl];exact wpS_pure ⟨rfl,x,rfl,hx1,by lia,hu,.inr hless⟩
  ·rw[decide_eq_false hless,if_neg Bool.false_ne_true];have hne:=ap.ne (i:=lo+x) (j:=lo+x - 1) (by lia) (by lia) (by lia);exact wpS_pure ⟨rfl,rfl,AB hx1 hu (by lia)⟩
 ·rintro c _ ⟨rfl,rfl,hu⟩;rw[show max 1 n=n by lia]at hu ⊢;exact⟨rfl,n,rfl,h1,Nat.le_refl _,hu,.inl rfl⟩
 rintro c _ ⟨rfl,m,rfl,hm1,hmn,hu,hor⟩
 try dsimp only
 by_cases he:m=n
 ·rw[if_pos (by simpa using he)];exact wpS_pure (h m st hm1 hmn (Rn.refl hk) hu)
 rw[if_neg (by simpa using he)];have hless:=hor.resolve_left he
 by_cases hg:m>1
 ·rw[if_pos hg];refine wpS_bind (iY C hk dD (i:=lo) (j:=lo+m - 1) (by lia) (by lia) ?_)
  try dsimp only
  rw[decide_eq_true (hu lo (lo+m - 1) (by lia) (by lia) (by lia)),if_pos rfl];exact wpS_pure (h m st hm1 hmn (Rn.refl hk) hu)
 rw[if_neg hg];have hm:m=1:=by lia
 subst hm;refine wpS_bind (wpS_lift (wpAny_rule ⟨rfl,?_⟩));have d2:Dn ρ (arrOf st) lo (lo+(1+1)):=zP (Nat.le_refl _) (fun i j g1 g2 g3=>by lia) hless;refine wpS_bind (wpS_mono (wpS_forRange (I:=fun x c st''=>st=st''/\c=(none,x,0)/\Dn ρ (arrOf st) lo (lo+x)) (Q:=fun c st''=>st=st''/\∃m,c=(none,m,0)/\2<=m/\m<=n/\Dn ρ (arrOf st) lo (lo+m)) ?_ ?_ ⟨rfl,rfl,d2⟩) ?_)
 ·rintro x c _ hx1 hx ⟨rfl,rfl,hd⟩
  try dsimp only
  refine wpS_bind (iY C hk dD (i:=lo+x) (j:=lo+x - 1) (by lia) (by lia) ?_)
  try dsimp only
  by_cases hl2:rnk ρ (arrOf st) (lo+x)<rnk ρ (arrOf st) (lo+x - 1)
  ·rw[decide_eq_true hl2,if_pos rfl,if_neg (by lia)];exact wpS_pure ⟨rfl,rfl,zP (by lia) hd hl2⟩
  ·rw[decide_eq_false hl2,if_neg Bool.false_ne_true];have hne:=ap.ne (i:=lo+x) (j:=lo+x - 1) (by lia) (by lia) (by lia);refine wpS_bind (iY C hk dD (i:=lo+x - 1) (j:=lo+x) (by lia) (by lia) ?_)
   try dsimp only
   rw[decide_eq_true (show rnk ρ (arrOf st) (lo+x - 1)<rnk ρ (arrOf st) (lo+x) by lia),if_pos rfl];exact wpS_pure ⟨rfl,x,rfl,by lia,by lia,hd⟩
 ·rintro c _ ⟨rfl,rfl,hd⟩;rw[show max (1+1) n=n by lia]at hd ⊢;exact⟨rfl,n,rfl,by lia,Nat.le_refl _,hd⟩
 rintro c _ ⟨rfl,m,rfl,hm2,hmn2,hd⟩
 try dsimp only
 rw[if_neg (by lia)];refine wpS_bind (wpS_reverse ?_);have mg:∀k,(mirror (arrOf st) lo (lo+m) ((lo+m - lo)/2))[k]? =if lo<=k/\k<lo+m then (arrOf st)[lo+(lo+m) - 1 - k]? else (arrOf st)[k]? :=fun k=>getElem?_mirror_all (by lia) k;have hr:Rn κ st (setArr st (mirror (arrOf st) lo (lo+m) ((lo+m - lo)/2))) lo (lo+n):=(Rn.refl hk).set (mirror_perm _ _ _ _) (fun i hi=>by rw[mg,if_neg (by lia)]) (fun i hi=>by rw[mg,if_neg (by lia)]);have rm:∀k,rnk ρ (mirror (arrOf st) lo (lo+m) ((lo+m - lo)/2)) k=if lo<=k/\k<lo+m then rnk ρ (arrOf st) (lo+(lo+m) - 1 - k) else rnk ρ (arrOf st) k:=fun k=>by
  have e:=mg k
  by_cases c1:lo<=k/\k<lo+m
  ·rw[if_pos c1]at e ⊢;exact iM e
  ·rw[if_neg c1]at e ⊢;exact iM e
 have u1:Up ρ (mirror (arrOf st) lo (lo+m) ((lo+m - lo)/2)) lo (lo+m):=fun i j g1 g2 g3=>by
  rw[rm,rm,if_pos (by lia),if_pos (by lia)];exact hd _ _ (by lia) (by lia) (by lia)
 generalize hst1:setArr st (mirror (arrOf st) lo (lo+m) ((lo+m - lo)/2))=st1 at hr;have ea:arrOf st1=mirror (arrOf st) lo (lo+m) ((lo+m - lo)/2):=by rw[←hst1]
 rw[←ea]at u1;have sz:=hr.size;have dD1:=vG hr.pm dD;have ap1:=ap.perm hr.pm;refine wpS_bind (wpS_mono (wpS_forRange (I:=fun x c st''=>st1=st''/\c=(none,x)/\Up ρ (arrOf st1) lo (lo+x)) (Q:=fun c st''=>st1=st''/\∃m,c=(none,m)/\1<=m/\m<=n/\Up ρ (arrOf st1) lo (lo+m)) ?_ ?_ ⟨rfl,rfl,u1⟩) ?_)
 ·rintro x c _ hx1 hx ⟨rfl,rfl,hu⟩
  try dsimp only
  refine wpS_bind (iY C hr.kd dD1 (i:=lo+x) (j:=lo+x - 1) (by lia) (by lia) ?_)
  try dsimp only
  by_cases hless:rnk ρ (arrOf st1) (lo+x)<rnk ρ (arrOf st1) (lo+x - 1)
  ·rw[decide_eq_true hless,if_pos rfl];exact wpS_pure ⟨rfl,x,rfl,by lia,by lia,hu⟩
  ·rw[decide_eq_false hless,if_neg Bool.false_ne_true];have hne:=ap1.ne (i:=lo+x) (j:=lo+x - 1) (by lia) (by lia) (by lia);exact wpS_pure ⟨rfl,rfl,AB (by lia) hu (by lia)⟩
 ·rintro c _ ⟨rfl,rfl,hu⟩;rw[show max m n=n by lia]at hu ⊢;exact⟨rfl,n,rfl,h1,Nat.le_refl _,hu⟩
 rintro c _ ⟨rfl,m2,rfl,g1,g2,hu2⟩
 try dsimp only
 exact wpS_pure (h m2 st1 g1 g2 hr hu2)
end
end L2
namespace L2
open PySem PySem.W PyProof.Rows
def pos:Nat->List (List Keyed)->List (Nat×Nat)
 | _,[]=>[]
 | k,r::rs=>(k,r.length)::pos (k+r.length) rs
theorem oX:∀(k:Nat) (rs1 rs2:List (List Keyed)),pos k (rs1++rs2)=pos k rs1++pos (k+rs1.flatten.length) rs2
 | k,[],rs2=>by simp[pos]
 | k,r::rs1,rs2=>by
  show (k,r.length)::pos (k+r.length) (rs1++rs2)=(k,r.length)::(pos (k+r.length) rs1++_);rw[oX,List.flatten_cons,List.length_append,Nat.add_assoc]
theorem rO:∀(k:Nat) (rs:List (List Keyed)),(pos k rs).length=rs.length
 | _,[]=>rfl
 | k,r::rs=>by show (pos _ rs).length+1=_;rw[rO,List.length_cons]
abbrev se (e:Nat×Nat×Nat):Nat×Nat:=(e.1,e.2.1)
section
variable {prog:Program}{w:World}{A:Around}{E:Value->Shared->Prop}{s:Shared}{κ:SortKind}{D:Keyed->Prop}{ρ:Keyed->Int}{st:SortSt}{a₀:Array Keyed}
structure Gs (ρ:Keyed->Int)(κ:SortKind)(a₀:Array Keyed)(st:SortSt)(rs:List (List Keyed))(rest:List Keyed):Prop where
 ar:(arrOf st).toList=rs.flatten++rest
 rn:∀r∈rs,r≠[]/\bO ρ r
 pn:(pendingOf st).toList.map se=pos 0 rs
 kd:kindOf st=κ
 fl:failedOf st=none
 pm:(arrOf st).Perm a₀
theorem Gs.len {rs:List (List Keyed)}{rest:List Keyed} (g:Gs ρ κ a₀ st rs rest):(pendingOf st).size=rs.length:=by
 have:=congrArg List.length g.pn;rw[List.length_map,Array.length_toList,rO]at this;exact this
theorem xW {l1 l2:List Keyed}{a:Array Keyed} (ap:Apart ρ a) {P Q:List Keyed} (e:a.toList=P++l1++l2++Q):∀x∈l1,∀y∈l2,ρ x≠ρ y:=fun x hx y hy h=>by
 unfold Apart at ap;rw[e,List.map_append,List.map_append,List.map_append]at ap;have h1:=(List.nodup_append.mp (List.nodup_append.mp ap).1).2.2;exact h1 (ρ x) (List.mem_append_right _ (List.mem_map.mpr ⟨x,hx,rfl⟩)) (ρ y) (List.mem_map.mpr ⟨y,hy,rfl⟩) h
theorem FQ (C:iT prog w A E s κ D ρ)(dD:∀x∈a₀.toList,D x)(ap:Apart ρ a₀){rs1 rs2:List (List Keyed)}{L R rest:List Keyed}{i:Nat} (hi:i=rs1.length) (g:Gs ρ κ a₀ st (rs1++L::R::rs2) rest) {Q:Bool->SortSt->Prop}
  (h:∀(st':SortSt) (M:List Keyed),Gs ρ κ a₀ st' (rs1++M::rs2) rest->Q true st'):wpS (model prog w) A E s (mergeAt' i) Q st:=by
 subst hi;obtain⟨nL,rL⟩:=g.rn L (List.mem_append_right _ (.head _));obtain⟨nR,rR⟩:=g.rn R (List.mem_append_right _ (.tail _ (.head _)));have ha:(arrOf st).toList=rs1.flatten++L++R++(rs2.flatten++rest):=by
  rw[g.ar,List.flatten_append,List.flatten_cons,List.flatten_cons];simp only[List.append_assoc]
 have hpos:pos 0 (rs1++L::R::rs2)=pos 0 rs1++(rs1.flatten.length,L.length)::(rs1.flatten.length+L.length,R.length)::pos (rs1.flatten.length+L.length+R.length) rs2:=by
  rw[oX,Nat.zero_add];rfl
 have hsz:(pendingOf st).toList.length=rs1.length+(rs2.length+2):=by
  rw[Array.length_toList,g.len,List.length_append,List.length_cons,List.length_cons]
 obtain⟨ps1,e1,e2,ps2,hps,hl1⟩:∃ps1 e1 e2 ps2,(pendingOf st).toList=ps1++e1::e2::ps2/\ps1.length=rs1.length:=by
  refine⟨(pendingOf st).toList.take rs1.length,(pendingOf st).toList[rs1.length]'(by lia),(pendingOf st).toList[rs1.length+1]'(by lia),(pendingOf st).toList.drop (rs1.length+1+1),?_,by rw[List.length_take];lia⟩;rw[←List.drop_eq_getElem_cons (show rs1.length+1<(pendingOf st).toList.length by lia),←List.drop_eq_getElem_cons (show rs1.length<(pendingOf st).toList.length by lia),List.take_append_drop]
 have hmap:=g.pn;rw[hps,hpos,List.map_append,List.map_cons,List.map_cons]at hmap;have hl1':(ps1.map se).length=(pos 0 rs1).length:=by rw[List.length_map,rO,hl1]
 obtain⟨m1,m2⟩:=List.append_inj hmap hl1';obtain⟨m2a,m2b⟩:=List.cons.inj m2;obtain⟨m2b,m2c⟩:=List.cons.inj m2b;obtain⟨x1,y1,pw1⟩:=e1;obtain⟨x2,y2,pw2⟩:=e2;obtain⟨rfl,rfl⟩:=Prod.mk.inj m2a;obtain⟨rfl,rfl⟩:=Prod.mk.inj m2b;have hp1:(pendingOf st)[rs1.length]? =some (rs1.flatten.length,L.length,pw1):=by
  rw[←Array.getElem?_toList,hps,←hl1,List.getElem?_append_right (Nat.le_refl _),Nat.sub_self];rfl
 have hp2:(pendingOf st)[rs1.length+1]? =some (rs1.flatten.length+L.length,R.length,pw2):=by
  rw[←Array.getElem?_toList,hps,←hl1,List.getElem?_append_right (by lia),Nat.add_sub_cancel_left];rfl
 refine PY C g.kd ha nL nR rL rR (xW (ap.perm g.pm) ha) (vG g.pm dD) hp1 hp2 g.fl fun st' M kd fl pn ar rM pM=> ?_;have lM:M.length=L.length+R.length:=by rw[pM.length_eq,List.length_append]
 refine h st' M ⟨?_,fun r hr=> ?_,?_,kd,fl,?_⟩
 ·rw[ar,List.flatten_append,List.flatten_cons];simp only[List.append_assoc]
 ·rcases List.mem_append.mp hr with hr|hr
  ·exact g.rn r (List.mem_append_left _ hr)
  ·rcases List.mem_cons.mp hr with rfl|hr
   ·refine⟨fun z=> ?_,rM⟩;rw[z,List.length_nil]at lM;exact nL (List.length_eq_zero_iff.mp (by lia))
   ·exact g.rn r (List.mem_append_right _ (.tail _ (.tail _ hr)))
 ·have e:(pendingOf st').toList=ps1++(rs1.flatten.length,L.length+R.length,pw1)::ps2:=by
   rw[pn];have hlt:rs1.length+1<((pendingOf st).setIfInBounds rs1.length (rs1.flatten.length,L.length+R.length,pw1)).size:=by rw[Array.size_setIfInBounds,←Array.length_toList];lia
   rw[Array.eraseIdxIfInBounds,dif_pos hlt,Array.toList_eraseIdx,Array.toList_setIfInBounds,hps,←hl1,List.set_append_right _ _ (Nat.le_refl _),Nat.sub_self,List.eraseIdx_append_of_length_le (by lia),Nat.add_sub_cancel_left];rfl
  rw[e,List.map_append,List.map_cons,m1,m2c,oX,Nat.zero_add];show _++(rs1.flatten.length,L.length+R.length)::_=_++(rs1.flatten.length,M.length)::pos (rs1.flatten.length+M.length) rs2;rw[lM,Nat.add_assoc]
 ·refine Array.Perm.trans ?_ g.pm;rw[Array.perm_iff_toList_perm,ar,ha,List.append_assoc rs1.flatten L R];exact List.Perm.append_right _ (List.Perm.append_left _ pM)
end
end L2
namespace L2
open PySem PySem.W PyProof.Rows
section
variable {prog:Program}{w:World}{A:Around}{E:Value->Shared->Prop}{s:Shared}{κ:SortKind}{D:Keyed->Prop}{ρ:Keyed->Int}{st:SortSt}{a₀:Array Keyed}
theorem GB {a:Array Keyed}{lo n:Nat} (h:Up ρ a lo (lo+n)) (hn:lo+n<=a.size):bO ρ ((a.toList.drop lo).take n):=by
 have hl:((a.toList.drop lo).take n).length=n:=by rw[List.length_take,List.length_drop,Array.length_toList];lia
 have e:∀(k:Nat) (hk:k<((a.toList.drop lo).take n).length),ρ (((a.toList.drop lo).take n)[k])=rnk ρ a (lo+k):=fun k hk=>by
  rw[List.getElem_take,List.getElem_drop];unfold rnk;have:lo+k<a.size:=by lia
  simp[Array.getD,this]
 rw[bO,List.pairwise_iff_getElem];intro i j hi hj hij;rw[e i hi,e j hj];exact h _ _ (by lia) (by lia) (by lia)
theorem AA:∀{rs:List (List Keyed)},(∀r∈rs,r≠[])->rs.length<=rs.flatten.length
 | [],_=>Nat.le_refl _
 | r::rs,h=>by
  have h1:=AA (rs:=rs) fun x hx=>h x (.tail _ hx);have h2:0<r.length:=List.length_pos_iff.mpr (h r (.head _));rw[List.flatten_cons,List.length_append,List.length_cons]
  lia
theorem Gs.rn_run {rs:List (List Keyed)}{rest:List Keyed}{lo hi:Nat}{st':SortSt} (g:Gs ρ κ a₀ st rs rest) (h:Rn κ st st' lo hi) (hlo:lo=rs.flatten.length):Gs ρ κ a₀ st' rs ((arrOf st').toList.drop lo):=by
 refine⟨?_,g.rn,by rw[h.pn];exact g.pn,h.kd,h.fl.trans g.fl,h.pm.trans g.pm⟩;have e:(arrOf st').toList.take lo=rs.flatten:=by
  have e2:(arrOf st).toList.take lo=rs.flatten:=by rw[g.ar,hlo,List.take_append_of_le_length (Nat.le_refl _),List.take_length]
  rw[←e2];refine List.ext_getElem? fun i=> ?_;rw[List.getElem?_take,List.getElem?_take]
  by_cases hi:i<lo
  ·rw[if_pos hi,if_pos hi,Array.getElem?_toList,Array.getElem?_toList,h.lw i hi]
  ·rw[if_neg hi,if_neg hi]
 rw[←e,List.take_append_drop]
theorem Gs.push {rs:List (List Keyed)}{rest run rest':List Keyed} (g:Gs ρ κ a₀ st rs rest) (he:rest=run++rest') (hn:run≠[]) (hr:bO ρ run) {lo n:Nat} (hlo:lo=rs.flatten.length) (hl:n=run.length):Gs ρ κ a₀ (setPending st ((pendingOf st).push (lo,n,0))) (rs++[run]) rest':=by
 refine⟨?_,fun r h=> ?_,?_,g.kd,g.fl,g.pm⟩
 ·show (arrOf st).toList=_;rw[g.ar,he,List.flatten_append,List.flatten_cons,List.flatten_nil,List.append_nil,List.append_assoc]
 ·rcases List.mem_append.mp h with h|h
  ·exact g.rn r h
  ·rw[List.mem_singleton.mp h];exact⟨hn,hr⟩
 ·show ((pendingOf st).push (lo,n,0)).toList.map se=_;rw[Array.toList_push,List.map_append,g.pn,oX,Nat.zero_add,hlo,hl];rfl
theorem C3 {p:Array (Nat×Nat×Nat)}{i:Nat} (f:Nat×Nat×Nat->Nat×Nat×Nat) (hf:∀x,se (f x)=se x):(p.modify i f).toList.map se=p.toList.map se:=by
 refine List.ext_getElem? fun j=> ?_;rw[List.getElem?_map,List.getElem?_map,Array.getElem?_toList,Array.getElem?_toList,Array.getElem?_modify]
 by_cases h:i=j
 ·rw[if_pos h];cases p[j]? with
  | none=>rfl
  | some x=>show some (se (f x))=some (se x);rw[hf]
 ·rw[if_neg h]
theorem Gs.pow {rs:List (List Keyed)}{rest:List Keyed} (g:Gs ρ κ a₀ st rs rest) {i:Nat} (f:Nat×Nat×Nat->Nat×Nat×Nat) (hf:∀x,se (f x)=se x):Gs ρ κ a₀ (setPending st ((pendingOf st).modify i f)) rs rest :=
 ⟨g.ar,g.rn,(C3 f hf).trans g.pn,g.kd,g.fl,g.pm⟩
theorem FW {α:Type}{l:List α}{i:Nat} (h:i+1<l.length):∃a x y b,l=a++x::y::b/\i=a.length:=by
 refine⟨l.take i,l[i]'(by lia),l[i+1]'(by lia),l.drop (i+1+1),?_,by rw[List.length_take];lia⟩;rw[←List.drop_eq_getElem_cons (show i+1<l.length by lia),←List.drop_eq_getElem_cons (show i<l.length by lia),List.take_append_drop]
theorem pG (C:iT prog w A E s κ D ρ)(dD:∀x∈a₀.toList,D x)(ap:Apart ρ a₀){rs:List (List Keyed)}{rest:List Keyed}{i:Nat} (hi:i+1<(pendingOf st).size) (g:Gs ρ κ a₀ st rs rest) {Q:Bool->SortSt->Prop}
  (h:∀(st':SortSt) (rs':List (List Keyed)),Gs ρ κ a₀ st' rs' rest->rs'.length+1=rs.length->Q true st'):wpS (model prog w) A E s (mergeAt' i) Q st:=by
 rw[g.len]at hi;obtain⟨a,x,y,b,rfl,hia⟩:=FW hi;refine FQ C dD ap hia g fun st' M g'=>h st' _ g' ?_;simp only[List.length_append,List.length_cons]
 lia
theorem Gs.lenf {rs rs':List (List Keyed)}{rest:List Keyed}{st':SortSt} (g:Gs ρ κ a₀ st rs rest) (g':Gs ρ κ a₀ st' rs' rest):rs'.flatten.length=rs.flatten.length:=by
 have h1:=congrArg List.length g.ar;have h2:=congrArg List.length g'.ar;rw[List.length_append,Array.length_toList]at h1 h2;have:=g.pm.size_eq;have:=g'.pm.size_eq
 lia
theorem Gs.tot {rs:List (List Keyed)}{rest:List Keyed} (g:Gs ρ κ a₀ st rs rest):rs.flatten.length+rest.length=a₀.size:=by
 have h1:=congrArg List.length g.ar;rw[List.length_append,Array.length_toList]at h1;have:=g.pm.size_eq
 lia
theorem JL (C:iT prog w A E s κ D ρ)(dD:∀x∈(arrOf st).toList,D x)(ap:Apart ρ (arrOf st))(hk:kindOf st=κ)(hp:pendingOf st= #[])(hf:failedOf st=none){Q:Unit->SortSt->Prop}
  (h:∀st',(arrOf st').toList.Perm (arrOf st).toList->failedOf st'=none->bO ρ (arrOf st').toList->Q () st'):wpS (model prog w) A E s sortRuns' Q st:=by
 generalize ha:arrOf st=a₀ at *;have g0:Gs ρ κ a₀ st [] a₀.toList:=⟨by rw[ha];rfl,fun r hr=>(List.not_mem_nil hr).elim,by rw[hp];rfl,hk,hf,by rw[ha]⟩
 rw[sortRuns'_eq];refine wpS_bind (wpS_get ?_)
 dsimp only
 rw[ha];generalize hmr:minRun' a₀.size a₀.size 0=mr;refine wpS_bind (wpS_mono (wpS_forRange
  (I:=fun x c st'=>∃(lo:Nat) (rs:List (List Keyed)) (rest:List Keyed),c=(none,lo)/\x<=lo/\lo=rs.flatten.length/\Gs ρ κ a₀ st' rs rest)
  (Q:=fun c st'=>∃(lo:Nat) (rs:List (List Keyed)),c=(none,lo)/\Gs ρ κ a₀ st' rs []) ?step ?fin ⟨0,[],a₀.toList,rfl,Nat.le_refl _,rfl,g0⟩) ?post)
 case fin =>
  rintro c st' ⟨lo,rs,rest,rfl,hx,hlo,g⟩;have:=g.tot;have:rest=[]:=List.length_eq_zero_iff.mp (by lia);subst this;exact⟨lo,rs,rfl,g⟩
 case step =>
  rintro x c st1 _ hx ⟨lo,rs,rest,rfl,hxl,hlo,g⟩;have ht:=g.tot
  dsimp only
  by_cases hge:lo≥a₀.size
  ·rw[if_pos hge];have:rest=[]:=List.length_eq_zero_iff.mp (by lia);subst this;exact wpS_pure ⟨lo,rs,rfl,g⟩
  ·rw[if_neg hge];have sz1:=g.pm.size_eq;have key:∀(n:Nat) (st3:SortSt),1<=n->lo+n<=a₀.size->Rn κ st1 st3 lo a₀.size->Up ρ (arrOf st3) lo (lo+n)->∃run rest',Gs ρ κ a₀ st3 rs (run++rest')/\run≠[]/\bO ρ run/\n=run.length:=fun n st3 h1 h2 hr hu=>by
    have g3:=g.rn_run hr hlo;have sz3:=g3.pm.size_eq;have hl:(((arrOf st3).toList.drop lo).take n).length=n:=by rw[List.length_take,List.length_drop,Array.length_toList];lia
    refine⟨((arrOf st3).toList.drop lo).take n,((arrOf st3).toList.drop lo).drop n,?_,fun z=> ?_,GB hu (by lia),hl.symm⟩
    ·rw[List.take_append_drop];exact g3
    ·rw[z,List.length_nil]at hl;lia
   have tail:∀(n:Nat) (st3:SortSt) (run rest':List Keyed),Gs ρ κ a₀ st3 rs (run++rest')->run≠[]->bO ρ run->n=run.length->∀(st4:SortSt) (rs4:List (List Keyed)),Gs ρ κ a₀ st4 rs4 (run++rest')->∃(lo':Nat) (rs':List (List Keyed)) (rest'':List Keyed),((none,lo+n):Option Unit×Nat)=(none,lo')/\x+1<=lo'/\lo'=rs'.flatten.length/\Gs ρ κ a₀ (setPending st4 ((pendingOf st4).push (lo,n,0))) rs' rest'':=fun n st3 run rest' g3 hn hr hl st4 rs4 g4=>by
    have e4:=g3.lenf g4;have hpos:0<run.length:=List.length_pos_iff.mpr hn;refine⟨lo+n,rs4++[run],rest',rfl,by lia,?_,g4.push rfl hn hr (by lia) hl⟩;rw[List.flatten_append,List.flatten_cons,List.flatten_nil,List.append_nil,List.length_append]
    lia
   refine wpS_bind (C8 C g.kd (vG g.pm dD) (ap.perm g.pm) (lo:=lo) (n:=a₀.size - lo) (by lia) (by lia) fun m st2 hm1 hm2 hr2 hu2=> ?_);rw[show lo+(a₀.size - lo)=a₀.size by lia]at hr2
   dsimp only
   by_cases hlt:m<mr
   ·rw[if_pos hlt];refine wpS_bind (wpS_lift (wpAny_rule ⟨rfl,?_⟩));have sz2:=hr2.size;refine wpS_bind (K8 C hr2.kd (vG (hr2.pm.trans g.pm) dD) (ap.perm (hr2.pm.trans g.pm)) (lo:=lo) (n:=min (a₀.size - lo) mr) (ok:=m) (by lia) (by lia) hm1 hu2 fun st3 hr3 hu3=> ?_);simp only[Bool.not_true,Bool.false_eq_true,if_false];generalize hfo:min (a₀.size - lo) mr=n at *;obtain⟨run,rest',g3,hne,hri,hln⟩:=key n st3 (by lia) (by lia) (hr2.trans (hr3.wide (by lia))) hu3;refine wpS_bind (wpS_get ?_)
    try dsimp only
    cases hb:(pendingOf st3).back? with
    | none =>
     try dsimp only
     refine wpS_bind (wpS_modify (wpS_pure ?_));exact tail n st3 run rest' g3 hne hri hln st3 rs g3
    | some e =>
     obtain⟨s1,n1,pw1⟩:=e
     try dsimp only
     generalize power' a₀.size (2 * s1+n1) (2 * s1+n1+n1+n) a₀.size=pw;refine wpS_bind (wpS_mono (wpS_forRange (I:=fun _ c st'=>c=(none,())/\∃rs',Gs ρ κ a₀ st' rs' (run++rest')) (Q:=fun c st'=>c=(none,())/\∃rs',Gs ρ κ a₀ st' rs' (run++rest')) ?_ (fun _ _ h=>h) ⟨rfl,rs,g3⟩) ?_)
     ·rintro x c st4 _ _ ⟨rfl,rs4,g4⟩;refine wpS_bind (wpS_get ?_)
      try dsimp only
      by_cases h1:(pendingOf st4).size>1
      ·rw[if_pos h1];cases hq:(pendingOf st4)[(pendingOf st4).size - 2]? with
       | none=>exact wpS_pure ⟨rfl,rs4,g4⟩
       | some e =>
        obtain⟨e1,e2,older⟩:=e
        try dsimp only
        by_cases ho:older<=pw
        ·rw[if_pos ho];exact wpS_pure ⟨rfl,rs4,g4⟩
        ·rw[if_neg ho];refine wpS_bind (pG C dD ap (by lia) g4 fun st5 rs5 g5 _=> ?_);exact wpS_pure ⟨rfl,rs5,g5⟩
      ·rw[if_neg h1];exact wpS_pure ⟨rfl,rs4,g4⟩
     ·rintro c st4 ⟨rfl,rs4,g4⟩
      try dsimp only
      refine wpS_bind (wpS_modify (wpS_bind (wpS_modify (wpS_pure ?_))));exact tail n st3 run rest' g3 hne hri hln _ rs4 (g4.pow (fun x=>(x.1,x.2.1,pw)) fun x=>rfl)
   ·rw[if_neg hlt];obtain⟨run,rest',g3,hne,hri,hln⟩:=key m st2 hm1 (by lia) hr2 hu2;refine wpS_bind (wpS_get ?_)
    try dsimp only
    cases hb:(pendingOf st2).back? with
    | none =>
     try dsimp only
     refine wpS_bind (wpS_modify (wpS_pure ?_));exact tail m st2 run rest' g3 hne hri hln st2 rs g3
    | some e =>
     obtain⟨s1,n1,pw1⟩:=e
     try dsimp only
     generalize power' a₀.size (2 * s1+n1) (2 * s1+n1+n1+m) a₀.size=pw;refine wpS_bind (wpS_mono (wpS_forRange (I:=fun _ c st'=>c=(none,())/\∃rs',Gs ρ κ a₀ st' rs' (run++rest')) (Q:=fun c st'=>c=(none,())/\∃rs',Gs ρ κ a₀ st' rs' (run++rest')) ?_ (fun _ _ h=>h) ⟨rfl,rs,g3⟩) ?_)
     ·rintro x c st4 _ _ ⟨rfl,rs4,g4⟩;refine wpS_bind (wpS_get ?_)
      try dsimp only
      by_cases h1:(pendingOf st4).size>1
      ·rw[if_pos h1];cases hq:(pendingOf st4)[(pendingOf st4).size - 2]? with
       | none=>exact wpS_pure ⟨rfl,rs4,g4⟩
       | some e =>
        obtain⟨e1,e2,older⟩:=e
        try dsimp only
        by_cases ho:older<=pw
        ·rw[if_pos ho];exact wpS_pure ⟨rfl,rs4,g4⟩
        ·rw[if_neg ho];refine wpS_bind (pG C dD ap (by lia) g4 fun st5 rs5 g5 _=> ?_);exact wpS_pure ⟨rfl,rs5,g5⟩
      ·rw[if_neg h1];exact wpS_pure ⟨rfl,rs4,g4⟩
     ·rintro c st4 ⟨rfl,rs4,g4⟩
      try dsimp only
      refine wpS_bind (wpS_modify (wpS_bind (wpS_modify (wpS_pure ?_))));exact tail m st2 run rest' g3 hne hri hln _ rs4 (g4.pow (fun x=>(x.1,x.2.1,pw)) fun x=>rfl)
 case post =>
  rintro c st' ⟨lo,rs,rfl,g⟩
  dsimp only
  refine wpS_bind (wpS_mono (wpS_forRange (I:=fun x c st''=>∃rs:List (List Keyed),c=(none,())/\Gs ρ κ a₀ st'' rs []/\rs.length<=max 1 (a₀.size - x)) (Q:=fun c st''=>∃rs:List (List Keyed),c=(none,())/\Gs ρ κ a₀ st'' rs []/\rs.length<=1) ?_ ?_ ⟨rs,rfl,g,?_⟩) ?_)
  ·rintro x c st'' _ hx ⟨rs,rfl,g,hl⟩;refine wpS_bind (wpS_get ?_)
   try dsimp only
   by_cases h1:(pendingOf st'').size<=1
   ·rw[if_pos h1];exact wpS_pure ⟨rs,rfl,g,by rw[←g.len];exact h1⟩
   ·rw[if_neg h1];have gl:=g.len;have any:∀b:Prop,[Decidable b]->(if b then (pendingOf st'').size - 2 - 1 else (pendingOf st'').size - 2)+1<(pendingOf st'').size:=fun b _=>by
     split<;>lia
    refine wpS_bind (pG C dD ap (any _) g fun st5 rs5 g5 h5=> ?_);exact wpS_pure ⟨rs5,rfl,g5,by lia⟩
  ·rintro c st'' ⟨rs,rfl,g,hl⟩;exact⟨rs,rfl,g,by lia⟩
  ·have:=AA fun r hr=>(g.rn r hr).1;have:=g.tot;simp only[List.length_nil]at this
   lia
  ·rintro c st'' ⟨rs,rfl,g,hl⟩;refine wpS_pure (h st'' (Array.perm_iff_toList_perm.mp g.pm) g.fl ?_);rw[g.ar,List.append_nil]
   match rs,hl,g.rn with
   | [],_,_=>exact List.Pairwise.nil
   | [r],_,hr=>rw[List.flatten_cons,List.flatten_nil,List.append_nil];exact(hr r (.head _)).2
   | _::_::_,hl,_=>simp only[List.length_cons]at hl;lia
end
end L2
namespace L2
open PySem PySem.W PyProof.Rows PySem.Calls
section
variable {prog:Program}{w:World}{A:Around}{E:Value->Shared->Prop}{s:Shared}{α:Type}{f:Value->α}{lt:α->α->Bool}{d:α}{l:List α}
def fZ (f:Value->α)(lt:α->α->Bool)(l:List α)(v:Value):Int:=((l.countP fun y=>lt y (f v):Nat):Int)
theorem uK (o:Ord lt l){x y:Value}(hx:f x∈l)(hy:f y∈l)(h:lt (f x) (f y)=true):fZ f lt l x<fZ f lt l y :=
 Int.ofNat_lt.mpr (nX (l:=l) (p:=fun z=>lt z (f x)) (q:=fun z=>lt z (f y)) (fun z hz h'=>o.tr z hz _ hx _ hy h' h) ⟨f x,hx,h,o.irr _ hx⟩)
theorem IJ (o:Ord lt l){x y:Value}(hx:f x∈l)(hy:f y∈l):decide (fZ f lt l x<fZ f lt l y)=lt (f x) (f y):=by
 cases h:lt (f x) (f y) with
 | true=>exact decide_eq_true (uK o hx hy h)
 | false =>
  refine decide_eq_false fun h1=> ?_
  by_cases e:f x=f y
  ·unfold fZ at h1;rw[e]at h1;exact Int.lt_irrefl _ h1
  ·rcases o.tot _ hx _ hy e with h2|h2
   ·rw[h]at h2;cases h2
   ·have:=uK (f:=f) o hy hx h2
    lia
theorem nS {vs:List Value}{x:Keyed} (h:x∈(vs.toArray.zip vs.toArray).toList):x.1∈vs/\x.2=x.1:=by
 rw[Array.toList_zip]at h;rw[List.zip_eq_zipWith]at h;have:∀l:List Value,x∈List.zipWith Prod.mk l l->x.1∈l/\x.2=x.1:=by
  intro l
  induction l with
  | nil=>intro h;cases h
  | cons a l ih =>
   intro h;rw[List.zipWith_cons_cons]at h;rcases List.mem_cons.mp h with rfl|h
   ·exact⟨.head _,rfl⟩
   ·exact⟨.tail _ (ih h).1,(ih h).2⟩
 exact this _ h
theorem EB {vs:List Value}{b:Array Keyed} (p:b.toList.Perm (vs.toArray.zip vs.toArray).toList):(b.map (·.2)).toList.Perm vs:=by
 rw[Array.toList_map];refine(p.map _).trans ?_;rw[Array.toList_zip,List.map_snd_zip];exact Nat.le_refl _
theorem MV (o:Ord lt l)(nd:l.Nodup){vs:List Value}(hf:vs.map f=l){out:List Value}(p:out.Perm vs)(up:out.Pairwise fun x y=>fZ f lt l x<fZ f lt l y):out=aY Value.none (fun i j=>lt (l.getD i d) (l.getD j d)) vs:=by
 have hm:∀{x:Value},x∈vs->f x∈l:=fun h=>hf▸List.mem_map.mpr ⟨_,h,rfl⟩;have p2:=i7 (d:=Value.none) (l:=vs) (fun i j=>lt (l.getD i d) (l.getD j d));have pw:=qI (d:=d) o nd;rw[←hf,yC f Value.none d,List.pairwise_map,hf]at pw;refine rQ (lt:=fun x y=>lt (f x) (f y)) (fun x hx=>o.irr _ (hm (p.mem_iff.mp hx))) (fun x hx y hy z hz h1 h2=>o.tr _ (hm (p.mem_iff.mp hx)) _ (hm (p.mem_iff.mp hy)) _ (hm (p.mem_iff.mp hz)) h1 h2) (p.trans p2.symm) ?_ pw;refine up.imp_of_mem fun {x y} hx hy h=> ?_;rw[←IJ (f:=f) o (hm (p.mem_iff.mp hx)) (hm (p.mem_iff.mp hy))];exact decide_eq_true h
theorem NW {vs:List Value}{κ:SortKind} (hf:vs.map f=l) (o:Ord lt l) (nd:l.Nodup)
  (hc:∀i j,i<vs.length->j<vs.length->∀C,C (lt (l.getD i d) (l.getD j d)) s->kas_ask prog w A κ vs i j C s){Q:SortSt->Shared->Prop}
  (h:∀st',(arrOf st').map (·.2)=(aY Value.none (fun i j=>lt (l.getD i d) (l.getD j d)) vs).toArray->failedOf st'=none->Q st' s) :
  wpAny (model prog w) A ((sortRuns').run (SortSt.mk' κ (vs.toArray.zip vs.toArray) #[] 7 none)) (fun r s'=>Q r.2 s') E s:=by
 have hm:∀{x:Value},x∈vs->f x∈l:=fun h=>hf▸List.mem_map.mpr ⟨_,h,rfl⟩;have C:iT prog w A E s κ (fun x=>x.1∈vs/\x.2=x.1) (fun x=>fZ f lt l x.1):=by
  refine⟨fun {x y st Q} hx hy hk hQ=> ?_⟩;rw[lt'_eq];refine wpS_bind (wpS_get ?_);rw[hk];obtain⟨i,hi,ei⟩:=List.getElem_of_mem hx.1;obtain⟨j,hj,ej⟩:=List.getElem_of_mem hy.1;have e:∀(k:Nat) (hk:k<vs.length),l.getD k d=f vs[k]:=fun k hk=>by
   rw[←hf,List.getD_eq_getElem?_getD,List.getElem?_map,List.getElem?_eq_getElem hk];rfl
  have hcc:=hc i j hi hj (fun b s'=>s'=s/\b=decide (fZ f lt l x.1<fZ f lt l y.1)) ⟨rfl,by rw[IJ o (hm hx.1) (hm hy.1),e i hi,e j hj,ei,ej]⟩;unfold kas_ask at hcc;have g:∀(k:Nat) (hk:k<vs.length),vs.getD k Value.none=vs[k]:=fun k hk=>by rw[List.getD_eq_getElem?_getD,List.getElem?_eq_getElem hk];rfl
  rw[g i hi,g j hj,ei,ej]at hcc;refine wpS_bind (wpS_lift (wpAny_attempt (wpAny_mono hcc (fun b s' hb=>⟨hb.1,?_⟩) fun _ _ z=>z.elim)));rw[hb.2];exact wpS_pure hQ
 have ap:Apart (fun x:Keyed=>fZ f lt l x.1) (vs.toArray.zip vs.toArray):=by
  unfold Apart;have e:(vs.toArray.zip vs.toArray).toList.map (fun x:Keyed=>fZ f lt l x.1)=vs.map (fZ f lt l):=by
   show (vs.toArray.zip vs.toArray).toList.map (fZ f lt l∘Prod.fst)=_;rw[←List.map_map,Array.toList_zip,List.map_fst_zip];exact Nat.le_refl _
  rw[e,List.nodup_iff_pairwise_ne,List.pairwise_map];have nd':vs.Pairwise fun x y=>f x≠f y:=by rw[←hf]at nd;exact List.pairwise_map.mp nd
  refine nd'.imp_of_mem fun {x y} hx hy hne h=> ?_;rcases o.tot _ (hm hx) _ (hm hy) hne with h2|h2
  ·have:=uK (f:=f) o (hm hx) (hm hy) h2;lia
  ·have:=uK (f:=f) o (hm hy) (hm hx) h2;lia
 have:=JL (st:=SortSt.mk' κ (vs.toArray.zip vs.toArray) #[] 7 none) (Q:=fun _ st'=>Q st' s) C (fun x hx=>nS hx) ap rfl rfl rfl fun st' p hfl hr=>by
  refine h st' ?_ hfl
  apply Array.toList_inj.mp
  show _=aY Value.none (fun i j=>lt (l.getD i d) (l.getD j d)) vs;refine MV o nd hf (EB p) ?_;rw[Array.toList_map,List.pairwise_map];refine List.Pairwise.imp_of_mem (fun {x y} hx hy h=> ?_) hr;rw[(nS (p.mem_iff.mp hx)).2,(nS (p.mem_iff.mp hy)).2];exact h
 unfold wpS at this;refine wpAny_mono this (fun r s' hr=> ?_) fun _ _ e=>e;rw[hr.1];exact hr.2
theorem G8 {a:Addr}{vs:List Value}{n:Nat}{P:PySem.Fin->Shared->Prop} (f:Value->α) (lt:α->α->Bool) (d:α) {l:List α} (κ:SortKind) (hf:vs.map f=l) (o:Ord lt l) (nd:l.Nodup) (ho:s.heap.get? a=some (seqObj "list" vs.toArray n)) (hz:vs.length<=sizeLine)
  (hk:2<=vs.length->∀h',eL a s.heap h'->∀R:SortKind->Shared->Prop,R κ { s with heap:=h' }->wpAny (model prog w) A (keyKind' vs.toArray) R (fun _ _=>False) { s with heap:=h' })
  (hc:2<=vs.length->∀h',eL a s.heap h'->∀i j,i<vs.length->j<vs.length->∀C,C (lt (l.getD i d) (l.getD j d)) { s with heap:=h' }->kas_ask prog w A κ vs i j C { s with heap:=h' })
  (h:∀h' e,eL a s.heap h'->h'.get? a=some (seqObj "list" (aY Value.none (fun i j=>lt (l.getD i d) (l.getD j d)) vs).toArray e)->P (.done (.ret .none)) { s with heap:=h' }) :
  wpAny (model prog w) A (Builtin.«list.sort» ⟨[.ref a],[]⟩) P E s:=by
 generalize hg1:s.heap.update a (Obj.mapSeq fun _=>(#[]:Array Value))=g1;have sb1:Heap.SameBut a s.heap g1:=hg1▸Heap.SameBut.update s.heap a (Obj.mapSeq fun _=>(#[]:Array Value));obtain⟨e1,o1⟩:∃e1,g1.get? a=some (seqObj "list" #[] e1):=hg1▸⟨_,get?_update_seq ho fun _=> #[]⟩;have lt1:a<g1.objs.size:=Heap.lt_size o1;have kp:eL a s.heap ((g1.push (seqObj "tuple" vs.toArray 0)).push (seqObj "list" #[] 0)):=fun b o hb q =>
  Heap.get?_push_of_some _ (Heap.get?_push_of_some _ ((sb1.2 b hb).trans q))
 have o3:((g1.push (seqObj "tuple" vs.toArray 0)).push (seqObj "list" #[] 0)).get? a=some (seqObj "list" #[] e1):=Heap.get?_push_of_some _ (Heap.get?_push_of_some _ o1);generalize hg3:(g1.push (seqObj "tuple" vs.toArray 0)).push (seqObj "list" #[] 0)=g3 at kp o3;have fin:∀out:List Value,out.length=vs.length->out=aY Value.none (fun i j=>lt (l.getD i d) (l.getD j d)) vs->wpAny (model prog w) A (do
   let touched:=(←seqEpoch a) !=e1
   Builtin.List.listUpdate (.ref a) fun _=>out.toArray
   if let some e:=(none:Option Value) then rule "list.sort.comparison-raised";throw e
   if touched then rule "list.sort.modified";raiseError "ValueError" "list modified during sort"
   ret .none) P E { s with heap:=g3 }:=by
  intro out hl ho';obtain⟨e2,o4⟩:∃e2,(g3.update a (Obj.mapSeq fun _=>out.toArray)).get? a=some (seqObj "list" out.toArray e2):=⟨_,get?_update_seq o3 fun _=>out.toArray⟩
  refine wpAny_bind (seqEpoch_at (s:={ s with heap:=g3 }) o3 rfl ?_);refine wpAny_bind (listUpdate_at (s:={ s with heap:=g3 }) o3 rfl ?_ (Nat.zero_le _) (by rw[List.size_toArray];lia));simp only[bne_self_eq_false,Bool.false_eq_true,if_false];refine wpAny_pure (h _ e2 (fun b o hb q=> ?_) (ho'▸o4));exact((Heap.SameBut.update g3 a (Obj.mapSeq fun _=>out.toArray)).2 b hb).trans (kp b o hb q)
 rw[list_sort_plain];refine wpAny_bind (listItems_at ho rfl (wpAny_bind (listUpdate_at ho rfl ?_ (by rw[List.size_toArray];lia) (Nat.zero_le _))));rw[hg1];refine wpAny_bind (seqEpoch_at (s:={ s with heap:=g1 }) o1 rfl ?_);refine wpAny_bind (wpAny_newTuple ?_ (by exact hz));refine wpAny_bind (wpAny_newList ?_ (Nat.zero_le _));refine wpAny_holding ?_;show wpAny (model prog w) A _ P E { s with heap:=(g1.push (seqObj "tuple" vs.toArray 0)).push (seqObj "list" #[] 0) };rw[hg3]
 dsimp only
 by_cases h2:vs.toArray.size<2
 ·rw[if_pos h2,if_pos h2];have h2':vs.length<2:=by rwa [List.size_toArray]at h2
  refine wpAny_bind (wpAny_pure ?_);rw[StateT.run_pure];refine wpAny_bind (wpAny_pure ?_)
  dsimp only
  have ez:(arrOf (SortSt.mk' general' (vs.toArray.zip vs.toArray) #[] 7 none)).map (·.2)=vs.toArray:=by
   show (vs.toArray.zip vs.toArray).map (·.2)=_
   apply Array.toList_inj.mp
   rw[Array.toList_map,Array.toList_zip,List.map_snd_zip];exact Nat.le_refl _
  rw[ez];exact fin vs rfl (by unfold aY;rw[if_pos h2'])
 ·rw[if_neg h2,if_neg h2];have h2':2<=vs.length:=by rw[List.size_toArray]at h2;lia
  refine wpAny_bind (wpAny_mono (hk h2' _ kp (fun κ' s'=>κ'=κ/\s'={ s with heap:=g3 }) ⟨rfl,rfl⟩) ?_ fun _ _ x=>x.elim);rintro _ _ ⟨rfl,rfl⟩;refine wpAny_bind (wpAny_mono (NW (d:=d) (Q:=fun st' s'=>(arrOf st').map (·.2)=(aY Value.none (fun i j=>lt (l.getD i d) (l.getD j d)) vs).toArray/\failedOf st'=none/\s'={ s with heap:=g3 }) hf o nd (hc h2' _ kp) fun st' a1 a2=>⟨a1,a2,rfl⟩) ?_ fun _ _ e=>e);rintro ⟨⟨⟩,st'⟩ _ ⟨har,hfl,rfl⟩
  dsimp only
  rw[har,hfl];exact fin _ (i7 _).length_eq rfl
theorem BI {p:Addr}{vs:List Value}{Q:Value->Shared->Prop} (f:Value->α) (lt:α->α->Bool) (d:α) {l:List α} (κ:SortKind) (hf:vs.map f=l) (o:Ord lt l) (nd:l.Nodup) (hl:s.heap.IsList p vs.toArray) (hz64:vs.length<=sizeLine)
  (hk:2<=vs.length->∀h',(∀b o,s.heap.get? b=some o->h'.get? b=some o)->∀R:SortKind->Shared->Prop,R κ { s with heap:=h' }->wpAny (model prog w) A.in1.in1 (keyKind' vs.toArray) R (fun _ _=>False) { s with heap:=h' })
  (hc:2<=vs.length->∀h',(∀b o,s.heap.get? b=some o->h'.get? b=some o)->∀i j,i<vs.length->j<vs.length->∀C,C (lt (l.getD i d) (l.getD j d)) { s with heap:=h' }->kas_ask prog w A.in1.in1 κ vs i j C { s with heap:=h' })
  (h:∀D h' e,s.heap.objs.size<=D->(∀b o,s.heap.get? b=some o->h'.get? b=some o)->h'.get? D=some (seqObj "list" (aY Value.none (fun i j=>lt (l.getD i d) (l.getD j d)) vs).toArray e)->Q (.ref D) { s with heap:=h' }) :
  wpAny (model prog w) A (call (.builtin "sorted") [.ref p]) Q E s:=by
 refine Calls.call_function_entry kind_sorted plain_sorted entry_sorted (args_sorted1 _) ?_;unfold Builtin.«sorted»;refine wpAny_bind (m:=checkCount "sorted" 1 1 _) (wpAny_pure (wpAny_bind (collect_list hl ?_ hz64)));refine wpAny_bind (wpAny_newList ?_ hz64);generalize hq:(s.heap.push (seqObj "list" #[] 0)).update s.heap.objs.size (Obj.mapSeq (·++vs.toArray))=q;have qs:q.objs.size=s.heap.objs.size+1:=by rw[←hq,Heap.size_update,size_push']
 have qk:∀b o,s.heap.get? b=some o->q.get? b=some o:=fun b o e=>by
  have bl:b<s.heap.objs.size:=Heap.lt_size e;rw[←hq,Heap.get?_update_ne _ _ _ _ (Nat.ne_of_lt bl),Heap.get?_push_ne _ _ _ (Nat.ne_of_lt bl)];exact e
 have oD:(q.push (seqObj "list" vs.toArray 0)).get? q.objs.size=some (seqObj "list" vs.toArray 0):=Heap.get?_push_size _ rfl;have kD:∀h',eL q.objs.size (q.push (seqObj "list" vs.toArray 0)) h'->∀b o,s.heap.get? b=some o->h'.get? b=some o:=fun h' k b o e =>
  k b o (Nat.ne_of_lt (by rw[qs];exact Nat.lt_succ_of_lt (Heap.lt_size e))) (Heap.get?_push_of_some _ (qk b o e))
 refine wpAny_bind (wpAny_holding (wpAny_call_entry slot_list_sort ⟨_,oD,rfl⟩ entry_list_sort ?body (args_list_sort _)))
 case body =>
  refine G8 (s:={ s with heap:=q.push (seqObj "list" vs.toArray 0) }) f lt d κ hf o nd oD hz64 (fun h2 h' k=>hk h2 h' (kD h' k)) (fun h2 h' k=>hc h2 h' (kD h' k)) fun h' e k o'=> ?_;exact⟨_,rfl,wpAny_pure ⟨_,rfl,h _ h' e (by show s.heap.objs.size<=q.objs.size;rw[qs];exact Nat.le_succ _) (kD h' k) o'⟩⟩
end
end L2
namespace L2
open PySem PySem.W PyProof.Rows PySem.Calls
section
variable {X:Cx}{H:Hp}
def vK:V->Key
 | .int i=> .inl i
 | .str x=> .inr x
 | _=> .inl 0
theorem O4:∀k:Key,vK (kV k)=k
 | .inl _=>rfl
 | .inr _=>rfl
def AH (H:Hp):Value->List Key
 | .ref p=>match H p with|some (.tup xs)=>xs.map vK|_=>[]
 | _=>[]
theorem FK {p:Addr}{r:List Key} (e:H p=some (.tup (r.map kV))):AH H (.ref p)=r:=by
 show (match H p with|some (.tup xs)=>xs.map vK|_=>[])=r;rw[e];show (r.map kV).map vK=r;rw[List.map_map];exact(List.map_congr_left fun k _=>O4 k).trans (List.map_id _)
theorem wA:∀{vs:List V}{rs:List (List Key)}{us:List Value},KRows H vs rs->Vals vs us->us.map (AH H)=rs
 | _,_,_,.nil,.nil=>rfl
 | _::_,r::_,_::_,.cons ⟨p,hv,e⟩ q,.cons rv rt=>by
  subst hv;cases rv;rw[List.map_cons,FK e,wA q rt]
def xL (K:PySem.W.Frag):List V->Hp->VK->Prop:=fun xs H Q=>∃p vs rs sh,xs=[.ref p]/\SqL K H p vs/\KRows H vs rs/\rs.Nodup/\(∀r∈rs,r.map b7=sh)/\sh≠[]/\∀l,H l=none->Q (.ref l) (upd H l (.lst (uO rs vs)))
theorem uB:b9 X (.builtin "sorted") (xL X.K):=by
 intro pins s σ H xs us Q I r h;obtain⟨p,vs,rs,sh,rfl,hq,kr,nd,hs,hn,q⟩:=h;obtain⟨u,rfl,rx⟩:=fD r;cases rx;obtain⟨its,rv,pl,hz⟩:=I.list hq;have hl:=rv.length;have hT:∃T:Value,(T==T)=true/\(T !=Value.type "tuple")=true/\∀(h':Heap) (k:Key) (u:Value),sh.head? =some (b7 k)->RelV (kV k) u->Looks (model X.prog X.w) h' (typeOf u) T:=by
  cases sh with
  | nil=>exact absurd rfl hn
  | cons b sh =>
   cases b with
   | true =>
    refine⟨.type "int",rfl,by decide,fun h' k u hk ru=> ?_⟩;cases k with
    | inl i=>obtain⟨t,rfl⟩:=ru;exact Looks.of_pure rfl
    | inr x=>cases hk
   | false =>
    refine⟨.type "str",rfl,by decide,fun h' k u hk ru=> ?_⟩;cases k with
    | inl i=>cases hk
    | inr x=>obtain⟨t,rfl⟩:=ru;exact Looks.of_pure rfl
 obtain⟨T,t1,t2,t3⟩:=hT;refine BI (AH H) cF [] (tuples' true) (wA kr rv) (wG ⟨sh,hs⟩) nd pl.isList (by lia) (fun h2 h' kp R hR=> ?_) (fun h2 h' kp i j hi hj C hC=> ?_) fun D h' e hD kp o'=> ?_
 ·obtain⟨fs,f1,f2,f3⟩:=m9 I kp (fun k u=>t3 h' k u) kr rv hs hn;refine kat_kind (s:={ s with heap:=h' }) f1 (by lia) f3 t1 ?_;rw[t2];exact hR
 ·obtain⟨p1,r1,x1,y1,z1⟩:=kr.get (i:=i) (List.getElem?_eq_getElem (by lia));obtain⟨p2,r2,x2,y2,z2⟩:=kr.get (i:=j) (List.getElem?_eq_getElem (by lia));obtain⟨u1,v1,w1⟩:=rv.get (List.getElem?_eq_getElem (show i<vs.length by lia));obtain⟨u2,v2,w2⟩:=rv.get (List.getElem?_eq_getElem (show j<vs.length by lia));rw[x1]at w1;rw[x2]at w2;cases w1;cases w2;obtain⟨o1,us1,n1,g1,c1,d1,l1⟩:=hE I z1;obtain⟨o2,us2,n2,g2,c2,d2,l2⟩:=hE I z2;have s1:=hs r1 (List.mem_of_getElem? y1);have s2:=hs r2 (List.mem_of_getElem? y2);have e1:=l1.length;have e2:=l2.length;rw[List.length_map]at e1 e2;have e3:r1.length=r2.length:=by rw[←List.length_map (f:=b7),s1,←s2,List.length_map]
  unfold kas_ask;rw[List.getD_eq_getElem?_getD,List.getD_eq_getElem?_getD,v1,v2];refine kat_lt (s:={ s with heap:=h' }) (kp _ _ g1) d1 (kp _ _ g2) d2 ?_;rw[show decide (us1.toArray.size<us2.toArray.size)=false from decide_eq_false (by rw[List.size_toArray,List.size_toArray];lia)];refine wK 0 (s1.trans s2.symm) l1 l2 ?_;have ec:iE rs i j=cF r1 r2:=by
   unfold iE;rw[List.getD_eq_getElem?_getD,List.getD_eq_getElem?_getD,y1,y2];rfl
  rw[show cF (rs.getD i []) (rs.getD j [])=cF r1 r2 from ec]at hC;exact hC
 ·exact⟨.ref D,_,I.laid (t':=s.toks) kp hD (show ObjOk X.prog X.w _ h' _ (.lst _) from⟨by show (aY _ _ _).length<=_;rw[kX];exact hz,_,e,oE _ rv,o'⟩),rfl,q _ (I.hok.fresh hD)⟩
end
end L2
namespace L2
open PySem PySem.W PyProof.Rows
section
variable {prog:Program}{w:World}{A:Around}{E:Value->Shared->Prop}{s:Shared}
end
open Sem (wp) in
open AutoSeq1 (wpAny_loadPart') in
section
variable {prog:Program}{w:World}{A:Around}{E:Value->Shared->Prop}{s:Shared}
end
end L2
namespace L2
open PySem PySem.W PyProof.Rows
section
variable {prog:Program}{w:World}{A:Around}{E:Value->Shared->Prop}{s:Shared}
end
section
variable {X:Cx}
end
end L2
namespace L2
open PySem PySem.W PyProof.Rows
section
variable {K:PySem.W.Frag}{H:Hp}{σ:St}{Q:VK}{R:It->Hp->Prop}{nx bk ct:St->Hp->Prop}{rt:VK}
theorem EN {p:Addr}{vs:List V}{rs:List (List Key)}{sh:List Bool} (e:SqL K H p vs) (kr:KRows H vs rs) (nd:rs.Nodup) (hs:∀r∈rs,r.map b7=sh) (hn:sh≠[]) (h:∀l ws H',H l=none->Same H H'->H' l=some (.lst ws)->KRows H' ws (fG rs)->Q (.ref l) H'):xL K [.ref p] H Q :=
 ⟨p,vs,rs,sh,rfl,e,kr,nd,hs,hn,d9 fun l H' n S e=>h l _ H' n S e ((qF kr).same S)⟩
end
end L2
namespace L2
open PySem PySem.W PyProof.Rows PySem.Calls
section
variable {prog:Program}{w:World}{A:Around}{E:Value->Shared->Prop}{s:Shared}{d:Addr}{α:Type}
end
section
variable {X:Cx}
end
end L2
namespace L2
open PySem PySem.W PyProof.Rows
section
variable {prog:Program}{w:World}{A:Around}{E:Value->Shared->Prop}{s:Shared}
variable {κ:Type}[DecidableEq κ]{knd:HeapKind prog w κ}
end
section
variable {A:Around}{s:Shared}
end
section
variable {prog:Program}{w:World}{A:Around}{E:Value->Shared->Prop}{s:Shared}
variable {κ:Type}[DecidableEq κ]{knd:HeapKind prog w κ}
end
section
variable {X:Cx}{pins:List (Addr×Obj)}{σ:St}{H:Hp}{s:Shared}
end
section
variable {X:Cx}
theorem jQ {K:PySem.W.Frag}{H:Hp}{n:Nat}:∀{vs ws:List V}{rs:List (List Key)},KRows H vs rs->KRows H ws rs->Paired (DeepEq K H (n+1)) vs ws
 | _,_,_,.nil,.nil=> .nil
 | _,_,r::_,.cons ⟨p,e1,h1⟩ t1,.cons ⟨q,e2,h2⟩ t2=>by
  subst e1;subst e2;refine .cons (DeepEq.tup h1 h2 (qZ ?_)) (jQ t1 t2);rw[List.all_eq_true];intro v hv;obtain⟨k,_,rfl⟩:=List.mem_map.mp hv;cases k<;>rfl
end
section
variable {X:Cx}
theorem GM {K:PySem.W.Frag}(h:X.K=K:=by rfl):OpR X (binaryOp .Add) (B9 K):=by subst h;exact KU
theorem HR {K:PySem.W.Frag}{H:Hp}{Q:VK}{l b:Addr}{xs zs:List V} (e:H l=some (.tup xs)) (e2:H b=some (.tup zs)) (h1:xs≠[]) (h2:zs≠[]) (hn:xs.length+zs.length<=sizeLine) (h:∀p H',H p=none->Same H H'->H' p=some (.tup (xs++zs))->Q (.ref p) H'):B9 K (.ref l) (.ref b) H Q:=by
 exact⟨l,b,xs,zs,rfl,rfl,SqT.of e,SqT.of e2,h1,hn,(fun z=>absurd z h2),fun _=>d9 h⟩
end
end L2
namespace L2
open PySem PySem.Spec PyProof.Rows
section
variable {P:Program}{w:World}
end
section
variable {P:Program}{w:World}{K:PySem.W.Frag}{mg:Str->Option Value}{base:Heap}
end
section
variable {X:Cx}{args:Arguments}{body:Expr}{lsc:Scope}{pos:Pos}{cs:List (Str×Addr)}{cL PL:Addr}
end
section
variable {P:Program}{w:World}{K:PySem.W.Frag}{mg:Str->Option Value}{base:Heap}
end
end L2
namespace L2
open PySem PySem.W PyProof.Rows
section
variable {P:Program}{w:World}{K:PySem.W.Frag}{mg:Str->Option Value}{base:Heap}
end
end L2
namespace L2
open PySem PySem.W PyProof.Rows
end L2
namespace L2
open PySem PySem.W PyProof.Rows
section
variable {X:Cx}{rest a:List Stmt}{u v:gE->(St->V->Hp->Prop)->St->Hp->Prop}{c:Expr}{tc:TT}{pos:Pos}
end
end L2
namespace L2
open PySem PySem.W PyProof PyProof.Rows
section
variable {X:Cx}{pins:List (Addr×Obj)}{σ:St}{H:Hp}{s:Shared}{a:Addr}{k:Option Str}{v:V}{u r:Value}{A:Around}{E:Value->Shared->Prop}{kvs:List (Option Str×V)}
end
section
variable {X:Cx}{o i value:Expr}{pos pos':Pos}{td ty tv:TE}
end
section
variable {X:Cx}
end
section
variable {P:Program}{w:World}{H:Hp}{Q:VK}{σ:St}{nx bk ct:St->Hp->Prop}{rt:VK}{R:It->Hp->Prop}{td ty tv:TE}{p:Addr}{kvs:List (Option Str×V)}{v:V}
end
end L2
namespace L2
open PySem PySem.W PyProof PyProof.Rows
end L2
namespace L2
open PySem PySem.W PyProof.Rows PySem.Calls
section
variable {prog:Program}{w:World}{A:Around}{E:Value->Shared->Prop}{s:Shared}
variable {R:Result->Shared->Prop}
end
end L2
namespace L2
open PySem PySem.W PyProof.Rows PySem.Calls
section
variable {prog:Program}{w:World}{A:Around}{E:Value->Shared->Prop}{s:Shared}
end
end L2
namespace L2
open PySem PySem.W PyProof.Rows PySem.Calls
section
variable {prog:Program}{w:World}{A:Around}{E:Value->Shared->Prop}{s:Shared}{r:Addr}
variable {it a:Addr}{f:Value}{i n ep:Nat}{o:Obj}{es:Array (Int×Value)}{t:SetTable}
variable {tp:Addr}{ot:Obj}{ps:List Nat}{ec:Nat}
end
end L2
namespace L2
open PySem PySem.W PyProof.Rows PySem.Calls
section
variable {prog:Program}{w:World}{A:Around}{E:Value->Shared->Prop}{s:Shared}{a:Addr}{o:Obj}
variable {es:Array (Int×Value)}{ep:Nat}{t:SetTable}
end
end L2
namespace L2
open PySem PySem.W PyProof.Rows PySem.Calls
section
variable {prog:Program}{w:World}{A:Around}{E:Value->Shared->Prop}{s:Shared}{a:Addr}{o:Obj}{ss:List Str}
end
end L2
namespace L2
open PySem PySem.W PyProof.Rows PySem.Calls
section
variable {X:Cx}
variable {H:Hp}{Q:VK}{w:World}
end
end L2
namespace L2
open PySem PySem.Spec PyProof.Rows
section
variable {M:Model}{A:Around}{E:Value->Shared->Prop}{s:Shared}
end
section
variable {X:Cx}{scope:Scope}{cl:List (Str×Addr)}{N:List Str}{nl:Nat}{ci:List Nat}{y0:Str}{pins:List (Addr×Obj)}{σ:St}{H2:Hp}{s2:Shared}{fp:List Addr}
end
section
variable {X:Cx}{scope:Scope}{cl:List (Str×Addr)}{N:List Str}{nl:Nat}{ci:List Nat}{y0:Str}{tg elt iter:Expr}{ifs:List Expr}{pos:Pos}{wi:TI}{g:TG}{ti:TT}{te:TE}
end
end L2
namespace L2
open PySem PySem.Spec PyProof.Rows
end L2
namespace L2
open PySem PySem.Spec PyProof.Rows PySem.W
def a8 (X:Cx)(E:XK)(scope:Scope)(cl:List (Str×Addr))(N:List Str)(C:Addr)(s0:Shared)(H0:Hp)(fp:List Addr):Cx :=
 { aS X scope cl N C s0 H0 fp with xe:=fun e s'=>∃pins σ H1 s1,Inv (aS X scope cl N C s0 H0 fp) pins σ H1 s1/\CXE X.prog X.w X.stack H1 s1 E e s' }
section
variable {X:Cx}{E:XK}{scope:Scope}{cl:List (Str×Addr)}{N:List Str}{C:Addr}{s0 s:Shared}{H0 H:Hp}{fp:List Addr}{pins:List (Addr×Obj)}{σ:St}
theorem JH (I:Inv (a8 X E scope cl N C s0 H0 fp) pins σ H s):Inv (aS X scope cl N C s0 H0 fp) pins σ H s :=
 ⟨⟨I.ok.mod,I.ok.kind,I.ok.glob,I.ok.blt,I.ok.above,I.ok.inj,I.ok.has,I.ok.cab,I.ok.hd,I.ok.frames,I.ok.stk,I.ok.exf,I.ok.bs,I.ok.bsz,I.ok.noex,I.ok.exfs,I.ok.funs,I.ok.frf⟩,I.os,I.bare,I.base,I.loc,I.cell,I.free,I.freeC,I.pin,I.hok,I.len⟩
theorem N2 (I:Inv (aS X scope cl N C s0 H0 fp) pins σ H s):Inv (a8 X E scope cl N C s0 H0 fp) pins σ H s :=
 ⟨⟨I.ok.mod,I.ok.kind,I.ok.glob,I.ok.blt,I.ok.above,I.ok.inj,I.ok.has,I.ok.cab,I.ok.hd,I.ok.frames,I.ok.stk,I.ok.exf,I.ok.bs,I.ok.bsz,I.ok.noex,I.ok.exfs,I.ok.funs,I.ok.frf⟩,I.os,I.bare,I.base,I.loc,I.cell,I.free,I.freeC,I.pin,I.hok,I.len⟩
theorem IK:jE (CXE X.prog X.w) (a8 X E scope cl N C s0 H0 fp) E:=fun pins σ H s e s' I h=>⟨pins,σ,H,s,JH I,h⟩
end
section
variable {X:Cx}{scope:Scope}{cl:List (Str×Addr)}{N:List Str}{nl:Nat}{ci:List Nat}{tg elt iter:Expr}{ifs:List Expr}{pos:Pos}{wi:TI}{g:TG}{ti:TT}{te:TE}{E0x:XK}
theorem qR {pins:List (Addr×Obj)}{σ:St}{H2:Hp}{s2:Shared}{fp:List Addr}{it:Addr}{J:It}{tn:Nat->Heap->Prop}{E:Value->Shared->Prop}{RR:Value->Addr->Result->Shared->Prop}{fin:List V->Hp->Prop}
  (hc:X.calm=true)(B:Blk X scope cl N nl ci)(hg:∀C s0 H0 fp,PG (a8 X E0x scope cl N C s0 H0 fp) tg g)(hi:∀C s0 H0 fp,PF (a8 X E0x scope cl N C s0 H0 fp) ifs ti)(he:∀C s0 H0 fp,PE (a8 X E0x scope cl N C s0 H0 fp) elt te)
  (I2:Inv X pins σ H2 s2)(T:lG X.prog X.w X.K tg J fp it tn)(st2:tn 0 s2.heap)(f2:∀b∈fp,eO X pins H2 b)(hW:eV J g ti te (bG nl ci σ) fin H2)
  (hxn:∀(D C:Addr) (pB:List (Addr×Obj)) (σB:St) (H1:Hp) (s1:Shared) (e:Value) (s':Shared),s2.heap.objs.size<=C->Inv (aS X scope cl N C s2 H2 fp) pB σB H1 s1->CXE X.prog X.w X.stack H1 s1 E0x e s'->notedBy (model X.prog X.w) X.A (compEnvC scope cl C X.env) (fun e s''=>RR (.ref D) C (.error e) s'') e s')
  (hfin:∀(D C:Addr) (s':Shared) (H':Hp) (ys:List V) (oC:Obj) (m:Str->Option Value),H' D=none->Inv X (pins++[(C,oC)]) σ (upd H' D (.lst ys)) s'->s'.heap.Ns C m->s2.heap.objs.size<=C->fin ys H'->RR (.ref D) C (.ok .next) s') :
  wpAny (model X.prog X.w) X.A (newList []) (fun acc s₃=>wpAny (model X.prog X.w) X.A (newFunctionEnv scope X.env.globals cl [] X.env.qual none .none (some X.env)) (fun cenv s₄=>cenv.frame=X.env.frame ∧
   codeAny (model X.prog X.w) X.A (.compStart (.ListComp elt [⟨tg,iter,ifs,0⟩] scope pos) 0 (.ref it) acc { cenv with scope:=relabel scope X.env }) (RR acc cenv.locals) s₄) E s₃) E s2:=by
 obtain⟨W,⟨m0,w0⟩,turn⟩:=hW;refine wpAny_newObj_type (wpAny_newFunctionEnv B.nocell (by intro y hy;simp at hy) (fun h1 hns1 hsb1=> ?_) B.kind)
 dsimp only at hns1 hsb1 ⊢
 generalize hH2:s2.heap.push { cls:= .type "list",dict:=none,data:= .seq ([]:List Value).toArray }=G2 at hns1 hsb1 ⊢;have hCs:G2.objs.size=s2.heap.objs.size+1:=by rw[←hH2,Heap.size_push]
 generalize hCe:G2.objs.size=C at hns1 hsb1 hCs ⊢;have hDC:s2.heap.objs.size≠C:=by rw[hCs];exact Nat.ne_of_lt (Nat.lt_succ_self _)
 have hCle:s2.heap.objs.size<=C:=by rw[hCs];exact Nat.le_succ _
 have old:∀b o,s2.heap.get? b=some o->h1.get? b=some o:=fun b o e=>hsb1.extBut b o (by rw[hCs];exact Nat.ne_of_lt (Nat.lt_succ_of_lt (Heap.lt_size e))) (Heap.get?_push_of_some _ (hH2▸Heap.get?_push_of_some _ e));have hacc:h1.get? s2.heap.objs.size=some { cls:= .type "list",data:= .seq ([]:List Value).toArray 0 }:=hsb1.extBut _ _ hDC (Heap.get?_push_of_some _ (hH2▸Heap.get?_push_size _ rfl));have fo:∀b∈fp,∃o,s2.heap.get? b=some o:=fun b hb=>let ⟨o,e,_⟩:=T.obj 0 _ st2 b hb;⟨o,e⟩;have lt2:∀b∈fp,b<s2.heap.objs.size:=fun b hb=>let ⟨o,e⟩:=fo b hb;Heap.lt_size e;have hDfp:s2.heap.objs.size∉fp:=fun z=>Nat.lt_irrefl _ (lt2 _ z);have hCfp:C∉fp:=fun z=>Nat.lt_irrefl _ (Nat.lt_of_lt_of_le (lt2 _ z) hCle);generalize hDe:s2.heap.objs.size=D at hCs hDC hCle hacc hDfp lt2;have loop:∀s3:Shared,s3={ s2 with heap:=h1,toks:=s2.toks+([]:List (Str×Value)).length } →
   codeAny (model X.prog X.w) X.A (.compLoop (.ListComp elt [⟨tg,iter,ifs,0⟩] scope pos) 0 (.ref it) (.ref D) (compEnvC scope cl C X.env)) (RR (.ref D) C) s3:=by
  rintro s3 rfl;have I4:Inv (a8 X E0x scope cl N C s2 H2 fp) [] (bG nl ci σ) H2 { s2 with heap:=h1,toks:=s2.toks+([]:List (Str×Value)).length }:=N2 (pA B I2 f2 fo (by rw[hDe];exact hCle) hns1 old);have fpk:∀{H':Hp},(∀b∈fp,H' b=none)->∀b∈fp,eO (a8 X E0x scope cl N C s2 H2 fp) [] H' b:=fun hn b hb =>
   ⟨hn b hb,(I4.ok.exf b hb).1,I4.ok.exfs b hb,.inl hb,(I4.ok.exf b hb).2,fun p hp=>by cases hp⟩
  have hDX:∀x c,(a8 X E0x scope cl N C s2 H2 fp).env.cells.lookup x=some c->c≠D:=fun x c e=>by
   obtain⟨v,o,ho,_⟩:=I2.cell x c (B.sub x c e);rw[←hDe];exact Nat.ne_of_lt (Heap.lt_size ho)
  have hDL:D≠(a8 X E0x scope cl N C s2 H2 fp).env.locals:=hDC;have hDf:D∉(a8 X E0x scope cl N C s2 H2 fp).fs:=fun z=>by
   rcases List.mem_cons.mp (I2.stkSub D z) with q|q
   ·exact Nat.lt_irrefl _ (by have:=I2.lt;rw[hDe,←q]at this;exact this)
   ·exact I2.nofs (by rw[hDe];exact Nat.le_refl _) q
  refine pD (fun n s'=>∃i ys its k H',W i n ys H'/\Inv (a8 X E0x scope cl N C s2 H2 fp) [] (bG nl ci σ) H' s'/\tn i s'.heap/\(∀b∈fp,H' b=none)/\H' D=none ∧
   s'.heap.get? D=some { cls:= .type "list",data:= .seq its.toArray k }/\Vals ys its/\ys.length<=sizeLine) ?_ m0 ?_
  ·rintro n s' ⟨i,ys,its,k,H',w',I',st',fr',hD',eD,rv,hz⟩;have IP:Inv (a8 X E0x scope cl N C s2 H2 fp) [(D,{ cls:= .type "list",data:= .seq its.toArray k })] (bG nl ci σ) H' s':=I'.pins_of fun p hp=>by
    obtain rfl:p=_:=by simpa using hp
    exact⟨eD,hD',hDL,hDf,fun v z=>by cases z⟩
   have fpD:∀{H'':Hp},(∀b∈fp,H'' b=none)->∀b∈fp,eO (a8 X E0x scope cl N C s2 H2 fp) [(D,{ cls:= .type "list",data:= .seq its.toArray k })] H'' b:=fun hn b hb =>
    ⟨hn b hb,(I4.ok.exf b hb).1,I4.ok.exfs b hb,.inl hb,(I4.ok.exf b hb).2,fun p hp=>by
     obtain rfl:p=_:=by simpa [a8,aS] using hp
     exact fun z=>hDfp ((show D=b from z)▸hb)⟩
   rcases turn i n ys H' w' with⟨stop,q⟩|⟨go,step⟩
   ·refine thn (T.done (a8 X E0x scope cl N C s2 H2 fp) rfl rfl rfl hc i _ s' (bG nl ci σ) H' _ IP (fpD fr') st' stop) fun r s'' ⟨hr,I''⟩=> ?_;subst hr;have eD2:=(I''.pin (D,_) (List.mem_append_right _ List.mem_cons_self)).1;have J1:Inv (a8 X E0x scope cl N C s2 H2 fp) [] (bG nl ci σ) (upd H' D (.lst ys)) s'' :=
     (I''.pins_of (pins':=[]) fun p hp=>by cases hp).track hD' eD2 rv hz (by show s2.heap.objs.size<=D;rw[hDe];exact Nat.le_refl _) hDL hDX fun p hp=>by cases hp
    have K1:Inv X pins σ (upd H' D (.lst ys)) s'':=nE I2 f2 (JH J1);obtain⟨mC,nsC,_⟩:=J1.loc;obtain⟨oC,es,ep,hoC,hdC,rC⟩:=id nsC;refine hfin D C s'' H' ys oC mC hD' (K1.pins_of fun p hp=> ?_) nsC (by rw[hDe];exact hCle) q;rcases List.mem_append.mp hp with hp|hp
    ·exact K1.pin p (List.mem_append_right _ hp)
    ·obtain rfl:p=(C,oC):=by simpa using hp
     refine⟨hoC,J1.free,Nat.ne_of_gt (Nat.lt_of_lt_of_le I2.lt (by rw[hDe];exact hCle)),I2.nofs (by rw[hDe];exact hCle),fun v z=> ?_⟩;rw[hdC]at z;cases z
   ·refine thn (T.item (a8 X E0x scope cl N C s2 H2 fp) rfl rfl rfl hc i _ s' (bG nl ci σ) H' _ IP (fpD fr') st' go) fun r s4 ⟨u,hr,h4⟩=> ?_;subst hr;refine thn h4 fun _ s5 ⟨x,H5,I5,r5,y5,st5,fr5⟩=> ?_;have I5':=I5.pinned (fpD fr5) (T.obj _ _ st5);refine wpAny_mono (hg C s2 H2 fp _ s5 (bG nl ci σ) H5 x u _ I5' r5 (step x H5 y5)) (fun _ s6 ⟨σ6,H6,I6,⟨hl6,hk6⟩,q6⟩=> ?_) fun e s' ⟨pB,σB,H1,s1,J,hx⟩=>hxn D C pB σB H1 s1 e s' (by rw[hDe];exact hCle) J hx;refine wpAny_mono (hi C s2 H2 fp _ s6 σ6 H6 _ I6 q6) (fun b s7 ⟨H7,I7,q7⟩=> ?_) fun e s' ⟨pB,σB,H1,s1,J,hx⟩=>hxn D C pB σB H1 s1 e s' (by rw[hDe];exact hCle) J hx;have pinD:∀{pp:List (Addr×Obj)}{σx:St}{Hx:Hp}{sx:Shared},Inv (a8 X E0x scope cl N C s2 H2 fp) ([(D,({ cls:= .type "list",data:= .seq its.toArray k }:Obj))]++eK fp s5.heap) σx Hx sx →
      sx.heap.get? D=some { cls:= .type "list",data:= .seq its.toArray k }/\Hx D=none/\tn (i+1) sx.heap/\(∀b∈fp,Hx b=none):=fun {pp σx Hx sx} Ix=>by
     refine⟨(Ix.pin (D,_) (List.mem_append_right _ (List.mem_append_left _ List.mem_cons_self))).1,(Ix.pin (D,_) (List.mem_append_right _ (List.mem_append_left _ List.mem_cons_self))).2.1,T.keep _ _ _ st5 fun b hb o e=>(Ix.pin (b,o) (List.mem_append_right _ (List.mem_append_right _ (dL hb e)))).1,fun b hb=> ?_⟩;obtain⟨o,e,d⟩:=T.obj _ _ st5 b hb;exact(Ix.pin (b,o) (List.mem_append_right _ (List.mem_append_right _ (dL hb e)))).2.1
    cases b with
    | false =>
     rw[if_neg Bool.false_ne_true]at q7 ⊢;obtain⟨m',hm',w7⟩:=q7;obtain⟨e7,n7,st7,fr7⟩:=pinD (pp:=[]) I7;exact⟨m',hm',i+1,ys,its,k,H7,w7,(I7.pins_of (pins':=[]) fun p hp=>by cases hp).weak hl6.symm hk6,st7,fr7,n7,e7,rv,hz⟩
    | true =>
     rw[if_pos rfl]at q7 ⊢;refine wpAny_mono (he C s2 H2 fp _ s7 σ6 H7 _ I7 q7) (fun y' s8 ⟨y,H8,I8,r8,hlt,m',hm',w8⟩=> ?_) fun e s' ⟨pB,σB,H1,s1,J,hx⟩=>hxn D C pB σB H1 s1 e s' (by rw[hDe];exact hCle) J hx;obtain⟨e8,n8,st8,fr8⟩:=pinD (pp:=[]) I8;have I8f:Inv (a8 X E0x scope cl N C s2 H2 fp) (eK fp s5.heap) σ6 H8 s8:=I8.pins_of fun p hp=>I8.pin p (List.mem_append_right _ (List.mem_append_right _ hp));have I8t:=I8f.track n8 e8 rv hz (by show s2.heap.objs.size<=D;rw[hDe];exact Nat.le_refl _) hDL hDX fun p hp=>by
      have hp':p∈eK fp s5.heap:=by simpa [a8,aS] using hp
      exact fun z=>hDfp (z▸(m7 hp').1)
     refine wpAny_mono (nW (X:=a8 X E0x scope cl N C s2 H2 fp) (eK fp s5.heap) s8 σ6 _ (.ref D) [y] (.ref D) [y'] (fun _ H9=>H9=upd H8 D (.lst (ys++[y]))) I8t rfl (.cons r8 .nil)
      ⟨D,ys,y,rfl,rfl,bA,hlt,z7⟩) (fun _ s9 ⟨_,H9,I9,_,e9⟩=> ?_) fun e s' ⟨pB,σB,H1,s1,J,hx⟩=>hxn D C pB σB H1 s1 e s' (by rw[hDe];exact hCle) J hx
     subst e9;obtain⟨hz9,its9,k9,rv9,e9⟩:=I9.hok D _ bA;have I9u:=I9.untrack n8;refine⟨m',hm',i+1,ys++[y],its9,k9,H8,w8,(I9u.pins_of (pins':=[]) fun p hp=>by cases hp).weak hl6.symm hk6,?_,fr8,n8,e9,rv9,hz9⟩;exact T.keep _ _ _ st5 fun b hb o e=>(I9u.pin (b,o) (List.mem_append_right _ (dL hb e))).1
  ·exact⟨0,[],[],0,H2,w0,I4,T.keep _ _ _ st2 fun b hb o e=>old b o e,fun b hb=>(f2 b hb).1,I2.hok.fresh (by rw[hDe];exact Nat.le_refl _),hacc,.nil,Nat.zero_le _⟩
 exact⟨rfl,codeAny_compStart_list (loop _ rfl) (T.self _ 0 _ _ _ (T.keep _ _ _ st2 fun b hb o e=>old b o e) (loop _ rfl))⟩
end
end L2
namespace L2
open PySem PySem.Spec PyProof.Rows PySem.W
def jW (M:Model)(A:Around)(E:Value->Shared->Prop)(use:Option (Value->Sem Unit))(Q:Value->Shared->Prop)(F:Option Addr)(acc:Value)(C:Addr)(r:Result)(s':Shared):Prop :=
 match r,use with
 | .ok _,none=>∃m,s'.heap.Ns C m/\∀h',Heap.SameBut C s'.heap h'->Q acc { s' with heap:=h' }
 | .ok _,some u=>wpAny M A (u acc) (fun _ s''=>∃m,s''.heap.Ns C m/\∀h',Heap.SameBut C s''.heap h'->Q .none { s'' with heap:=h' }) E s'
 | .error x,_=>∃m,s'.heap.Ns C m/\∀h',Heap.SameBut C s'.heap h'->∀cenv:Env,cenv.frame=F->wpAny M A (passOn "comprehension.variables-let-go" x cenv:Sem Value) (fun _ _=>False) E { s' with heap:=h' }
section
variable {M:Model}{A:Around}{E:Value->Shared->Prop}{s:Shared}{env:Env}
theorem q9 {e:Expr}{scope:Scope}{pos:Pos}{newAcc first:Sem Value}{g:Comprehension}{gs:List Comprehension}{cl:List (Str×Addr)}{use:Option (Value->Sem Unit)}{Q:Value->Shared->Prop}
  (hcl:clausesOf e=g::gs)(hs:∀x,foldedSetIterable g.iter env x=pure x)(hclos:closureFor scope env=pure cl)(hkind:scope.kind= .function)(hnames:∀x∈scope.names,x.2= .local->scope.names.lookup x.1=some .local)
  (h:wpAny M A first (fun x s1=>wpAny M A (pyIter x) (fun it s2=>wpAny M A newAcc (fun acc s3=>wpAny M A (newFunctionEnv scope env.globals cl [] env.qual none .none (some env)) (fun cenv s4=>cenv.frame=env.frame ∧
    codeAny M A (.compStart e 0 it acc { cenv with scope:=relabel scope env }) (jW M A E use Q env.frame acc cenv.locals) s4) E s3) E s2) E s1) E s) :
  wpAny M A (comprehension e scope env pos newAcc false first use) Q E s:=by
 unfold comprehension;rw[hclos,hcl];refine wpAny_bind (wpAny_mono h (fun x s1 h1=>wpAny_bind (wpAny_standAt (wpAny_bind (wpAny_of_eq (hs x) (wpAny_bind (wpAny_holding (wpAny_mono h1 (fun it s2 h2 =>
  wpAny_standIf (wpAny_bind (wpAny_mono h2 (fun acc s3 h3=>wpAny_bind (wpAny_pure (wpAny_bind (wpAny_mono h3 (fun cenv s4 ⟨hfr,h4⟩=> ?_) fun _ _ h'=>h')))) fun _ _ h'=>h'))) fun _ _ h'=>h'))))))) fun _ _ h'=>h')
 dsimp only
 have hv:∀x∈(scope.names.filter fun x=>(x.2== .local||x.2== .cell)&&x.1 !=(".0" :Str)).reverse,x.2= .local->Env.kindOf { cenv with scope:=relabel scope env } x.1=some .local:=fun x hx hl=>lookup_relabel_local (hnames x (List.mem_filter.mp (List.mem_reverse.mp hx)).1 hl);have hv2:∀x∈(scope.names.filter fun x=>(x.2== .local||x.2== .cell)&&x.1 !=(".0" :Str)).reverse.drop 1++(scope.names.filter fun x=>(x.2== .local||x.2== .cell)&&x.1 !=(".0" :Str)).reverse.take 1,x.2= .local->Env.kindOf { cenv with scope:=relabel scope env } x.1=some .local:=fun x hx hl=>by
  rcases List.mem_append.mp hx with z|z
  ·exact hv x (List.mem_of_mem_drop z) hl
  ·exact hv x (List.mem_of_mem_take z) hl
 refine wpAny_holding (wpAny_bind (wpAny_attempt (wpAny_holding (wpAny_run (codeAny_mono h4 fun r s' hr=> ?_)))));cases r with
 | ok f =>
  cases use with
  | none =>
   obtain⟨m,hn,hr⟩:=hr;exact wpAny_bind (wpAny_holding (wpAny_comp_letGo (cenv:={ cenv with scope:=relabel scope env }) hkind _ s' m hv hn fun h' m' _ hs'=>wpAny_pure (hr h' hs')))
  | some u =>
   refine wpAny_bind (wpAny_rule (wpAny_bind (wpAny_holding (wpAny_mono hr (fun _ s'' hr'=> ?_) fun _ _ h'=>h'))));obtain⟨m,hn,hr'⟩:=hr';exact wpAny_bind (wpAny_comp_letGo (cenv:={ cenv with scope:=relabel scope env }) hkind _ s'' m hv2 hn fun h' m' _ hs'=>wpAny_pure (hr' h' hs'))
 | error x =>
  have hr2:∃m,s'.heap.Ns cenv.locals m/\∀h',Heap.SameBut cenv.locals s'.heap h'->∀cenv':Env,cenv'.frame=env.frame->wpAny M A (passOn "comprehension.variables-let-go" x cenv':Sem Value) (fun _ _=>False) E { s' with heap:=h' }:=by cases use<;>exact hr
  obtain⟨m,hn,hr⟩:=hr2;exact wpAny_bind (wpAny_holding (wpAny_comp_letGo (cenv:={ cenv with scope:=relabel scope env }) hkind _ s' m hv hn fun h' m' _ hs'=>wpAny_mono (hr h' hs' _ hfr) (fun _ _ f=>f.elim) fun _ _ y=>y))
end
section
variable {X:Cx}{pins:List (Addr×Obj)}{σ:St}{H:Hp}{s:Shared}{h2 B:Heap}
theorem OA (I:Inv X pins σ H s)(hex:X.ex=[])(st:B.StaysIn h2)(sb:B.StaysIn s.heap)(up:∀b∈frs X.stack,∀o,s.heap.get? b=some o->(∀vs,o.data≠ .fields vs)->∃sl,h2.get? b=some { o with slots:=sl })(cov:∀b,(H b≠none∨∃o,X.s₀.heap.get? b=some o)->b∉frs X.stack->∃o,B.get? b=some o)(hst:X.stack=X.env::X.outer)(hf:X.env.frame=some X.env.locals) :
  Un X.fs [] X.H₀ H X.s₀.heap h2/\HOk X.prog X.w H h2:=by
 have hfr:∀b,b∈frs X.stack->b=X.env.locals∨b∈X.fs:=fun b hb=>List.mem_cons.mp (I.stkSub b hb);have hfs:∀b,b∈X.fs->b∈frs X.stack:=fun b hb=>by
  rw[hst];unfold frs;rw[List.filterMap_cons,hf];exact List.mem_cons_of_mem _ hb
 have nloc:∀b o,X.s₀.heap.get? b=some o->b≠X.env.locals:=fun b o q z=>by
  have e1:=Nat.lt_of_lt_of_le (Heap.lt_size q) I.ok.above;rw[z]at e1;exact Nat.lt_irrefl _ e1
 have same:∀b o,(H b≠none∨∃o,X.s₀.heap.get? b=some o)->b∉frs X.stack->s.heap.get? b=some o->h2.get? b=some o:=fun b o hc hb q=>by
  obtain⟨o',e⟩:=cov b hc hb;have e1:=sb b o' e;rw[q]at e1;cases e1;exact st b _ e
 have ub:=I.base;rw[hex]at ub;refine⟨⟨fun b o q n hb _=> ?_,fun b o q n hb _=> ?_,fun b o q n _=>ub.free b o q n (by simp),fun b o q _=> ?_,ub.tups,ub.frzs,ub.tbls⟩,fun b u e=> ?_⟩
 ·have q1:=ub.keep b o q n hb (by simp);exact same b o (.inr ⟨o,q⟩) (fun z=>(hfr b z).elim (nloc b o q) hb) q1
 ·obtain⟨sl,q1⟩:=ub.slot b o q n hb (by simp);obtain⟨_,o',ho',hd⟩:=I.funs.mem hb;have hd1:∀vs,({ o with slots:=sl }:Obj).data≠ .fields vs:=fun vs z=>by
   rw[q1]at ho';cases ho';exact hd vs z
  obtain⟨sl2,q2⟩:=up b (hfs b hb) _ q1 hd1;exact⟨sl2,q2⟩
 ·obtain⟨o1,q1⟩:=ub.there b o q (by simp)
  by_cases hb:b∈frs X.stack
  ·obtain⟨_,o',ho',hd⟩:=I.stack.mem hb;rw[q1]at ho';cases ho';obtain⟨sl2,q2⟩:=up b hb _ q1 hd;exact⟨_,q2⟩
  ·exact⟨o1,same b o1 (.inr ⟨o,q⟩) hb q1⟩
 ·refine(I.hok b u e).stay (fun c v hc q=> ?_) (fun _ q=>q) fun _ _ q=>q;have hn:H c≠none:=by
   rcases hc with z|z
   ·rw[z,e];simp
   ·rw[z];simp
  exact same c v (.inl hn) (fun z=>hn (I.stkFree c z)) q
end
end L2
namespace L2
open PySem PySem.Spec PyProof.Rows PySem.W
def uG (X:Cx)(E:XK):Prop:=∀(pins:List (Addr×Obj)) (σ:St) (H':Hp) (s':Shared) (h3:Heap) (ea:Addr) (cls:Value) (dd:Option Addr) (a0:Value) (B:Heap),Inv X pins σ H' s'->H' ea=none->X.s₀.heap.get? ea=none->B.StaysIn s'.heap->B.StaysIn h3->B.get? ea=none->h3.FunFrames B X.stack →
 BN h3 B ea cls dd a0 (rawInt X.env.locals)->(∀b∈frs X.stack,∀o,s'.heap.get? b=some o->(∀vs,o.data≠ .fields vs)->∃sl,h3.get? b=some { o with slots:=sl })->(∀b,(H' b≠none∨∃o,X.s₀.heap.get? b=some o)->b∉frs X.stack->∃o,B.get? b=some o)->E cls dd H'->X.xe (.ref ea) { s' with heap:=h3 }
theorem IX {P:Program}{w:World}{K:PySem.W.Frag}{mg:Str->Option Value}{base:Heap}{N:List Str}{qual:Str}{scope:Scope}{f:Addr}{cd:Value}{A:Around}{outer:List Env}{s₀:Shared}{H₀:Hp}{E:XK} :
  uG (eR (CXE P w) P w K mg base N qual scope f cd A outer s₀ H₀ E) E:=by
 intro pins σ H' s' h3 ea cls dd a0 B I hn new sb st nb ff tr up cov q;show wpAny _ _ (leaving _ _) _ _ _;obtain⟨ob,fv,tb,tbo,tv,go,ec,ed,h0,hdt,h1,nT,tne,gT,dT,hm⟩:=id tr;unfold leaving noteFrame;simp only[show (envOfC qual scope s₀.heap.objs.size f cd).frame=some s₀.heap.objs.size from rfl];refine wpAny_bind (wpAny_bind (wpAny_field go hdt h1 ?_));rw[if_pos (show (Value.ref tb !=Value.none)=true from by simp)];refine wpAny_bind (wpAny_field gT dT hm ?_);refine wpAny_ite_split (fun _=> ?_) (fun z=>absurd (show (rawInt (s₀.heap.objs.size:Int)==rawInt (s₀.heap.objs.size:Int))=true from beq_self_eq_true _) z);refine wpAny_pure (v4 (s:={ s' with heap:=h3 }) st nb ff tr fun h4 fl up4=> ?_);obtain⟨f1,f2,⟨_,_,f3⟩,f4⟩:=fl;obtain⟨un2,hok2⟩:=OA (B:=B) (h2:=h4) I rfl f1 sb (fun b hb o e hd=>by
  obtain⟨sl,e3⟩:=up b hb o e hd;obtain⟨sl2,e4⟩:=up4 b _ e3 hd;exact⟨sl2,e4⟩) cov rfl rfl
 refine⟨ea,cls,dd,a0,H',B,rfl,I.os,I.bare,un2,hok2,hn,new,⟨f1,f2,f3,f4⟩,fun b hb hs=>cov b hb fun z=> ?_,q⟩;rcases List.mem_cons.mp (I.stkSub b z) with e|hb'
 ·rcases hb with hb|⟨o,e2⟩
  ·exact hb (by rw[e];exact I.free)
  ·have e1:=Nat.lt_of_lt_of_le (Heap.lt_size e2) I.ok.above;rw[e]at e1;exact Nat.lt_irrefl _ e1
 ·exact hs hb'
theorem IU {h h' B B':Heap}(bn:∀b,B.get? b=none->B'.get? b=none):∀{l:List Env},(∀b∈frs l,∀o,h.get? b=some o->(∀vs,o.data≠ .fields vs)->∃o',h'.get? b=some o'/\o'.data=o.data)->h.FunFrames B l->h'.FunFrames B' l
 | [],_,_=>trivial
 | env::l,k,⟨h1,⟨L,o,e1,e2,e3,e4⟩,h3⟩=>by
  have hm:∀b,b∈frs l->b∈frs (env::l):=fun b hb=>by unfold frs;rw[List.filterMap_cons,e1];exact List.mem_cons_of_mem _ hb
  obtain⟨o',e5,e6⟩:=k L (by unfold frs;rw[List.filterMap_cons,e1];exact List.mem_cons_self) o e3 e4;exact⟨h1,⟨L,o',e1,bn L e2,e5,fun vs z=>e4 vs (by rw[←e6];exact z)⟩,IU bn (fun b hb=>k b (hm b hb)) h3⟩
theorem wS {X:Cx}{E:XK}{pins pB:List (Addr×Obj)}{σ σB:St}{H2 H1:Hp}{s2 s1 s':Shared}{fp:List Addr}{scope:Scope}{cl:List (Str×Addr)}{N:List Str}{C:Addr}{e acc:Value}{use:Option (Value->Sem Unit)}{Q:Value->Shared->Prop}
  (hst:X.stack=X.env::X.outer)(hf:X.env.frame=some X.env.locals)(hex:X.ex=[])(pf:uG X E)(I2:Inv X pins σ H2 s2)(f2:∀b∈fp,eO X pins H2 b)(hC:s2.heap.objs.size<=C)(J:Inv (aS X scope cl N C s2 H2 fp) pB σB H1 s1)(h:CXE X.prog X.w X.stack H1 s1 E e s') :
  notedBy (model X.prog X.w) X.A (compEnvC scope cl C X.env) (fun e s''=>jW (model X.prog X.w) X.A X.xe use Q X.env.frame acc C (.error e) s'') e s':=by
 obtain⟨ea,cls,dd,a0,H',B,rfl,os,bare,un,hok,hn,new,fl,cov,q⟩:=h;have K1:=nE I2 f2 J;have K2:=K1.call' (ch:=[]) os un hok bare (fun b z=>absurd z (by simp));obtain⟨mC,nsC,_⟩:=J.loc;obtain⟨oC,es,ep,hoC,hdC,rC⟩:=id nsC;have hoC:s1.heap.get? C=some oC:=hoC;have hCf:C∉frs X.stack:=fun z=>by
  rcases List.mem_cons.mp (I2.stkSub C z) with q|q
  ·have:=I2.lt;rw[←q]at this;exact Nat.lt_irrefl _ (Nat.lt_of_lt_of_le this hC)
  ·exact I2.nofs hC q
 have hC1:H1 C=none:=J.free;have oC2:s'.heap.get? C=some oC:=un.keep C oC hoC hC1 hCf (by simp);have hC2:H' C=none:=un.free C oC hoC hC1 (by simp);obtain⟨oB,bC⟩:=cov C (.inr ⟨oC,hoC⟩) hCf;obtain rfl:oB=oC:=by
  have:=fl.1 C oB bC;rw[oC2]at this;exact(Option.some.inj this).symm
 have eaC:ea≠C:=fun z=>by rw[z]at new;rw[hoC]at new;cases new
 have hfrA:X.A.frames=some (X.env::X.outer):=by rw[I2.ok.frames,hst]
 have fl':=fl;rw[hst]at fl';show wpAny _ X.A (noteFrame (.ref ea) (compEnvC scope cl C X.env)) _ _ s';rw[show noteFrame (.ref ea) (compEnvC scope cl C X.env)=noteFrame (.ref ea) X.env from rfl];refine sX hfrA hf fl' fun h1 held=> ?_;obtain⟨g1,g2,g3,g4⟩:=held;have oC3:=g1 C oB bC;refine⟨mC,⟨oB,es,ep,oC3,hdC,rC⟩,fun h2 sb cenv hfc=> ?_⟩;obtain⟨ob,fv,tb,tbo,tv,go,ec,ed,h0,hdt,hh1,nT,tne,gT,dT,hm⟩:=g3;have tbC:tb≠C:=fun z=>by rw[z,bC]at nT;cases nT
 have go2:h2.get? ea=some ob:=(sb.2 ea eaC).trans go;have gT2:h2.get? tb=some tbo:=(sb.2 tb tbC).trans gT;have z3:=(Array.getElem?_eq_some_iff.mp hm).1;unfold PySem.passOn setFlight;refine wpAny_bind (wpAny_field go2 hdt hh1 ?_);rw[if_neg (show ¬(Value.ref tb==Value.none)=true from Bool.false_ne_true)];show wpAny _ X.A ((field (.ref ea) 1 >>= fun tb=>if (tb !=Value.none)=true then setField tb 3 (cenv.frame.elim Value.none fun f=>rawInt f) else pure ()) >>= fun _=>throw (Value.ref ea)) _ _ _;refine wpAny_bind (wpAny_bind (wpAny_field go2 hdt hh1 ?_));rw[if_pos (show (Value.ref tb !=Value.none)=true from by simp),hfc,hf];refine wpAny_setField gT2 dT z3 (wpAny_throw ?_);have oth:∀b,b≠tb->(h2.update tb (Obj.mapFields (·.setIfInBounds 3 (rawInt X.env.locals)))).get? b=h2.get? b:=fun b hb=>Heap.get?_update_other _ _ (Ne.symm hb);have gT3:=Heap.get?_update_self (Obj.mapFields (·.setIfInBounds 3 (rawInt X.env.locals))) gT2 (Obj.isFreed_of_fields (Obj.data_mapFields dT _));have dT3:=Obj.data_mapFields dT (·.setIfInBounds 3 (rawInt X.env.locals));show X.xe (.ref ea) { s' with heap:=h2.update tb (Obj.mapFields (·.setIfInBounds 3 (rawInt X.env.locals))) };generalize h2.update tb (Obj.mapFields (·.setIfInBounds 3 (rawInt X.env.locals)))=h3 at oth gT3 ⊢;have there:∀b o,X.s₀.heap.get? b=some o->∃o',s1.heap.get? b=some o':=fun b o e=>K1.base.there b o e (by rw[hex];simp);have nbC:∀b o,(hideAll B [C]).get? b=some o->b≠C/\B.get? b=some o:=fun b o e=>⟨fun z=>(by rw[z,hideAll_none [C] List.mem_cons_self]at e;cases e),of_hideAll _ e⟩
 have bn:∀b,B.get? b=none->(hideAll B [C]).get? b=none:=fun b e=>by
  cases e2:(hideAll B [C]).get? b with
  | none=>rfl
  | some o=>rw[(nbC b o e2).2]at e;cases e
 have frC:∀b∈frs X.stack,b≠C:=fun b hb z=>hCf (z▸hb);have norec:∀b o,h1.get? b=some o->(∀vs,o.data≠ .fields vs)->b≠tb:=fun b o q hnf z=>by
  rw[z,gT]at q;cases q;exact hnf tv dT
 refine pf pins σ H' s' h3 ea cls dd a0 (hideAll B [C]) K2 hn ?_ (fun b o e=>fl.1 b o (nbC b o e).2) (fun b o e=> ?_) (bn ea fl.2.1) ?_ ?_ (fun b hb o e hd=> ?_) (fun b hb hs=> ?_) q
 ·cases e:X.s₀.heap.get? ea with
  | none=>rfl
  | some o =>
   obtain⟨o',e'⟩:=there ea o e;rw[new]at e';cases e'
 ·obtain⟨n1,e2⟩:=nbC b o e;exact(oth b fun z=>by rw[z,nT]at e2;cases e2).trans ((sb.2 b n1).trans (g1 b o e2))
 ·rw[hst];refine IU bn (fun b hb o e hd=> ?_) g2;have hb':b∈frs X.stack:=by rw[hst];exact hb
  exact⟨o,(oth b (norec b o e hd)).trans ((sb.2 b (frC b hb')).trans e),rfl⟩
 ·exact⟨ob,fv,tb,_,_,(oth ea (Ne.symm tne)).trans go2,ec,ed,h0,hdt,hh1,bn tb nT,tne,gT3,dT3,by simp[z3]⟩
 ·obtain⟨sl,e1⟩:=g4 b o e hd;exact⟨sl,(oth b (norec b _ e1 hd)).trans ((sb.2 b (frC b hb)).trans e1)⟩
 ·obtain⟨o,e⟩:=cov b (hb.imp id fun⟨o,e⟩=>there b o e) hs;refine⟨o,hideAll_get _ e fun z=> ?_⟩;have z:=List.mem_singleton.mp z;rcases hb with hb|⟨o',e'⟩
  ·exact hb (by rw[z];exact hC2)
  ·have:=Heap.lt_size e';rw[z]at this;exact Nat.lt_irrefl _ (Nat.lt_of_lt_of_le this (Nat.le_trans I2.sz hC))
end L2
namespace L2
open PySem PySem.Spec PyProof.Rows PySem.W
section
variable {X:Cx}{scope:Scope}{cl:List (Str×Addr)}{N:List Str}{nl:Nat}{ci:List Nat}{tg elt iter:Expr}{ifs:List Expr}{pos:Pos}{wi:TI}{g:TG}{ti:TT}{te:TE}{E0x:XK}
theorem FJ (pf:uG X E0x)(hc:X.calm=true)(B:Blk X scope cl N nl ci)(hp:PI X tg iter wi)(hg:∀C s0 H0 fp,PG (a8 X E0x scope cl N C s0 H0 fp) tg g)(hi:∀C s0 H0 fp,PF (a8 X E0x scope cl N C s0 H0 fp) ifs ti)
  (he:∀C s0 H0 fp,PE (a8 X E0x scope cl N C s0 H0 fp) elt te)(hs:∀x,foldedSetIterable iter X.env x=pure x:=by intro _;rfl)(hst:X.stack=X.env::X.outer:=by rfl)(hf0:X.env.frame=some X.env.locals:=by rfl)(hex:X.ex=[]:=by rfl):PE X (.ListComp elt [⟨tg,iter,ifs,0⟩] scope pos) (uH wi nl ci g ti te):=by
 intro pins s σ H Q I h;rw[eval_ListComp];refine q9 (use:=none) rfl hs B.clos B.kind B.names (thn (hp pins s σ H _ I h) fun v s1 h1=>thn h1 fun itv s2 h2=> ?_);obtain⟨it,fp,tn,J,H2,e,I2,T,st2,f2,hW⟩:=h2;subst e;refine qR (RR:=fun acc C=>jW (model X.prog X.w) X.A X.xe none (EP X pins σ Q) X.env.frame acc C) hc B hg hi he I2 T st2 f2 hW (fun D C pB σB H1 s1 e s2 hC J h=>wS hst hf0 hex pf I2 f2 hC J h) ?_;intro D C s' H' ys oC m hD K1 hn hC q;refine⟨m,hn,fun h' hs'=> ?_⟩;have hL:C≠X.env.locals:=(K1.pin (C,oC) (by simp)).2.2.1;have I9:Inv X pins σ (upd H' D (.lst ys)) { s' with heap:=h',toks:=s'.toks }:=K1.unpinned.turned (t':=s'.toks) (it:=C) (fun b o hb e=>hs'.extBut b o hb e) (K1.pin (C,oC) (by simp)).2.1 hL (.inr (Nat.le_trans I2.sz hC)) (fun x c e z=> ?_) fun p hp z=> ?_
 ·exact⟨.ref D,_,I9,rfl,q D hD⟩
 ·obtain⟨v,o,ho,_⟩:=I2.cell x c e;exact absurd (Nat.lt_of_lt_of_le (Heap.lt_size ho) (z▸hC)) (Nat.lt_irrefl _)
 ·exact absurd (Nat.lt_of_lt_of_le (Heap.lt_size (I2.pin p hp).1) (z▸hC)) (Nat.lt_irrefl _)
theorem yE {i:Nat}{x:Str}{pos' spos:Pos} (hN:X.N.Nodup) (hix:X.N[i]? =some x) (hx:Loc X.env.scope x) (pf:uG X E0x) (hc:X.calm=true) (B:Blk X scope cl N nl ci) (hp:PI X tg iter wi) (hg:∀C s0 H0 fp,PG (a8 X E0x scope cl N C s0 H0 fp) tg g)
  (hi:∀C s0 H0 fp,PF (a8 X E0x scope cl N C s0 H0 fp) ifs ti)(he:∀C s0 H0 fp,PE (a8 X E0x scope cl N C s0 H0 fp) elt te)
  (hsw:swapsWith (.ListComp elt [⟨tg,iter,ifs,0⟩] scope pos) (some (.Name x pos')) spos.line X.env=pure true:=by rfl)(hs:∀x,foldedSetIterable iter X.env x=pure x:=by intro _;rfl)(hst:X.stack=X.env::X.outer:=by rfl)(hf0:X.env.frame=some X.env.locals:=by rfl)(hex:X.ex=[]:=by rfl)
  (hf:X.fn x=true∨X.env.scope.names.lookup x=some .local:=by first|exact .inl rfl|exact .inr rfl|assumption) :
  PS X (.Assign [.Name x pos'] (.ListComp elt [⟨tg,iter,ifs,0⟩] scope pos) spos) (G0 (uH wi nl ci g ti te) (dH i)):=by
 intro pins s σ H D I h;rw[exec_Assign_Name_used _ _ _ _ hsw];refine wpAny_bind (wpAny_standAt (wpAny_bind ?_));show wpAny _ X.A (do let _ ←comprehension (.ListComp elt [⟨tg,iter,ifs,0⟩] scope pos) scope X.env _ (newList []) false (eval iter X.env) (some (assign (.Name x pos') X.env))) _ _ s;refine wpAny_bind (wpAny_mono (q9 (use:=some (assign (.Name x pos') X.env)) (Q:=fun _ s'=>SP X pins D .next s') rfl hs B.clos B.kind B.names
  (thn (hp pins s σ H _ I h) fun v s1 h1=>thn h1 fun itv s2 h2=> ?_)) (fun _ s' hq=>wpAny_pure (wpAny_pure hq)) fun _ _ e=>e)
 obtain⟨it,fp,tn,J,H2,e,I2,T,st2,f2,hW⟩:=h2;subst e;refine qR (RR:=fun acc C=>jW (model X.prog X.w) X.A X.xe (some (assign (.Name x pos') X.env)) (fun _ s'=>SP X pins D .next s') X.env.frame acc C) hc B hg hi he I2 T st2 f2 hW (fun D C pB σB H1 s1 e s2 hC J h=>wS hst hf0 hex pf I2 f2 hC J h) ?_;intro Dd C s' H' ys oC m hD K1 hn hC q;show wpAny _ X.A (assign (.Name x pos') X.env (.ref Dd)) _ _ _;refine thn (bQ (i:=i) hN hix hx hf (pins++[(C,oC)]) s' σ (upd H' Dd (.lst ys)) (.ref Dd) (.ref Dd) (fun σ' H''=>D.nx σ' H'') K1 rfl (q Dd hD)) fun _ s'' ⟨σ',H'',K2,q2⟩=> ?_;have eC:=K2.pin (C,oC) (by simp);obtain⟨oC',es,ep,hoC,hdC,rC⟩:=id hn;have eo:oC'=oC:=by
  have:=(K1.pin (C,oC) (by simp)).1;rw[hoC]at this;exact Option.some.inj this
 subst eo;refine⟨m,⟨oC',es,ep,eC.1,hdC,rC⟩,fun h' hs'=> ?_⟩;have hL:C≠X.env.locals:=eC.2.2.1;have I9:Inv X pins σ' H'' { s'' with heap:=h',toks:=s''.toks }:=K2.unpinned.turned (t':=s''.toks) (it:=C) (fun b o hb e=>hs'.extBut b o hb e) eC.2.1 hL (.inr (Nat.le_trans I2.sz hC)) (fun x c e z=> ?_) fun p hp z=> ?_
 ·exact⟨σ',H'',I9,q2⟩
 ·obtain⟨v,o,ho,_⟩:=I2.cell x c e;exact absurd (Nat.lt_of_lt_of_le (Heap.lt_size ho) (z▸hC)) (Nat.lt_irrefl _)
 ·exact absurd (Nat.lt_of_lt_of_le (Heap.lt_size (I2.pin p hp).1) (z▸hC)) (Nat.lt_irrefl _)
end
end L2
namespace L2
open PySem PySem.W PyProof.Rows PySem.Calls PySem.Builtin PySem.Builtin.Str
section
variable {X:Cx}
theorem sP:∀l:List (Str×Tok),Vals ((l.map (·.1)).map V.str) (strValues l)
 | []=> .nil
 | (x,t)::l=> .cons ⟨t,rfl⟩ (sP l)
def vZ:V->List V->Hp->VK->Prop:=fun x vs H Q=>∃(z:Str) (c:Nat),x= .str z/\vs=[.str ⟨#[c]⟩]/\z.length<=1000000/\∀p,H p=none->Q (.ref p) (upd H p (.lst ((Txt.split z ⟨#[c]⟩).map V.str)))
theorem lI:MtR X "str.split" vZ:=by
 intro pins s σ H x xs v us Q I rx rs h;obtain⟨z,c,rfl,rfl,hz,q⟩:=h;obtain⟨t,rfl⟩:=rx;obtain⟨u,rfl,u',rfl⟩:=fD rs;have hn:(partsBetween z (occurrences z ⟨#[c]⟩ 0 z.length (z.length+1)) (⟨#[c]⟩:Str).length).length<=z.length+2:=by
  unfold partsBetween;rw[List.length_map,List.length_zip,List.length_cons,List.length_map,List.length_append];have:=StrLaws.occ_length_le z ⟨#[c]⟩ 0 z.length (z.length+1);simp only[List.length_cons,List.length_nil]
  lia
 have hzl:z.length<=sizeLine:=by rw[sizeLine_eq];lia
 have done:∀(l:List (Str×Tok)) (tk:Nat),l.map (·.1)=Txt.split z ⟨#[c]⟩->l.length<=z.length+2->EP X pins σ Q (.ref s.heap.objs.size) { s with toks:=tk,heap:=s.heap.push { cls:= .type "list",data:= .seq (strValues l).toArray } }:=fun l tk e hl=>by
  refine⟨.ref s.heap.objs.size,_,I.laid (t':=tk) (fun _ _ q=>Heap.get?_push_of_some _ q) (Nat.le_refl _) (show ObjOk X.prog X.w _ _ _ (.lst ((Txt.split z ⟨#[c]⟩).map V.str)) from⟨?_,strValues l,0,?_,Heap.get?_push_size _ rfl⟩),rfl,q _ (I.hok.fresh (Nat.le_refl _))⟩
  ·rw[←e,List.length_map,List.length_map,sizeLine_eq];lia
  ·rw[←e];exact sP l
 have hT:=typeIs_str s z t;cases h1:(decide (z.length<(⟨#[c]⟩:Str).length)||decide (strKind z<strKind ⟨#[c]⟩))
 ·cases hf:(occurrences z ⟨#[c]⟩ 0 z.length (z.length+1)).isEmpty
  ·refine call_meetsIn PySem.F.slot_str_split hT PySem.F.entry_str_split (PySem.F.args_str_split_2 _ _) ((meets_str_split_sep z ⟨#[c]⟩ t u' h1 rfl hf hzl (by rw[sizeLine_eq];lia)).inModel _ _) ?_;show wants _ _ _ { s with toks:=_,heap:=s.heap.push { cls:= .type "list",data:= .seq (strsFrom s.toks (partsBetween z (occurrences z ⟨#[c]⟩ 0 z.length (z.length+1)) (⟨#[c]⟩:Str).length)).toArray } };rw[strsFrom_eq];refine done (numbered s.toks _) _ ((numbered_texts _ _).trans ((if_neg (ne_true_of_eq_false h1)).trans (if_neg (ne_true_of_eq_false hf))).symm) ?_;rw[←List.length_map (f:=(·.1)),numbered_texts];exact hn
  ·exact call_meetsIn PySem.F.slot_str_split hT PySem.F.entry_str_split (PySem.F.args_str_split_2 _ _) ((meets_str_split_not_found z ⟨#[c]⟩ t u' h1 rfl hf).inModel _ _) (done [(z,t)] s.toks ((if_neg (ne_true_of_eq_false h1)).trans (if_pos hf)).symm (by show 1<=_;lia))
 ·exact call_meetsIn PySem.F.slot_str_split hT PySem.F.entry_str_split (PySem.F.args_str_split_2 _ _) ((meets_str_split_cannot_occur z ⟨#[c]⟩ t u' h1).inModel _ _) (done [(z,t)] s.toks (if_pos h1).symm (by show 1<=_;lia))
end
end L2
namespace L2
open PySem PySem.W PyProof.Rows PySem.Calls
section
variable {prog:Program}{w:World}{A:Around}{E:Value->Shared->Prop}{s:Shared}{it t:Addr}{i:Nat}{its:Array Value}
theorem JU {x:Value}{Q:Value->Shared->Prop} (hit:s.heap.IsTupleIter it t i) (ht:s.heap.IsTuple t its) (hx:its[i]? =some x) (k:∀h',h'.IsTupleIter it t (i+1)->Heap.SameBut it s.heap h'->Q x { s with heap:=h' }):wpAny (model prog w) A (Builtin.SmallTypes.nextOf (.ref it)) Q E s:=by
 obtain⟨o,ho,hc,hd⟩:=id hit;obtain⟨ot,hot,_,nt,hdt⟩:=ht;unfold Builtin.SmallTypes.nextOf;refine wpAny_bind (wpAny_callSpecial?_slot (name:=Str.ofString "__next__") hit.typeIs PySem.F.slot_tuple_iterator_next (wpAny_call_entry PySem.F.slot_tuple_iterator_next hit.typeIs PySem.F.entry_tuple_iterator_next ?_ (PySem.F.args_tuple_iterator_next_1 _)));show wpAny _ _ (field (.ref it) 0 >>= _) _ _ s;refine wpAny_bind (wpAny_field ho hd (x:= .ref t) rfl (show wpAny _ _ (if (Value.ref t==Value.none)=true then _ else _) _ _ s from ?_));rw[if_neg (show ¬((Value.ref t==Value.none)=true) from Bool.false_ne_true)];show wpAny _ _ (field (.ref it) 1 >>= _) _ _ s;refine wpAny_bind (wpAny_field ho hd (x:= .int i 0) rfl (show wpAny _ _ (seqItems? (.ref t) >>= _) _ _ s from wpAny_bind (wpAny_seqItems hot hdt ?_)));simp only[Int.toNat_natCast,hx];refine wpAny_bind (wpAny_setField ho hd (by simp) (wpAny_pure ⟨x,rfl,wpAny_pure (k _ ?_ (Heap.SameBut.update ..))⟩));exact⟨_,Heap.get?_update_self _ ho (Obj.isFreed_of_fields (Obj.data_mapFields hd _)),(Obj.cls_mapFields ..).trans hc,(Obj.data_mapFields hd _).trans (by simp[rawInt])⟩
theorem NJ {Q:Value->Shared->Prop}(hh:A.handled=none)(hit:s.heap.IsTupleIter it t i)(ht:s.heap.IsTuple t its)(hx:its[i]? =none)(k:∀h' e,Heap.ExtBut it s.heap h'->(∃o,h'.get? e=some o/\o.cls= .type "StopIteration")->E (.ref e) { s with heap:=h' }):wpAny (model prog w) A (Builtin.SmallTypes.nextOf (.ref it)) Q E s:=by
 obtain⟨o,ho,hc,hd⟩:=id hit;obtain⟨ot,hot,_,nt,hdt⟩:=ht;unfold Builtin.SmallTypes.nextOf;refine wpAny_bind (wpAny_callSpecial?_slot (name:=Str.ofString "__next__") hit.typeIs PySem.F.slot_tuple_iterator_next (wpAny_call_entry PySem.F.slot_tuple_iterator_next hit.typeIs PySem.F.entry_tuple_iterator_next ?_ (PySem.F.args_tuple_iterator_next_1 _)));show wpAny _ _ (field (.ref it) 0 >>= _) _ _ s;refine wpAny_bind (wpAny_field ho hd (x:= .ref t) rfl (show wpAny _ _ (if (Value.ref t==Value.none)=true then _ else _) _ _ s from ?_));rw[if_neg (show ¬((Value.ref t==Value.none)=true) from Bool.false_ne_true)];show wpAny _ _ (field (.ref it) 1 >>= _) _ _ s;refine wpAny_bind (wpAny_field ho hd (x:= .int i 0) rfl (show wpAny _ _ (seqItems? (.ref t) >>= _) _ _ s from wpAny_bind (wpAny_seqItems hot hdt ?_)));simp only[Int.toNat_natCast,hx];refine wpAny_bind (wpAny_rule (wpAny_bind (wpAny_setField ho hd (by simp) (show wpAny _ _ (newExc (.type "StopIteration") [] >>= _) _ _ _ from wpAny_bind ?_))));simp only[newExc,newTuple];refine wpAny_bind (wpAny_newObj_type (wpAny_bind (m:=firstArgMember _ _) (wpAny_of_eq (a:=Value.none) (by first|rfl|(simp only[firstArgMember];rfl)) (wpAny_newObj_type ?_ (by size_fits)))) (by size_fits));simp only[raiseNew];refine wpAny_bind (wpAny_handled ?_)
 first|rw[show A.in1.handled=none from hh]|rw[hh]
 refine wpAny_bind (wpAny_pure (wpAny_throw (k _ _ (((Heap.SameBut.update ..).extBut.push _).push _) ⟨_,Heap.get?_push_size _ rfl,rfl⟩)))
variable {z TI TO i1 i2 l2:Addr}{k1 k2:Nat}{ys:Array Value}{a b:Value}
theorem KQ {x y:Value}{Q:Option Value->Shared->Prop} (D:ZipApart z TI TO i1 i2 t l2) (hz:IsZip s.heap z TI TO .none) (hTI:IsPair s.heap TI (.ref i1) (.ref i2)) (hTO:IsPair s.heap TO a b) (h1:s.heap.IsTupleIter i1 t k1) (h2:s.heap.IsListIter i2 l2 k2) (hl1:s.heap.IsTuple t its) (hl2:s.heap.IsList l2 ys) (hx:its[k1]? =some x) (hy:ys[k2]? =some y)
  (k:∀h',IsZip h' z TI TO (rawInt s.heap.objs.size)->IsPair h' TO x y->h'.IsTupleIter i1 t (k1+1)->h'.IsListIter i2 l2 (k2+1)->IsPair h' s.heap.objs.size x y->h'.objs.size=s.heap.objs.size+1->(∀c o,c≠z->c≠TO->c≠i1->c≠i2->s.heap.get? c=some o->h'.get? c=some o)->Q (some (.ref s.heap.objs.size)) { s with heap:=h' }) :
  wpAny (model prog w) A (pyNext (.ref z)) Q E s:=by
 have hT:s.TypeIs (.ref z) "zip" :=⟨_,hz,rfl⟩
 unfold pyNext;refine wpAny_bind (wpAny_attempt (wpAny_callSpecial?_slot (name:=Str.ofString "__next__") hT PySem.F.slot_zip_next (wpAny_call_entry PySem.F.slot_zip_next hT PySem.F.entry_zip_next ?_ (PySem.F.args_zip_next_1 _))));show wpAny _ _ (field (.ref z) 2 >>= _) _ _ _;refine wpAny_bind (wpAny_field hz rfl (x:= .bool false) rfl (show wpAny _ _ (field (.ref z) 3 >>= _) _ _ _ from wpAny_bind (wpAny_field hz rfl (x:= .ref TI) rfl (wpAny_bind (wpAny_seqItems hTI rfl ?_)))));show wpAny _ _ (Builtin.SmallTypes.ownedTupleIsFree (.ref z) >>= _) _ _ _;refine wpAny_bind ?_;unfold Builtin.SmallTypes.ownedTupleIsFree;refine wpAny_bind (wpAny_field hz rfl (x:= .none) rfl (wpAny_pure ?_));simp only[if_true];refine wpAny_bind (wpAny_rule (wpAny_bind (wpAny_field hz rfl (x:= .ref TO) rfl (wpAny_bind (wpAny_setField_rec hz (by simp) fun g1 hz1 hs1=> ?_)))))
 replace hz1:IsZip g1 z TI TO .ellipsis:=hz1
 refine wpAny_bind ?_;simp only[List.zipIdx_cons,List.zipIdx_nil,List.forIn_cons,List.forIn_nil];refine wpAny_bind (wpAny_bind (wpAny_onRaise (show wpAny _ _ (Builtin.SmallTypes.nextOf (.ref i1) >>= _) _ _ _ from wpAny_bind (JU (h1.extBut hs1.extBut D.i1z) (hl1.extBut hs1.extBut D.l1z) hx fun g2 h12 hs2=>wpAny_pure ?_))));have hTO2:IsPair g2 TO a b:=hs2.extBut _ _ D.TOi1 (hs1.extBut _ _ D.TOz hTO);refine wpAny_bind (wpAny_seqItems hTO2 rfl (wpAny_bind (wpAny_updateSeq_pair hTO2 fun g3 hTO3 hs3=> ?_)))
 replace hTO3:IsPair g3 TO x b:=hTO3
 refine wpAny_bind (wpAny_letGo (wpAny_pure (wpAny_bind (wpAny_bind (wpAny_onRaise (show wpAny _ _ (Builtin.SmallTypes.nextOf (.ref i2) >>= _) _ _ _ from ?_))))));refine wpAny_bind (wpAny_nextOf_list_item (((h2.extBut hs1.extBut D.i2z).extBut hs2.extBut D.i12.symm).extBut hs3.extBut D.TOi2.symm) (((hl2.extBut hs1.extBut D.l2z).extBut hs2.extBut D.l2i1).extBut hs3.extBut D.l2TO) hy fun g4 h24 hs4=>wpAny_pure ?_);have hTO4:IsPair g4 TO x b:=hs4.extBut _ _ D.TOi2 hTO3;refine wpAny_bind (wpAny_seqItems hTO4 rfl (wpAny_bind (wpAny_updateSeq_pair hTO4 fun g5 hTO5 hs5=> ?_)))
 replace hTO5:IsPair g5 TO x y:=hTO5
 refine wpAny_bind (wpAny_letGo (wpAny_pure (wpAny_pure (wpAny_bind (wpAny_seqItems hTO5 rfl (wpAny_bind (wpAny_newTuple ?_)))))));have hsz:g5.objs.size=s.heap.objs.size:=by rw[hs5.1,hs4.1,hs3.1,hs2.1,hs1.1]
 have hz5:IsZip g5 z TI TO .ellipsis:=hs5.extBut _ _ D.TOz.symm (hs4.extBut _ _ D.i2z.symm (hs3.extBut _ _ D.TOz.symm (hs2.extBut _ _ D.i1z.symm hz1)));have hk5:∀c o,c≠z->c≠TO->c≠i1->c≠i2->s.heap.get? c=some o->g5.get? c=some o:=fun c o c1 c2 c3 c4 e=>hs5.extBut _ _ c2 (hs4.extBut _ _ c4 (hs3.extBut _ _ c2 (hs2.extBut _ _ c3 (hs1.extBut _ _ c1 e))));have h15:g5.IsTupleIter i1 t (k1+1):=((h12.extBut hs3.extBut D.TOi1.symm).extBut hs4.extBut D.i12).extBut hs5.extBut D.TOi1.symm;have h25:g5.IsListIter i2 l2 (k2+1):=h24.extBut hs5.extBut D.TOi2.symm;have hzlt:z<g5.objs.size:=Heap.lt_size hz5;show wpAny _ _ (Builtin.SmallTypes.ownedTupleHandOut (.ref z) (.ref g5.objs.size) >>= _) _ _ _;refine wpAny_bind ?_;unfold Builtin.SmallTypes.ownedTupleHandOut;have hz6:IsZip (g5.push { cls:= .type "tuple",data:= .seq #[x,y] }) z TI TO .ellipsis:=Heap.get?_push_of_some _ hz5;refine wpAny_bind (wpAny_setField_rec hz6 (by simp) fun g7 hz7 hs7=> ?_)
 replace hz7:IsZip g7 z TI TO (rawInt g5.objs.size):=hz7
 refine wpAny_setField_rec hz7 (by simp) fun g8 hz8 hs8=> ?_
 replace hz8:IsZip g8 z TI TO (rawInt g5.objs.size):=hz8
 have up:∀c o,c≠z->g5.get? c=some o->g8.get? c=some o:=fun c o c1 e=>hs8.extBut _ _ c1 (hs7.extBut _ _ c1 (Heap.get?_push_of_some _ e));have hT8:IsPair g8 g5.objs.size x y:=hs8.extBut _ _ (Nat.ne_of_gt hzlt) (hs7.extBut _ _ (Nat.ne_of_gt hzlt) (Heap.get?_push_size _ rfl));have hs8':g8.objs.size=g5.objs.size+1:=by rw[hs8.1,hs7.1,Heap.size_push]
 rw[hsz]at hz8 hT8 hs8';refine wpAny_pure ⟨_,rfl,?_⟩;show wpAny _ _ (pure (some (Value.ref g5.objs.size))) _ _ _;rw[hsz];exact wpAny_pure (k g8 hz8 (up _ _ D.TOz hTO5) (h15.at fun o e=>up _ o D.i1z e) (h25.at fun o e=>up _ o D.i2z e) hT8 hs8' fun c o c1 c2 c3 c4 e=>up c o c1 (hk5 c o c1 c2 c3 c4 e))
theorem L8 {Q:Option Value->Shared->Prop}(hh:A.handled=none)(D:ZipApart z TI TO i1 i2 t l2)(hz:IsZip s.heap z TI TO .none)(hTI:IsPair s.heap TI (.ref i1) (.ref i2))(h1:s.heap.IsTupleIter i1 t k1)(hl1:s.heap.IsTuple t its)(hx:its[k1]? =none)
  (k:∀h',(∀c o,c≠z->c≠i1->s.heap.get? c=some o->h'.get? c=some o)->Q none { s with heap:=h' }):wpAny (model prog w) A (pyNext (.ref z)) Q E s:=by
 have hT:s.TypeIs (.ref z) "zip" :=⟨_,hz,rfl⟩
 unfold pyNext;refine wpAny_bind (wpAny_attempt (wpAny_callSpecial?_slot (name:=Str.ofString "__next__") hT PySem.F.slot_zip_next (wpAny_call_entry PySem.F.slot_zip_next hT PySem.F.entry_zip_next ?_ (PySem.F.args_zip_next_1 _))));show wpAny _ _ (field (.ref z) 2 >>= _) _ _ _;refine wpAny_bind (wpAny_field hz rfl (x:= .bool false) rfl (show wpAny _ _ (field (.ref z) 3 >>= _) _ _ _ from wpAny_bind (wpAny_field hz rfl (x:= .ref TI) rfl (wpAny_bind (wpAny_seqItems hTI rfl ?_)))));show wpAny _ _ (Builtin.SmallTypes.ownedTupleIsFree (.ref z) >>= _) _ _ _;refine wpAny_bind ?_;unfold Builtin.SmallTypes.ownedTupleIsFree;refine wpAny_bind (wpAny_field hz rfl (x:= .none) rfl (wpAny_pure ?_));simp only[if_true];refine wpAny_bind (wpAny_rule (wpAny_bind (wpAny_field hz rfl (x:= .ref TO) rfl (wpAny_bind (wpAny_setField_rec hz (by simp) fun g1 hz1 hs1=> ?_)))))
 replace hz1:IsZip g1 z TI TO .ellipsis:=hz1
 refine wpAny_bind ?_;simp only[List.zipIdx_cons,List.zipIdx_nil,List.forIn_cons,List.forIn_nil];refine wpAny_bind (wpAny_bind (wpAny_onRaise (show wpAny _ _ (Builtin.SmallTypes.nextOf (.ref i1) >>= _) _ _ _ from wpAny_bind (NJ hh (h1.extBut hs1.extBut D.i1z) (hl1.extBut hs1.extBut D.l1z) hx fun g2 e hs2 he=> ?_))));obtain⟨oe,hoe,hce⟩:=he;have hz2:IsZip g2 z TI TO .ellipsis:=hs2 _ _ D.i1z.symm hz1;have hez:e≠z:=fun x=>by subst x;rw[hz2]at hoe;cases hoe;simp at hce
 refine wpAny_setField_rec hz2 (by simp) fun g3 _ hs3=> ?_;refine wpAny_bind (wpAny_isInstance (T:= "StopIteration") (b:=true) ⟨oe,hs3.extBut _ _ hez hoe,hce⟩ isSubtype_stop ?_);exact wpAny_pure (k g3 fun c o c1 c3 x=>hs3.extBut _ _ c1 (hs2 _ _ c3 (hs1.extBut _ _ c1 x)))
end
end L2
namespace L2
open PySem PySem.W PyProof.Rows PySem.Calls
section
variable {prog:Program}{w:World}{A:Around}{E:Value->Shared->Prop}{s:Shared}
def zH1 (h:Heap)(t:Addr):Heap:=h.push { cls:= .type "tuple_iterator",data:= .fields #[.ref t,.int 0 0] }
def zH2 (h:Heap)(t l:Addr):Heap:=(zH1 h t).push { cls:= .type "list_iterator",data:= .fields #[.ref l,.int 0 0] }
def zH3 (h:Heap)(t l:Addr):Heap:=(zH2 h t l).push { cls:= .type "tuple",data:= .seq #[.ref h.objs.size,.ref (zH1 h t).objs.size] }
def zH4 (h:Heap)(t l:Addr):Heap:=(zH3 h t l).push { cls:= .type "tuple",data:= .seq #[.none,.none] }
def zH5 (h:Heap)(t l:Addr):Heap:=(zH4 h t l).push { cls:= .type "zip",data:= .fields #[.none,.bool false,.bool false,.ref (zH2 h t l).objs.size,.ref (zH3 h t l).objs.size] }
theorem N9 (t l:Addr)(xs ys:Array Value):Meets (Builtin.«zip.__new__» ⟨[.type "zip",.ref t,.ref l],[]⟩) (fun _ R s=>s.heap.IsTuple t xs/\s.heap.IsList l ys/\R (.ok (.ret (.ref (zH4 s.heap t l).objs.size))) { s with heap:=zH5 s.heap t l }) :=
 .of_wp fun prog w A R s h=>by
  obtain⟨hp,g,d,tk,os⟩:=s;obtain⟨hl1,hl2,h⟩:=h;have sub0:=sub_zip;have q1:Heap.IsTuple (Shared.heap ⟨hp,g,d,tk,os⟩) t xs:=hl1;have q2:Heap.IsList (Shared.heap ⟨hp.push { cls:= .type "tuple_iterator",data:= .fields #[.ref t,.int 0 0] },g,d,tk,os⟩) l ys:=Heap.IsList.push hl2 _
  wp_walk using wpAny_pyIter_tuple q1,wpAny_pyIter_list q2
  exact⟨_,rfl,h⟩
theorem EM {t l:Addr}{xs ys:Array Value}{Q:Value->Shared->Prop} (hl1:s.heap.IsTuple t xs) (hl2:s.heap.IsList l ys)
  (k:∀h',IsZip h' (s.heap.objs.size+4) (s.heap.objs.size+2) (s.heap.objs.size+3) .none->IsPair h' (s.heap.objs.size+2) (.ref s.heap.objs.size) (.ref (s.heap.objs.size+1))->IsPair h' (s.heap.objs.size+3) .none .none->h'.IsTupleIter s.heap.objs.size t 0->h'.IsListIter (s.heap.objs.size+1) l 0->h'.objs.size=s.heap.objs.size+5 →
   (∀c o,s.heap.get? c=some o->h'.get? c=some o)->Q (.ref (s.heap.objs.size+4)) { s with heap:=h' }):wpAny (model prog w) A (call (.type "zip") [.ref t,.ref l]) Q E s:=by
 refine callType_new PySem.F.called_zip (by decide) (PySem.F.typeCall_zip_2 _ _) (PySem.F.newCall_zip_2 _ _) (fun obj=>PySem.F.args_object_init_3 obj _ _) PySem.F.entry_zip_new (N9 t l xs ys) ⟨hl1,hl2,?_⟩;have z1:(zH1 s.heap t).objs.size=s.heap.objs.size+1:=Heap.size_push ..;have z2:(zH2 s.heap t l).objs.size=s.heap.objs.size+2:=by rw[zH2,Heap.size_push,z1]
 have z3:(zH3 s.heap t l).objs.size=s.heap.objs.size+3:=by rw[zH3,Heap.size_push,z2]
 have z4:(zH4 s.heap t l).objs.size=s.heap.objs.size+4:=by rw[zH4,Heap.size_push,z3]
 have z5:(zH5 s.heap t l).objs.size=s.heap.objs.size+5:=by rw[zH5,Heap.size_push,z4]
 have g5:(zH5 s.heap t l).get? (zH4 s.heap t l).objs.size=some { cls:= .type "zip",data:= .fields #[.none,.bool false,.bool false,.ref (zH2 s.heap t l).objs.size,.ref (zH3 s.heap t l).objs.size] }:=Heap.get?_push_size _ rfl;have g4:(zH5 s.heap t l).get? (zH3 s.heap t l).objs.size=some { cls:= .type "tuple",data:= .seq #[.none,.none] }:=Heap.get?_push_of_some _ (Heap.get?_push_size _ rfl);have g3:(zH5 s.heap t l).get? (zH2 s.heap t l).objs.size=some { cls:= .type "tuple",data:= .seq #[.ref s.heap.objs.size,.ref (zH1 s.heap t).objs.size] }:=Heap.get?_push_of_some _ (Heap.get?_push_of_some _ (Heap.get?_push_size _ rfl));have g2:(zH5 s.heap t l).get? (zH1 s.heap t).objs.size=some { cls:= .type "list_iterator",data:= .fields #[.ref l,.int 0 0] }:=Heap.get?_push_of_some _ (Heap.get?_push_of_some _ (Heap.get?_push_of_some _ (Heap.get?_push_size _ rfl)));have g1:(zH5 s.heap t l).get? s.heap.objs.size=some { cls:= .type "tuple_iterator",data:= .fields #[.ref t,.int 0 0] }:=Heap.get?_push_of_some _ (Heap.get?_push_of_some _ (Heap.get?_push_of_some _ (Heap.get?_push_of_some _ (Heap.get?_push_size _ rfl))));show _/\_;rw[z2,z3,z4]at g5;rw[z1,z2]at g3;rw[z3]at g4;rw[z1]at g2;rw[z4];exact⟨⟨_,g5,rfl⟩,k _ g5 g3 g4 ⟨_,g1,rfl,rfl⟩ ⟨_,g2,rfl,rfl⟩ z5 fun c o x=>Heap.get?_push_of_some _ (Heap.get?_push_of_some _ (Heap.get?_push_of_some _ (Heap.get?_push_of_some _ (Heap.get?_push_of_some _ x))))⟩
end
def Itz (K:PySem.W.Frag)(t a:Addr):It :=
 ⟨fun i H=>∃xs ys x y,SqT K H t xs/\SqL K H a ys/\xs[i]? =some x/\ys[i]? =some y,fun i H x H'=>∃q,x= .ref q/\H q=none/\∀xs ys,SqT K H t xs->SqL K H a ys->∃u v,xs[i]? =some u/\ys[i]? =some v/\H'=upd H q (.tup [u,v]),fun i H=>∃xs,SqT K H t xs/\xs.length<=i⟩
theorem GR {P:Program}{w:World}{K:PySem.W.Frag}{elts:List Expr}{x1:Nat}{tpos:Pos}{z TI TO i1 i2:Addr} (t a:Addr) (D:ZipApart z TI TO i1 i2 t a) :
  lG P w K (.Tuple elts x1 tpos) (Itz K t a) [z,TI,TO,i1,i2] z (fun i h=>IsZip h z TI TO .none/\IsPair h TI (.ref i1) (.ref i2)/\(∃u v,IsPair h TO u v)/\h.IsTupleIter i1 t i/\h.IsListIter i2 a i) where
 mem:=by simp
 obj:=fun i h st b hb=>by
  obtain⟨e1,e2,⟨_,_,e3⟩,⟨o4,e4,_,d4⟩,o5,e5,_,d5⟩:=st;simp only[List.mem_cons,List.not_mem_nil,or_false]at hb;rcases hb with rfl|rfl|rfl|rfl|rfl
  ·exact⟨_,e1,fun v z=>by cases z⟩
  ·exact⟨_,e2,fun v z=>by cases z⟩
  ·exact⟨_,e3,fun v z=>by cases z⟩
  ·exact⟨_,e4,fun v z=>by rw[d4]at z;cases z⟩
  ·exact⟨_,e5,fun v z=>by rw[d5]at z;cases z⟩
 keep:=fun i h h' st k=>⟨k z (by simp) _ st.1,k TI (by simp) _ st.2.1,let ⟨u,v,e⟩:=st.2.2.1;⟨u,v,k TO (by simp) _ e⟩,st.2.2.2.1.at fun o q=>k i1 (by simp) o q,st.2.2.2.2.at fun o q=>k i2 (by simp) o q⟩
 item:=by
  intro X hP hw hK hc i pins s σ H E I hf st hg;subst hP hw hK;obtain⟨xs,ys,x,y,hq,hr,hx,hy⟩:=hg;obtain⟨st1,st2,⟨u0,v0,st3⟩,st4,st5⟩:=st;obtain⟨its,rv,p,_⟩:=I.tuple hq;obtain⟨jts,rw',pl,_⟩:=I.list hr;obtain⟨u,hu,ru⟩:=rv.get hx;obtain⟨v,hv,rv'⟩:=rw'.get hy;refine KQ D st1 st2 st3 st4 st5 (show s.heap.IsTuple t its.toArray from p) pl.isList (x:=u) (y:=v) (by simpa using hu) (by simpa using hv) fun h1 a1 a2 a3 a4 a5 a6 a7=> ?_;refine⟨_,rfl,?_⟩;refine wpAny_letOwnedTupleGo_zip (s:={ s with heap:=h1 }) a1 fun h2 b1 sb2=> ?_;have hq0:H s.heap.objs.size=none:=I.hok.fresh (Nat.le_refl _);have lz:z<s.heap.objs.size:=Heap.lt_size st1;have lTI:TI<s.heap.objs.size:=Heap.lt_size st2;have lTO:TO<s.heap.objs.size:=Heap.lt_size st3;have l1:i1<s.heap.objs.size:=by obtain⟨o,q,_⟩:=st4;exact Heap.lt_size q
  have l2:i2<s.heap.objs.size:=by obtain⟨o,q,_⟩:=st5;exact Heap.lt_size q
  have I1:Inv X pins σ (upd H s.heap.objs.size (.tup [x,y])) { s with heap:=s.heap.push { cls:= .type "tuple",data:= .seq #[u,v] } } :=
   I.laid (t':=s.toks) (fun b u e=>Heap.get?_push_of_some _ e) (Nat.le_refl _) ⟨(show 2<=sizeLine by rw[sizeLine_eq];decide),[u,v],.cons ru (.cons rv' .nil),⟨_,Heap.get?_push_size _ rfl,rfl,0,rfl⟩⟩
  have hf':∀b∈[z,TI,TO,i1,i2],eO X pins (upd H s.heap.objs.size (.tup [x,y])) b:=fun b hb=>by
   obtain⟨f0,f1⟩:=hf b hb;refine⟨?_,f1⟩;simp only[List.mem_cons,List.not_mem_nil,or_false]at hb;rcases hb with rfl|rfl|rfl|rfl|rfl
   ·rw[aI (Nat.ne_of_lt lz)];exact f0
   ·rw[aI (Nat.ne_of_lt lTI)];exact f0
   ·rw[aI (Nat.ne_of_lt lTO)];exact f0
   ·rw[aI (Nat.ne_of_lt l1)];exact f0
   ·rw[aI (Nat.ne_of_lt l2)];exact f0
  have I2:Inv X pins σ (upd H s.heap.objs.size (.tup [x,y])) { s with heap:=h2,toks:=s.toks }:=Inv.turns (s:={ s with heap:=s.heap.push { cls:= .type "tuple",data:= .seq #[u,v] } }) (h':=h2) (t':=s.toks) I1 (fun c o hb q=>by
   simp only[List.mem_cons,List.not_mem_nil,or_false,not_or]at hb;rcases Heap.get?_push_cases q with⟨rfl,rfl⟩|q
   ·exact(sb2.2 _ hb.1).trans a5
   ·exact(sb2.2 c hb.1).trans (a7 c o hb.1 hb.2.2.1 hb.2.2.2.1 hb.2.2.2.2 q)) hf'
  refine⟨.ref s.heap.objs.size,_,I2,rfl,⟨_,rfl,hq0,fun xs' ys' hx' hy'=>⟨x,y,by rw[I.tuple_inj hx' hq];exact hx,by rw[I.list_inj hy' hr];exact hy,rfl⟩⟩,⟨b1,?_,⟨u,v,(sb2.2 TO D.TOz).trans a2⟩,a3.at fun o q=>(sb2.2 i1 D.i1z).trans q,a4.at fun o q=>(sb2.2 i2 D.i2z).trans q⟩,fun b hb=>(hf' b hb).1⟩;exact(sb2.2 TI D.TIz).trans (a7 TI _ D.TIz D.TITO D.TIi1 D.TIi2 st2)
 done:=by
  intro X hP hw hK hc i pins s σ H E I hf st hg;subst hP hw hK;obtain⟨xs,hq,hx⟩:=hg;obtain⟨st1,st2,⟨u0,v0,st3⟩,st4,st5⟩:=st;obtain⟨its,rv,p,_⟩:=I.tuple hq;have hl:=rv.length;exact L8 (I.ok.hd hc) D st1 st2 st4 (show s.heap.IsTuple t its.toArray from p) (by simp;lia) fun h' eb=>⟨rfl,Inv.turns (t':=s.toks) I (ch:=[z,TI,TO,i1,i2]) (fun b o hb q=>by
   simp only[List.mem_cons,List.not_mem_nil,or_false,not_or]at hb;exact eb b o hb.1 hb.2.2.2.1 q) hf⟩
 self:=fun A i s Q E st h=>wpAny_pyIter_zip st.1 h
theorem NG:bootBuiltins "zip" =some (.type "zip"):=by decide +kernel
def MC (K:PySem.W.Frag)(ta:TA):TI:=fun σ H R=>ta σ H fun vs H1=>∃t b xs ys,vs=[.ref t,.ref b]/\SqT K H1 t xs/\SqL K H1 b ys/\R (Itz K t b) H1
end L2
namespace L2
open PySem PySem.W PyProof.Rows PySem.Calls
section
variable {X:Cx}
theorem OG {a b:Expr}{ta:TA}{p pos:Pos}{elts:List Expr}{x1:Nat}{tpos:Pos} (hg:Gl X "zip") (hm:X.mg "zip" =none) (ha:PA X [a,b] ta) (hs:starEach [a,b] X.env=(false,eval a X.env)::starEach [b] X.env:=by rfl) (hpl:(backTo pos (starEach [b] X.env)).any (·.1)=false:=by rfl):PI X (.Tuple elts x1 tpos) (.Call (.Name "zip" p) [a,b] [] pos) (MC X.K ta):=by
 intro pins s σ H R I h;refine Call_ (nU I hg hm NG (PyProof.Rows.callWith_type1 (thn (ha pos pins s σ H _ I h) fun us s1 ⟨vs,H1,I1,r1,q1⟩=> ?_) hs hpl));obtain⟨t,l,xs,ys,rfl,hq,hr,q⟩:=q1;obtain⟨u,v,rfl,ru,rv⟩:∃u v,us=[u,v]/\RelV (.ref t) u/\RelV (.ref l) v:=by
  cases r1 with
  | cons a b=>cases b with
   | cons c d=>cases d;exact⟨_,_,rfl,a,c⟩
 cases ru;cases rv;obtain⟨its,_,pt,_⟩:=I1.tuple hq;obtain⟨jts,_,pl,_⟩:=I1.list hr;refine EM (show s1.heap.IsTuple t its.toArray from pt) pl.isList fun h' e1 e2 e3 e4 e5 hsz kp=> ?_;refine wpAny_pyIter_zip (s:={ s1 with heap:=h' }) e1 ?_;have lt:t<s1.heap.objs.size:=by obtain⟨o,e,_⟩:=pt;exact Heap.lt_size e
 have ll:l<s1.heap.objs.size:=by obtain⟨o,e,_⟩:=pl.isList;exact Heap.lt_size e
 have I2:Inv X pins σ H1 { s1 with heap:=h' }:=I1.kept (t':=s1.toks) kp;have fr:∀n,eO X pins H1 (s1.heap.objs.size+n):=fun n=>I1.fpOk (Nat.le_add_right _ _) (I1.hok.fresh (Nat.le_add_right _ _));refine⟨s1.heap.objs.size+4,[s1.heap.objs.size+4,s1.heap.objs.size+2,s1.heap.objs.size+3,s1.heap.objs.size,s1.heap.objs.size+1],_,_,H1,rfl,I2,GR t l ⟨?_,?_,?_,?_,?_,?_,?_,?_,?_,?_,?_,?_,?_,?_,?_,?_,?_,?_⟩,⟨e1,e2,⟨_,_,e3⟩,e4,e5⟩,fun c hc=> ?_,q⟩
 case refine_19 =>
  simp only[List.mem_cons,List.not_mem_nil,or_false]at hc;rcases hc with rfl|rfl|rfl|rfl|rfl
  ·exact fr 4
  ·exact fr 2
  ·exact fr 3
  ·exact fr 0
  ·exact fr 1
 all_goals (intro z;have z':(_:Nat)=_:=z;have lt': @LT.lt Nat _ t s1.heap.objs.size:=lt;have ll': @LT.lt Nat _ l s1.heap.objs.size:=ll;lia)
def fP (z y:Str):Bool:=decide (0+y.length<=z.length)&&PySem.Builtin.Str.subAt z y 0
theorem DQ:MtR X "str.startswith" (fun x vs H Q=>∃z y:Str,x= .str z/\vs=[.str y]/\Q (.bl (fP z y)) H):=by
 intro pins s σ H x xs v us Q I rx rs h;obtain⟨z,y,rfl,rfl,q⟩:=h;obtain⟨t,rfl⟩:=rx;obtain⟨u,rfl,u',rfl⟩:=fD rs;exact call_gives PySem.F.slot_str_startswith (typeIs_str s z t) PySem.F.entry_str_startswith (PySem.F.args_str_startswith_2 _ _) (gives_str_startswith z y t u') ⟨.bl _,H,I,rfl,q⟩
def O3:List V->Hp->VK->Prop:=fun vs H Q=>∃(x:Str) (n:Int),vs=[.str x]/\PySem.intText? x=some n/\x.length<=640/\Q (.int n) H
theorem EV:b9 X (.type "int") O3:=by
 intro pins s σ H xs us Q I r h;obtain⟨x,n,rfl,hn,hl,q⟩:=h;obtain⟨u,rfl,t,rfl⟩:=fD r;exact KIN.call_text hn hl ⟨.int n,H,I.tok _,⟨_,rfl⟩,q⟩
end
section
variable {K:PySem.W.Frag}{ci:List Nat}{σ:St}{rest:List (Option V)}{H:Hp}{te:TE}{fin:List V->Hp->Prop}{t a:Addr}
theorem sD {H H':Hp}{t:Addr}{xs:List V} (e:Same H H') (h:SqT K H t xs):SqT K H' t xs:=by
 rcases h with h|h
 ·rcases h with h|⟨o,h⟩
  ·exact .inl (.inl (e _ _ h))
  ·exact .inl (.inr ⟨o,e _ _ h⟩)
 ·exact .inr h
theorem NL {xs ys:List V}(P:Nat->V->Hp->Prop)(hm:∀i y H1 H2,P i y H1->Same H1 H2->P i y H2)(hn:xs.length<=sizeLine)(hr:ci.map (fun i=>(σ[i]?).join)=rest)(hx:SqT K H t xs)(hy:SqL K H a ys)(hl:ys.length=xs.length)
  (he:∀i u v H1,xs[i]? =some u->ys[i]? =some v->Same H H1->∀R:VK,(∀y H2,P i y H2->Same H1 H2->R y H2)->te (some u::some v::rest) H1 R)
  (hf:∀zs H1,Same H H1->zs.length=xs.length->(∀i y,zs[i]? =some y->P i y H1)->fin zs H1):eV (Itz K t a) (sG K 2 (iW (dH 0) (iW (dH 1) u8))) AI te (bG 2 ci σ) fin H:=by
 have e0:bG 2 ci σ=none::none::rest:=GI hr;rw[e0];refine⟨fun i m zs H1=>m=xs.length - i/\i<=xs.length/\Same H H1/\zs.length=i/\∀j y,zs[j]? =some y->P j y H1,⟨xs.length,rfl,Nat.zero_le _,Same.refl _,rfl,fun j y e=>by simp at e⟩,fun i m zs H1 ⟨e1,e2,s1,e3,e4⟩=> ?_⟩
 by_cases hi:i<xs.length
 ·right
  have hi2:i<ys.length:=by lia
  refine⟨⟨xs,ys,xs[i],ys[i],sD s1 hx,s1.seq hy,List.getElem?_eq_getElem hi,List.getElem?_eq_getElem hi2⟩,fun v H' y=> ?_⟩;obtain⟨q,rfl,hq,yy⟩:=y;obtain⟨u,w,hu,hw,rfl⟩:=yy xs ys (sD s1 hx) (s1.seq hy);have s2:Same H1 (upd H1 q (.tup [u,w])):=uZ hq;refine⟨q,[u,w],rfl,.inl (.inl bA),rfl,u,[w],rfl,w,[],rfl,rfl,⟨rfl,fun j v hv=> ?_⟩,?_⟩
  ·match j,hv with
   | 0,hv=>cases hv
   | 1,hv=>cases hv
   | j+2,hv=>exact hv
  ·unfold AI;simp only[↓reduceIte];refine he i u w _ hu hw (s1.trans s2) _ fun y H3 hp s3=>⟨by lia,xs.length - (i+1),by lia,rfl,by lia,(s1.trans s2).trans s3,by rw[List.length_append,e3];rfl,fun j y' ej=> ?_⟩
   rcases Nat.lt_or_ge j zs.length with hj|hj
   ·rw[List.getElem?_append_left hj]at ej;exact hm _ _ _ _ (e4 j y' ej) (s2.trans s3)
   ·rw[List.getElem?_append_right hj]at ej;have:j=i:=by
     have:=(List.getElem?_eq_some_iff.mp ej).1;simp at this
     lia
    subst this;rw[e3,Nat.sub_self]at ej;cases ej;exact hp
 ·left
  exact⟨⟨xs,sD s1 hx,by lia⟩,hf zs H1 s1 (by lia) e4⟩
end
end L2
namespace L2
open PySem PySem.W PyProof.Rows PySem.Calls PySem.NumText
def noC (c:Nat)(x:Str):Prop:=c∉x.cps.toList
theorem zE {c:Nat}:∀{a b u v:List Nat},c∉a->c∉b->a++c::u=b++c::v->a=b/\u=v
 | [],[],u,v,_,_,h=>⟨rfl,(List.cons.inj h).2⟩
 | [],y::b,u,v,_,hb,h=>absurd (show c∈y::b by rw[←(List.cons.inj h).1];exact .head _) hb
 | x::a,[],u,v,ha,_,h=>absurd (show c∈x::a by rw[(List.cons.inj h).1];exact .head _) ha
 | x::a,y::b,u,v,ha,hb,h=>by
  obtain⟨h1,h2⟩:=List.cons.inj h;obtain⟨h3,h4⟩:=zE (fun z=>ha (.tail _ z)) (fun z=>hb (.tail _ z)) h2;exact⟨by rw[h1,h3],h4⟩
theorem cI (x y:Str):(x++y).cps.toList=x.cps.toList++y.cps.toList:=by
 show (x.cps++y.cps).toList=_;rw[Array.toList_append]
theorem eI {x y:Str}(h:x.cps.toList=y.cps.toList):x=y:=by
 obtain⟨a⟩:=x;obtain⟨b⟩:=y
 congr 1
 exact Array.toList_inj.mp h
theorem xH {c:Nat}:∀{ps qs:List Str},ps≠[]->qs≠[]->(∀p∈ps,noC c p)->(∀p∈qs,noC c p)->Str.join ⟨#[c]⟩ ps=Str.join ⟨#[c]⟩ qs->ps=qs
 | [],_,h,_,_,_,_=>absurd rfl h
 | _,[],_,h,_,_,_=>absurd rfl h
 | [x],[y],_,_,_,_,h=>by rw[show x=y from h]
 | [x],y::y2::qs,_,_,hp,_,h=>by
  have h':=congrArg (fun z:Str=>z.cps.toList) (show x=y++(⟨#[c]⟩:Str)++Str.join ⟨#[c]⟩ (y2::qs) from h);simp only[cI]at h';exact absurd (show c∈x.cps.toList by rw[h'];simp) (hp x (.head _))
 | x::x2::ps,[y],_,_,_,hq,h=>by
  have h':=congrArg (fun z:Str=>z.cps.toList) (show x++(⟨#[c]⟩:Str)++Str.join ⟨#[c]⟩ (x2::ps)=y from h);simp only[cI]at h';exact absurd (show c∈y.cps.toList by rw[←h'];simp) (hq y (.head _))
 | x::x2::ps,y::y2::qs,_,_,hp,hq,h=>by
  have h':=congrArg (fun z:Str=>z.cps.toList) (show x++(⟨#[c]⟩:Str)++Str.join ⟨#[c]⟩ (x2::ps)=y++(⟨#[c]⟩:Str)++Str.join ⟨#[c]⟩ (y2::qs) from h);simp only[cI]at h';obtain⟨h1,h2⟩:=zE (c:=c) (hp x (.head _)) (hq y (.head _)) (by simpa using h');have ih:=xH (ps:=x2::ps) (qs:=y2::qs) (List.cons_ne_nil _ _) (List.cons_ne_nil _ _) (fun p hp'=>hp p (.tail _ hp')) (fun p hq'=>hq p (.tail _ hq')) (eI h2);rw[eI h1,ih]
theorem iU {c:Nat}{ps:List Str} (hne:ps≠[]) (hp:∀p∈ps,noC c p):Txt.split (Str.join ⟨#[c]⟩ ps) ⟨#[c]⟩=ps:=by
 refine(xH hne ?_ hp (fun p hp=>StrLaws.split_free _ c p hp) ?_).symm
 ·intro z;have:=split_pos (Str.join ⟨#[c]⟩ ps) ⟨#[c]⟩;rw[z]at this;exact absurd this (by decide)
 ·exact(StrLaws.join_split _ _).symm
theorem qB {c:Nat}{x:Str} (h:noC c x):Txt.split x ⟨#[c]⟩=[x]:=iU (ps:=[x]) (fun z=>nomatch z) fun p hp=>by rw[List.mem_singleton.mp hp];exact h
theorem kT (n:Nat):(toString (n:Int):Str).cps.toList=(Nat.toDigits 10 n).map Char.toNat:=KIN.signs_num n
theorem lO (n:Nat):∀c∈(toString (n:Int):Str).cps.toList,48<=c/\c<=57:=by
 intro c hc;rw[kT]at hc;obtain⟨ch,hch,e⟩:=List.mem_map.mp hc;have r:=digit_range (Nat.isDigit_of_mem_toDigits (by decide) (by decide) hch);rw[←e];exact r
theorem J6 (n:Nat):digitsVal (toString (n:Int):Str).cps.toList=n:=by rw[kT];exact KIN.val_back n
theorem D8 (n:Nat):(toString (n:Int):Str).cps.toList≠[]:=by
 rw[kT];intro e;have h:=toDigits_len_ge 10 n;rw[List.map_eq_nil_iff.mp e]at h;exact absurd h (by decide)
theorem xG:∀(k n:Nat),n<10^k->(Nat.toDigits 10 n).length<=max 1 k
 | 0,n,h=>by
  have:n=0:=by simpa using h
  subst this;decide
 | k+1,n,h=>by
  by_cases hn:n<10
  ·rw[Nat.toDigits_of_lt_base hn];simp
  ·have hm:n%10<10:=Nat.mod_lt n (by decide);have t:Nat.toDigits 10 (n/10)++Nat.toDigits 10 (n%10)=Nat.toDigits 10 (10 * (n/10)+n%10):=Nat.toDigits_append_toDigits (by decide) (by lia) hm;rw[Nat.div_add_mod]at t;have h1:n/10<10^k:=by rw[Nat.pow_succ]at h;lia
   have ih:=xG k (n/10) h1;have hk:1<=k:=by
    cases k with
    | zero=>simp at h1;lia
    | succ k=>lia
   rw[←t,List.length_append,Nat.toDigits_of_lt_base hm];simp only[List.length_cons,List.length_nil]
   lia
theorem fB {n:Int}{k:Nat} (h0:0<=n) (h1:n<10^k) (hk:1<=k):(toString n:Str).length<=k:=by
 obtain⟨m,rfl⟩:=Int.eq_ofNat_of_zero_le h0;have e:(toString (m:Int):Str).length=(toString (m:Int):Str).cps.toList.length:=by rw[Array.length_toList];rfl
 rw[e,kT,List.length_map];have:=xG k m (by exact_mod_cast h1)
 lia
theorem DR:∀n:Nat,0<n->∀c r,Nat.toDigits 10 n=c::r->c.toNat≠48:=by
 intro n
 induction n using Nat.strongRecOn with
 | _ n ih =>
  intro h c r e
  by_cases hn:n<10
  ·rw[Nat.toDigits_of_lt_base hn]at e;cases e;have:∀d:Nat,d<10->0<d->(Nat.digitChar d).toNat≠48:=by decide
   exact this n hn h
  ·have hm:n%10<10:=Nat.mod_lt n (by decide);have t:Nat.toDigits 10 (n/10)++Nat.toDigits 10 (n%10)=Nat.toDigits 10 (10 * (n/10)+n%10):=Nat.toDigits_append_toDigits (by decide) (by lia) hm;rw[Nat.div_add_mod]at t;rw[←t]at e;cases hd:Nat.toDigits 10 (n/10) with
   | nil =>
    have hl:=toDigits_len_ge 10 (n/10);rw[hd]at hl;exact absurd hl (by decide)
   | cons d ds =>
    rw[hd]at e;cases e;exact ih (n/10) (by lia) (by lia) c ds hd
theorem HX {n:Nat}(h:0<n):∀c r,(toString (n:Int):Str).cps.toList=c::r->c≠48:=by
 intro c r e hc;subst hc;rw[kT]at e;cases hd:Nat.toDigits 10 n with
 | nil=>rw[hd]at e;cases e
 | cons d ds =>
  rw[hd]at e;have e1:d.toNat=48:=(List.cons.inj e).1;exact DR n h d ds hd e1
end L2
namespace L2
open PySem PySem.W PyProof.Rows
section
variable {K:PySem.W.Frag}{te:TE}{σ:St}{ci:List Nat}{rest:St}{fin:List V->Hp->Prop}{H:Hp}{a:Addr}
theorem MB {xs:List V}(P:V->V->Hp->Prop)(hm:∀x y H1 H2,P x y H1->Same H1 H2->P x y H2)(hn:xs.length<=sizeLine)(hr:ci.map (fun i=>(σ[i]?).join)=rest)(hl:SqT K H a xs)
  (he:∀x H1,x∈xs->Same H H1->∀R:VK,(∀y H2,P x y H2->Same H1 H2->R y H2)->te (some x::rest) H1 R)
  (hf:∀ys H1,Same H H1->Paired (fun x y=>P x y H1) xs ys->fin ys H1):eV (Itt K a) (dH 0) AI te (bG 1 ci σ) fin H:=by
 rw[ES hr];refine mE xs (fun _=>true) P hm hn (fun i H1 s hi=>⟨xs,xs[i],sD s hl,List.getElem?_eq_getElem hi⟩) (fun H1 s=>⟨xs,sD s hl,Nat.le_refl _⟩) (fun i x H1 hx s1 v H' y=> ?_) (fun ys H1 s p=>hf ys H1 s (by rw[List.filter_eq_self.mpr (fun _ _=>rfl)]at p;exact p));obtain⟨rfl,e2⟩:=y;have ev:=e2 xs (sD s1 hl);rw[hx]at ev;cases ev;have hmem:=List.mem_of_getElem? hx;refine⟨Same.refl _,some x::rest,rfl,fun j v hv=> ?_,fun R h=>h,fun R h=>h _ (Same.refl _),fun _ H2 s2 R h=>he x H2 hmem (s1.trans s2) R h⟩;cases j with
 | zero=>cases hv
 | succ j=>exact hv
end
end L2
namespace L2
open PySem PySem.W PyProof.Rows
section
variable {X:Cx}
def PQ (X:Cx)(e:Expr)(t:TE):Prop :=
 ∀(pins:List (Addr×Obj)) (s:Shared) (σ:St) (H:Hp) (Q:VK),Inv X pins σ H s->t σ H Q->wpAny (model X.prog X.w) X.A (eval e X.env) (fun u s'=>s'=s/\EP X pins σ Q u s') X.xe s
theorem EK (i:Nat){x:Str}{pos:Pos} (hN:X.N[i]? =some x:=by rfl) (hv:Vis X.env.scope x:=by first|exact Or.inl rfl|exact Or.inr (Or.inl rfl)|exact Or.inr (Or.inr rfl)) (hd:(x==("__debug__" :Str))=false:=by decide)
  (hcd:(x==("__classdict__" :Str))=false:=by decide):PQ X (.Name x pos) (jG i):=by
 intro pins s σ H Q I h;obtain⟨v,e,h⟩:=h;obtain⟨m,hn,hl⟩:=I.loc;obtain⟨u,r,l⟩:=hl i x v hN e hv;have fin:s=s/\EP X pins σ Q u s:=⟨rfl,v,H,I,r,h⟩
 rcases l with⟨hk,hm⟩|⟨hk,c,hc,hcell⟩
 ·exact wpAny_Name (wpAny_loadName_local I.ok.kind hk hn hm fin) hd
 ·rcases hk with hk|hk
  ·exact wpAny_Name (wpAny_loadName_cell I.ok.kind hk hc hcell fin) hd
  ·exact wpAny_Name (wpAny_loadName_free I.ok.kind hk hc hcell fin hcd) hd
def MI (K:PySem.W.Frag):R2:=fun x y H Q=>∃p xs i v,x= .ref p/\y= .int i/\0<=i/\SqL K H p xs/\xs[i.toNat]? =some v/\Q v H
theorem OO {a b:Expr}{ta tb:TE}{pos:Pos} (ha:PQ X a ta) (hb:PQ X b tb) (hs:y4 b):PQ X (.Subscript a b pos) (tOp (MI X.K) ta tb):=by
 intro pins s σ H Q I h;refine Subscript_ (thn (ha pins s σ H _ I h) fun v s1 ⟨e1,x,H1,I1,r1,q1⟩=> ?_);subst e1;refine thn (hb pins _ σ H1 _ I1 q1) fun u s2 ⟨e2,y,H2,I2,r2,q2⟩=> ?_;subst e2;obtain⟨p,xs,i,z,rfl,rfl,h0,hq,he,q⟩:=q2;cases r1;obtain⟨t,rfl⟩:=r2;obtain⟨its,r,pl,hz⟩:=I2.list hq;obtain⟨w,ew,rw'⟩:=r.get he;have hl:=r.length;have hn:=k6;have hi:i.toNat<its.length:=(List.getElem?_eq_some_iff.mp ew).1;exact item_listR pl.isList h0 (by lia) (by simpa using ew) ⟨rfl,z,H2,I2,rw',q⟩ (hs _ _)
def IM (K:PySem.W.Frag)(b y z:Str)(ta to:TE):TA:=fun σ H Q=>ta σ H fun x H1=>∃z0,x= .str z0/\z0.length+b.length<=sizeLine/\to σ H1 fun w H2=>∃z1,w= .str z1/\z1.length<=1000000/\Q [.str (z0++b),.str (Txt.replace z1 y z)] H2
theorem KD {a o:Expr}{ta to:TE}{b y z:Str}{kb ky kz:Nat}{pb py pz pos1 apos cpos:Pos} (ha:PE X a ta) (ho:PQ X o to) (hyz:(y==z)=false) (hz:z.length<=14)
  (hbase:attributeBase o "replace" X.env (eval o X.env)=eval o X.env:=by rfl)
  (hfew:((backTo cpos (starEach [.Constant (.str y) ky py,.Constant (.str z) kz pz] X.env)).all (fun x=> !x.1)&&(backToKw cpos (keywordEach [] X.env)).all (fun x=>x.1.isSome)
   && decide (([.Constant (.str y) ky py,.Constant (.str z) kz pz]:List Expr).length+([]:List Keyword).length+(if ([]:List Keyword).isEmpty then 0 else 1)<30))=true:=by rfl)
  (hline:(apos.endLine==cpos.line)=true:=by rfl)
  (hs:starEach [.BinOp a .Add (.Constant (.str b) kb pb) pos1,.Call (.Attribute o "replace" apos) [.Constant (.str y) ky py,.Constant (.str z) kz pz] [] cpos] X.env=(false,eval (.BinOp a .Add (.Constant (.str b) kb pb) pos1) X.env)::(false,eval (.Call (.Attribute o "replace" apos) [.Constant (.str y) ky py,.Constant (.str z) kz pz] [] cpos) X.env)::starEach [] X.env:=by rfl)
  (hs2:starEach [.Constant (.str y) ky py,.Constant (.str z) kz pz] X.env=(false,eval (.Constant (.str y) ky py) X.env)::(false,eval (.Constant (.str z) kz pz) X.env)::starEach [] X.env:=by rfl) :
  PA X [.BinOp a .Add (.Constant (.str b) kb pb) pos1,.Call (.Attribute o "replace" apos) [.Constant (.str y) ky py,.Constant (.str z) kz pz] [] cpos] (IM X.K b y z ta to):=by
 intro pos pins s σ H Q I h;rw[hs];show wpAny _ _ (spliced ((false,_)::(false,_)::backTo pos (starEach [] X.env))) _ _ s;refine Calls.spliced_cons (wpAny_BinOp (thn (ha pins s σ H _ I h) fun u s1 ⟨x,H1,I1,r1,q1⟩=>Calls.Constant_str ?_));obtain⟨z0,rfl,hl,q1⟩:=q1;obtain⟨t,rfl⟩:=r1;have nxt:∀t' tk,0<tk->wpAny (model X.prog X.w) X.A (spliced ((false,eval (.Call (.Attribute o "replace" apos) [.Constant (.str y) ky py,.Constant (.str z) kz pz] [] cpos) X.env)::backTo pos (starEach [] X.env))) (fun us s'=>AP X pins σ Q (Value.str (z0++b) t'::us) s') X.xe { s1 with toks:=tk }:=fun t' tk hk=>by
  refine Calls.spliced_cons ?_;refine wpAny_Call_method_late hbase hfew hline rfl (thn (ho pins _ σ H1 _ (I1.tok tk) q1) fun v s2 ⟨e2,x,H2,I2,r2,z1,ex,hz1,q2⟩=> ?_);subst e2;subst ex;obtain⟨t2,rfl⟩:=r2;refine⟨"str",_,PySem.F.plainAttrs_str,PySem.F.slot_str_replace,PySem.F.type_str_replace,typeIs_str _ _ _,?_,?_⟩
  ·intro _ z;cases z
  ·rw[hs2];refine Calls.callWith_builtin rfl (Calls.evalArgs_plain ?_);refine Calls.spliced_cons (Calls.Constant_str (k:=ky) (pos:=py) (Calls.spliced_cons (Calls.Constant_str (k:=kz) (pos:=pz) (Calls.spliced_nil ?_))));refine PySem.SC.replaceW (by show tk≠0;lia) (by show tk+1≠0;lia) (by show tk≠tk+1;lia) hyz (by lia) hz fun t' k=> ?_;exact Calls.spliced_nil ⟨[.str (z0++b),.str (Txt.replace z1 y z)],H2,I2.tok _,.cons ⟨_,rfl⟩ (.cons ⟨_,rfl⟩ .nil),q2⟩
 refine PySem.P.add_str ?_
 by_cases e1:(z0.length==0)=true
 ·rw[if_pos e1];have e:z0++b=b:=eI (by rw[cI,List.eq_nil_of_length_eq_zero (l:=z0.cps.toList) (by rw[Array.length_toList];exact eq_of_beq e1)];rfl);have k:=nxt s1.toks (s1.toks+1) (Nat.succ_pos _);rw[e]at k;exact k
 ·rw[if_neg e1]
  by_cases e2:(b.length==0)=true
  ·rw[if_pos e2];have e:z0++b=z0:=eI (by rw[cI,List.eq_nil_of_length_eq_zero (l:=b.cps.toList) (by rw[Array.length_toList];exact eq_of_beq e2),List.append_nil]);have k:=nxt t (s1.toks+1) (Nat.succ_pos _);rw[e]at k;exact k
  ·rw[if_neg e2];exact⟨by rw[b5];exact hl,nxt _ _ (Nat.succ_pos _)⟩
end
end L2
namespace L2
open PySem PySem.W PyProof.Rows
section
variable {X:Cx}
def JD (K:PySem.W.Frag):R2:=fun x y H Q=>∃a b xs ys r1 r2,x= .ref a/\y= .ref b/\SqL K H a xs/\SqL K H b ys/\KRows H xs r1/\KRows H ys r2/\Q (.bl (!decide (r1=r2))) H
theorem rH {H:Hp}:∀{xs:List V}{rs:List (List Key)}{us:List Value},KRows H xs rs->Vals xs us->∀j (h:j<us.length),∃q r,us[j]= .ref q/\rs[j]? =some r/\H q=some (.tup (r.map kV))
 | _,_,_,.nil,.nil,_,h=>absurd h (Nat.not_lt_zero _)
 | _,_,_,.cons ⟨q,h1,h2⟩ _,.cons r1 _,0,_=>by subst h1;cases r1;exact⟨q,_,rfl,rfl,h2⟩
 | _,_,_,.cons _ t,.cons _ r2,j+1,h=>rH t r2 j (Nat.lt_of_succ_lt_succ h)
theorem K3 (hu:X.A.units+9<cLine):OpR X (compareOp .NotEq) (JD X.K):=by
 intro pins s σ H x y v u Q I rx ry h;obtain⟨a,b,xs,ys,ra,rb,rfl,rfl,ha,hb,ka,kb,q⟩:=h;cases rx;cases ry;obtain⟨its,r,pl,hz⟩:=I.list ha;obtain⟨its2,r2,pl2,_⟩:=I.list hb;have l1:=r.length;have l2:=r2.length;have l3:=Paired.length ka;have l4:=Paired.length kb
 by_cases hl:ra.length=rb.length
 ·refine SeqAt.RcNeAt.lists (e:=fun j=>decide (ra[j]? =rb[j]?)) pl.isList pl2.isList (by rw[List.size_toArray,List.size_toArray];lia) (by lia) (fun j h1 h2=> ?_) X.prog X.w X.xe _ ⟨.bl (!decide (ra=rb)),H,I,?_,q⟩
  ·obtain⟨p1,q1,e1,f1,g1⟩:=rH ka r j (by simpa using h1);obtain⟨p2,q2,e2,f2,g2⟩:=rH kb r2 j (by simpa using h2);have:=KG (A:=X.A.in1) I (by show X.A.units+1<cLine;lia) g1 g2;have ee:decide (ra[j]? =rb[j]?)=decide (q1=q2):=by
    rw[f1,f2,Bool.eq_iff_iff,decide_eq_true_eq,decide_eq_true_eq];exact⟨fun h=>Option.some.inj h,fun h=>by rw[h]⟩
   rw[ee]
   simpa [e1,e2] using this
  ·have e:(List.range its.toArray.size).all (fun j=>decide (ra[j]? =rb[j]?))=decide (ra=rb):=by
    rw[Bool.eq_iff_iff,List.all_eq_true,decide_eq_true_eq]
    constructor
    ·intro h
     apply List.ext_getElem?
     intro i
     by_cases hi:i<ra.length
     ·exact of_decide_eq_true (h i (List.mem_range.mpr (by rw[List.size_toArray];lia)))
     ·rw[List.getElem?_eq_none (by lia),List.getElem?_eq_none (by lia)]
    ·rintro rfl i _;exact decide_eq_true rfl
   rw[e];rfl
 ·refine SeqAt.RcNeAt.lists_lengths pl.isList pl2.isList (by rw[List.size_toArray,List.size_toArray,bne_iff_ne];lia) (by lia) X.prog X.w X.xe _ ⟨.bl (!decide (ra=rb)),H,I,?_,q⟩;rw[decide_eq_false (fun z=>hl (by rw[z]))];rfl
theorem M1 {K:PySem.W.Frag}{o e:Expr}{es:List Expr}{to:TE}{t:TA}{name:Str}{apos cpos:Pos}{T id:String}{r:V->List V->Hp->VK->Prop} (hK:X.K=K) (pa:PlainAttrs T) (slot:Slot T name id) (hty:typeOf (.builtin id)=pure (.type "method_descriptor")) (hm:MtR X id r) (ho:PE X o to) (ha:PA X (e::es) t)
  (hbase:attributeBase o name X.env (eval o X.env)=eval o X.env:=by rfl)
  (hfew:((backTo cpos (starEach (e::es) X.env)).all (fun x=> !x.1)&&(backToKw cpos (keywordEach [] X.env)).all (fun x=>x.1.isSome)
   && decide ((e::es).length+([]:List Keyword).length+(if ([]:List Keyword).isEmpty then 0 else 1)<30))=true:=by rfl)
  (hline:(apos.endLine==cpos.line)=true:=by rfl)(hs:starEach (e::es) X.env=(false,eval e X.env)::starEach es X.env:=by rfl)(hplain:(backTo cpos (starEach es X.env)).any (·.1)=false:=by rfl) :
  PE X (.Call (.Attribute o name apos) (e::es) [] cpos) (tBM K T r to t):=by
 subst hK;exact eS pa slot hty hm ho ha hbase hfew hline hs hplain
theorem LC {K:PySem.W.Frag}{H:Hp}{Q:VK}{a b:Addr}{xs ys:List V}{r1 r2:List (List Key)} (ha:SqL K H a xs) (hb:SqL K H b ys) (ka:KRows H xs r1) (kb:KRows H ys r2) (h:Q (.bl (!decide (r1=r2))) H):JD K (.ref a) (.ref b) H Q:=⟨a,b,xs,ys,r1,r2,rfl,rfl,ha,hb,ka,kb,h⟩
end
end L2
namespace L2
def MP {α:Type}:Nat->(List α->Prop)->Prop
 | 0,p=>p []
 | n+1,p=>∀a,MP n (fun l=>p (a::l))
theorem bK {α:Type}:∀(n:Nat) (p:List α->Prop),MP n p->∀us:List α,us.length=n->p us
 | 0,_,h,[],_=>h
 | n+1,_,h,a::us,e=>bK n _ (h a) us (by simpa using e)
 | 0,_,_,_::_,e=>by simp at e
 | _+1,_,_,[],e=>by simp at e
end L2
namespace Prf
open PySem L2
set_option hygiene false
local macro_rules| `(tactic| walk_at"fs")=> `(tactic| exact⟨rfl,rfl,rfl,by decide +kernel,rfl,by decide +kernel,by decide +kernel⟩)
local macro_rules| `(tactic| walk_at"hu")=> `(tactic| (have hu0:=Room.units0 hr;have hu1:=Room.units1 hr;have hu9:=Room.units9 hr))
set_option hygiene true
def top (i:Nat):Stmt:=PySem.Challenge.pw_firstout_k74_plans_as_texts.main.body.getD i (.Pass ⟨0,0,0,0⟩)
abbrev eU:Stmt:=top 6
theorem sc_is_name:bE ["thing"] ["thing"] (aD eU):=by walk_at"fs"
abbrev eF:Stmt:=top 8
theorem sc_added_up:bE ["plan","going","turn","name","number"] ["plan"] (aD eF):=by walk_at"fs"
abbrev eW:Stmt:=top 9
theorem sc_as_told:bE ["plan"] ["plan"] (aD eW):=by walk_at"fs"
abbrev fO:Stmt:=top 12
theorem sc_row_of:bE ["parts"] ["parts"] (aD fO):=by walk_at"fs"
abbrev dU:Stmt:=top 13
theorem sc_need_text:bE ["thing"] ["thing"] (aD dU):=by walk_at"fs"
abbrev bW:Stmt:=top 14
theorem sc_is_written_whole:bE ["text"] ["text"] (aD bW):=by walk_at"fs"
abbrev dF:Stmt:=top 15
theorem sc_read_whole:bE ["text"] ["text"] (aD dF):=by walk_at"fs"
abbrev dS:Stmt:=top 16
theorem sc_read_name:bE ["text"] ["text"] (aD dS):=by walk_at"fs"
abbrev dW:Stmt:=top 17
theorem sc_read_part:bE ["form","word"] ["form","word"] (aD dW):=by walk_at"fs"
abbrev dE:Stmt:=top 18
theorem sc_read_parts:bE ["forms","words"] ["forms","words"] (aD dE):=by walk_at"fs"
abbrev dX:Stmt:=top 20
theorem sc_plan_rows:bE ["plan"] ["plan"] (aD dX):=by walk_at"fs"
abbrev dY:Stmt:=top 21
theorem sc_plan_text:bE ["plan"] ["plan"] (aD dY):=by walk_at"fs"
abbrev dQ:Stmt:=top 22
theorem sc_read_plan:bE ["text","rows","plan"] ["text"] (aD dQ):=by walk_at"fs"
abbrev cN:Stmt:=top 24
theorem sc__law_cell_at:bE ["_law_script","_law_k"] ["_law_script","_law_k"] (aD cN):=by walk_at"fs"
abbrev dG:Stmt:=top 25
theorem sc__law_drawn:bE ["_law_cell","_law_k","_law_number"] ["_law_cell","_law_k"] (aD dG):=by walk_at"fs"
abbrev dP:Stmt:=top 26
theorem sc__law_name:bE ["_law_draw","_law_some"] ["_law_draw"] (aD dP):=by walk_at"fs"
abbrev dO:Stmt:=top 27
theorem sc__law_plan:bE ["_law_script","_law_rows","_law_cell","_law_turn","_law_number"] ["_law_script"] (aD dO):=by walk_at"fs"
abbrev dZ:Stmt:=top 28
theorem sc__law_text:bE ["_law_plan_here"] ["_law_plan_here"] (aD dZ):=by walk_at"fs"
abbrev eG:Stmt:=top 29
theorem sc__law_put:bE ["_law_rows","_law_at","_law_row"] ["_law_rows","_law_at","_law_row"] (aD eG):=by walk_at"fs"
abbrev cJ:Stmt:=top 30
theorem sc__law_spoiled:bE ["_law_plan_here","_law_cell","_law_rows","_law_way","_law_at","_law_words","_law_row"] ["_law_plan_here","_law_cell"] (aD cJ):=by walk_at"fs"
abbrev cO:Stmt:=top 31
theorem sc__law_refused:bE ["_law_text_here","e"] ["_law_text_here"] (aD cO):=by walk_at"fs"
abbrev iD:Stmt:=top 32
theorem sc_law:bE ["_law_script","_law_plan_here","_law_handed","_law_text_here","_law_found","_law_k"] ["_law_script"] (aD iD):=by walk_at"fs"
theorem FH:("abcdefghijklmnopqrstuvwxyz" :Str).length=26:=by rw[aR];rfl
theorem HQ:("3 d 4" :Str).length=5:=by rw[aR];rfl
theorem FV:(" " :Str).length=1:=by rw[aR];rfl
theorem HN:("it is no text" :Str).length=13:=by rw[aR];rfl
theorem F5:("0" :Str).length=1:=by rw[aR];rfl
theorem GA:("the text is no number" :Str).length=21:=by rw[aR];rfl
theorem GD:("the text is no name" :Str).length=19:=by rw[aR];rfl
theorem FU:("name" :Str).length=4:=by rw[aR];rfl
theorem HH:("there are words too few or too many" :Str).length=35:=by rw[aR];rfl
theorem GU:("\n" :Str).length=1:=by rw[aR];rfl
theorem AK:("" :Str).length=0:=by rw[aR];rfl
theorem AY:("no plan is told so" :Str).length=18:=by rw[aR];rfl
theorem AL:("p" :Str).length=1:=by rw[aR];rfl
theorem AS:("d" :Str).length=1:=by rw[aR];rfl
theorem A6:("number" :Str).length=6:=by rw[aR];rfl
theorem AR:("z " :Str).length=2:=by rw[aR];rfl
theorem CH:(" 0" :Str).length=2:=by rw[aR];rfl
theorem AN:("-" :Str).length=1:=by rw[aR];rfl
theorem CG:("a" :Str).length=1:=by rw[aR];rfl
theorem BQ:("z" :Str).length=1:=by rw[aR];rfl
theorem CF:("q" :Str).length=1:=by rw[aR];rfl
theorem A5:("x" :Str).length=1:=by rw[aR];rfl
theorem AQ:("9" :Str).length=1:=by rw[aR];rfl
theorem A9:(" x" :Str).length=2:=by rw[aR];rfl
theorem BO:(" -1" :Str).length=3:=by rw[aR];rfl
theorem A0:(" +1" :Str).length=3:=by rw[aR];rfl
theorem A2:(" 1.0" :Str).length=4:=by rw[aR];rfl
theorem CI:(" 1" :Str).length=2:=by rw[aR];rfl
theorem A7:("  " :Str).length=2:=by rw[aR];rfl
theorem BR:(" ninewords " :Str).length=11:=by rw[aR];rfl
theorem BX:(" Hall " :Str).length=6:=by rw[aR];rfl
theorem BU:(" a1 " :Str).length=4:=by rw[aR];rfl
theorem BK:(" - " :Str).length=3:=by rw[aR];rfl
set_option genInjectivity false in
set_option genSizeOfSpec false in
structure M (K:W.Frag)(mg:Str->Option Value) where
 oK:Addr
 oG:FuncData
 jZ:FunV K "is_name" "is_name" eU oK oG
 FD:Binds K oG ["thing"] []
 mR:Addr
 mQ:FuncData
 iX:FunV K "added_up" "added_up" eF mR mQ
 CN:Binds K mQ ["plan"] []
 oM:Addr
 oI:FuncData
 j6:FunV K "as_told" "as_told" eW oM oI
 FB:Binds K oI ["plan"] []
 qA:Addr
 p6:FuncData
 mP:FunV K "row_of" "row_of" fO qA p6
 HZ:Binds K p6 ["parts"] []
 kH:Addr
 kQ:FuncData
 eM:FunV K "need_text" "need_text" dU kH kQ
 yR:Binds K kQ ["thing"] []
 eY:Addr
 eZ:FuncData
 dM:FunV K "is_written_whole" "is_written_whole" bW eY eZ
 oH:Binds K eZ ["text"] []
 jJ:Addr
 jK:FuncData
 gL:FunV K "read_whole" "read_whole" dF jJ jK
 xT:Binds K jK ["text"] []
 kO:Addr
 kN:FuncData
 iJ:FunV K "read_name" "read_name" dS kO kN
 yJ:Binds K kN ["text"] []
 kP:Addr
 kI:FuncData
 iI:FunV K "read_part" "read_part" dW kP kI
 yU:Binds K kI ["form","word"] []
 jO:Addr
 jP:FuncData
 gJ:FunV K "read_parts" "read_parts" dE jO jP
 xP:Binds K jP ["forms","words"] []
 kF:Addr
 kA:FuncData
 iF:FunV K "plan_rows" "plan_rows" dX kF kA
 yX:Binds K kA ["plan"] []
 kK:Addr
 kJ:FuncData
 fM:FunV K "plan_text" "plan_text" dY kK kJ
 yK:Binds K kJ ["plan"] []
 kG:Addr
 kE:FuncData
 c7:FunV K "read_plan" "read_plan" dQ kG kE
 yP:Binds K kE ["text"] []
 iB:Addr
 h9:FuncData
 c9:FunV K "_law_cell_at" "_law_cell_at" cN iB h9
 sN:Binds K h9 ["_law_script","_law_k"] []
 jM:Addr
 jH:FuncData
 bP:FunV K "_law_drawn" "_law_drawn" dG jM jH
 xV:Binds K jH ["_law_cell","_law_k"] []
 kL:Addr
 kC:FuncData
 iG:FunV K "_law_name" "_law_name" dP kL kC
 yW:Binds K kC ["_law_draw"] []
 kR:Addr
 kM:FuncData
 iH:FunV K "_law_plan" "_law_plan" dO kR kM
 yI:Binds K kM ["_law_script"] []
 kB:Addr
 kS:FuncData
 eN:FunV K "_law_text" "_law_text" dZ kB kS
 yT:Binds K kS ["_law_plan_here"] []
 mS:Addr
 mO:FuncData
 cD:FunV K "_law_put" "_law_put" eG mS mO
 CQ:Binds K mO ["_law_rows","_law_at","_law_row"] []
 hU:Addr
 iA:FuncData
 fH:FunV K "_law_spoiled" "_law_spoiled" cJ hU iA
 sO:Binds K iA ["_law_plan_here","_law_cell"] []
 hZ:Addr
 h7:FuncData
 fI:FunV K "_law_refused" "_law_refused" cO hZ h7
 sJ:Binds K h7 ["_law_text_here"] []
 CO:Addr
 CK:FuncData
 QA:FunV K "law" "law" iD CO CK
 QS:Binds K CK ["_law_script"] []
 E9:mg "is_name" =some (.ref oK)
 CM:mg "added_up" =some (.ref mR)
 FA:mg "as_told" =some (.ref oM)
 IA:mg "row_of" =some (.ref qA)
 yM:mg "need_text" =some (.ref kH)
 oJ:mg "is_written_whole" =some (.ref eY)
 xR:mg "read_whole" =some (.ref jJ)
 yQ:mg "read_name" =some (.ref kO)
 yO:mg "read_part" =some (.ref kP)
 xU:mg "read_parts" =some (.ref jO)
 yH:mg "plan_rows" =some (.ref kF)
 yV:mg "plan_text" =some (.ref kK)
 yS:mg "read_plan" =some (.ref kG)
 sL:mg "_law_cell_at" =some (.ref iB)
 xQ:mg "_law_drawn" =some (.ref jM)
 yN:mg "_law_name" =some (.ref kL)
 yG:mg "_law_plan" =some (.ref kR)
 yL:mg "_law_text" =some (.ref kB)
 CL:mg "_law_put" =some (.ref mS)
 sM:mg "_law_spoiled" =some (.ref hU)
 sK:mg "_law_refused" =some (.ref hZ)
 QT:mg "law" =some (.ref CO)
 rD:Addr
 CP:mg "OutError" =some (.ref rD)
 xS:Addr
 HY:mg "NoPlan" =some (.ref xS)
 aQ:Addr
 h8:mg "NoText" =some (.ref aQ)
 jI:ND K aQ
 tZ:iQ K aQ
 fA:W.exmOne K (.ref aQ) (.ref rD)=some true
 jN:W.kitOne K (.ref aQ) (.ref aQ)=some true
 jL:W.kitOne K (.ref aQ) (.ref xS)=some false
 gK:W.kitOne K (.ref aQ) (.type "ValueError")=some true
 xO:mg "ValueError" =none
 xN:mg "sorted" =none
 P8:mg "int" =none
 AF:mg "tuple" =none
 FC:mg "list" =none
 LO:mg "range" =none
 cQ:mg "isinstance" =none
 o8:mg "str" =none
 JJ:mg "all" =none
 o7:mg "len" =none
 P9:mg "zip" =none
 hV:∃t:Tok,mg "LONGEST_NAME" =some (.int 8 t)
 hJ:∃t:Tok,mg "MOST_FIGURES" =some (.int 60 t)
theorem gl_ {G:Prop}(h:∀G':Prop,G'=G->G'):G:=h G rfl
set_option hygiene false
local macro_rules| `(tactic| walk_at"g1")=> `(tactic| (refine gl_ ?_;intro G_ hG_))
local macro_rules| `(tactic| walk_at"g2")=> `(tactic| subst hG_)
local macro_rules| `(tactic| walk_at"cx")=> `(tactic| try dsimp only[cxK,cxP,cxW,cxM,cxB])
set_option hygiene true
local macro_rules| `(tactic| walk_at"hp")=> `(tactic| first|assumption|(refine' Same.at ?s ?h;(case s=>assumption);(case h=>walk_at"hp"))|(refine' SqL.of ?h;(case h=>walk_at"hp"))|(refine' SqT.of ?h;(case h=>walk_at"hp"))|(refine' Same.seq ?s ?h;(case s=>assumption);(case h=>walk_at"hp"))|(refine' Same.sqT ?s ?h;(case s=>assumption);(case h=>walk_at"hp")))
local macro_rules| `(tactic| walk_at"sm")=> `(tactic| first|assumption|exact Same.refl _|(refine' Same.snoc ?s ?h;(case s=>assumption);(case h=>walk_at"sm")))
local macro_rules| `(tactic| walk_at"sb")=> `(tactic| first|assumption|exact SameBut.refl|(refine' SameBut.snoc ?s ?h;(case s=>assumption);(case h=>walk_at"sb"))|(refine' SameBut.snocS ?s ?h;(case s=>assumption);(case h=>walk_at"sb")))
local macro_rules| `(tactic| walk_at"lk")=> `(tactic| first|assumption|exact lk_nil|(with_reducible exact lk_same)|(refine' lk_ne ?d ?h;(case d=>decide +kernel);(case h=>walk_at"lk")))
local macro_rules| `(tactic| walk_at"sz")=> `(tactic| first|with_reducible assumption|lia|omega|(simp only[b5,rE,FH,HQ,FV,HN,F5,GA,GD,FU,HH,GU,AK,AY,AL,AS,A6,AR,CH,AN,CG,BQ,CF,A5,AQ,A9,BO,A0,A2,CI,A7,BR,BX,BU,BK,sizeLine_eq,List.length_cons,List.length_nil,List.length_append,List.length_map];done)|(simp only[b5,rE,FH,HQ,FV,HN,F5,GA,GD,FU,HH,GU,AK,AY,AL,AS,A6,AR,CH,AN,CG,BQ,CF,A5,AQ,A9,BO,A0,A2,CI,A7,BR,BX,BU,BK,sizeLine_eq,List.length_cons,List.length_nil,List.length_append,List.length_map];omega)|(simp only[b5,rE,FH,HQ,FV,HN,F5,GA,GD,FU,HH,GU,AK,AY,AL,AS,A6,AR,CH,AN,CG,BQ,CF,A5,AQ,A9,BO,A0,A2,CI,A7,BR,BX,BU,BK,sizeLine_eq,List.length_cons,List.length_nil,List.length_append,List.length_map]at *;omega))
local macro_rules| `(tactic| walk_at"sd")=> `(tactic| first|with_reducible assumption|lia|omega|decide)
local macro_rules| `(tactic| walk_at"dc")=> `(tactic| first|((with_reducible refine ICls.cl (DCls.ic ?_));assumption)|((with_reducible refine DCls.ic ?_);assumption) )
local macro_rules| `(tactic| walk_at"rd1")=> `(tactic| first|(with_reducible first|refine C7 ?_|refine MN ?_|refine QB ?_|refine PJ ?_|refine OT ?_|refine O2 ?_|refine ON ?_|refine PB ?_|refine P5 ?_|refine P6 ?_|refine PR ?_|refine rd_v7 ?_|refine rd_v8 ?_|refine rd_v9 ?_|refine rd_v10 ?_|refine rd_v11 ?_|refine rd_v12 ?_|refine JK ?_|refine OJ ?_|refine OK ?_|refine OM ?_|refine K4 ?_|refine PZ ?_|refine NH ?_|refine KO ?_|refine O6 ?_|refine rd_fld ?_|refine rd_md ?_|refine DJ ?_|refine vA ?_|refine LB ?_|refine J3 ?_|refine rd_s0 ?_|refine PX ?_|refine P1 ?_|refine PU ?_|refine OQ ?_|refine P0 ?_|refine OR ?_|refine rd_s7 ?_|refine rd_s8 ?_|refine rd_s9 ?_|refine rd_s10 ?_|refine rd_s11 ?_|refine rd_s12 ?_|refine NX ?_|refine JM ?_|refine JZ ?_|refine rd_retN ?_|refine NT ?_|refine rd_and ?_|refine O5 ?_|refine KS ?_|refine N4 ?_|refine J8 ?_|refine ML ?_|refine GJ ?_|refine rd_un ?_|refine rd_U ?_|refine M6 ?_|refine rd_eqB ?_|refine MG ?_|refine rd_eqSN ?_|refine rd_eqNS ?_|refine rd_eqNN ?_|refine L4 ?_|refine rd_neB ?_|refine MF ?_|refine rd_neNN ?_|refine rd_isNN ?_|refine rd_isNS ?_|refine rd_isNI ?_|refine rd_isNR ?_|refine rd_ntNN ?_|refine rd_ntNS ?_|refine rd_ntNI ?_|refine rd_ntNR ?_|refine rd_isNV ?_|refine rd_ntNV ?_|refine NK ?_|refine L3 ?_|refine rd_sfld ?_|refine rd_make ?_|refine J9 ?_|refine PC ?_|refine O8 ?_|refine rd_bm0 ?_|refine NR ?_|refine rd_bm0I ?_|refine rd_isiII ?_|refine rd_isiIB ?_|refine rd_isiBB ?_|refine rd_isiBI ?_|refine HF ?_|refine rd_isiNS ?_|refine rd_max2 ?_|refine rd_min2 ?_|refine rd_intB ?_|refine rd_intI ?_|refine DI ?_|refine LE ?_|refine MO ?_|refine rd_gsub ?_|refine JT ?_|refine GX ?_|refine MS ?_|refine GK ?_|refine JN ?_|refine G9 ?_|refine rd_iRng2 ?_|refine J2 ?_|refine G7 ?_|refine rd_break ?_|refine rd_cont ?_|refine rd_aug ?_)|((with_reducible refine' NZ ?s ?_);(case s=>decide))|((with_reducible refine' J4 ?s ?_);(case s=>walk_at"sd");intro h0' h1')|((with_reducible refine' rd_repL ?e ?a ?b ?s ?_);(case e=>walk_at"hp");(case a=>decide);(case b=>decide);(case s=>first|(simp;done)|(simp[sizeLine_eq];done)|walk_at"sz");intro p' H' n' S' e')|((with_reducible refine' N8 ?s ?r ?_);(case s=>walk_at"sd");(case r=>walk_at"sd"))|((with_reducible refine' LA ?s ?r ?_);(case s=>walk_at"sd");(case r=>walk_at"sd"))|((with_reducible refine' LN ?s ?r ?_);(case s=>walk_at"sd");(case r=>walk_at"sd"))|((with_reducible refine' LD ?s ?_);(case s=>walk_at"sz");intro p' H' n' S' e')|((with_reducible refine' JW ?s ?_);(case s=>walk_at"sz");intro p' H' n' S' e')|((with_reducible refine K9 ?_);intro p' H' n' S' e')|((with_reducible refine' rd_fldV ?e ?c ?n ?l ?_);(case e=>walk_at"hp");(case c=>walk_at"dc");(case n=>walk_at"dc");(case l=>walk_at"lk"))|((with_reducible refine' rd_sfldV ?e ?c ?n ?l ?_);(case e=>walk_at"hp");(case c=>walk_at"dc");(case n=>walk_at"dc");(case l=>kernel_rfl);intro H' B' e')|((with_reducible refine' rd_mdV ?e ?l ?F ?_);(case e=>walk_at"hp");(case l=>walk_at"lk");(case F=>assumption))|((with_reducible refine' rd_isiC ?e ?i ?k ?_);(case e=>walk_at"hp");(case i=>walk_at"dc");(case k=>assumption))|((with_reducible refine' MA ?e ?l ?_);(case e=>walk_at"hp");(case l=>rfl))|((with_reducible refine' KM ?e ?s ?r ?_);(case e=>walk_at"hp");(case s=>walk_at"sd");(case r=>walk_at"sd");intro v' hv')|((with_reducible refine' JV ?e ?s ?r ?_);(case e=>walk_at"hp");(case s=>walk_at"sd");(case r=>walk_at"sd");intro v' hv')|((with_reducible refine' rd_setLm ?e ?l ?_);(case e=>walk_at"hp");(case l=>rfl);intro H' B' e')|((with_reducible refine' KR ?e ?_);(case e=>walk_at"hp"))|((with_reducible refine' KN ?e ?_);(case e=>walk_at"sz"))|((with_reducible refine' LK ?e ?_);(case e=>walk_at"sz"))|((with_reducible refine' rd_slS ?e ?_);(case e=>walk_at"sz");intro hl')|((with_reducible refine' L7 ?e ?_);(case e=>walk_at"hp");intro p' H' n' S' e')|((with_reducible refine' EE ?e ?_);(case e=>walk_at"hp");intro p' H' n' S' e')|((with_reducible refine' i4 ?e ?f ?s ?_);(case e=>walk_at"hp");(case f=>walk_at"hp");(case s=>walk_at"sz");intro p' H' n' S' e')|((with_reducible refine' D6 ?e ?_);(case e=>walk_at"hp");intro p' H' n' S' e')|((with_reducible refine' M9 ?e ?_);(case e=>walk_at"hp"))|((with_reducible refine' C4 ?e ?_);(case e=>walk_at"hp"))|((with_reducible refine' EJ ?s ?r ?_);(case s=>walk_at"sd");(case r=>walk_at"sd"))|((with_reducible refine' rd_iRng2V ?s ?r ?t ?u ?_);(case s=>walk_at"sd");(case r=>walk_at"sd");(case t=>walk_at"sd");(case u=>walk_at"sd"))|((with_reducible refine' rd_str ?s ?r ?_);(case s=>walk_at"sd");(case r=>walk_at"sd");intro hl')|((with_reducible refine' rd_gtupL ?e ?l ?_);(case e=>walk_at"hp");(case l=>rfl))|((with_reducible refine' JO ?e ?l ?_);(case e=>walk_at"hp");(case l=>rfl))|((with_reducible refine' rd_ifP ?s ?_);(case s=>walk_at"sd"))|((with_reducible refine' rd_ifN ?s ?_);(case s=>walk_at"sd"))|((with_reducible refine' KZ ?s ?_);(case s=>walk_at"sd"))|((with_reducible refine' rd_ifnN ?s ?_);(case s=>walk_at"sd")))
local macro_rules| `(tactic| walk_at"go")=> `(tactic| repeat walk_at"rd1")
local macro_rules| `(tactic| walk_at"gs")=> `(tactic| repeat ((fail_if_success (with_reducible refine F6 ?_));walk_at"rd1"))
local macro_rules| `(tactic| walk_at"nn")=> `(tactic| repeat first|exact nn_nil|refine nn_app ?_ ?_|refine nn_cons (by omega) ?_|exact nn_map (fun n=>by omega))
section
variable {P:Program}{w:World}{K:W.Frag}{mg:Str->Option Value}{base:Heap}
def nmB:V->Bool
 | .str z=>bL z
 | _=>false
def y3 (K:W.Frag):Sp:=fun vs H Q _=>∃x n,vs=[x]/\BTy K H x n/\(∀z,x= .str z->z.length<=1000)/\∀H',Same H H'->Q (.bl (nmB x)) H'
theorem le1 (a c:Nat):(!decide ([c]<[a]))=decide (a<=c):=by
 have:([c]<[a])↔c<a:=by
  constructor
  ·intro h;cases h with
   | rel h=>exact h
   | cons h=>cases h
  ·exact fun h=> .rel h
 by_cases h:c<a
 ·rw[decide_eq_true (this.mpr h),decide_eq_false (by lia)];rfl
 ·rw[decide_eq_false (fun z=>h (this.mp z)),decide_eq_true (by lia)];rfl
theorem P7:("a" :Str).cps.toList=[97]:=by decide +kernel
theorem PK:("z" :Str).cps.toList=[122]:=by decide +kernel
theorem nM {α:Type}(p:α->Bool)(d:α):∀l:List α,((List.range l.length).map fun i=>p (l.getD i d)).all id=l.all p
 | []=>rfl
 | a::l=>by
  rw[List.length_cons,List.range_succ_eq_map,List.map_cons,List.all_cons,List.map_map,List.all_cons,←nM p d l];rfl
theorem i9 {H:Hp}{p:Addr}{o:HO} (h:H p=none):Same H (upd H p o):=fun b u e=>by rw[aI (bB e h)];exact e
theorem CB (m:M K mg):bX P w K mg base CX0 1 m.oK m.oG ["thing"] (y3 K):=by
 refine m.jZ.ok sc_is_name (fun vs H Q E h=> ?_) (fun cdv A outer s H vs Q E hr h=> ?_)
 ·walk_at"g1";obtain⟨x,n,rfl,b,hz,k⟩:=h;walk_at"g2";rfl
 ·walk_at"g1";obtain⟨x,n,rfl,b,hz,k⟩:=h;walk_at"g2";have nd:=sc_is_name.nd;walk_at"hu";obtain⟨tok_LONGEST_NAME,hV⟩:=m.hV;refine⟨_,(aF (bV (fK (fW (bR jF rfl m.cQ cE (aA (pv 0) (aA (oY rfl m.o8 kW) aB))))) (aH (aP jR)) a9)
   (aH (aP (wZ (pU uI uI aC (bR sQ rfl m.o7 lA (aA (pv 0) aB)) (zY rfl hV)) (wP (bR (vN rfl) rfl m.JJ EW (aA (fU (N:=["sign"]) (nl:=1) (ci:=[]) rfl (blk (s.heap.objs.size+1) rfl rfl rfl (by kernel_rfl)) (DO (pv 0)) (fun _ _ _ _=>(bQ (i:=0) (show (["sign"]:List Str).Nodup by decide +kernel) rfl (by walk_at"oi"))) (fun _ _ _ _=>iK) (fun _ _ _ _=>(pU qH qH aJ (pv 0) aJ))) aB))))))),?_⟩
  refine bH (σ:=[some (x)]) rfl ?_;walk_at"cx";refine⟨_,rfl,_,_,_,_,_,rfl,b.ty,rfl,BF b "str" (.inr (.inr rfl)),_,rfl,?_⟩;refine rK (fun h1=> ?_) (fun h1=> ?_)
  ·show Q (.bl false) H;cases b<;>first|exact k H (Same.refl H)|exact absurd h1 (by decide)
  ·have hs:∃z,x= .str z:=by
    cases b<;>first|exact⟨_,rfl⟩|exact absurd (by decide) h1
   obtain⟨z,rfl⟩:=hs;have hl:=hz z rfl;have hl':z.length<=sizeLine:=Nat.le_of_lt (EC hl);refine⟨_,rfl,z,rfl,hl',_,_,rfl,rfl,_,rfl,?_⟩;refine rK (fun h2=>⟨_,_,rfl,rfl,_,rfl,?_⟩) (fun h2=>⟨_,rfl,?_⟩)
   ·refine rK (fun h3=> ?_) (fun h3=> ?_)
    ·refine⟨_,rfl,z,rfl,?_⟩;refine zT z.cps.size (fun i=> .bl (sgB (z.cps.toList.getD i 0))) hl' (fun H'=>H'=H) rfl (fun _ _=>rfl) (fun i _ hi _=>hi) ?_ ?_ ?_ ?_ ?_
     ·rintro i _ x H' hi rfl hq_;walk_at"g1";obtain⟨rfl,c,hc,rfl⟩:=hq_;walk_at"g2";refine⟨⟨rfl,fun j v hv=> ?_⟩,rfl,?_⟩
      ·match j,hv with
       | 0,hv=>cases hv
       | j+1,hv=>cases hv
      ·have hc':z.cps.toList.getD i 0=c:=by
        rw[List.getD_eq_getElem?_getD,Array.getElem?_toList,hc];rfl
       refine⟨_,rfl,_,_,rfl,rfl,_,rfl,?_⟩;rw[P7,hc'];refine rK (fun h4=>⟨_,_,rfl,rfl,?_,rfl⟩) (fun h4=>⟨?_,rfl⟩)
       ·have h4':97<=c:=by rw[show (⟨#[c]⟩:Str).cps.toList=[c] from rfl,le1]at h4;exact of_decide_eq_true h4
        rw[PK,show (⟨#[c]⟩:Str).cps.toList=[c] from rfl,le1];unfold sgB;rw[decide_eq_true h4',Bool.true_and]
       ·have h4':¬97<=c:=by rw[show (⟨#[c]⟩:Str).cps.toList=[c] from rfl,le1]at h4;exact fun z=>h4 (decide_eq_true z)
        unfold sgB;rw[decide_eq_false h4',Bool.false_and]
     ·exact fun _ _ _ _ f q=>f _ _ q
     ·rintro σ H Q Q' f hq_;walk_at"g1";obtain⟨v,e,i,j,e1,e2,k,e3,q⟩:=hq_;walk_at"g2";refine⟨v,e,i,j,e1,e2,k,e3,?_⟩;revert q
      split
      ·rintro hq_;walk_at"g1";obtain⟨i,j,e1,e2,q⟩:=hq_;walk_at"g2";exact⟨i,j,e1,e2,f _ _ q⟩
      ·exact fun q=>f _ _ q
     ·exact fun _ _ _ _ _ f q=>f _ _ q
     ·rintro _ rfl p hp;refine⟨p,(List.range z.cps.size).map (fun i=>sgB (z.cps.toList.getD i 0)),rfl,SqL.of ?_,?_⟩
      ·rw[bA,List.map_map];rfl
      ·have e:=nM sgB 0 z.cps.toList;rw[Array.length_toList]at e;rw[e];have e2:nmB (.str z)=z.cps.toList.all sgB:=by
        show bL z=_;unfold bL;rw[show decide (1<=(z.length:Int))=true from h2,show decide ((z.length:Int)<=8)=true from h3];rfl
       rw[←e2];exact k _ (i9 hp)
    ·have e2:nmB (.str z)=false:=by
      show bL z=_;unfold bL;rw[show decide ((z.length:Int)<=8)=false from by simpa using h3];simp
     have:=k H (Same.refl H);rw[e2]at this;exact this
   ·have e2:nmB (.str z)=false:=by
     show bL z=_;unfold bL;rw[show decide (1<=(z.length:Int))=false from by simpa using h2];simp
    have:=k H (Same.refl H);rw[e2]at this;exact this
theorem BZ (m:M K mg):Fc P w K mg base "is_name" 1 ["thing"] (y3 K):=⟨_,_,m.E9,m.jZ.kp,m.FD,CB m⟩
def N1:List V->Hp->VK->Prop:=fun vs H Q=>(∃i:Int,vs=[.int i]/\i.natAbs.log2<1920/\Q (.str (toString i)) H)∨∃x:Str,vs=[.str x]/\Q (.str x) H
theorem lB {X:Cx}:b9 X (.type "str") N1:=by
 intro pins s σ H xs us Q I r h;rcases h with⟨i,rfl,hz,q⟩|⟨x,rfl,q⟩
 ·exact CW pins s σ H _ us Q I r ⟨i,rfl,hz,q⟩
 ·walk_at"g1";obtain⟨u,rfl,t,rfl⟩:=fD r;walk_at"g2";exact PySem.P.str_of_str ⟨.str x,H,I,⟨t,rfl⟩,q⟩
def gX (c:Nat):Bool:=decide (48<=c)&&decide (c<=57)
def wrB (x:Str):Bool:=decide (1<=x.length)&&decide (x.length<=60)&&x.cps.toList.all gX&&(decide (x= "0")|| !fP x "0")
theorem OY:("0" :Str).cps.toList=[48]:=by decide +kernel
theorem OL:("9" :Str).cps.toList=[57]:=by decide +kernel
inductive uL (vs:List V)(H:Hp)(Q:VK)(E:XK):Prop
 | mk (x:Str) (_:vs=[.str x]) (_:x.length<=1000000) (_:∀H',Same H H'->Q (.bl (wrB x)) H'):uL vs H Q E
theorem QE {H:Hp}{Q:VK}{E:XK}{x:Str} (hl:x.length<=1000000) (h:∀H',Same H H'->Q (.bl (wrB x)) H'):uL [.str x] H Q E:=⟨_,rfl,hl,h⟩
theorem mW (m:M K mg):bX P w K mg base CX0 1 m.eY m.eZ ["text"] (uL):=by
 refine m.dM.ok sc_is_written_whole (fun vs H Q E h=> ?_) (fun cdv A outer s H vs Q E hr h=> ?_)
 ·walk_at"g1";obtain⟨x,rfl,hl,k⟩:=h;walk_at"g2";rfl
 ·walk_at"g1";obtain⟨x,rfl,hl,k⟩:=h;walk_at"g2";have nd:=sc_is_written_whole.nd;walk_at"hu";obtain⟨tok_MOST_FIGURES,hJ⟩:=m.hJ;refine⟨_,(aF (bV (PW.pt (q0 (fK (G6 uI uI aC (bR sQ rfl m.o7 lA (aA (pv 0) aB)) (zY rfl hJ))) (wW (fK (fW (bR (vN rfl) rfl m.JJ EW (aA (fU (N:=["sign"]) (nl:=1) (ci:=[]) rfl (blk (s.heap.objs.size+1) rfl rfl rfl (by kernel_rfl)) (DO (pv 0)) (fun _ _ _ _=>(bQ (i:=0) (show (["sign"]:List Str).Nodup by decide +kernel) rfl (by walk_at"oi"))) (fun _ _ _ _=>iK) (fun _ _ _ _=>(pU qH qH aJ (pv 0) aJ))) aB))))))) (aH (aP jR)) a9)
   (aH (aP (OX (zI c0 (pv 0) aJ (bI _)) (wP (DE (eS PySem.F.plainAttrs_str PySem.F.slot_str_startswith PySem.F.type_str_startswith DQ (pv 0) (aA aJ aB)))))))),?_⟩
  refine bH (σ:=[some (.str x)]) rfl ?_;walk_at"cx";have hl':x.length<=sizeLine:=by rw[sizeLine_eq];lia
  walk_at"go"
  by_cases h2:1<=(x.length:Int)
  ·rw[if_pos (decide_eq_true h2)];walk_at"go"
   by_cases h3:(x.length:Int)<=60
   ·rw[decide_eq_true h3];walk_at"go";refine zT x.cps.size (fun i=> .bl (gX (x.cps.toList.getD i 0))) hl' (fun H'=>H'=H) rfl (fun _ _=>rfl) (fun i _ hi _=>hi) ?_ ?_ ?_ ?_ ?_
    ·rintro i _ y H' hi rfl hq_;walk_at"g1";obtain⟨rfl,c,hc,rfl⟩:=hq_;walk_at"g2";refine⟨⟨rfl,fun j v hv=> ?_⟩,rfl,?_⟩
     ·match j,hv with
      | 0,hv=>cases hv
      | j+1,hv=>cases hv
     ·have hc':x.cps.toList.getD i 0=c:=by
       rw[List.getD_eq_getElem?_getD,Array.getElem?_toList,hc];rfl
      refine⟨_,rfl,_,_,rfl,rfl,_,rfl,?_⟩;rw[OY,hc'];refine rK (fun h4=>⟨_,_,rfl,rfl,?_,rfl⟩) (fun h4=>⟨?_,rfl⟩)
      ·have h4':48<=c:=by rw[show (⟨#[c]⟩:Str).cps.toList=[c] from rfl,le1]at h4;exact of_decide_eq_true h4
       rw[OL,show (⟨#[c]⟩:Str).cps.toList=[c] from rfl,le1];unfold gX;rw[decide_eq_true h4',Bool.true_and]
      ·have h4':¬48<=c:=by rw[show (⟨#[c]⟩:Str).cps.toList=[c] from rfl,le1]at h4;exact fun z=>h4 (decide_eq_true z)
       unfold gX;rw[decide_eq_false h4',Bool.false_and]
    ·exact fun _ _ _ _ f q=>f _ _ q
    ·rintro σ H Q Q' f hq_;walk_at"g1";obtain⟨v,e,i,j,e1,e2,k,e3,q⟩:=hq_;walk_at"g2";refine⟨v,e,i,j,e1,e2,k,e3,?_⟩;revert q
     split
     ·rintro hq_;walk_at"g1";obtain⟨i,j,e1,e2,q⟩:=hq_;walk_at"g2";exact⟨i,j,e1,e2,f _ _ q⟩
     ·exact fun q=>f _ _ q
    ·exact fun _ _ _ _ _ f q=>f _ _ q
    ·rintro _ rfl p hp;refine⟨p,(List.range x.cps.size).map (fun i=>gX (x.cps.toList.getD i 0)),rfl,SqL.of ?_,?_⟩
     ·rw[bA,List.map_map];rfl
     ·have e:=nM gX 0 x.cps.toList;rw[Array.length_toList]at e;rw[e];have sm:=i9 (o:= .lst ((List.range x.cps.size).map fun i=>V.bl (gX (x.cps.toList.getD i 0)))) hp;have e2:wrB x=(x.cps.toList.all gX&&(decide (x= "0")|| !fP x "0")):=by
       unfold wrB;rw[decide_eq_true (show 1<=x.length by lia),decide_eq_true (show x.length<=60 by lia)];rfl
      have kk:=k _ sm;rw[e2]at kk;cases hd:x.cps.toList.all gX with
      | true =>
       rw[hd]at kk;walk_at"go"
       by_cases h0:x= "0"
       ·rw[if_pos (decide_eq_true h0)];rw[decide_eq_true h0]at kk;exact kk
       ·rw[if_neg (by simpa using h0)];rw[decide_eq_false h0]at kk;rw[Bool.true_and,Bool.false_or]at kk;walk_at"go";exact⟨_,_,rfl,rfl,_,rfl,kk⟩
      | false =>
       rw[hd]at kk;walk_at"go";exact kk
   ·rw[decide_eq_false h3];have kk:=k _ (Same.refl _);rw[show wrB x=false by unfold wrB;rw[decide_eq_false (show ¬x.length<=60 by lia),Bool.and_false];rfl]at kk;walk_at"go";exact kk
  ·rw[if_neg (by simpa using h2)];have kk:=k _ (Same.refl _);rw[show wrB x=false by unfold wrB;rw[decide_eq_false (show ¬1<=x.length by lia)];rfl]at kk;walk_at"go";exact kk
theorem mY (m:M K mg):Fc P w K mg base "is_written_whole" 1 ["text"] (uL):=⟨_,_,m.oJ,m.dM.kp,m.oH,mW m⟩
inductive f8 (K:W.Frag)(N:Addr)(vs:List V)(H:Hp)(Q:VK)(E:XK):Prop
 | mk (x:V) (n:String) (_:vs=[x]) (_:BTy K H x n) (_:(n= "str" ->Q .non H)) (_:(n≠ "str" ->E (.ref N) none H)):f8 K N vs H Q E
theorem u3 {N:Addr}{H:Hp}{Q:VK}{E:XK}{x:Str} (h:Q .non H):f8 K N [.str x] H Q E:=⟨_,_,rfl,.str x,fun _=>h,fun z=>absurd rfl z⟩
theorem u5 (m:M K mg):bX P w K mg base (CXE P w) 1 m.kH m.kQ ["thing"] (f8 K m.aQ):=by
 refine m.eM.okE sc_need_text (fun vs H Q E h=> ?_) (fun cdv A outer s H vs Q E hr h=> ?_)
 ·walk_at"g1";obtain⟨x,n,rfl,b,k,k2⟩:=h;walk_at"g2";rfl
 ·walk_at"g1";obtain⟨x,n,rfl,b,k,k2⟩:=h;walk_at"g2";have nd:=sc_need_text.nd;walk_at"hu";refine⟨_,(aH (bV (fK (fW (bR jF rfl m.cQ cE (aA (pv 0) (aA (oY rfl m.o8 kW) aB))))) (aH (jC m.h8 m.jI nY (aA aJ aB))) a9)),?_⟩;refine bH (σ:=[some (x)]) rfl ?_;walk_at"cx";refine⟨_,rfl,_,_,_,_,_,rfl,b.ty,rfl,BF b "str" (.inr (.inr rfl)),_,rfl,?_⟩
  by_cases hn:n= "str"
  ·subst hn;walk_at"go";exact k rfl
  ·have k2:=k2 hn;have hb:isB n "str" =false:=by cases b<;>first|exact absurd rfl hn|rfl
   rw[hb];walk_at"go";refine jB ?_;walk_at"go";exact⟨(by show 1<=sizeLine;decide),k2⟩
theorem nG (m:M K mg):FcE P w K mg base "need_text" 1 ["thing"] (f8 K m.aQ):=⟨_,_,m.yM,m.eM.kp,m.yR,u5 m⟩
local macro_rules| `(tactic| walk_at"rd1")=> `(tactic| first|(with_reducible refine u3 ?_))
def eQ (x:Str):Int:=(NumText.digitsVal x.cps.toList:Nat)
theorem LR {x:Str}(h:wrB x=true):PySem.intText? x=some (eQ x)/\x.length<=60:=by
 unfold wrB at h;simp only[Bool.and_eq_true,decide_eq_true_eq]at h;walk_at"g1";obtain⟨⟨⟨h1,h2⟩,h3⟩,_⟩:=h;walk_at"g2";refine⟨intText_digits (fun c hc=> ?_) (fun z=> ?_) (by lia),h2⟩
 ·have:=List.all_eq_true.mp h3 c hc;unfold gX at this
  simpa using this
 ·have:x.length=0:=by
   have e:x.length=x.cps.toList.length:=by rw[Array.length_toList];rfl
   rw[e,z];rfl
  lia
inductive jU (N:Addr)(vs:List V)(H:Hp)(Q:VK)(E:XK):Prop
 | mk (x:Str) (_:vs=[.str x]) (_:x.length<=1000000) (_:(wrB x=true->∀H',Same H H'->Q (.int (eQ x)) H')) (_:(wrB x=false->∀H',Same H H'->E (.ref N) none H')):jU N vs H Q E
theorem HM {N:Addr}{H:Hp}{Q:VK}{E:XK}{x:Str} (hl:x.length<=1000000) (h:wrB x=true->∀H',Same H H'->Q (.int (eQ x)) H') (h2:wrB x=false->∀H',Same H H'->E (.ref N) none H'):jU N [.str x] H Q E:=⟨_,rfl,hl,h,h2⟩
theorem t9 (m:M K mg):bX P w K mg base (CXE P w) 2 m.jJ m.jK ["text"] (jU m.aQ):=by
 refine m.gL.okE sc_read_whole (fun vs H Q E h=> ?_) (fun cdv A outer s H vs Q E hr h=> ?_)
 ·walk_at"g1";obtain⟨x,rfl,hl,k,k2⟩:=h;walk_at"g2";rfl
 ·walk_at"g1";obtain⟨x,rfl,hl,k,k2⟩:=h;walk_at"g2";have nd:=sc_read_whole.nd;walk_at"hu";have dM:= @mY P w K mg base m;have eM:= @nG P w K mg base m;refine⟨_,(aF (r0 (iV eM hr uM (aA (pv 0) aB)))
   (aF (bV (fK (fW (bZ dM hr (aA (pv 0) aB)))) (aH (jC m.h8 m.jI nY (aA aJ aB))) a9)
   (aH (aP (fS EV rfl m.P8 LZ (aA (pv 0) aB)))))),?_⟩
  refine bH (σ:=[some (.str x)]) rfl ?_;walk_at"cx";walk_at"go";refine QE hl fun H1 S1=> ?_;cases e:wrB x with
  | true =>
   walk_at"go";obtain⟨hv,h60⟩:=LR e;exact⟨x,_,rfl,hv,by lia,k e _ S1⟩
  | false =>
   walk_at"go";refine jB ?_;walk_at"go";exact⟨(by show 1<=sizeLine;decide),k2 e _ S1⟩
theorem t6 (m:M K mg):FcE P w K mg base "read_whole" 2 ["text"] (jU m.aQ):=⟨_,_,m.xR,m.gL.kp,m.xT,t9 m⟩
inductive pV (N:Addr)(vs:List V)(H:Hp)(Q:VK)(E:XK):Prop
 | mk (x:Str) (_:vs=[.str x]) (_:x.length<=1000) (_:(bL x=true->∀H',Same H H'->Q (.str x) H')) (_:(bL x=false->∀H',Same H H'->E (.ref N) none H')):pV N vs H Q E
theorem xC (m:M K mg):bX P w K mg base (CXE P w) 2 m.kO m.kN ["text"] (pV m.aQ):=by
 refine m.iJ.okE sc_read_name (fun vs H Q E h=> ?_) (fun cdv A outer s H vs Q E hr h=> ?_)
 ·walk_at"g1";obtain⟨x,rfl,hl,k,k2⟩:=h;walk_at"g2";rfl
 ·walk_at"g1";obtain⟨x,rfl,hl,k,k2⟩:=h;walk_at"g2";have nd:=sc_read_name.nd;walk_at"hu";have jZ:= @BZ P w K mg base m;refine⟨_,(aF (bV (fK (fW (bZ jZ hr (aA (pv 0) aB)))) (aH (jC m.h8 m.jI nY (aA aJ aB))) a9)
   (aH (aP (pv 0)))),?_⟩
  refine bH (σ:=[some (.str x)]) rfl ?_;walk_at"cx";walk_at"go";refine⟨.str x,_,rfl,.str x,fun z e=>(by cases e;exact hl),fun H1 S1=> ?_⟩;cases e:bL x with
  | true =>
   rw[show nmB (.str x)=true from e];walk_at"go";exact k e _ S1
  | false =>
   rw[show nmB (.str x)=false from e];walk_at"go";refine jB ?_;walk_at"go";exact⟨(by show 1<=sizeLine;decide),k2 e _ S1⟩
theorem xD (m:M K mg):FcE P w K mg base "read_name" 2 ["text"] (pV m.aQ):=⟨_,_,m.yQ,m.iJ.kp,m.yJ,xC m⟩
def pS:V->Str
 | .int i=>toString i
 | .str x=>x
 | _=>Str.empty
def uT (v:V):Prop:=(∃i:Int,v= .int i/\0<=i/\i<10^60)∨∃x:Str,v= .str x/\x.length<=1000
def NE (vs:List V):Str:=Txt.join " " (vs.map pS)
inductive qJ (K:W.Frag)(vs:List V)(H:Hp)(Q:VK)(E:XK):Prop
 | mk (p:Addr) (xs:List V) (_:vs=[.ref p]) (_:SqT K H p xs) (_:(∀v∈xs,uT v)) (_:xs.length<=10) (_:∀H',Same H H'->Q (.str (NE xs)) H'):qJ K vs H Q E
theorem OU {H:Hp}{Q:VK}{E:XK}{p:Addr}{xs:List V} (hS:SqT K H p xs) (ho:∀v∈xs,uT v) (hl:xs.length<=10) (h:∀H',Same H H'->Q (.str (NE xs)) H'):qJ K [.ref p] H Q E:=⟨_,_,rfl,hS,ho,hl,h⟩
theorem AJ {xs:List V}{ys:List V} (h:Paired (fun x y=>y=V.str (pS x)) xs ys):ys=(xs.map pS).map V.str:=by
 induction h with
 | nil=>rfl
 | cons r _ ih=>rw[r,ih];rfl
theorem FI {v:V}(h:uT v):(pS v).length<=1000:=by
 rcases h with⟨i,rfl,h0,h1⟩|⟨x,rfl,hx⟩
 ·exact Nat.le_trans (fB h0 h1 (by decide)) (by decide)
 ·exact hx
theorem kZ {c:Nat}:∀{l:List Nat},(∀x∈l,x<=c)->l.sum<=l.length * c
 | [],_=>by simp
 | a::l,h=>by
  rw[List.sum_cons,List.length_cons,Nat.succ_mul];have h1:=h a (.head _);have h2:=kZ fun x hx=>h x (List.mem_cons_of_mem _ hx)
  lia
theorem nP {i:Int}(h0:0<=i)(h1:i<10^60):i.natAbs.log2<1920:=by
 by_cases hz:i.natAbs=0
 ·rw[hz];decide
 ·refine(Nat.log2_lt hz).mpr ?_;have:i.natAbs<10^60:=by lia
  exact Nat.lt_of_lt_of_le this (by decide)
theorem EA (m:M K mg):bX P w K mg base CX0 1 m.qA m.p6 ["parts"] (qJ K):=by
 refine m.mP.ok sc_row_of (fun vs H Q E h=> ?_) (fun cdv A outer s H vs Q E hr h=> ?_)
 ·walk_at"g1";obtain⟨p,xs,rfl,hS,ho,hl,k⟩:=h;walk_at"g2";rfl
 ·walk_at"g1";obtain⟨p,xs,rfl,hS,ho,hl,k⟩:=h;walk_at"g2";have nd:=sc_row_of.nd;walk_at"hu";refine⟨_,(aH (aP (eS PySem.F.plainAttrs_str PySem.F.slot_str_join PySem.F.type_str_join fQ aJ (aA (fU (N:=["part"]) (nl:=1) (ci:=[]) rfl (blk (s.heap.objs.size+1) rfl rfl rfl (by kernel_rfl)) (MW (pv 0)) (fun _ _ _ _=>(bQ (i:=0) (show (["part"]:List Str).Nodup by decide +kernel) rfl (by walk_at"oi"))) (fun _ _ _ _=>iK) (fun _ _ _ _=>(fS lB rfl m.o8 kW (aA (pv 0) aB)))) aB)))),?_⟩;refine bH (σ:=[some (.ref p)]) rfl ?_;walk_at"cx";walk_at"go";refine GF hS ?_;refine MB (fun x y _=>y=V.str (pS x)) (fun _ _ _ _ h _=>h) (by rw[sizeLine_eq];lia) (rest:=[]) (by rfl) hS ?_ ?_
  ·intro x H1 hx s1 R hR;walk_at"go";rcases ho x hx with⟨i,rfl,h0,h1⟩|⟨z,rfl,hz⟩
   ·exact .inl ⟨i,rfl,nP h0 h1,hR _ _ rfl (Same.refl _)⟩
   ·exact .inr ⟨z,rfl,hR _ _ rfl (Same.refl _)⟩
  ·intro ys H1 s1 hys;have e:=AJ hys;subst e;walk_at"go";rename_i q2 H2 n2 S2 e2;refine fT (SqL.of e2) ?_ (k _ (s1.trans S2));have h1:((xs.map pS).map (·.length)).sum<=((xs.map pS).map (·.length)).length * 1000:=kZ fun x hx=>by
    obtain⟨z,hz,rfl⟩:=List.mem_map.mp hx;obtain⟨v,hv,rfl⟩:=List.mem_map.mp hz;exact FI (ho v hv)
   rw[List.length_map,List.length_map]at h1;rw[List.length_map];have:(" " :Str).length=1:=by decide
   rw[this];have:=Nat.mul_le_mul_right 1000 hl
   lia
theorem D7 (m:M K mg):Fc P w K mg base "row_of" 1 ["parts"] (qJ K):=⟨_,_,m.IA,m.mP.kp,m.HZ,EA m⟩
inductive pH (N:Addr)(vs:List V)(H:Hp)(Q:VK)(E:XK):Prop
 | mk (f x:Str) (_:vs=[.str f,.str x]) (_:x.length<=1000) (_:((f= "name" /\(bL x=true->∀H',Same H H'->Q (.str x) H')/\(bL x=false->∀H',Same H H'->E (.ref N) none H'))∨(f≠ "name" /\(wrB x=true->∀H',Same H H'->Q (.int (eQ x)) H')/\(wrB x=false->∀H',Same H H'->E (.ref N) none H')))):pH N vs H Q E
theorem wU (m:M K mg):bX P w K mg base (CXE P w) 3 m.kP m.kI ["form","word"] (pH m.aQ):=by
 refine m.iI.okE sc_read_part (fun vs H Q E h=> ?_) (fun cdv A outer s H vs Q E hr h=> ?_)
 ·walk_at"g1";obtain⟨f,x,rfl,hl,hc⟩:=h;walk_at"g2";rfl
 ·walk_at"g1";obtain⟨f,x,rfl,hl,hc⟩:=h;walk_at"g2";have nd:=sc_read_part.nd;walk_at"hu";have iJ:= @xD P w K mg base m;have gL:= @t6 P w K mg base m;refine⟨_,(aH (aP (wV (bD c0 (pv 0) aJ (bI _)) (iV iJ hr uM (aA (pv 1) aB)) (iV gL hr uM (aA (pv 1) aB))))),?_⟩;refine bH (σ:=[some (.str f),some (.str x)]) rfl ?_;walk_at"cx";walk_at"go";rcases hc with⟨hf,k,k2⟩|⟨hf,k,k2⟩
  ·rw[decide_eq_true hf];walk_at"go";exact⟨x,rfl,hl,k,k2⟩
  ·rw[decide_eq_false hf];walk_at"go";exact HM (by lia) k k2
theorem wC (m:M K mg):FcE P w K mg base "read_part" 3 ["form","word"] (pH m.aQ):=⟨_,_,m.yO,m.iI.kp,m.yU,wU m⟩
def cG (ws:List Str):Option (Int×Str×Int):=match ws with
 | [x,y,z]=>if wrB x&&bL y&&wrB z then some (eQ x,y,eQ z) else none
 | _=>none
inductive nQ (K:W.Frag)(N:Addr)(vs:List V)(H:Hp)(Q:VK)(E:XK):Prop
 | mk (p q:Addr) (ws:List Str) (_:vs=[.ref p,.ref q]) (_:H p=some (.tup [.str "number",.str "name",.str "number"])) (_:H q=some (.lst (ws.map V.str))) (_:ws.length<=1000) (_:(∀x∈ws,x.length<=1000)) (_:(∀t n k,cG ws=some (t,n,k)->∀r H',H r=none->Same H H'->H' r=some (.tup [.int t,.str n,.int k])->Q (.ref r) H')) (_:(cG ws=none->∀H',Same H H'->E (.ref N) none H')):nQ K N vs H Q E
theorem uC (m:M K mg):bX P w K mg base (CXE P w) 4 m.jO m.jP ["forms","words"] (nQ K m.aQ):=by
 refine m.gJ.okE sc_read_parts (fun vs H Q E h=> ?_) (fun cdv A outer s H vs Q E hr h=> ?_)
 ·walk_at"g1";obtain⟨p,q,ws,rfl,hp,hq,hl,hx,k,k2⟩:=h;walk_at"g2";rfl
 ·walk_at"g1";obtain⟨p,q,ws,rfl,hp,hq,hl,hx,k,k2⟩:=h;walk_at"g2";have nd:=sc_read_parts.nd;walk_at"hu";have iI:= @wC P w K mg base m;refine⟨_,(aF (bV (bD JI (bR jT rfl m.o7 lA (aA (pv 0) aB)) (bR jT rfl m.o7 lA (aA (pv 1) aB)) (bI _)) (aH (jC m.h8 m.jI nY (aA aJ aB))) a9)
   (aH (aP (fS uD rfl m.AF wF (aA (FJ (N:=["form","word"]) (nl:=2) (ci:=[]) IX rfl (blk (s.heap.objs.size+1) rfl rfl rfl (by kernel_rfl)) (OG rfl m.P9 (aA (pv 0) (aA (pv 1) aB))) (fun _ _ _ _=>(o0 (K:=K) (n:=2) rfl (cS (bQ (i:=0) (show (["form","word"]:List Str).Nodup by decide +kernel) rfl (by walk_at"oi")) (cS (bQ (i:=1) (show (["form","word"]:List Str).Nodup by decide +kernel) rfl (by walk_at"oi")) k7)))) (fun _ _ _ _=>iK) (fun _ _ _ _=>(iV iI hr IK (aA (pv 0) (aA (pv 1) aB))))) aB))))),?_⟩
  refine bH (σ:=[some (.ref p),some (.ref q)]) rfl ?_;walk_at"cx";walk_at"go";refine⟨p,_,rfl,.inr (SqT.of hp),?_⟩;walk_at"go";rw[List.length_map]
  by_cases h3:ws.length=3
  ·rw[decide_eq_true (by show ((3:Nat):Int)=_;rw[h3])];obtain⟨x,y,z,rfl⟩:∃x y z,ws=[x,y,z]:=by
    match ws,h3 with
    | [x,y,z],_=>exact⟨x,y,z,rfl⟩
   walk_at"go";unfold MC;walk_at"go";refine⟨p,q,_,_,rfl,SqT.of hp,SqL.of hq,?_⟩;refine NL (fun i v _=>(i=0->wrB x=true/\v= .int (eQ x))/\(i=1->bL y=true/\v= .str y)/\(i=2->wrB z=true/\v= .int (eQ z))) (fun _ _ _ _ h _=>h) (by decide) (rest:=[]) (by rfl) (SqT.of hp) (SqL.of hq) rfl ?_ ?_
   ·intro i u v H1 hu hv s1 R hR;have k2':wrB x=false∨bL y=false∨wrB z=false->∀H',Same H H'->E (Value.ref m.aQ) none H':=fun hb=>k2 (by
     show (if (wrB x&&bL y&&wrB z)=true then some (eQ x,y,eQ z) else none)=none;rw[if_neg];rcases hb with h|h|h<;>rw[h]<;>simp)
    walk_at"go"
    match i,hu,hv with
    | 0,hu,hv =>
     cases hu;cases hv;exact⟨_,_,rfl,hx _ (.head _),.inr ⟨by decide,fun hw H2 s2=>hR _ _ ⟨fun _=>⟨hw,rfl⟩,fun h=>absurd h (by decide),fun h=>absurd h (by decide)⟩ s2,fun hw H2 s2=>k2' (.inl hw) H2 (s1.trans s2)⟩⟩
    | 1,hu,hv =>
     cases hu;cases hv;exact⟨_,_,rfl,hx _ (.tail _ (.head _)),.inl ⟨rfl,fun hw H2 s2=>hR _ _ ⟨fun h=>absurd h (by decide),fun _=>⟨hw,rfl⟩,fun h=>absurd h (by decide)⟩ s2,fun hw H2 s2=>k2' (.inr (.inl hw)) H2 (s1.trans s2)⟩⟩
    | 2,hu,hv =>
     cases hu;cases hv;exact⟨_,_,rfl,hx _ (.tail _ (.tail _ (.head _))),.inr ⟨by decide,fun hw H2 s2=>hR _ _ ⟨fun h=>absurd h (by decide),fun h=>absurd h (by decide),fun _=>⟨hw,rfl⟩⟩ s2,fun hw H2 s2=>k2' (.inr (.inr hw)) H2 (s1.trans s2)⟩⟩
    | i+3,hu,hv=>cases hu
   ·intro zs H1 s1 hzl hzs;obtain⟨v1,v2,v3,rfl⟩:∃v1 v2 v3,zs=[v1,v2,v3]:=by
     match zs,hzl with
     | [x,y,z],_=>exact⟨x,y,z,rfl⟩
    obtain⟨w1,rfl⟩:=(hzs 0 v1 rfl).1 rfl;obtain⟨w2,rfl⟩:=(hzs 1 v2 rfl).2.1 rfl;obtain⟨w3,rfl⟩:=(hzs 2 v3 rfl).2.2 rfl;have e:cG [x,y,z]=some (eQ x,y,eQ z):=by
     show (if (wrB x&&bL y&&wrB z)=true then some (eQ x,y,eQ z) else none)=_;rw[w1,w2,w3];rfl
    walk_at"go";rename_i q2 H2 n2 S2 e2;have s3:=s1.trans S2;refine⟨q2,_,rfl,.inl ⟨SqL.of e2,fun l hl3=> ?_⟩⟩;refine k _ _ _ e l _ ?_ (s3.trans (i9 hl3)) bA;cases hq':H l with
    | none=>rfl
    | some u=>rw[s3 _ _ hq']at hl3;cases hl3
  ·rw[decide_eq_false (by show ¬((3:Nat):Int)=_;lia)];have e:cG ws=none:=by
    match ws,h3 with
    | [],_=>rfl
    | [_],_=>rfl
    | [_,_],_=>rfl
    | [_,_,_],h=>exact absurd rfl h
    | _::_::_::_::_,_=>rfl
   walk_at"go";refine jB ?_;walk_at"go";exact⟨(by show 1<=sizeLine;decide),k2 e _ (Same.refl _)⟩
theorem uE (m:M K mg):FcE P w K mg base "read_parts" 4 ["forms","words"] (nQ K m.aQ):=⟨_,_,m.xU,m.gJ.kp,m.xP,uC m⟩
local macro_rules| `(tactic| walk_at"rd1")=> `(tactic| first|(with_reducible refine KA ?_)|(with_reducible refine rd_dget ?_)|(with_reducible refine rd_din ?_)|(with_reducible refine rd_dnotin ?_)|(with_reducible refine rd_iKeysK ?_)|(with_reducible refine rd_iItemsK ?_)|(with_reducible refine CD ?_)|(with_reducible refine HK ?_)|((with_reducible refine rd_dnewK ?_);intro p' H' n' S' e')|((with_reducible refine FO ?_);intro p' H' n' S' e'))
theorem AZ {α:Type}{ss:List α}{i:Nat}{z:α} (hz:ss[i]? =some z):ss.take (i+1)=ss.take i++[z]:=by rw[List.take_succ,hz];rfl
def nF (H:Hp)(v:V)(r:aG):Prop:=∃q,v= .ref q/\H q=some (.tup [.int r.1,.str r.2.1,.int r.2.2])
abbrev bT (H:Hp)(vs:List V)(rows:List aG):Prop:=Paired (nF H) vs rows
theorem eE {H H':Hp}{vs:List V}{rows:List aG} (h:bT H vs rows) (s:Same H H'):bT H' vs rows:=Paired.imp' (fun v r ⟨q,e,h⟩=>⟨q,e,s _ _ h⟩) h
theorem cZ {H:Hp}:∀{vs:List V}{rows:List aG},bT H vs rows->KRows H vs (rows.map bY)
 | _,_,.nil=> .nil
 | _,_,.cons h t=> .cons h (cZ t)
inductive qX (K:W.Frag)(vs:List V)(H:Hp)(Q:VK)(E:XK):Prop
 | mk (a:Addr) (us:List V) (rows:List aG) (_:vs=[.ref a]) (_:SqL K H a us) (_:bT H us rows) (_:rows.length<=200) (_:∀p H',H p=none->Same H H'->H' p=some (.dT (gF rows))->Q (.ref p) H'):qX K vs H Q E
theorem OW {H:Hp}{Q:VK}{E:XK}{a:Addr}{us:List V}{rows:List aG} (hS:SqL K H a us) (hr:bT H us rows) (hl:rows.length<=200) (h:∀p H',H p=none->Same H H'->H' p=some (.dT (gF rows))->Q (.ref p) H'):qX K [.ref a] H Q E:=⟨_,_,_,rfl,hS,hr,hl,h⟩
theorem x8 (m:M K mg):bX P w K mg base CX0 1 m.mR m.mQ ["plan"] (qX K):=by
 refine m.iX.ok sc_added_up (fun vs H Q E h=> ?_) (fun cdv A outer s H vs Q E hr h=> ?_)
 ·walk_at"g1";obtain⟨a,us,rows,rfl,hS,hpl,hlen,k⟩:=h;walk_at"g2";rfl
 ·walk_at"g1";obtain⟨a,us,rows,rfl,hS,hpl,hlen,k⟩:=h;walk_at"g2";have nd:=sc_added_up.nd;walk_at"hu";refine⟨_,(aF (cB (i:=1) nd rfl (by walk_at"oi") w6)
   (aF (xI PassesOwn.never rfl (iZ (pv 0)) (CY (n:=3) rfl (cS (bQ (i:=2) nd rfl (by walk_at"oi")) (cS (bQ (i:=3) nd rfl (by walk_at"oi")) (cS (bQ (i:=4) nd rfl (by walk_at"oi")) k7)))) (aH (rG hu1 (pv 1) (iO (aA (pv 2) (aA (pv 3) aB))) (aE fY (F0 hu1 (pv 1) (iO (aA (pv 2) (aA (pv 3) aB))) aC ⟨rfl,rfl,rfl,rfl⟩) (pv 4)) rfl)))
   (aH (aP (pv 1))))),?_⟩
  refine bH (σ:=[some (.ref a),none,none,none,none]) rfl ?_;walk_at"cx";have hul:us.length=rows.length:=Paired.length hpl;walk_at"go";rename_i p H1 n1 S1 e1;let Pv1:Nat->St->Hp->Prop:=fun i σ' H'=>SameBut p H1 H'/\H' p=some (.dT (gF (rows.take i)))/\∃x y z,σ'=[some (.ref a),some (.ref p),x,y,z];refine AC us Pv1 ⟨SameBut.refl,e1,_,_,_,rfl⟩ (fun i σ' H' _ q=>(SameBut.same n1 S1 q.1).seq hS) ?_ ?_
  ·rintro i x _ H' hx hq_;walk_at"g1";obtain⟨sb,ek,x1,x2,x3,rfl⟩:=hq_;walk_at"g2";have hi:i<us.length:=(List.getElem?_eq_some_iff.mp hx).1;obtain⟨⟨t,n,j⟩,hrx⟩:∃r,rows[i]? =some r:=⟨_,List.getElem?_eq_getElem (by lia)⟩
   obtain⟨q,rfl,hq⟩:=Paired.at2 hpl hx hrx;have hq':H' q=some (.tup [.int t,.str n,.int j]):=(SameBut.same n1 S1 sb) _ _ hq;obtain⟨i0,ei⟩:=GZ (rows.take i) t n;have hkl:=pN (rows.take i);rw[List.length_take]at hkl;walk_at"go";refine EX ek ?_;walk_at"go";rename_i b1 H2 n2 S2 e2;refine GC (cV t n) (by walk_at"hp") (by assumption) ?_;rw[ei];walk_at"go";rename_i b3 H3 n3 S3 e3;refine pF (cV t n) (by walk_at"hp") (by assumption) (by rw[sizeLine_eq];lia) fun H4 B4 e4=> ?_;refine⟨by walk_at"sb",?_,_,_,_,rfl⟩;rw[e4,AZ hrx,jV];unfold BV;rw[ei];rfl
  ·rintro _ H' hq_;walk_at"g1";obtain⟨sb,ek,x1,x2,x3,rfl⟩:=hq_;walk_at"g2";rw[hul,List.take_length]at ek;walk_at"go";exact k _ _ n1 (SameBut.same n1 S1 sb) ek
theorem yD (m:M K mg):Fc P w K mg base "added_up" 1 ["plan"] (qX K):=⟨_,_,m.CM,m.iX.kp,m.CN,x8 m⟩
inductive oU (K:W.Frag)(vs:List V)(H:Hp)(Q:VK)(E:XK):Prop
 | mk (a:Addr) (us:List V) (rows:List aG) (_:vs=[.ref a]) (_:SqL K H a us) (_:bT H us rows) (_:rows.length<=200) (_:(d0 rows).length<64) (_:∀p ws xs H',H p=none->Same H H'->H' p=some (.lst ws)->bT H' ws xs->xs.map bY=fG (d0 rows)->Q (.ref p) H'):oU K vs H Q E
theorem NP {H:Hp}{Q:VK}{E:XK}{a:Addr}{us:List V}{rows:List aG} (hS:SqL K H a us) (hr:bT H us rows) (hl:rows.length<=200) (h64:(d0 rows).length<64) (h:∀p ws xs H',H p=none->Same H H'->H' p=some (.lst ws)->bT H' ws xs->xs.map bY=fG (d0 rows)->Q (.ref p) H'):oU K [.ref a] H Q E:=⟨_,_,_,rfl,hS,hr,hl,h64,h⟩
theorem nZ {H:Hp}:∀{es:List (List Key×V)}{ys:List V},Paired (fun e y=>∃q,y= .ref q/\H q=some (.tup ((f9 e).map kV))) es ys->KRows H ys (es.map f9)
 | _,_,.nil=> .nil
 | _,_,.cons h t=> .cons h (nZ t)
theorem lW {H:Hp}:∀{ws:List V}{ks:List (List Key)},KRows H ws ks->(∀k∈ks,∃r:aG,k=bY r)->∃xs,bT H ws xs/\xs.map bY=ks
 | _,_,.nil,_=>⟨[],.nil,rfl⟩
 | _,_,.cons ⟨p,e,h⟩ t,hk=>by
  obtain⟨xs,h1,h2⟩:=lW t fun k hk'=>hk k (List.mem_cons_of_mem _ hk');obtain⟨r,rfl⟩:=hk _ (.head _);exact⟨r::xs,.cons ⟨p,e,h⟩ h1,by rw[List.map_cons,h2]⟩
theorem O0 {kvs:List (List Key×V)}:∀(o:Obj) (x:HO),HO.dT kvs≠ .frz o x:=fun _ _ z=>by cases z
theorem B7 (m:M K mg):bX P w K mg base CX0 2 m.oM m.oI ["plan"] (oU K):=by
 refine m.j6.ok sc_as_told (fun vs H Q E h=> ?_) (fun cdv A outer s H vs Q E hr h=> ?_)
 ·walk_at"g1";obtain⟨a,us,rows,rfl,hS,hpl,hlen,h64,k⟩:=h;walk_at"g2";rfl
 ·walk_at"g1";obtain⟨a,us,rows,rfl,hS,hpl,hlen,h64,k⟩:=h;walk_at"g2";have nd:=sc_as_told.nd;walk_at"hu";have iX:= @yD P w K mg base m;refine⟨_,(aH (aP (bR vB rfl m.xN tY (aA (fU (N:=["place","number"]) (nl:=2) (ci:=[]) rfl (blk (s.heap.objs.size+1) rfl rfl rfl (by kernel_rfl)) (tX (bZ iX hr (aA (pv 0) aB))) (fun _ _ _ _=>(o0 (K:=K) (n:=2) rfl (cS (bQ (i:=0) (show (["place","number"]:List Str).Nodup by decide +kernel) rfl (by walk_at"oi")) (cS (bQ (i:=1) (show (["place","number"]:List Str).Nodup by decide +kernel) rfl (by walk_at"oi")) k7)))) (fun _ _ _ _=>(E1 (bD O9 (pv 1) aC (bI _)))) (fun _ _ _ _=>(iO (aA (bJ (yY (K:=K)) (pv 0) aC (fun _ _=>rfl)) (aA (bJ (yY (K:=K)) (pv 0) aC (fun _ _=>rfl)) (aA (pv 1) aB)))))) aB)))),?_⟩;refine bH (σ:=[some (.ref a)]) rfl ?_;walk_at"cx";have hkl:=pN rows;walk_at"go";refine OW hS hpl hlen fun p H1 n1 S1 e1=> ?_;walk_at"go";refine sR e1 fun o H2 B2 e2=> ?_;have sA:Same H H2:=SameBut.same n1 S1 B2;refine ET GO (fun e y H=>∃q,y= .ref q/\H q=some (.tup ((f9 e).map kV))) (fun _ _ _ _ ⟨q,h1,h2⟩ s=>⟨q,h1,s _ _ h2⟩) (by rw[sizeLine_eq];lia) (rest:=[]) (by rfl) e2 ?_ ?_ ?_
  ·rintro ⟨kk,v⟩ H3 q hm s3 hq R hR;walk_at"g1";obtain⟨t,n,i,e⟩:=(dJ rows).2 _ hm;walk_at"g2";cases e;show (_:TT) (some (V.ref q)::some (V.int i)::[]) H3 R;walk_at"go";exact hR _ (Same.refl _)
  ·rintro ⟨kk,v⟩ H3 q hm - s3 hq R hR;walk_at"g1";obtain⟨t,n,i,e⟩:=(dJ rows).2 _ hm;walk_at"g2";cases e;have hq':H3 q=some (.tup [.int t,.str n]):=hq;show (_:TE) (some (V.ref q)::some (V.int i)::[]) H3 R;walk_at"go";refine⟨q,_,0,_,rfl,rfl,SqT.of hq',rfl,?_⟩;walk_at"go";refine⟨q,_,1,_,rfl,rfl,SqT.of hq',rfl,?_⟩;walk_at"go";rename_i q4 H4 n4 S4 e4;exact hR _ _ ⟨q4,rfl,e4⟩ S4
  intro ys H3 s3 hys;have kr:=nZ hys;walk_at"go";rename_i q4 H4 n4 S4 e4;refine FP (SqL.of e4) (kr.same S4) (by rw[Paired.length kr];exact h64) (lS rows) (by decide) fun l ws H5 n5 S5 e5 kr5=> ?_;obtain⟨xs,h1,h2⟩:=lW kr5 fun kk hk=>by
   walk_at"g1";obtain⟨t,n,rfl,_⟩:=mem_told.mp ((gH _).mem_iff.mp hk);walk_at"g2";exact⟨_,rfl⟩
  have sB:Same H H5:=((sA.trans s3).trans S4).trans S5;have sB4:Same H H4:=(sA.trans s3).trans S4;walk_at"go";refine k l ws xs H5 ?_ sB e5 h1 h2;cases hq:H l with
  | none=>rfl
  | some u=>rw[sB4 _ _ hq]at n5;cases n5
theorem BP (m:M K mg):Fc P w K mg base "as_told" 2 ["plan"] (oU K):=⟨_,_,m.FA,m.j6.kp,m.FB,B7 m⟩
def jX (r:aG):Prop:=0<=r.1/\r.1<10^60/\r.2.1.length<=1000/\0<=r.2.2/\r.2.2<10^60
def aX (r:aG):List Str:=[toString r.1,r.2.1,toString r.2.2]
def aN (r:aG):Str:=Txt.join " " (aX r)
def d8 (rows:List aG):Str:=Txt.join "\n" (rows.map aN)
theorem dN (z:Str)(ys:List Str):Txt.join z ys=Str.join z ys:=StrLaws.glued_eq_join z ys
theorem pX (z:Str)(ys:List Str):(Txt.join z ys).length<=(ys.map (·.length)).sum+ys.length * z.length:=by rw[dN];exact StrLaws.join_length_le z ys
theorem gU {r:aG}(h:jX r):(aN r).length<=1200:=by
 walk_at"g1";obtain⟨h1,h2,h3,h4,h5⟩:=h;walk_at"g2";have j:=pX " " (aX r);have a:=fB h1 h2 (by decide);have b:=fB h4 h5 (by decide);have c:(" " :Str).length=1:=by decide
 unfold aX at j;rw[c]at j;simp only[List.map_cons,List.map_nil,List.sum_cons,List.sum_nil,List.length_cons,List.length_nil]at j;show (Txt.join " " (aX r)).length<=_;unfold aX
 lia
theorem nA {rows:List aG}(ho:∀r∈rows,jX r)(hl:rows.length<=200):((rows.map aN).map (·.length)).sum+(rows.map aN).length * ("\n" :Str).length<=300000:=by
 have h1:((rows.map aN).map (·.length)).sum<=((rows.map aN).map (·.length)).length * 1200:=kZ fun x hx=>by
  obtain⟨z,hz,rfl⟩:=List.mem_map.mp hx;obtain⟨r,hr,rfl⟩:=List.mem_map.mp hz;exact gU (ho r hr)
 rw[List.length_map,List.length_map]at h1;rw[List.length_map];have:("\n" :Str).length=1:=by decide
 rw[this]
 lia
theorem FF {rows:List aG}(ho:∀r∈rows,jX r)(hl:rows.length<=200):(d8 rows).length<=300000:=Nat.le_trans (pX _ _) (nA ho hl)
theorem qD {α:Type}{f:α->V}{xs:List α}{ys:List V} (h:Paired (fun x y=>y=f x) xs ys):ys=xs.map f:=by
 induction h with
 | nil=>rfl
 | cons r _ ih=>rw[r,ih];rfl
inductive pK (K:W.Frag)(vs:List V)(H:Hp)(Q:VK)(E:XK):Prop
 | mk (a:Addr) (us:List V) (rows:List aG) (_:vs=[.ref a]) (_:SqL K H a us) (_:bT H us rows) (_:(∀r∈rows,jX r)) (_:rows.length<=200) (_:∀p H',Same H H'->H' p=some (.lst ((rows.map aN).map V.str))->Q (.ref p) H'):pK K vs H Q E
theorem vC (m:M K mg):bX P w K mg base CX0 2 m.kF m.kA ["plan"] (pK K):=by
 refine m.iF.ok sc_plan_rows (fun vs H Q E h=> ?_) (fun cdv A outer s H vs Q E hr h=> ?_)
 ·walk_at"g1";obtain⟨a,us,rows,rfl,hS,hpl,ho,hl,k⟩:=h;walk_at"g2";rfl
 ·walk_at"g1";obtain⟨a,us,rows,rfl,hS,hpl,ho,hl,k⟩:=h;walk_at"g2";have nd:=sc_plan_rows.nd;walk_at"hu";have mP:= @D7 P w K mg base m;refine⟨_,(aH (aP (fU (N:=["row"]) (nl:=1) (ci:=[]) rfl (blk (s.heap.objs.size+1) rfl rfl rfl (by kernel_rfl)) (iZ (pv 0)) (fun _ _ _ _=>(bQ (i:=0) (show (["row"]:List Str).Nodup by decide +kernel) rfl (by walk_at"oi"))) (fun _ _ _ _=>iK) (fun _ _ _ _=>(bZ mP hr (aA (pv 0) aB)))))),?_⟩;refine bH (σ:=[some (.ref a)]) rfl ?_;walk_at"cx";walk_at"go";refine rV (nF H) (fun _=>true) (fun r y _=>y=V.str (aN r)) (fun _ _ _ _ h _=>h) (by rw[sizeLine_eq];lia) (rest:=[]) (by rfl) hS hpl ?_ ?_ ?_
  ·intro v x H1 _ _ _ R hR;exact hR _ (Same.refl _)
  ·rintro v ⟨t,n,j⟩ H1 ⟨q,rfl,hq⟩ hm - s1 R hR;walk_at"g1";obtain⟨h1,h2,h3,h4,h5⟩:=ho _ hm;walk_at"g2";walk_at"go";refine OU (SqT.of (s1 _ _ hq)) (fun v hv=> ?_) (by show 3<=10;decide) fun H2 s2=>hR _ _ rfl s2;simp only[List.mem_cons,List.not_mem_nil,or_false]at hv;rcases hv with rfl|rfl|rfl
   ·exact .inl ⟨_,rfl,h1,h2⟩
   ·exact .inr ⟨_,rfl,h3⟩
   ·exact .inl ⟨_,rfl,h4,h5⟩
  ·intro ys H1 s1 hys;rw[List.filter_eq_self.mpr (fun _ _=>rfl)]at hys;have e:=qD hys;subst e;walk_at"go";rename_i q2 H2 n2 S2 e2;refine k _ _ (s1.trans S2) ?_;rw[e2,List.map_map];rfl
theorem vJ (m:M K mg):Fc P w K mg base "plan_rows" 2 ["plan"] (pK K):=⟨_,_,m.yH,m.iF.kp,m.yX,vC m⟩
inductive l7 (K:W.Frag)(vs:List V)(H:Hp)(Q:VK)(E:XK):Prop
 | mk (a:Addr) (us:List V) (rows:List aG) (_:vs=[.ref a]) (_:SqL K H a us) (_:bT H us rows) (_:(∀r∈rows,jX r)) (_:rows.length<=200) (_:∀H',Same H H'->Q (.str (d8 rows)) H'):l7 K vs H Q E
theorem zQ {H:Hp}{Q:VK}{E:XK}{a:Addr}{us:List V}{rows:List aG} (hS:SqL K H a us) (hp:bT H us rows) (ho:∀r∈rows,jX r) (hl:rows.length<=200) (h:∀H',Same H H'->Q (.str (d8 rows)) H'):l7 K [.ref a] H Q E:=⟨_,_,_,rfl,hS,hp,ho,hl,h⟩
theorem wM (m:M K mg):bX P w K mg base CX0 3 m.kK m.kJ ["plan"] (l7 K):=by
 refine m.fM.ok sc_plan_text (fun vs H Q E h=> ?_) (fun cdv A outer s H vs Q E hr h=> ?_)
 ·walk_at"g1";obtain⟨a,us,rows,rfl,hS,hpl,ho,hl,k⟩:=h;walk_at"g2";rfl
 ·walk_at"g1";obtain⟨a,us,rows,rfl,hS,hpl,ho,hl,k⟩:=h;walk_at"g2";have nd:=sc_plan_text.nd;walk_at"hu";have iF:= @vJ P w K mg base m;refine⟨_,(aH (aP (eS PySem.F.plainAttrs_str PySem.F.slot_str_join PySem.F.type_str_join fQ aJ (aA (bZ iF hr (aA (pv 0) aB)) aB)))),?_⟩;refine bH (σ:=[some (.ref a)]) rfl ?_;walk_at"cx";walk_at"go";refine⟨a,us,rows,rfl,hS,hpl,ho,hl,fun p H1 S1 e1=> ?_⟩;walk_at"go";exact fT (SqL.of e1) (Nat.le_trans (nA ho hl) (by decide)) (k _ S1)
theorem u4 (m:M K mg):Fc P w K mg base "plan_text" 3 ["plan"] (l7 K):=⟨_,_,m.yV,m.fM.kp,m.yK,wM m⟩
def jA (x:Str):List Str:=if x= "" then [] else Txt.split x "\n"
def iC (rows:List aG):Bool:=decide (fG (d0 rows)=rows.map bY)
def FS (ws:List Str):Prop:=ws.length<=1000/\∀x∈ws,x.length<=1000
inductive mL (K:W.Frag)(N:Addr)(vs:List V)(H:Hp)(Q:VK)(E:XK):Prop
 | mk (v:V) (_:vs=[v]) (_:((∃n:String,BTy K H v n/\n≠ "str" /\E (.ref N) none H)∨∃(x:Str) (WS:List (List Str)),v= .str x/\x.length<=1000000/\Paired (fun r ws=>Txt.split r " " =ws/\r.length<=1000000) (jA x) WS/\(∀ws∈WS,FS ws)/\WS.length<=60/\((∃ws∈WS,cG ws=none)->∀H',Same H H'->E (.ref N) none H')/\∀rows,Paired (fun ws r=>cG ws=some r) WS rows->(iC rows=true->∀p us H',H p=none->Same H H'->H' p=some (.lst us)->bT H' us rows->Q (.ref p) H')/\(iC rows=false->∀H',Same H H'->E (.ref N) none H'))):mL K N vs H Q E
theorem LF (rows:List aG):(d0 rows).length<=rows.length:=by
 unfold d0;rw[List.length_map];exact Nat.le_trans (List.length_filter_le _ _) (pN rows)
theorem uN:("\n" :Str)=⟨#[10]⟩:=by decide +kernel
theorem oS:(" " :Str)=⟨#[32]⟩:=by decide +kernel
theorem mK {H:Hp}{Q:VK}{z y:Str} (c:Nat) (hy:y=⟨#[c]⟩) (hz:z.length<=1000000) (h:∀p H',H p=none->Same H H'->H' p=some (.lst ((Txt.split z y).map V.str))->Q (.ref p) H'):vZ (.str z) [.str y] H Q:=by
 subst hy;exact⟨z,c,rfl,rfl,hz,d9 h⟩
theorem KY {KK:W.Frag}{Kont:VK}{H:Hp}{x:Str}{σ:St} (hl:x.length<=1000000) (h:∀p H',H p=none->Same H H'->H' p=some (.lst ((jA x).map V.str))->Kont (.ref p) H'):if decide (x= "")=true then FG AX (some (.str x)::σ) H Kont else tBM KK "str" vZ (jG 0) (CA (tC (.str "\n")) AX) (some (.str x)::σ) H Kont:=by
 by_cases hc:x= ""
 ·rw[if_pos (decide_eq_true hc)];walk_at"go";rename_i p H' n s e;refine h p H' n s ?_;unfold jA;rw[if_pos hc];exact e
 ·rw[if_neg (fun z=>hc (of_decide_eq_true z))];walk_at"go";refine mK 10 uN hl fun p H' n s e=>h p H' n s ?_;unfold jA;rw[if_neg hc];exact e
theorem tF {H:Hp}:∀{WS:List (List Str)}{ys:List V},Paired (fun ws y=>∃r,cG ws=some r/\nF H y r) WS ys->∃rows,Paired (fun ws r=>cG ws=some r) WS rows/\bT H ys rows
 | _,_,.nil=>⟨[],.nil,.nil⟩
 | _,_,.cons ⟨r,h1,h2⟩ t=>by
  obtain⟨rows,a,b⟩:=tF t;exact⟨r::rows,.cons h1 a,.cons h2 b⟩
theorem pE {α β γ:Type}{F:α->β->Prop}{G:γ->β->Prop}{f:α->γ} (h:∀a b,F a b->G (f a) b):∀{as:List α}{bs:List β},Paired F as bs->Paired G (as.map f) bs
 | _,_,.nil=> .nil
 | _,_,.cons a t=> .cons (h _ _ a) (pE h t)
theorem vD (m:M K mg):bX P w K mg base (CXE P w) 6 m.kG m.kE ["text"] (mL K m.aQ):=by
 refine m.c7.okE sc_read_plan (fun vs H Q E h=> ?_) (fun cdv A outer s H vs Q E hr h=> ?_)
 ·obtain⟨x,rfl,h⟩:=h;rfl
 ·obtain⟨x,rfl,h⟩:=h;have nd:=sc_read_plan.nd;walk_at"hu";have j6:= @BP P w K mg base m;have eM:= @nG P w K mg base m;have gJ:= @uE P w K mg base m;refine⟨_,(aF (r0 (iV eM hr uM (aA (pv 0) aB)))
   (aF (cB (i:=1) nd rfl (by walk_at"oi") (wV (bD c0 (pv 0) aJ (bI _)) (cY aB) (eS PySem.F.plainAttrs_str PySem.F.slot_str_split PySem.F.type_str_split lI (pv 0) (aA aJ aB))))
   (aF (yE (i:=2) nd rfl (by walk_at"oi") (N:=["row"]) (nl:=1) (ci:=[]) IX rfl (blk (s.heap.objs.size+1) rfl rfl rfl (by kernel_rfl)) (iZ (pv 1)) (fun _ _ _ _=>(bQ (i:=0) (show (["row"]:List Str).Nodup by decide +kernel) rfl (by walk_at"oi"))) (fun _ _ _ _=>iK) (fun _ _ _ _=>(iV gJ hr IK (aA (iO (aA aJ (aA aJ (aA aJ aB)))) (aA (M1 (K:=K) rfl PySem.F.plainAttrs_str PySem.F.slot_str_split PySem.F.type_str_split lI (pv 0) (aA aJ aB)) aB)))))
   (aF (bV (bD (K3 hu9) (bZ j6 hr (aA (pv 2) aB)) (pv 2) (bI _)) (aH (jC m.h8 m.jI nY (aA aJ aB))) a9)
   (aH (aP (pv 2))))))),?_⟩
  refine bH (σ:=[some (x),none,none]) rfl ?_;walk_at"cx";rcases h with⟨n,b,hn,k⟩|⟨x,WS,rfl,hl,hWS,hok,hlen,k1,k2⟩
  ·walk_at"go";exact⟨x,n,rfl,b,fun z=>absurd z hn,fun _=>k⟩
  ·walk_at"go";refine KY hl fun p H1 n1 S1 e1=> ?_;walk_at"go";refine rV (fun v ws=>∃r,v= .str r/\Txt.split r " " =ws/\r.length<=1000000) (fun _=>true) (fun ws y H=>∃r,cG ws=some r/\nF H y r) (fun _ _ _ _ ⟨r,h1,q,h2,h3⟩ s=>⟨r,h1,q,h2,s _ _ h3⟩) (by rw[sizeLine_eq];lia) (rest:=[]) (by rfl) (SqL.of e1) (pE (fun r ws h=>⟨r,rfl,h⟩) hWS) ?_ ?_ ?_
   ·intro v ws H2 _ _ _ R hR;exact hR _ (Same.refl _)
   ·rintro v ws H2 ⟨r,rfl,hs,hrl⟩ hm - s2 R hR;walk_at"go";rename_i p3 H3 n3 S3 e3;refine mK 32 oS hrl fun q4 H4 n4 S4 e4=> ?_;rw[hs]at e4;walk_at"go";obtain⟨ho1,ho2⟩:=hok ws hm;refine⟨p3,q4,ws,rfl,S4 _ _ e3,e4,ho1,ho2,fun t n k hw r5 H5 n5 S5 e5=> ?_,fun hw H5 S5=> ?_⟩
    ·exact hR _ _ ⟨(t,n,k),hw,r5,rfl,e5⟩ ((S3.trans S4).trans S5)
    ·exact k1 ⟨ws,hm,hw⟩ _ ((((S1.trans s2).trans S3).trans S4).trans S5)
   ·intro ys H2 s2 hys;rw[List.filter_eq_self.mpr (fun _ _=>rfl)]at hys;obtain⟨rows,hrd,hpl⟩:=tF hys;have hrl:rows.length=WS.length:=(Paired.length hrd).symm;obtain⟨k3,k4⟩:=k2 rows hrd;walk_at"go";rename_i p3 H3 n3 S3 e3;have s03:Same H H3:=(S1.trans s2).trans S3;have n03:H p3=none:=by
     cases hq:H p3 with
     | none=>rfl
     | some u=>rw[(S1.trans s2) _ _ hq]at n3;cases n3
    have pl3:=eE hpl S3;refine NP (SqL.of e3) pl3 (by lia) (by have:=LF rows;lia) fun p4 vs xs H4 n4 S4 e4 hp4 hk4=> ?_;have pl4:=eE pl3 S4;walk_at"go";refine LC (SqL.of e4) (SqL.of (S4 _ _ e3)) (cZ hp4) (cZ pl4) ?_;rw[hk4];cases ht:iC rows with
    | true =>
     rw[show decide (fG (d0 rows)=rows.map bY)=true from ht];walk_at"go";exact k3 ht _ _ _ n03 (s03.trans S4) (S4 _ _ e3) pl4
    | false =>
     rw[show decide (fG (d0 rows)=rows.map bY)=false from ht];walk_at"go";refine jB ?_;walk_at"go";exact⟨(by show 1<=sizeLine;decide),k4 ht _ (s03.trans S4)⟩
theorem nI (m:M K mg):FcE P w K mg base "read_plan" 6 ["text"] (mL K m.aQ):=⟨_,_,m.yS,m.c7.kp,m.yP,vD m⟩
theorem aW (x y z:Str):x++y++z=x++(y++z):=eI (by rw[cI,cI,cI,cI,List.append_assoc])
theorem rW (x:Str):("" :Str)++x=x:=eI (by rw[cI];rfl)
theorem xE (x:Str):x++("" :Str)=x:=eI (by rw[cI];exact List.append_nil _)
theorem oW {c:Nat}{x y:Str} (h:noC c x) (h':noC c y):noC c (x++y):=by
 unfold noC;rw[cI,List.mem_append];rintro (a|a)
 ·exact h a
 ·exact h' a
theorem wQ {c:Nat}{z:Str} (hz:noC c z):∀{ys:List Str},(∀y∈ys,noC c y)->noC c (Str.join z ys)
 | [],_=>fun h=>absurd h (List.not_mem_nil)
 | [y],h=>h y (.head _)
 | y::y2::r,h=>oW (oW (h y (.head _)) hz) (wQ hz (ys:=y2::r) fun w hw=>h w (.tail _ hw))
def gI (x:Str):Prop:=noC 32 x/\noC 10 x/\x.length<=100
def WsG (ws:List Str):Prop:=ws≠[]/\ws.length<=10/\∀x∈ws,gI x
def gG (WS:List (List Str)):Str:=Str.join "\n" (WS.map (Str.join " "))
theorem cW {x:Str}(h:(decide (32∉x.cps.toList)&&decide (10∉x.cps.toList)&&decide (x.length<=100))=true):gI x:=by
 simp only[Bool.and_eq_true,decide_eq_true_eq]at h;exact⟨h.1.1,h.1.2,h.2⟩
theorem qY {t:Int}(h0:0<=t)(h1:t<10^60):gI (toString t):=by
 have hl:=fB h0 h1 (by decide);obtain⟨n,rfl⟩:∃n:Nat,t=n:=⟨t.toNat,by lia⟩
 exact⟨fun h=>by have:=lO n _ h;lia,fun h=>by have:=lO n _ h;lia,by lia⟩
theorem zW {x:Str}(h:bL x=true):gI x:=by
 have hl:=nN h;unfold bL at h;simp only[Bool.and_eq_true]at h;have h2:=List.all_eq_true.mp h.2;have:∀c∈x.cps.toList,97<=c:=fun c hc=>by
  have:=h2 c hc;unfold sgB at this;simp only[Bool.and_eq_true,decide_eq_true_eq]at this;exact this.1
 exact⟨fun h=>by have:=this _ h;lia,fun h=>by have:=this _ h;lia,by lia⟩
theorem qP {x y:Str}(h:gI x)(h':gI y)(hl:x.length+y.length<=100):gI (x++y):=⟨oW h.1 h'.1,oW h.2.1 h'.2.1,by rw[b5];exact hl⟩
theorem k8 {ws:List Str}(h:WsG ws):(Str.join " " ws).length<=1010:=by
 have j:=StrLaws.join_length_le " " ws;have h1:(ws.map (·.length)).sum<=(ws.map (·.length)).length * 100:=kZ fun x hx=>by
  obtain⟨z,hz,rfl⟩:=List.mem_map.mp hx;exact(h.2.2 z hz).2.2
 rw[List.length_map]at h1;have c:(" " :Str).length=1:=by decide
 rw[c]at j;have:=h.2.1
 lia
theorem CU {WS:List (List Str)}(hl:WS.length<=60)(hg:∀ws∈WS,WsG ws):(gG WS).length<=100000:=by
 have j:=StrLaws.join_length_le "\n" (WS.map (Str.join " "));have h1:((WS.map (Str.join " ")).map (·.length)).sum<=((WS.map (Str.join " ")).map (·.length)).length * 1010:=kZ fun x hx=>by
  obtain⟨z,hz,rfl⟩:=List.mem_map.mp hx;obtain⟨ws,hws,rfl⟩:=List.mem_map.mp hz;exact k8 (hg ws hws)
 rw[List.length_map,List.length_map]at h1;have c:("\n" :Str).length=1:=by decide
 rw[c,List.length_map]at j;show (Str.join "\n" (WS.map (Str.join " "))).length<=_
 lia
theorem C6:noC 10 (" " :Str):=by unfold noC;decide +kernel
theorem GT {ws:List Str}(h:WsG ws):noC 10 (Str.join " " ws):=wQ C6 fun y hy=>(h.2.2 y hy).2.1
theorem m8 {ws:List Str}(h:WsG ws):Txt.split (Str.join " " ws) " " =ws:=by
 rw[oS];exact iU h.1 fun p hp=>(h.2.2 p hp).1
theorem zM {c:Nat}:noC c ("" :Str):=fun h=>absurd h List.not_mem_nil
theorem j7 {WS:List (List Str)}(h0:WS≠[])(hg:∀ws∈WS,WsG ws):Txt.split (gG WS) "\n" =WS.map (Str.join " "):=by
 unfold gG;rw[uN];refine iU (fun z=>h0 (List.map_eq_nil_iff.mp z)) fun p hp=> ?_;obtain⟨ws,hws,rfl⟩:=List.mem_map.mp hp;exact GT (hg ws hws)
theorem GL {WS:List (List Str)}(h0:WS≠[])(hg:∀ws∈WS,WsG ws)(hne:WS≠[[("" :Str)]]):gG WS≠ "" :=by
 intro z;have s1:=j7 h0 hg;rw[z,uN,qB zM]at s1
 match WS,h0,hg,hne,s1 with
 | [ws],_,hg,hne,s1 =>
  have e:Str.join " " ws= "" :=(List.cons.inj s1).1.symm;have s2:=m8 (hg ws (.head _));rw[e,oS,qB zM]at s2;exact hne (by rw[←s2])
 | _::_::_,_,_,_,s1=>exact absurd (congrArg List.length s1) (by simp)
theorem tE {α β:Type}{F:β->α->Prop}{f:α->β}:∀{l:List α},(∀a∈l,F (f a) a)->Paired F (l.map f) l
 | [],_=> .nil
 | a::l,h=> .cons (h a (.head _)) (tE fun b hb=>h b (.tail _ hb))
theorem IB {WS:List (List Str)}(h0:WS≠[])(hl:WS.length<=60)(hg:∀ws∈WS,WsG ws)(hne:WS≠[[("" :Str)]]):(gG WS).length<=1000000/\Paired (fun r ws=>Txt.split r " " =ws/\r.length<=1000000) (jA (gG WS)) WS/\∀ws∈WS,FS ws:=by
 refine⟨Nat.le_trans (CU hl hg) (by decide),?_,fun ws hws=>⟨Nat.le_trans (hg ws hws).2.1 (by decide),fun x hx=>Nat.le_trans ((hg ws hws).2.2 x hx).2.2 (by decide)⟩⟩;unfold jA;rw[if_neg (GL h0 hg hne),j7 h0 hg];exact tE fun ws hws=>⟨m8 (hg ws hws),Nat.le_trans (k8 (hg ws hws)) (by decide)⟩
theorem y8:("0" :Str)=⟨#[48]⟩:=by decide +kernel
theorem starts0 {x:Str}:fP x "0" =true↔x.cps.toList[0]? =some 48:=by
 rw[y8,←StrLaws.subAt_one x 48 0];unfold fP;rw[Bool.and_eq_true,decide_eq_true_eq]
theorem zA (x:Str):x.length=x.cps.toList.length:=by rw[Array.length_toList];rfl
theorem qC {t:Int}(h0:0<=t)(h1:t<10^60):wrB (toString t)=true/\eQ (toString t)=t:=by
 have hl:=fB h0 h1 (by decide);obtain⟨n,rfl⟩:∃n:Nat,t=n:=⟨t.toNat,by lia⟩
 have hne:=D8 n
 constructor
 ·have l1:1<=(toString (n:Int):Str).length:=by
   rcases Nat.eq_zero_or_pos (toString (n:Int):Str).length with e|e
   ·exact absurd (List.eq_nil_of_length_eq_zero (by rw[←zA];exact e)) hne
   ·exact e
  have l3:((toString (n:Int):Str).cps.toList.all gX)=true:=List.all_eq_true.mpr fun c hc=>by
   have:=lO n c hc;unfold gX;rw[decide_eq_true this.1,decide_eq_true this.2];rfl
  unfold wrB;rw[decide_eq_true l1,decide_eq_true hl,l3];simp only[Bool.true_and]
  by_cases hz:n=0
  ·subst hz;have e:(toString ((0:Nat):Int):Str)= "0" :=by decide +kernel
   rw[e];rfl
  ·have hh:=HX (n:=n) (by lia);have:fP (toString (n:Int)) "0" =false:=by
    cases e:fP (toString (n:Int)) "0" with
    | false=>rfl
    | true =>
     have:=starts0.mp e;cases e2:(toString (n:Int):Str).cps.toList with
     | nil=>exact absurd e2 hne
     | cons c r =>
      rw[e2]at this;exact absurd (Option.some.inj this) (hh c r e2)
   rw[this];simp
 ·unfold eQ;have:=J6 n;rw[this]
theorem K7 {x:Str}{c:Nat} (hc:c∈x.cps.toList) (h:gX c=false):wrB x=false:=by
 cases e:wrB x with
 | false=>rfl
 | true =>
  unfold wrB at e;simp only[Bool.and_eq_true]at e;have:=List.all_eq_true.mp e.1.2 c hc;rw[h]at this;cases this
theorem GV (x:Str):wrB ("-" ++x)=false:=K7 (c:=45) (by rw[cI];exact List.mem_append_left _ (by decide +kernel)) (by decide)
theorem tP {x:Str}(h:1<=x.length):wrB ("0" ++x)=false:=by
 cases e:wrB ("0" ++x) with
 | false=>rfl
 | true =>
  unfold wrB at e;simp only[Bool.and_eq_true,Bool.or_eq_true,decide_eq_true_eq,Bool.not_eq_true']at e;rcases e.2 with e2|e2
  ·have:=congrArg Str.length e2;rw[b5]at this;have h0:("0" :Str).length=1:=by decide
   lia
  ·have:fP ("0" ++x) "0" =true:=starts0.mpr (by rw[cI,y8];rfl);rw[this]at e2;cases e2
theorem xA {t:Int}(h0:0<=t):1<=(toString t:Str).length:=by
 obtain⟨n,rfl⟩:∃n:Nat,t=n:=⟨t.toNat,by lia⟩
 rcases Nat.eq_zero_or_pos (toString (n:Int):Str).length with e|e
 ·exact absurd (List.eq_nil_of_length_eq_zero (by rw[←zA];exact e)) (D8 n)
 ·exact e
def LOk (r:aG):Prop:=0<=r.1/\r.1<10^12/\bL r.2.1=true/\1<=r.2.2/\r.2.2<10^12
theorem JE:(10:Int)^12<=10^60:=by decide
theorem LOk.row {r:aG}(h:LOk r):jX r:=⟨h.1,Int.lt_of_lt_of_le h.2.1 JE,Nat.le_trans (nN h.2.2.1) (by decide),by have:=h.2.2.2.1;lia,Int.lt_of_lt_of_le h.2.2.2.2 JE⟩
theorem rA (x y z:Str):cG [x,y,z]=if wrB x&&bL y&&wrB z then some (eQ x,y,eQ z) else none:=rfl
theorem pL {t k:Int}{n:Str} (h0:0<=t) (h1:t<10^60) (hn:bL n=true) (k0:0<=k) (k1:k<10^60):cG [toString t,n,toString k]=some (t,n,k):=by
 obtain⟨a,b⟩:=qC h0 h1;obtain⟨c,d⟩:=qC k0 k1;rw[rA,a,hn,c,b,d];rfl
theorem LOk.read {r:aG}(h:LOk r):cG (aX r)=some r:=pL h.row.1 h.row.2.1 h.2.2.1 h.row.2.2.2.1 h.row.2.2.2.2
theorem LOk.ws {r:aG}(h:LOk r):WsG (aX r):=by
 refine⟨(fun z=>nomatch z),(by show 3<=10;decide),fun x hx=> ?_⟩;unfold aX at hx;simp only[List.mem_cons,List.not_mem_nil,or_false]at hx;rcases hx with rfl|rfl|rfl
 ·exact qY h.row.1 h.row.2.1
 ·exact zW h.2.2.1
 ·exact qY h.row.2.2.2.1 h.row.2.2.2.2
theorem E6 (r:aG):aX r≠[("" :Str)]:=fun z=>absurd (congrArg List.length z) (by show ¬3=1;decide)
theorem tN {x y z:Str}(h:wrB x=false):cG [x,y,z]=none:=by rw[rA,h];rfl
theorem iL {x y z:Str}(h:bL y=false):cG [x,y,z]=none:=by rw[rA,h,Bool.and_false];rfl
theorem iN {x y z:Str}(h:wrB z=false):cG [x,y,z]=none:=by rw[rA,h,Bool.and_false];rfl
def lY (r:aG):Int×Str:=(r.1,r.2.1)
theorem y9 {P:List aG}{t:Int}{n:Str} (h:(t,n)∉P.map lY):d7 P t n=0:=by
 unfold d7;rw[List.filter_eq_nil_iff.mpr]
 ·rfl
 ·intro r hr z;simp only[Bool.and_eq_true,decide_eq_true_eq]at z;exact h (List.mem_map.mpr ⟨r,hr,Prod.ext z.1 z.2⟩)
theorem BJ (a:aG)(l:List aG)(t:Int)(n:Str):d7 (a::l) t n=(if a.1=t/\a.2.1=n then a.2.2 else 0)+d7 l t n:=by
 unfold d7
 by_cases h:a.1=t/\a.2.1=n
 ·rw[if_pos h,List.filter_cons_of_pos (by simp[h]),List.map_cons,List.sum_cons]
 ·rw[if_neg h,List.filter_cons_of_neg (by simpa using h)];lia
theorem lX:∀{P:List aG},(P.map lY).Nodup->∀r∈P,d7 P r.1 r.2.1=r.2.2
 | a::l,nd,r,hr=>by
  have nd':=List.nodup_cons.mp nd;rw[BJ];rcases List.mem_cons.mp hr with rfl|hr
  ·rw[if_pos ⟨rfl,rfl⟩,y9 nd'.1];lia
  ·rw[if_neg (fun z=>nd'.1 (List.mem_map.mpr ⟨r,hr,Prod.ext z.1.symm z.2.symm⟩)),lX nd'.2 r hr];lia
theorem m6 {α β:Type}(f:α->β){l:List α}(h:(l.map f).Nodup):l.Nodup:=by
 rw[List.Nodup,List.pairwise_map]at h;exact h.imp fun a b=>a (by rw[b])
theorem CZ {α β:Type}{f:α->β} (hf:∀a b,f a=f b->a=b) {l:List α} (h:l.Nodup):(l.map f).Nodup:=by
 rw[List.Nodup,List.pairwise_map];exact List.Pairwise.imp (fun hab z=>hab (hf _ _ z)) h
theorem D4 {P:List aG}(hpos:∀r∈P,0<r.2.2)(nd:(P.map lY).Nodup)(hs:(P.map bY).Pairwise fun x y=>cF x y=true):iC P=true:=by
 refine decide_eq_true (rQ (lt:=cF) (fun x _=>mI x) (fun _ _ _ _ _ _ a b=>rN a b) ((gH _).trans ?_) (pT ⟨_,lS _⟩ (lH _)) hs);refine(List.perm_ext_iff_of_nodup (lH _) (CZ (fun _ _=>gP) (m6 lY nd))).mpr fun k=> ?_;rw[mem_told]
 constructor
 ·rintro hq_;walk_at"g1";obtain⟨t,n,rfl,h⟩:=hq_;walk_at"g2"
  by_cases hm:(t,n)∈P.map lY
  ·obtain⟨r,hr,e⟩:=List.mem_map.mp hm;have e1:r.1=t:=congrArg Prod.fst e;have e2:r.2.1=n:=congrArg Prod.snd e;subst e1;subst e2;rw[lX nd r hr];exact List.mem_map.mpr ⟨r,hr,rfl⟩
  ·rw[y9 hm]at h;lia
 ·intro h;obtain⟨r,hr,rfl⟩:=List.mem_map.mp h;refine⟨r.1,r.2.1,?_,?_⟩
  ·rw[lX nd r hr]
  ·rw[lX nd r hr];exact hpos r hr
theorem zV {P:List aG}(h:fG (d0 P)=P.map bY->False):iC P=false:=decide_eq_false h
theorem K0 {P:List aG}{r:aG} (hr:r∈P) (h:r.2.2<=0):iC P=false:=zV fun z=>by
 have h1:bY r∈fG (d0 P):=by rw[z];exact List.mem_map.mpr ⟨r,hr,rfl⟩
 walk_at"g1";obtain⟨t,n,e,h2⟩:=mem_told.mp ((gH _).mem_iff.mp h1);walk_at"g2";have:=gP e;rw[this]at h;have h3:d7 P t n<=0:=h
 lia
theorem DS {A B:List aG}{x y:aG} (h:cF (bY x) (bY y)=false):iC (A++[x]++(y::B))=false:=zV fun z=>by
 have h1:=pT ⟨_,lS (A++[x]++(y::B))⟩ (lH _);rw[z,List.map_append,List.map_append,List.append_assoc]at h1;have h2:=(List.pairwise_append.mp h1).2.1;have h3:=(List.pairwise_cons.mp h2).1 (bY y) (.head _);rw[h]at h3;cases h3
theorem qN (m:List Nat):∀l:List Nat,¬l++m<l
 | []=>List.not_lt_nil _
 | a::l=>fun h=>by
  rw[List.cons_append,List.cons_lt_cons_iff]at h;rcases h with h|h
  ·exact Nat.lt_irrefl _ h
  ·exact qN m l h.2
theorem OV (t k:Int)(n z:Str)(hz:1<=z.length):cF (bY (t,n++z,k)) (bY (t,n,k))=false:=by
 have hne:n++z≠n:=fun e=>by
  have:=congrArg Str.length e;rw[b5]at this
  lia
 show (if (Sum.inl t:Key)= .inl t then (if (Sum.inr (n++z):Key)= .inr n then _ else d6 (.inr (n++z)) (.inr n)) else _)=false;rw[if_pos rfl,if_neg (fun e=>hne (Sum.inr.inj e))];refine decide_eq_false ?_;rw[cI];exact qN _ _
def oT (ns:List Int)(k:Int):Int:=ns.getD k.toNat 0
inductive oQ (K:W.Frag)(vs:List V)(H:Hp)(Q:VK)(E:XK):Prop
 | mk (a:Addr) (ns:List Int) (k:Int) (_:vs=[.ref a,.int k]) (_:SqL K H a (ns.map V.int)) (_:0<=k) (_:Q (.int (oT ns k)) H):oQ K vs H Q E
theorem LX {H:Hp}{Q:VK}{E:XK}{a:Addr}{ns:List Int}{i:Int} (hS:SqL K H a (ns.map V.int)) (hi:0<=i) (h:Q (.int (oT ns i)) H):oQ K [.ref a,.int i] H Q E:=⟨_,_,_,rfl,hS,hi,h⟩
theorem qS (m:M K mg):bX P w K mg base CX0 1 m.iB m.h9 ["_law_script","_law_k"] (oQ K):=by
 refine m.c9.ok sc__law_cell_at (fun vs H Q E h=> ?_) (fun cdv A outer s H vs Q E hr h=> ?_)
 ·walk_at"g1";obtain⟨a,ns,i,rfl,hS,hi,k⟩:=h;walk_at"g2";rfl
 ·walk_at"g1";obtain⟨a,ns,i,rfl,hS,hi,k⟩:=h;walk_at"g2";have nd:=sc__law_cell_at.nd;walk_at"hu";refine⟨_,(aF (bV (bD P2 (pv 1) (bR jT rfl m.o7 lA (aA (pv 0) aB)) (bI _)) (aH (aP (bJ aT (pv 0) (pv 1) (fun _ _=>rfl)))) a9)
   (aH (aP aC))),?_⟩
  refine bH (σ:=[some (.ref a),some (.int i)]) rfl ?_;walk_at"cx";walk_at"go";rw[List.length_map];refine cX (fun h1=> ?_) (fun h1=> ?_)
  ·have hlt:i.toNat<ns.length:=by lia
   have e:=oP (xs:=ns.map V.int) (j:=i.toNat) (v:= .int (oT ns i)) (by
    rw[List.getElem?_map,List.getElem?_eq_getElem hlt];unfold oT;rw[List.getD_eq_getElem?_getD,List.getElem?_eq_getElem hlt];rfl)
   rw[show ((i.toNat:Nat):Int)=i by lia]at e;exact⟨_,rfl,_,rfl,a,_,i,_,rfl,rfl,hS,e,k⟩
  ·have e:oT ns i=0:=by
    unfold oT;rw[List.getD_eq_getElem?_getD,List.getElem?_eq_none (by lia)];rfl
   rw[e]at k;exact k
theorem rB (m:M K mg):Fc P w K mg base "_law_cell_at" 1 ["_law_script","_law_k"] (oQ K):=⟨_,_,m.sL,m.c9.kp,m.sN,qS m⟩
def wD (c k:Int):Int:=(c+7829 * k+1) * 48271%2147483647
def uV (c k:Int):Int:=wD c k * (wD c k/1009+69621)%2147483647
theorem F3 (c k:Int):0<=uV c k:=Int.emod_nonneg _ (by decide)
theorem FM (c k:Int):uV c k<2147483648:=Int.lt_trans (Int.emod_lt_of_pos _ (by decide)) (by decide)
inductive l0 (vs:List V)(H:Hp)(Q:VK)(E:XK):Prop
 | mk (c k:Int) (_:vs=[.int c,.int k]) (_:0<=k) (_:k<=100) (_:∀n,0<=n->n<2147483648->Q (.int n) H):l0 vs H Q E
theorem LM {H:Hp}{Q:VK}{E:XK}{c k:Int} (h0:0<=k) (h1:k<=100) (h:∀n,0<=n->n<2147483648->Q (.int n) H):l0 [.int c,.int k] H Q E:=⟨_,_,rfl,h0,h1,h⟩
theorem t5 (m:M K mg):bX P w K mg base CX0 1 m.jM m.jH ["_law_cell","_law_k"] (l0):=by
 refine m.bP.ok sc__law_drawn (fun vs H Q E h=> ?_) (fun cdv A outer s H vs Q E hr h=> ?_)
 ·walk_at"g1";obtain⟨c,j,rfl,j0,j1,k⟩:=h;walk_at"g2";rfl
 ·walk_at"g1";obtain⟨c,j,rfl,j0,j1,k⟩:=h;walk_at"g2";have nd:=sc__law_drawn.nd;walk_at"hu";refine⟨_,(aF (cB (i:=2) nd rfl (by walk_at"oi") (aE bS (aE uW (aE fY (aE fY (pv 0) (aE uW aC (pv 1))) aC) aC) aC))
   (aH (aP (aE bS (aE uW (pv 2) (aE fY (aE c8 (pv 2) aC) aC)) aC)))),?_⟩
  refine bH (σ:=[some (.int c),some (.int j),none]) rfl ?_;walk_at"cx";have k:=k _ (F3 c j) (FM c j);unfold uV wD at k;walk_at"go";exact k
theorem mV (m:M K mg):Fc P w K mg base "_law_drawn" 1 ["_law_cell","_law_k"] (l0):=⟨_,_,m.xQ,m.bP.kp,m.xV,t5 m⟩
local macro_rules| `(tactic| walk_at"rd1")=> `(tactic| first|((with_reducible refine' LX ?e ?s ?_);(case e=>walk_at"hp");(case s=>walk_at"sd"))|((with_reducible refine' LM ?u ?v ?_);(case u=>walk_at"sd");(case v=>walk_at"sd");intro n' h0' h1'))
theorem JX:("abcdefghijklmnopqrstuvwxyz" :Str).length=26:=by rw[aR];decide
theorem vO:("abcdefghijklmnopqrstuvwxyz" :Str).cps.toList=List.range' 97 26:=by decide +kernel
theorem KP:gZ "abcdefghijklmnopqrstuvwxyz" =true:=by decide +kernel
theorem C5 {i:Int}(h0:0<=i)(h1:i<26):atI ("abcdefghijklmnopqrstuvwxyz" :Str).cps.toList i=some (97+i.toNat):=by
 have e:=oP (xs:=("abcdefghijklmnopqrstuvwxyz" :Str).cps.toList) (j:=i.toNat) (v:=97+i.toNat) (by rw[vO,List.getElem?_range' (by lia)];simp);rw[show ((i.toNat:Nat):Int)=i by lia]at e;exact e
theorem JP {i:Nat}(h:i<26):gZ ⟨#[97+i]⟩=true:=by
 refine FL KP ?_;rw[vO,List.mem_range'_1]
 lia
theorem PV:∀n:Nat,n<=7->gZ (iS "p" n)=true/\(iS "p" n).length=n:=by
 intro n hn;have:∀k:Fin 8,gZ (iS "p" k.val)=true/\(iS "p" k.val).length=k.val:=by decide +kernel
 exact this ⟨n,by lia⟩
inductive lU (vs:List V)(H:Hp)(Q:VK)(E:XK):Prop
 | mk (d:Int) (_:vs=[.int d]) (_:0<=d) (_:∀z,bL z=true->Q (.str z) H):lU vs H Q E
theorem JS {H:Hp}{Q:VK}{E:XK}{d:Int} (h0:0<=d) (h:∀z,bL z=true->Q (.str z) H):lU [.int d] H Q E:=⟨_,rfl,h0,h⟩
theorem vS (m:M K mg):bX P w K mg base CX0 1 m.kL m.kC ["_law_draw"] (lU):=by
 refine m.iG.ok sc__law_name (fun vs H Q E h=> ?_) (fun cdv A outer s H vs Q E hr h=> ?_)
 ·walk_at"g1";obtain⟨d,rfl,h0,k⟩:=h;walk_at"g2";rfl
 ·walk_at"g1";obtain⟨d,rfl,h0,k⟩:=h;walk_at"g2";have nd:=sc__law_name.nd;walk_at"hu";refine⟨_,(aF (cB (i:=1) nd rfl (by walk_at"oi") aJ)
   (aF (bV (bD c0 (aE bS (pv 0) aC) aC (bI _)) (aH (aP (aE aV (aE y6 aJ (aE bS (aE c8 (pv 0) aC) aC)) (bJ E5 (pv 1) (aE bS (aE c8 (pv 0) aC) aC) (fun _ _=>rfl))))) a9)
   (aH (aP (aE aV (bJ E5 (pv 1) (aE bS (aE c8 (pv 0) aC) aC) (fun _ _=>rfl)) (aE y6 aJ (aE bS (aE c8 (pv 0) aC) aC))))))),?_⟩
  refine bH (σ:=[some (.int d),none]) rfl ?_;walk_at"cx";have hl:=JX;have hi:(d/16%26).toNat<26:=by lia
  have hp:=PV (d/2%8).toNat (by lia);have h1:(⟨#[97+(d/16%26).toNat]⟩:Str).length=1:=rfl;have hz:=JP hi;walk_at"go";refine cX (fun h2=> ?_) (fun h2=> ?_)
  ·walk_at"go";refine AD (by lia) (by lia) (by decide) ?_;walk_at"go";refine⟨_,_,_,rfl,rfl,(by walk_at"sz"),C5 (by lia) (by lia),?_⟩;walk_at"go";exact k _ (vR (by rw[b5];lia) (by rw[b5];lia) (uS hp.1 hz))
  ·walk_at"go";refine⟨_,_,_,rfl,rfl,(by walk_at"sz"),C5 (by lia) (by lia),?_⟩;walk_at"go";refine AD (by lia) (by lia) (by decide) ?_;walk_at"go";exact k _ (vR (by rw[b5];lia) (by rw[b5];lia) (uS hz hp.1))
theorem vP (m:M K mg):Fc P w K mg base "_law_name" 1 ["_law_draw"] (lU):=⟨_,_,m.yN,m.iG.kp,m.yW,vS m⟩
local macro_rules| `(tactic| walk_at"rd1")=> `(tactic| ((with_reducible refine' JS ?s ?_);(case s=>walk_at"sd");intro z' hz'))
theorem JR (r:aG):aN r=toString r.1++ " " ++r.2.1++ " " ++toString r.2.2:=by
 unfold aN aX;rw[dN];show toString r.1++ " " ++(r.2.1++ " " ++toString r.2.2)=_;simp only[aW]
inductive lC (K:W.Frag)(vs:List V)(H:Hp)(Q:VK)(E:XK):Prop
 | mk (a:Addr) (us:List V) (rows:List aG) (_:vs=[.ref a]) (_:SqL K H a us) (_:bT H us rows) (_:(∀r∈rows,LOk r)) (_:rows.length<=60) (_:∀H',Same H H'->Q (.str (d8 rows)) H'):lC K vs H Q E
theorem y7 {H:Hp}{Q:VK}{E:XK}{a:Addr}{us:List V}{rows:List aG} (hS:SqL K H a us) (hp:bT H us rows) (ho:∀r∈rows,LOk r) (hl:rows.length<=60) (h:∀H',Same H H'->Q (.str (d8 rows)) H'):lC K [.ref a] H Q E:=⟨_,_,_,rfl,hS,hp,ho,hl,h⟩
theorem v7 (m:M K mg):bX P w K mg base CX0 1 m.kB m.kS ["_law_plan_here"] (lC K):=by
 refine m.eN.ok sc__law_text (fun vs H Q E h=> ?_) (fun cdv A outer s H vs Q E hr h=> ?_)
 ·walk_at"g1";obtain⟨a,us,rows,rfl,hS,hpl,ho,hl,k⟩:=h;walk_at"g2";rfl
 ·walk_at"g1";obtain⟨a,us,rows,rfl,hS,hpl,ho,hl,k⟩:=h;walk_at"g2";have nd:=sc__law_text.nd;walk_at"hu";refine⟨_,(aH (aP (eS PySem.F.plainAttrs_str PySem.F.slot_str_join PySem.F.type_str_join fQ aJ (aA (fU (N:=["_law_turn","_law_name_here","_law_number"]) (nl:=3) (ci:=[]) rfl (blk (s.heap.objs.size+1) rfl rfl rfl (by kernel_rfl)) (iZ (pv 0)) (fun _ _ _ _=>(o0 (K:=K) (n:=3) rfl (cS (bQ (i:=0) (show (["_law_turn","_law_name_here","_law_number"]:List Str).Nodup by decide +kernel) rfl (by walk_at"oi")) (cS (bQ (i:=1) (show (["_law_turn","_law_name_here","_law_number"]:List Str).Nodup by decide +kernel) rfl (by walk_at"oi")) (cS (bQ (i:=2) (show (["_law_turn","_law_name_here","_law_number"]:List Str).Nodup by decide +kernel) rfl (by walk_at"oi")) k7))))) (fun _ _ _ _=>iK) (fun _ _ _ _=>(aE aV (aE aV (aE aV (aE aV (fS lB rfl m.o8 kW (aA (pv 0) aB)) aJ) (pv 1)) aJ) (fS lB rfl m.o8 kW (aA (pv 2) aB))))) aB)))),?_⟩;refine bH (σ:=[some (.ref a)]) rfl ?_;walk_at"cx";walk_at"go";refine KC (fun r:aG=> .int r.1) (fun r=> .str r.2.1) (fun r=> .int r.2.2) (fun _=>true) (fun r y _=>y=V.str (aN r)) (fun _ _ _ _ h _=>h) (by rw[sizeLine_eq];lia) (rest:=[]) (by rfl) hS hpl ?_ ?_ ?_
  ·intro x H1 _ _ R hR;exact hR _ (Same.refl _)
  ·rintro ⟨t,n,j⟩ H1 hm - s1 R hR;have hR:=hR _ _ rfl (Same.refl _);rw[JR]at hR;have h1:0<=t:=(ho _ hm).row.1;have h2:t<10^60:=(ho _ hm).row.2.1;have h3:n.length<=1000:=(ho _ hm).row.2.2.1;have h4:0<=j:=(ho _ hm).row.2.2.2.1;have h5:j<10^60:=(ho _ hm).row.2.2.2.2;have l1:(toString t:Str).length<=60:=fB h1 h2 (by decide);have l2:(toString j:Str).length<=60:=fB h4 h5 (by decide);have b1:=nP h1 h2;have b2:=nP h4 h5;clear h2 h5;have l3:(" " :Str).length=1:=by decide
   show (_:TE) (some (V.int t)::some (V.str n)::some (V.int j)::[]) H1 R;walk_at"go";refine .inl ⟨t,rfl,b1,?_⟩;walk_at"go";refine .inl ⟨j,rfl,b2,?_⟩;walk_at"go";exact hR
  ·intro ys H1 s1 hys;rw[List.filter_eq_self.mpr (fun _ _=>rfl)]at hys;have e:=qD hys;subst e;walk_at"go";rename_i q2 H2 n2 S2 e2;refine fT (ys:=rows.map aN) (SqL.of (by rw[e2,List.map_map];rfl)) (Nat.le_trans (nA (fun r hr=>(ho r hr).row) (by lia)) (by decide)) (k _ (s1.trans S2))
theorem oA (m:M K mg):Fc P w K mg base "_law_text" 1 ["_law_plan_here"] (lC K):=⟨_,_,m.yL,m.eN.kp,m.yT,v7 m⟩
theorem wX (rs:List Str)(i:Nat):iR (rs.map V.str) none (some (i:Int))=(rs.take i).map V.str:=by
 unfold iR;rw[HT.sIx_none,HT.sIx_nat,List.drop_zero,List.length_map,Nat.sub_zero,←List.map_take]
 congr 1
 rcases Nat.le_total i rs.length with h|h
 ·rw[Nat.min_eq_left h]
 ·rw[Nat.min_eq_right h,List.take_length,List.take_of_length_le h]
theorem pO (rs:List Str)(i:Nat):iR (rs.map V.str) (some (i:Int)) none=(rs.drop i).map V.str:=by
 unfold iR;rw[HT.sIx_none,HT.sIx_nat,List.length_map,←List.map_drop,←List.map_take]
 congr 1
 rcases Nat.le_total i rs.length with h|h
 ·rw[Nat.min_eq_left h,List.take_of_length_le (by rw[List.length_drop];lia)]
 ·rw[Nat.min_eq_right h,List.drop_of_length_le h,List.drop_of_length_le (Nat.le_refl _),List.take_nil]
theorem nO {ys:List Str}(hl:ys.length<=130)(ho:∀y∈ys,y.length<=2000):(ys.map (·.length)).sum+ys.length * ("\n" :Str).length<=300000:=by
 have h1:(ys.map (·.length)).sum<=(ys.map (·.length)).length * 2000:=kZ fun x hx=>by
  obtain⟨z,hz,rfl⟩:=List.mem_map.mp hx;exact ho z hz
 rw[List.length_map]at h1;have:("\n" :Str).length=1:=by decide
 rw[this]
 lia
inductive mZ (K:W.Frag)(vs:List V)(H:Hp)(Q:VK)(E:XK):Prop
 | mk (a:Addr) (rs:List Str) (i:Nat) (x:Str) (_:vs=[.ref a,.int i,.str x]) (_:SqL K H a (rs.map V.str)) (_:i<rs.length) (_:rs.length<=60) (_:(∀y∈rs,y.length<=2000)) (_:x.length<=2000) (_:∀H',Same H H'->Q (.str (Str.join "\n" (rs.take i++[x]++rs.drop (i+1)))) H'):mZ K vs H Q E
theorem yA (m:M K mg):bX P w K mg base CX0 1 m.mS m.mO ["_law_rows","_law_at","_law_row"] (mZ K):=by
 refine m.cD.ok sc__law_put (fun vs H Q E h=> ?_) (fun cdv A outer s H vs Q E hr h=> ?_)
 ·walk_at"g1";obtain⟨a,rs,i,x,rfl,hS,hi,hl,ho,hx,k⟩:=h;walk_at"g2";rfl
 ·walk_at"g1";obtain⟨a,rs,i,x,rfl,hS,hi,hl,ho,hx,k⟩:=h;walk_at"g2";have nd:=sc__law_put.nd;walk_at"hu";refine⟨_,(aH (aP (eS PySem.F.plainAttrs_str PySem.F.slot_str_join PySem.F.type_str_join fQ aJ (aA (aE nK (aE nK (eT fR (pv 0) gR (fF (pv 1))) (cY (aA (pv 2) aB))) (eT fR (pv 0) (fF (aE fY (pv 1) aC)) gR)) aB)))),?_⟩;refine bH (σ:=[some (.ref a),some (.int i),some (.str x)]) rfl ?_;walk_at"cx";walk_at"go";rename_i p1 H1 n1 S1 e1 p2 H2 n2 S2 e2;rw[wX]at e1;have lt:(rs.take i).length<=rs.length:=by rw[List.length_take];lia
  refine i4 (S2 _ _ e1) e2 (by rw[sizeLine_eq,List.length_map,List.length_cons,List.length_nil];lia) fun p3 H3 n3 S3 e3=> ?_;walk_at"go";rename_i p4 H4 n4 S4 e4;rw[show ((i:Int)+1)=((i+1:Nat):Int) by lia,pO]at e4;have ld:(rs.drop (i+1)).length<=rs.length:=by rw[List.length_drop];lia
  refine i4 (S4 _ _ e3) e4 (by rw[sizeLine_eq,List.length_append,List.length_map,List.length_map,List.length_cons,List.length_nil];lia) fun p5 H5 n5 S5 e5=> ?_;walk_at"go";have hall:∀y∈rs.take i++[x]++rs.drop (i+1),y.length<=2000:=fun y hy=>by
   rcases List.mem_append.mp hy with h|h
   ·rcases List.mem_append.mp h with h|h
    ·exact ho y (List.mem_of_mem_take h)
    ·rw[List.mem_singleton.mp h];exact hx
   ·exact ho y (List.mem_of_mem_drop h)
  refine fT (ys:=rs.take i++[x]++rs.drop (i+1)) (SqL.of (by rw[e5,List.map_append,List.map_append];rfl)) (Nat.le_trans (nO (by rw[List.length_append,List.length_append,List.length_cons,List.length_nil];lia) hall) (by decide)) ?_;rw[dN];exact k _ ((((S1.trans S2).trans S3).trans S4).trans S5)
theorem x6 (m:M K mg):Fc P w K mg base "_law_put" 1 ["_law_rows","_law_at","_law_row"] (mZ K):=⟨_,_,m.CL,m.cD.kp,m.CQ,yA m⟩
def mH (P:List aG):Prop:=P.length<=40/\(∀r∈P,LOk r)/\(P.map lY).Nodup/\(P.map bY).Pairwise fun x y=>cF x y=true
def GoodL (kvs:List (List Key×V)):Prop:=(kvs.map (·.1)).Nodup/\∀e∈kvs,∃t n i,e=(cV t n,.int i)/\LOk (t,n,i)
theorem GoodL.put {kvs:List (List Key×V)}(h:GoodL kvs){t i:Int}{n:Str} (ho:LOk (t,n,i)):GoodL (dI kvs (cV t n) (.int i)):=by
 refine⟨tV h.1,fun e he=> ?_⟩;rcases vQ he with h1|⟨h1,h2⟩
 ·exact h.2 e h1
 ·exact⟨_,_,_,Prod.ext h1 h2,ho⟩
theorem l9 {kvs:List (List Key×V)}(h:GoodL kvs):(kvs.map f9).Nodup:=by
 have h1:=h.1;rw[List.Nodup,List.pairwise_map]at h1 ⊢;refine List.Pairwise.imp_of_mem ?_ h1;intro a b ha hb hab z;walk_at"g1";obtain⟨t,n,i,rfl,_⟩:=h.2 a ha;walk_at"g2";walk_at"g1";obtain⟨t',n',i',rfl,_⟩:=h.2 b hb;walk_at"g2";have z':bY (t,n,i)=bY (t',n',i'):=z;have:=gP z'
 apply hab
 rw[(Prod.mk.inj this).1,(Prod.mk.inj (Prod.mk.inj this).2).1]
theorem BH {kvs:List (List Key×V)}(h:GoodL kvs){xs:List aG}(hp:(xs.map bY).Perm (kvs.map f9)):(xs.map lY).Nodup:=by
 have nd:(xs.map bY).Nodup:=hp.nodup_iff.mpr (l9 h);have nd2:xs.Nodup:=m6 bY nd;rw[List.Nodup,List.pairwise_map];refine List.Pairwise.imp_of_mem ?_ nd2;intro a b ha hb hab z;have ma:bY a∈kvs.map f9:=hp.mem_iff.mp (List.mem_map.mpr ⟨a,ha,rfl⟩);have mb:bY b∈kvs.map f9:=hp.mem_iff.mp (List.mem_map.mpr ⟨b,hb,rfl⟩);obtain⟨e,he,e1⟩:=List.mem_map.mp ma;obtain⟨f,hf,f1⟩:=List.mem_map.mp mb;walk_at"g1";obtain⟨t,n,i,rfl,_⟩:=h.2 e he;walk_at"g2";walk_at"g1";obtain⟨t',n',i',rfl,_⟩:=h.2 f hf;walk_at"g2";have ea:(t,n,i)=a:=gP e1;have eb:(t',n',i')=b:=gP f1;subst ea;subst eb;have z1:t=t':=congrArg Prod.fst z;have z2:n=n':=congrArg Prod.snd z;subst z1;subst z2;have v1:=oN h.1 he;have v2:=oN h.1 hf;rw[v1]at v2;have:i=i':=by injection v2 with v3;injection v3
 exact hab (by rw[this])
theorem qK {kvs:List (List Key×V)}(h:GoodL kvs):∀r∈kvs.map f9,r.map b7=[true,false,true]:=fun r hr=>by
 obtain⟨e,he,rfl⟩:=List.mem_map.mp hr;walk_at"g1";obtain⟨t,n,i,rfl,_⟩:=h.2 e he;walk_at"g2";rfl
theorem HJ {kvs:List (List Key×V)}(h:GoodL kvs){xs:List aG}(hp:(xs.map bY).Perm (kvs.map f9)){r:aG}(hr:r∈xs):LOk r:=by
 obtain⟨e,he,e1⟩:=List.mem_map.mp (hp.mem_iff.mp (List.mem_map.mpr ⟨r,hr,rfl⟩));walk_at"g1";obtain⟨t,n,i,rfl,ho⟩:=h.2 e he;walk_at"g2";have:(t,n,i)=r:=gP e1;rw[←this];exact ho
theorem tO {H:Hp}:∀{vs:List V}{rows:List aG},bT H vs rows->∀k:Nat,bT H (vs.take k) (rows.take k)
 | _,_,_,0=> .nil
 | _,_,.nil,_+1=> .nil
 | _,_,.cons a t,k+1=> .cons a (tO t k)
inductive lD (K:W.Frag)(vs:List V)(H:Hp)(Q:VK)(E:XK):Prop
 | mk (a:Addr) (ns:List Int) (_:vs=[.ref a]) (_:SqL K H a (ns.map V.int)) (_:∀p us P H',H p=none->Same H H'->H' p=some (.lst us)->bT H' us P->mH P->Q (.ref p) H'):lD K vs H Q E
theorem O1 (ns:List Int):(nV ns (some 2) (some 42)).length<=40:=by
 unfold nV;have h1:HT.sIx ns.length 0 (some ((2:Nat):Int))=min 2 ns.length:=HT.sIx_nat _ _ 2;have h2:HT.sIx ns.length ns.length (some ((42:Nat):Int))=min 42 ns.length:=HT.sIx_nat _ _ 42;rw[show (2:Int)=((2:Nat):Int) from rfl,show (42:Int)=((42:Nat):Int) from rfl,h1,h2,List.length_take]
 lia
theorem uU (m:M K mg):bX P w K mg base CX0 2 m.kR m.kM ["_law_script"] (lD K):=by
 refine m.iH.ok sc__law_plan (fun vs H Q E h=> ?_) (fun cdv A outer s H vs Q E hr h=> ?_)
 ·walk_at"g1";obtain⟨a,ns,rfl,hS,k⟩:=h;walk_at"g2";rfl
 ·walk_at"g1";obtain⟨a,ns,rfl,hS,k⟩:=h;walk_at"g2";have nd:=sc__law_plan.nd;walk_at"hu";have bP:= @mV P w K mg base m;have iG:= @vP P w K mg base m;refine⟨_,(aF (cB (i:=1) nd rfl (by walk_at"oi") w6)
   (aF (xI PassesOwn.never rfl (iZ (eT fR (pv 0) (fF aC) (fF aC))) (bQ (i:=2) nd rfl (by walk_at"oi")) (aF (cB (i:=3) nd rfl (by walk_at"oi") (aE bS (bZ bP hr (aA (pv 2) (aA aC aB))) (bJ aT (cY (aA aC (aA aC (aA (oV 1000000000 (by decide) ⟨by decide,by decide,by decide⟩) aB)))) (aE bS (bZ bP hr (aA (pv 2) (aA aC aB))) aC) (fun _ _=>rfl))))
   (aF (bV (bD c0 (aE bS (bZ bP hr (aA (pv 2) (aA aC aB))) aC) aC (bI _)) (aH (cB (i:=3) nd rfl (by walk_at"oi") (aE bS (pv 2) (oV 1000000000000 (by decide) ⟨by decide,by decide,by decide⟩)))) a9)
   (aF (cB (i:=4) nd rfl (by walk_at"oi") (aE fY aC (aE bS (bZ bP hr (aA (pv 2) (aA aC aB))) (bJ aT (cY (aA aC (aA (oV 1000000000 (by decide) ⟨by decide,by decide,by decide⟩) aB))) (aE bS (bZ bP hr (aA (pv 2) (aA aC aB))) aC) (fun _ _=>rfl)))))
   (aF (rG hu1 (pv 1) (iO (aA (pv 3) (aA (bZ iG hr (aA (bZ bP hr (aA (pv 2) (aA aC aB))) aB)) aB))) (pv 4) rfl)
   (aH (bV (bD c0 (aE bS (bZ bP hr (aA (pv 2) (aA aC aB))) aC) aC (bI _)) (aH (rG hu1 (pv 1) (iO (aA (pv 3) (aA aJ aB))) (aE fY aC (aE bS (pv 2) (aE ME (oV 1000000000000 (by decide) ⟨by decide,by decide,by decide⟩) aC))) rfl)) a9)))))))
   (aH (aP (eT fR (bR uB rfl m.xN tY (aA (K6 (fU (N:=["_law_key","_law_number"]) (nl:=2) (ci:=[]) rfl (blk (s.heap.objs.size+1) rfl rfl rfl (by kernel_rfl)) (tX (pv 1)) (fun _ _ _ _=>(o0 (K:=K) (n:=2) rfl (cS (bQ (i:=0) (show (["_law_key","_law_number"]:List Str).Nodup by decide +kernel) rfl (by walk_at"oi")) (cS (bQ (i:=1) (show (["_law_key","_law_number"]:List Str).Nodup by decide +kernel) rfl (by walk_at"oi")) k7)))) (fun _ _ _ _=>iK) (fun _ _ _ _=>(aE (GM (K:=K)) (pv 0) (iO (aA (pv 1) aB)))))) aB)) gR (fF aC)))))),?_⟩
  refine bH (σ:=[some (.ref a),none,none,none,none]) rfl ?_;walk_at"cx";have hcl:=O1 ns;have nq:bL "q" =true:=by decide +kernel
  walk_at"go";rename_i p H1 n1 S1 e1 q H2 n2 S2 e2;have e1':=S2 _ _ e1;let Pv1:Nat->St->Hp->Prop:=fun i σ' H'=>SameBut p H2 H'/\(∃kvs,H' p=some (.dT kvs)/\GoodL kvs/\kvs.length<=2 * i)/\∃x y z,σ'=[some (.ref a),some (.ref p),x,y,z];refine AC (nV ns (some 2) (some 42) |>.map V.int) Pv1 ⟨SameBut.refl,⟨[],e1',⟨List.nodup_nil,fun e h=>(nomatch h)⟩,Nat.le_refl _⟩,_,_,_,rfl⟩ (fun i σ' H' _ w=>SqL.of (w.1 _ _ e2 (fun z=>by subst z;rw[e1']at e2;cases e2))) ?_ ?_
  ·rintro i x _ H' hx hq_;walk_at"g1";obtain⟨sb,⟨kvs,ek,hg,hkl⟩,x1,x2,x3,rfl⟩:=hq_;walk_at"g2";have hi:i<(nV ns (some 2) (some 42)).length:=by
    have:=(List.getElem?_eq_some_iff.mp hx).1;rw[List.length_map]at this;exact this
   obtain⟨c,rfl⟩:∃c,x= .int c:=by
    rw[List.getElem?_map]at hx;cases h:(nV ns (some 2) (some 42))[i]? with
    | none=>rw[h]at hx;cases hx
    | some c=>rw[h]at hx;cases hx;exact⟨c,rfl⟩
   walk_at"gs";rename_i d1 d10 d11 p3 H3 n3 S3 e3 d2 d20 d21 v1 hv1 hm0 hm1;have ek3:=S3 _ _ ek;refine sF (fun σ' H''=>H3=H''/\∃t,0<=t/\t<10^12/\σ'=[some (.ref a),some (.ref p),some (.int c),some (.int t),x3]) ?_ ?_
   rotate_left
   ·intro nx' hnx;walk_at"go";refine cX (fun hw=> ?_) (fun hw=> ?_)
    ·walk_at"go";exact hnx _ _ ⟨rfl,_,by lia,by lia,rfl⟩
    ·walk_at"go";exact hnx _ _ ⟨rfl,_,hm0,by lia,rfl⟩
   rintro _ _ hq_;walk_at"g1";obtain⟨rfl,t,t0,t1,rfl⟩:=hq_;walk_at"g2";walk_at"gs";rename_i d3 d30 d31 p4 H4 n4 S4 e4 d4 d40 d41 v2 hv2 hn0 hn1 d5 d50 d51 z hz p5 H5 n5 S5 e5;refine pF (cV t z) (S5 _ _ (S4 _ _ ek3)) (by assumption) (by rw[sizeLine_eq];lia) fun H6 B6 e6=> ?_;have g6:GoodL (dI kvs (cV t z) (.int (1+d3%v2))):=hg.put ⟨t0,t1,hz,by show 1<=1+d3%v2;lia,by show 1+d3%v2<10^12;lia⟩;have l6:=fL kvs (cV t z) (.int (1+d3%v2));have sb6:SameBut p H2 H6:=by walk_at"sb"
   walk_at"go";refine cX (fun hw=> ?_) (fun hw=> ?_)
   ·walk_at"go";rename_i p7 H7 n7 S7 e7;refine pF (cV t "q") (S7 _ _ e6) (by assumption) (by rw[sizeLine_eq];lia) fun H8 B8 e8=> ?_;have l8:=fL (dI kvs (cV t z) (.int (1+d3%v2))) (cV t "q") (.int (1+c%(1000000000000 - 1)));refine⟨by walk_at"sb",⟨_,e8,g6.put ⟨t0,t1,nq,by show 1<=1+c%(1000000000000 - 1);lia,by show 1+c%(1000000000000 - 1)<10^12;lia⟩,by lia⟩,_,_,_,rfl⟩
   ·walk_at"go";exact⟨sb6,⟨_,e6,g6,by lia⟩,_,_,_,rfl⟩
  ·rintro _ H' hq_;walk_at"g1";obtain⟨sb,⟨kvs,ek,hg,hkl⟩,x1,x2,x3,rfl⟩:=hq_;walk_at"g2";rw[List.length_map]at hkl;have fr:∀b u,H b=some u->b≠p:=fun b u hb z=>by rw[z,n1]at hb;cases hb
   have s':Same H H':=fun b u hb=>sb _ _ (S2 _ _ (S1 _ _ hb)) (fr b u hb);walk_at"go";refine F4 ek O0 ?_;walk_at"go";refine sR ek fun o H3 B3 e3=> ?_;have sA:Same H H3:=fun b u hb=>B3 _ _ (s' _ _ hb) (fr b u hb);refine ET (fun _=>true) (fun e y H=>∃q,y= .ref q/\H q=some (.tup ((f9 e).map kV))) (fun _ _ _ _ ⟨q,h1,h2⟩ s=>⟨q,h1,s _ _ h2⟩) (by rw[sizeLine_eq];lia) (rest:=[]) (by rfl) e3 ?_ ?_ ?_
   ·exact fun x H4 q hm s4 hq R hR=>hR _ (Same.refl _)
   ·rintro ⟨kk,v⟩ H4 q hm - s4 hq R hR;walk_at"g1";obtain⟨t,n,i,e,_⟩:=hg.2 _ hm;walk_at"g2";cases e;have hq':H4 q=some (.tup [.int t,.str n]):=hq;show (_:TE) (some (V.ref q)::some (V.int i)::[]) H4 R;walk_at"go";rename_i q5 H5 n5 S5 e5;refine HR (S5 _ _ hq') e5 (List.cons_ne_nil _ _) (List.cons_ne_nil _ _) (by rw[sizeLine_eq];show 2+1<=_;decide) fun q6 H6 n6 S6 e6=> ?_;exact hR _ _ ⟨q6,rfl,e6⟩ (S5.trans S6)
   intro ys H4 s4 hys;have kr:KRows H4 ys (kvs.map f9):=by
    have:=nZ hys
    rwa [List.filter_eq_self.mpr (fun _ _=>rfl)]at this
   walk_at"go";rename_i q5 H5 n5 S5 e5;have eo:H5 p=some (.frz o (.dT kvs)):=S5 _ _ (s4 _ _ e3);refine EQ eo fun H6 B6 e6=> ?_;have hpq:q5≠p:=fun z=>by rw[z,s4 _ _ e3]at n5;cases n5
   have kr6:KRows H6 ys (kvs.map f9):=KRows.map (fun q xs hq=>B6 _ _ hq fun z=>by rw[z,eo]at hq;cases hq) (kr.same S5);have sB:Same H H6:=fun b u hb=>B6 _ _ (S5 _ _ (s4 _ _ (sA _ _ hb))) (fr b u hb);walk_at"go";refine EN (sh:=[true,false,true]) (SqL.of (B6 _ _ e5 hpq)) kr6 (l9 hg) (qK hg) (by decide) fun l ws H7 n7 S7 e7 kr7=> ?_;obtain⟨xs,h1,h2⟩:=lW kr7 fun kk hk=>by
    obtain⟨e,he,rfl⟩:=List.mem_map.mp ((gH _).mem_iff.mp hk);walk_at"g1";obtain⟨t,n,i,rfl,_⟩:=hg.2 e he;walk_at"g2";exact⟨(t,n,i),rfl⟩
   have pm:(xs.map bY).Perm (kvs.map f9):=by rw[h2];exact gH _
   walk_at"go";rename_i p8 H8 n8 S8 e8;have sC:Same H H7:=sB.trans S7;refine k p8 (ws.take 40) (xs.take 40) H8 ?_ (sC.trans S8) ?_ (eE (tO h1 40) S8) ⟨by rw[List.length_take];lia,fun r hr=>HJ hg pm (List.mem_of_mem_take hr),?_,?_⟩
   ·cases hq:H p8 with
    | none=>rfl
    | some u=>rw[sC _ _ hq]at n8;cases n8
   ·rw[e8];unfold iR;rw[HT.sIx_none,show (40:Int)=((40:Nat):Int) from rfl,HT.sIx_nat,List.drop_zero,Nat.sub_zero];rcases Nat.le_total 40 ws.length with h|h
    ·rw[Nat.min_eq_left h]
    ·rw[Nat.min_eq_right h,List.take_length,List.take_of_length_le h]
   ·rw[List.map_take];exact(BH hg pm).sublist (List.take_sublist _ _)
   ·rw[List.map_take,h2];exact(pT ⟨_,qK hg⟩ (l9 hg)).sublist (List.take_sublist _ _)
theorem vM (m:M K mg):Fc P w K mg base "_law_plan" 2 ["_law_script"] (lD K):=⟨_,_,m.yG,m.iH.kp,m.yI,uU m⟩
def iP (x:Str):Prop:=∃WS,x=gG WS/\WS≠[]/\WS.length<=60/\(∀ws∈WS,WsG ws)/\WS≠[[("" :Str)]]/\((∃ws∈WS,cG ws=none)∨∃rows,Paired (fun ws r=>cG ws=some r) WS rows/\iC rows=false)
theorem lP {α β:Type}{F:α->β->Prop}:∀{l l2:List α}{m m2:List β},Paired F l m->Paired F l2 m2->Paired F (l++l2) (m++m2)
 | _,_,_,_,.nil,h=>h
 | _,_,_,_,.cons a t,h=> .cons a (lP t h)
theorem lF (P:List aG):P.map aN=(P.map aX).map (Str.join " "):=by
 rw[List.map_map]
 apply List.map_congr_left
 intro r _;exact dN _ _
theorem lK:∀{P:List aG},(∀r∈P,LOk r)->Paired (fun ws r=>cG ws=some r) (P.map aX) P
 | [],_=> .nil
 | r::P,h=> .cons (h r (.head _)).read (lK fun x hx=>h x (.tail _ hx))
theorem zN (P:List aG):d8 P=gG (P.map aX):=by
 unfold d8 gG;rw[dN,lF]
theorem w4 (A B:List aG)(M:List (List Str)):Str.join "\n" (A.map aN++M.map (Str.join " ")++B.map aN)=gG (A.map aX++M++B.map aX):=by
 unfold gG;rw[lF,lF,List.map_append,List.map_append]
theorem vF {A B:List aG}{M:List (List Str)} (hA:∀r∈A,LOk r) (hB:∀r∈B,LOk r) (hM:∀ws∈M,WsG ws):∀ws∈A.map aX++M++B.map aX,WsG ws:=fun ws h=>by
 rcases List.mem_append.mp h with h|h
 ·rcases List.mem_append.mp h with h|h
  ·obtain⟨r,hr,rfl⟩:=List.mem_map.mp h;exact(hA r hr).ws
  ·exact hM ws h
 ·obtain⟨r,hr,rfl⟩:=List.mem_map.mp h;exact(hB r hr).ws
theorem jY {A B:List aG}{M:List (List Str)}{ws:List Str} (hA:∀r∈A,LOk r) (hB:∀r∈B,LOk r) (hM:∀ws∈M,WsG ws) (hl:A.length+M.length+B.length<=60) (hws:ws∈M) (hb:cG ws=none) (hne:A.map aX++M++B.map aX≠[[("" :Str)]]):iP (Str.join "\n" (A.map aN++M.map (Str.join " ")++B.map aN)):=by
 have hm:ws∈A.map aX++M++B.map aX:=List.mem_append_left _ (List.mem_append_right _ hws);exact⟨_,w4 A B M,fun z=>(by rw[z]at hm;cases hm),by rw[List.length_append,List.length_append,List.length_map,List.length_map];exact hl,vF hA hB hM,hne,.inl ⟨ws,hm,hb⟩⟩
theorem DB {A B:List aG}{ws:List Str} (h:ws≠[("" :Str)]):A.map aX++[ws]++B.map aX≠[[("" :Str)]]:=fun z=>by
 have hm:ws∈A.map aX++[ws]++B.map aX:=List.mem_append_left _ (List.mem_append_right _ (.head _));rw[z]at hm;exact h (List.mem_singleton.mp hm)
theorem sS {A B:List aG}{ws:List Str} (hA:∀r∈A,LOk r) (hB:∀r∈B,LOk r) (hg:WsG ws) (hl:A.length+B.length<=50) (hb:cG ws=none) (hn:ws≠[("" :Str)]):iP (Str.join "\n" (A.map aN++[Str.join " " ws]++B.map aN)) :=
 jY (M:=[ws]) hA hB (fun y hy=>by rw[List.mem_singleton.mp hy];exact hg) (by show A.length+1+B.length<=60;lia) (.head _) hb (DB hn)
theorem lE {A B:List aG}{ws:List Str}{r:aG} (hA:∀r∈A,LOk r) (hB:∀r∈B,LOk r) (hg:WsG ws) (hl:A.length+B.length<=50) (hr:cG ws=some r) (hn:ws≠[("" :Str)]) (ht:iC (A++[r]++B)=false):iP (Str.join "\n" (A.map aN++[Str.join " " ws]++B.map aN)):=by
 have hm:ws∈A.map aX++[ws]++B.map aX:=List.mem_append_left _ (List.mem_append_right _ (.head _));exact⟨_,w4 A B [ws],fun z=>(by rw[z]at hm;cases hm),by rw[List.length_append,List.length_append,List.length_map,List.length_map];show A.length+1+B.length<=60;lia,vF hA hB (fun y hy=>by rw[List.mem_singleton.mp hy];exact hg),DB hn,.inr ⟨_,lP (lP (lK hA) (.cons hr .nil)) (lK hB),ht⟩⟩
theorem j2 (a b:Str):Str.join " " [a,b]=a++(" " ++b):=aW _ _ _
theorem j3 (a b c:Str):Str.join " " [a,b,c]=a++(" " ++(b++(" " ++c))):=by
 show a++ " " ++Str.join " " [b,c]=_;rw[j2,aW]
theorem j4 (a b c d:Str):Str.join " " [a,b,c,d]=a++(" " ++(b++(" " ++(c++(" " ++d))))):=by
 show a++ " " ++Str.join " " [b,c,d]=_;rw[j3,aW]
theorem j5 (a b c d e:Str):Str.join " " [a,b,c,d,e]=a++(" " ++(b++(" " ++(c++(" " ++(d++(" " ++e))))))):=by
 show a++ " " ++Str.join " " [b,c,d,e]=_;rw[j4,aW]
theorem M4:("  " :Str)= " " ++ " " :=by decide +kernel
theorem GE {a b c:Str}(ha:noC 32 a)(hb:noC 32 b)(hc:noC 32 c):Txt.replace (Str.join " " [a,b,c]) " " "  " =Str.join " " [a,"",b,"",c]:=by
 have e:=StrLaws.replace_one (Str.join " " [a,b,c]) "  " 32;rw[←oS]at e;rw[e];have s:Txt.split (Str.join " " [a,b,c]) " " =[a,b,c]:=by
  rw[oS];exact iU (fun z=>nomatch z) fun p hp=>by
   simp only[List.mem_cons,List.not_mem_nil,or_false]at hp;rcases hp with rfl|rfl|rfl
   ·exact ha
   ·exact hb
   ·exact hc
 rw[s,j5];show a++ "  " ++(b++ "  " ++c)=_;rw[M4];simp only[aW,rW]
theorem i6:gI "" :=cW (by decide +kernel)
theorem nJ (t:Int)(n:Str)(j:Int):aN (t,n,j)=Str.join " " [toString t,n,toString j]:=dN _ _
theorem O7:aN (3,"d",4)= "3 d 4" :=by decide +kernel
theorem PM:LOk (3,"d",4):=⟨by decide,by decide,by decide +kernel,by decide,by decide⟩
theorem vV (z:Str):∀{xs:List Str},xs≠[]->Str.join z (xs++[("" :Str)])=Str.join z xs++z
 | [],h=>absurd rfl h
 | [x],_=>xE _
 | x::y::r,_=>by
  show x++z++Str.join z ((y::r)++[("" :Str)])=x++z++Str.join z (y::r)++z;rw[vV z (xs:=y::r) (fun e=>nomatch e),←aW]
theorem BL (z:Str):∀{xs:List Str},xs≠[]->Str.join z ("" ::xs)=z++Str.join z xs
 | [],h=>absurd rfl h
 | x::r,_=>by
  show "" ++z++Str.join z (x::r)=_;rw[rW]
theorem ws3 {a b c:Str}(ha:gI a)(hb:gI b)(hc:gI c):WsG [a,b,c]:=⟨(fun z=>nomatch z),by show 3<=10;decide,fun x hx=>by
 simp only[List.mem_cons,List.not_mem_nil,or_false]at hx;rcases hx with rfl|rfl|rfl
 ·exact ha
 ·exact hb
 ·exact hc⟩
theorem i5 {a:Str}{l:List Str} (ha:gI a) (hl:WsG l) (h:l.length<=9):WsG (a::l):=⟨(fun z=>nomatch z),by show l.length+1<=10;lia,fun x hx=>by
 rcases List.mem_cons.mp hx with rfl|hx
 ·exact ha
 ·exact hl.2.2 x hx⟩
theorem kY {a:Str}(ha:gI a):WsG [a]:=⟨(fun z=>nomatch z),by show 1<=10;decide,fun x hx=>by rw[List.mem_singleton.mp hx];exact ha⟩
theorem bU {a b:Str}{l:List Str}:a::b::l≠[("" :Str)]:=fun z=>absurd (congrArg List.length z) (by simp)
theorem AE {a:Str}(h:1<=a.length):[a]≠[("" :Str)]:=fun z=>by
 have:a= "" :=(List.cons.inj z).1;rw[this]at h;exact absurd h (by decide +kernel)
theorem FT {A B:List aG}(hA:∀r∈A,LOk r)(hl:A.length<=50)(hne:A≠[]):iP (Str.join "\n" (A.map aN)++ "\n"):=by
 have h:=jY (A:=A) (B:=[]) (M:=[[("" :Str)]]) hA (fun _ h=>nomatch h) (fun y hy=>by rw[List.mem_singleton.mp hy];exact kY i6) (by show A.length+1+0<=60;lia) (.head _) rfl (fun z=>by
  have:=congrArg List.length z;rw[List.length_append,List.length_append,List.length_map]at this;have h0:A.length≠0:=fun e=>hne (List.length_eq_zero_iff.mp e);simp at this;exact hne this)
 have e:Str.join "\n" (A.map aN++[("" :Str)])=Str.join "\n" (A.map aN)++ "\n" :=vV _ (fun z=>hne (List.map_eq_nil_iff.mp z));rw[←e];have h':iP (Str.join "\n" (A.map aN++[("" :Str)]++[])):=h;rw[List.append_nil]at h';exact h'
theorem AO {B:List aG}(hB:∀r∈B,LOk r)(hl:B.length<=50)(hne:B≠[]):iP ("\n" ++Str.join "\n" (B.map aN)):=by
 have h:=jY (A:=[]) (B:=B) (M:=[[("" :Str)]]) (fun _ h=>nomatch h) hB (fun y hy=>by rw[List.mem_singleton.mp hy];exact kY i6) (by show 0+1+B.length<=60;lia) (.head _) rfl (fun z=>by
  have z':B.map aX=[]:=(List.cons.inj z).2;exact hne (List.map_eq_nil_iff.mp z'))
 have e:Str.join "\n" (("" :Str)::B.map aN)= "\n" ++Str.join "\n" (B.map aN):=BL _ (fun z=>hne (List.map_eq_nil_iff.mp z));rw[←e];exact h
theorem E7:iP "\n" :=by
 have h:=jY (A:=[]) (B:=[]) (M:=[[("" :Str)],[("" :Str)]]) (fun _ h=>nomatch h) (fun _ h=>nomatch h) (fun y hy=>by
  simp only[List.mem_cons,List.not_mem_nil,or_false]at hy;rcases hy with rfl|rfl<;>exact kY i6) (by decide) (.head _) rfl (fun z=>absurd (congrArg List.length z) (by decide))
 have e:Str.join "\n" [("" :Str),("" :Str)]= "\n" :=by decide +kernel
 rw[←e];exact h
theorem gW {H:Hp}{Q:VK}{p:Addr}{xs:List V}{i:Int} (e:SqL K H p xs) (h0:0<=i) (h1:i<xs.length) (h:∀v∈xs,Q v H):rX K (.ref p) (.int i) H Q:=by
 have hj:i.toNat<xs.length:=by lia
 have e1:=oP (xs:=xs) (j:=i.toNat) (v:=xs[i.toNat]) (List.getElem?_eq_getElem hj);rw[show ((i.toNat:Nat):Int)=i by lia]at e1;exact⟨p,xs,i,_,rfl,rfl,e,e1,h _ (List.getElem_mem hj)⟩
theorem zR {A B:List aG}{r:aG}:(((A++r::B).map aN).map V.str)[A.length]? =some (.str (aN r)):=by
 rw[List.getElem?_map,List.getElem?_map,List.getElem?_append_right (Nat.le_refl _),Nat.sub_self];rfl
theorem HP {H:Hp}{Q:VK}{p:Addr}{A B:List aG}{r:aG} (e:SqL K H p (((A++r::B).map aN).map V.str)) (h:Q (.str (aN r)) H):rX K (.ref p) (.int (A.length:Int)) H Q :=
 ⟨p,_,_,_,rfl,rfl,e,oP zR,h⟩
theorem C1 {H:Hp}{Q:VK}{p:Addr}{A B:List aG}{r:aG} (e:SqL K H p (((A++r::B).map aN).map V.str)) (h:Q (.str (aN r)) H):MI K (.ref p) (.int (A.length:Int)) H Q :=
 ⟨p,_,_,_,rfl,rfl,Int.natCast_nonneg _,e,zR,h⟩
local macro_rules| `(tactic| walk_at"rd1")=> `(tactic| ((with_reducible refine' HP ?e ?_);(case e=>walk_at"hp")))
def uR (K:W.Frag)(H:Hp)(v:V):Prop:=(∃n,BTy K H v n/\n≠ "str")∨∃x,v= .str x/\iP x
inductive pY (K:W.Frag)(vs:List V)(H:Hp)(Q:VK)(E:XK):Prop
 | mk (a:Addr) (us:List V) (P:List aG) (c:Int) (_:vs=[.ref a,.int c]) (_:H a=some (.lst us)) (_:bT H us P) (_:mH P) (_:∀v H',Same H H'->uR K H' v->Q v H'):pY K vs H Q E
theorem tH {A B:List aG}{r:aG}:((A++r::B).map aN).take A.length=A.map aN:=by
 rw[List.map_append,List.take_append_of_le_length (by rw[List.length_map];exact Nat.le_refl _),←List.length_map (f:=aN),List.take_length]
theorem BC {A B:List aG}{r:aG}:((A++r::B).map aN).take (A.length+1)=A.map aN++[aN r]:=by
 have e:A++r::B=(A++[r])++B:=by rw[List.append_assoc];rfl
 rw[e,List.map_append,←show (A++[r]).length=A.length+1 from List.length_append,List.take_append_of_le_length (by rw[List.length_map];exact Nat.le_refl _),←List.length_map (f:=aN),List.take_length,List.map_append];rfl
theorem nH {A B:List aG}{r:aG}:((A++r::B).map aN).drop A.length=(r::B).map aN:=by
 rw[List.map_append,←List.length_map (f:=aN),List.drop_left]
theorem A8 {A B:List aG}{r:aG}:((A++r::B).map aN).drop (A.length+1)=B.map aN:=by
 rw[←List.drop_drop,nH];rfl
theorem IL {H:Hp}{Q:VK}{E:XK}{p:Addr}{A B:List aG}{r:aG}{x:Str} (e:SqL K H p (((A++r::B).map aN).map V.str)) (hok:∀r'∈A++r::B,LOk r') (hl:(A++r::B).length<=40) (hx:x.length<=2000) (k:∀H',Same H H'->Q (.str (Str.join "\n" (A.map aN++[x]++B.map aN))) H'):mZ K [.ref p,.int (A.length:Int),.str x] H Q E:=by
 refine⟨p,(A++r::B).map aN,A.length,x,rfl,e,?_,?_,fun y hy=> ?_,hx,fun H' s=> ?_⟩
 ·rw[List.length_map,List.length_append,List.length_cons];lia
 ·rw[List.length_map];lia
 ·obtain⟨z,hz,rfl⟩:=List.mem_map.mp hy;exact Nat.le_trans (gU (hok z hz).row) (by decide)
 ·rw[tH,A8];exact k H' s
theorem cH {H:Hp}{Q:VK}{E:XK}{p:Addr}{A B:List aG}{r:aG}{x:Str} (ws:List Str) (e:SqL K H p (((A++r::B).map aN).map V.str)) (hok:∀r'∈A++r::B,LOk r') (hl:(A++r::B).length<=40) (hx:x=Str.join " " ws) (hg:WsG ws) (hb:cG ws=none) (hn:ws≠[("" :Str)]) (k:∀v H',Same H H'->uR K H' v->Q v H'):mZ K [.ref p,.int (A.length:Int),.str x] H Q E:=by
 have hl':A.length+B.length+1<=40:=by rw[List.length_append,List.length_cons]at hl;lia
 refine IL e hok hl (by rw[hx];exact Nat.le_trans (k8 hg) (by decide)) fun H' s=>k _ H' s (.inr ⟨_,rfl,?_⟩);rw[hx];exact sS (fun z hz=>hok z (List.mem_append_left _ hz)) (fun z hz=>hok z (List.mem_append_right _ (.tail _ hz))) hg (by lia) hb hn
theorem B5 {L:List aG}(h0:L≠[])(ho:∀r∈L,LOk r):Txt.split (d8 L) "\n" =L.map aN:=by
 rw[zN,j7 (fun z=>h0 (List.map_eq_nil_iff.mp z)) (fun ws hws=> ?_),←lF];obtain⟨r,hr,rfl⟩:=List.mem_map.mp hws;exact(ho r hr).ws
theorem uQ {A B:List aG}{x:Str} (hA:∀r∈A,LOk r) (hB:∀r∈B,LOk r) (hx:x.length<=2000) (hl:A.length+B.length<=100):((A.map aN++[x]++B.map aN).map (·.length)).sum+(A.map aN++[x]++B.map aN).length * ("\n" :Str).length<=16777216:=by
 refine Nat.le_trans (nO (by rw[List.length_append,List.length_append,List.length_map,List.length_map];show A.length+1+B.length<=130;lia) fun y hy=> ?_) (by decide);rcases List.mem_append.mp hy with h|h
 ·rcases List.mem_append.mp h with h|h
  ·obtain⟨z,hz,rfl⟩:=List.mem_map.mp h;exact Nat.le_trans (gU (hA z hz).row) (by decide)
  ·rw[List.mem_singleton.mp h];exact hx
 ·obtain⟨z,hz,rfl⟩:=List.mem_map.mp h;exact Nat.le_trans (gU (hB z hz).row) (by decide)
theorem l_0:(" 0" :Str)= " " ++ "0" :=by decide +kernel
theorem l_1:(" 1" :Str)= " " ++ "1" :=by decide +kernel
theorem l_x:(" x" :Str)= " " ++ "x" :=by decide +kernel
theorem QP:(" -1" :Str)= " " ++ "-1" :=by decide +kernel
theorem QD:(" +1" :Str)= " " ++ "+1" :=by decide +kernel
theorem QR:(" 1.0" :Str)= " " ++ "1.0" :=by decide +kernel
theorem QL:(" ninewords " :Str)= " " ++("ninewords" ++ " "):=by decide +kernel
theorem QG:(" Hall " :Str)= " " ++("Hall" ++ " "):=by decide +kernel
theorem QN:(" a1 " :Str)= " " ++("a1" ++ " "):=by decide +kernel
theorem l_d:(" - " :Str)= " " ++("-" ++ " "):=by decide +kernel
theorem l_z:("z " :Str)= "z" ++ " " :=by decide +kernel
theorem QO:("0" :Str)=toString (0:Int):=by decide +kernel
theorem qM (m:M K mg):bX P w K mg base CX0 2 m.hU m.iA ["_law_plan_here","_law_cell"] (pY K):=by
 refine m.fH.ok sc__law_spoiled (fun vs H Q E h=> ?_) (fun cdv A outer s H vs Q E hr h=> ?_)
 ·walk_at"g1";obtain⟨a,us,PL,c,rfl,ha,hpl,hG,k⟩:=h;walk_at"g2";rfl
 ·walk_at"g1";obtain⟨a,us,PL,c,rfl,ha,hpl,hG,k⟩:=h;walk_at"g2";have nd:=sc__law_spoiled.nd;walk_at"hu";have cD:= @x6 P w K mg base m;have eN:= @oA P w K mg base m;refine⟨_,(aF (cB (i:=2) nd rfl (by walk_at"oi") (cY (aA aJ aB)))
   (aF (bV (bD (DV hu0) (pv 0) (cY aB) (bI _)) (aH (cB (i:=2) nd rfl (by walk_at"oi") (eS PySem.F.plainAttrs_str PySem.F.slot_str_split PySem.F.type_str_split lI (bZ eN hr (aA (pv 0) aB)) (aA aJ aB)))) a9)
   (aF (cB (i:=3) nd rfl (by walk_at"oi") (aE bS (pv 1) aC))
   (aF (cB (i:=4) nd rfl (by walk_at"oi") (aE bS (aE c8 (pv 1) aC) (bR jT rfl m.o7 lA (aA (pv 2) aB))))
   (aF (cB (i:=5) nd rfl (by walk_at"oi") (eS PySem.F.plainAttrs_str PySem.F.slot_str_split PySem.F.type_str_split lI (bJ aT (pv 2) (pv 4) (fun _ _=>rfl)) (aA aJ aB)))
   (aF (bV (bD c0 (pv 3) aC (bI _)) (aH (aP (eS PySem.F.plainAttrs_str PySem.F.slot_str_join PySem.F.type_str_join fQ aJ (aA (aE nK (eT fR (pv 2) gR (fF (aE fY (pv 4) aC))) (eT fR (pv 2) (fF (pv 4)) gR)) aB)))) a9)
   (aF (bV (bD c0 (pv 3) aC (bI _)) (aF (cB (i:=6) nd rfl (by walk_at"oi") (aE aV (aE aV (aE aV (aE aV (bJ aT (pv 5) aC (fun _ _=>rfl)) aJ) (bJ aT (pv 5) aC (fun _ _=>rfl))) aJ) (bJ aT (pv 5) aC (fun _ _=>rfl))))
   (aH (aP (eS PySem.F.plainAttrs_str PySem.F.slot_str_join PySem.F.type_str_join fQ aJ (aA (aE nK (aE nK (eT fR (pv 2) gR (fF (pv 4))) (cY (aA (pv 6) aB))) (eT fR (pv 2) (fF (pv 4)) gR)) aB))))) a9)
   (aF (bV (bD c0 (pv 3) aC (bI _)) (aH (aP (bZ cD hr (aA (pv 2) (aA (pv 4) (aA (aE aV (aE aV (aE aV (bJ aT (pv 5) aC (fun _ _=>rfl)) aJ) (bJ aT (pv 5) aC (fun _ _=>rfl))) aJ) aB)))))) a9)
   (aF (bV (bD c0 (pv 3) aC (bI _)) (aH (aP (bZ cD hr (aA (pv 2) (aA (pv 4) (aA (aE aV (aE aV (aE aV (aE aV (bJ aT (pv 5) aC (fun _ _=>rfl)) aJ) (bJ aT (pv 5) aC (fun _ _=>rfl))) aJ) (bJ aT (pv 5) aC (fun _ _=>rfl))) aB)))))) a9)
   (aF (bV (bD c0 (pv 3) aC (bI _)) (aH (aP (bZ cD hr (aA (pv 2) (aA (pv 4) (aA (aE aV aJ (bJ aT (pv 2) (pv 4) (fun _ _=>rfl))) aB)))))) a9)
   (aF (bV (bD c0 (pv 3) aC (bI _)) (aH (aP (bZ cD hr (aA (pv 2) (aA (pv 4) (aA (aE aV (aE aV (aE aV (bJ aT (pv 5) aC (fun _ _=>rfl)) aJ) (bJ aT (pv 5) aC (fun _ _=>rfl))) (bJ aT (cY (aA aJ (aA aJ (aA aJ (aA aJ aB))))) (aE bS (aE c8 (pv 1) aC) aC) (fun _ _=>rfl))) aB)))))) a9)
   (aF (bV (bD c0 (pv 3) aC (bI _)) (aH (aP (bZ cD hr (aA (pv 2) (aA (pv 4) (aA (aE aV (aE aV (bJ aT (pv 5) aC (fun _ _=>rfl)) (bJ aT (cY (aA aJ (aA aJ (aA aJ (aA aJ aB))))) (aE bS (aE c8 (pv 1) aC) aC) (fun _ _=>rfl))) (bJ aT (pv 5) aC (fun _ _=>rfl))) aB)))))) a9)
   (aF (bV (bD c0 (pv 3) aC (bI _)) (aH (aP (bZ cD hr (aA (pv 2) (aA (pv 4) (aA (bJ aT (cY (aA (aE aV (bJ aT (pv 2) (pv 4) (fun _ _=>rfl)) aJ) (aA (aE aV (aE aV (bJ aT (pv 5) aC (fun _ _=>rfl)) aJ) (bJ aT (pv 5) aC (fun _ _=>rfl))) (aA (bJ aT (pv 5) aC (fun _ _=>rfl)) (aA aJ aB))))) (aE bS (aE c8 (pv 1) aC) aC) (fun _ _=>rfl)) aB)))))) a9)
   (aF (bV (bD c0 (pv 3) aC (bI _)) (aH (aP (bZ cD hr (aA (pv 2) (aA (pv 4) (aA (bJ aT (cY (aA (aE aV aJ (bJ aT (pv 2) (pv 4) (fun _ _=>rfl))) (KD (bJ aT (pv 2) (pv 4) (fun _ _=>rfl)) (OO (EK 2) (EK 4) (fun _ _=>rfl)) (by decide) (by decide)))) (aE bS (aE c8 (pv 1) aC) aC) (fun _ _=>rfl)) aB)))))) a9)
   (aF (bV (bD c0 (pv 3) aC (bI _)) (aH (aP (bJ aT (cY (aA (aE aV (eS PySem.F.plainAttrs_str PySem.F.slot_str_join PySem.F.type_str_join fQ aJ (aA (pv 2) aB)) aJ) (aA (aE aV aJ (eS PySem.F.plainAttrs_str PySem.F.slot_str_join PySem.F.type_str_join fQ aJ (aA (pv 2) aB))) (aA aJ aB)))) (aE bS (aE c8 (pv 1) aC) aC) (fun _ _=>rfl)))) a9)
   (aF (bV (bD c0 (pv 3) aC (bI _)) (aH (aP (bZ cD hr (aA (pv 2) (aA (pv 4) (aA (aE aV aJ (bJ aT (pv 2) (pv 4) (fun _ _=>rfl))) aB)))))) a9)
   (aH (aP (bJ aT (cY (aA L6 (aA aC (aA (pv 0) (aA jR (aA (cY (aA aJ aB)) aB)))))) (aE bS (aE c8 (pv 1) aC) aC) (fun _ _=>rfl)))))))))))))))))))),?_⟩
  refine bH (σ:=[some (.ref a),some (.int c),none,none,none,none,none]) rfl ?_;walk_at"cx";walk_at"gs";rename_i p0 H0 n0 S0 e0;refine sF (fun σ' H'=>∃p P',Same H H'/\H' p=some (.lst ((P'.map aN).map V.str))/\P'≠[]/\P'.length<=40/\(∀r∈P',LOk r)/\σ'=[some (.ref a),some (.int c),some (.ref p),none,none,none,none]) ?_ ?_
  rotate_left
  ·intro nx' hnx;walk_at"go";rename_i p1 H1 n1 S1 e1;have s01:=S0.trans S1;refine DW (SqL.of (s01 _ _ ha)) (SqL.of e1) ?_;cases hpl with
   | nil =>
    walk_at"go";exact hnx _ _ ⟨p0,[(3,"d",4)],s01,by rw[S1 _ _ e0];show _=some (HO.lst [.str (aN (3,"d",4))]);rw[O7],(fun z=>nomatch z),by decide,fun r hr=>by rw[List.mem_singleton.mp hr];exact PM,rfl⟩
   | cons h t =>
    have hpl':=eE (Paired.cons h t) s01;rw[show (!(_::_:List V).isEmpty)=true from rfl];walk_at"go";refine y7 (SqL.of (s01 _ _ ha)) hpl' hG.2.1 (Nat.le_trans hG.1 (by decide)) fun H2 S2=> ?_;walk_at"go";refine mK 10 uN (Nat.le_trans (FF (fun r hr=>(hG.2.1 r hr).row) (Nat.le_trans hG.1 (by decide))) (by decide)) fun p3 H3 n3 S3 e3=> ?_;rw[B5 (List.cons_ne_nil _ _) hG.2.1]at e3;walk_at"go";exact hnx _ _ ⟨p3,_,(s01.trans S2).trans S3,e3,(fun z=>nomatch z),hG.1,hG.2.1,rfl⟩
  rintro _ H2 hq_;walk_at"g1";obtain⟨p,P',s2,ep,hne,hlen,hok,rfl⟩:=hq_;walk_at"g2";have hll:((P'.map aN).map V.str).length=P'.length:=by rw[List.length_map,List.length_map]
  have hl0:0<P'.length:=by
   rcases Nat.eq_zero_or_pos P'.length with e|e
   ·exact absurd (List.length_eq_zero_iff.mp e) hne
   ·exact e
  walk_at"gs";rename_i h0 h1;rw[hll]at h0 h1;rw[hll];obtain⟨A1,r,B,e,hA⟩:∃A1 r B,P'=A1++r::B/\c/12%(P'.length:Int)=(A1.length:Int):=by
   refine⟨P'.take (c/12%(P'.length:Int)).toNat,P'[(c/12%(P'.length:Int)).toNat]'(by lia),P'.drop ((c/12%(P'.length:Int)).toNat+1),?_,?_⟩
   ·rw[←List.drop_eq_getElem_cons,List.take_append_drop]
   ·rw[List.length_take];lia
  rw[hA];subst e;clear h0 h1 hA hll hne hl0;obtain⟨t,n,j⟩:=r;have hr:LOk (t,n,j):=hok _ (List.mem_append_right _ (.head _));have t0:0<=t:=hr.1;have t1:t<10^60:=hr.row.2.1;have hn:bL n=true:=hr.2.2.1;have j0:0<=j:=hr.row.2.2.2.1;have j1:j<10^60:=hr.row.2.2.2.2;have wT:=qY t0 t1;have wN:=zW hn;have wJ:=qY j0 j1;have lT:(toString t:Str).length<=60:=fB t0 t1 (by decide);have lN:=nN hn;have lJ:(toString j:Str).length<=60:=fB j0 j1 (by decide);have lR:(aN (t,n,j)).length<=1200:=gU hr.row;have mT:=xA t0;have mJ:=xA j0;have rT:=qC t0 t1;have rJ:=qC j0 j1;have hAok:∀r∈A1,LOk r:=fun z hz=>hok z (List.mem_append_left _ hz);have hBok:∀r∈(t,n,j)::B,LOk r:=fun z hz=>hok z (List.mem_append_right _ hz);have hAB:A1.length+B.length+1<=40:=by rw[List.length_append,List.length_cons]at hlen;lia
  clear t1 j1;walk_at"gs";refine mK 32 oS (by lia) fun q H3 n3 S3 e3=> ?_;have wsR:WsG [toString t,n,toString j]:=hr.ws;rw[nJ,m8 wsR]at e3;have e3':H3 q=some (.lst [.str (toString t),.str n,.str (toString j)]):=e3;clear e3;have s3:Same H H3:=s2.trans S3;have ep3:=S3 _ _ ep;have lZ:("0" :Str).length=1:=by decide
  have lM:("-" :Str).length=1:=by decide
  have lz:("z" :Str).length=1:=by decide
  have lsp:(" " :Str).length=1:=by decide
  walk_at"go";refine cX (fun hw=> ?_) (fun hw=> ?_)
  ·walk_at"go";rename_i p1 G1 m1 T1 f1 p2 G2 m2 T2 f2;rw[show ((A1.length:Int)+1)=((A1.length+1:Nat):Int) by lia,wX,BC]at f1;rw[pO,nH]at f2;refine i4 (T2 _ _ f1) f2 (by rw[sizeLine_eq];simp only[List.length_map,List.length_append,List.length_cons,List.length_nil];lia) fun p3 G3 m3 T3 f3=> ?_;walk_at"go";refine fT (ys:=A1.map aN++[aN (t,n,j)]++((t,n,j)::B).map aN) (SqL.of (by rw[f3,←List.map_append])) (uQ hAok hBok (by lia) (by show A1.length+(B.length+1)<=100;lia)) ?_;rw[dN];refine k _ _ (by walk_at"sm") (.inr ⟨_,rfl,?_⟩);have h:=lE (A:=A1) (B:=(t,n,j)::B) hAok hBok wsR (by show A1.length+(B.length+1)<=50;lia) hr.read bU (DS (mI _));rw[←nJ]at h;exact h
  walk_at"go";refine cX (fun hw=> ?_) (fun hw=> ?_)
  ·walk_at"go";rename_i p1 G1 m1 T1 f1 p2 G2 m2 T2 f2;rw[wX,tH]at f1;refine i4 (T2 _ _ f1) f2 (by rw[sizeLine_eq];simp only[List.length_map,List.length_cons,List.length_nil];lia) fun p3 G3 m3 T3 f3=> ?_;walk_at"go";rename_i p4 G4 m4 T4 f4;rw[pO,nH]at f4;refine i4 (T4 _ _ f3) f4 (by rw[sizeLine_eq];simp only[List.length_map,List.length_append,List.length_cons,List.length_nil];lia) fun p5 G5 m5 T5 f5=> ?_;walk_at"go";have wz:gI (n++ "z"):=qP wN (cW (by decide +kernel)) (by lia);have gz:WsG [toString t,n++ "z",toString j]:=ws3 wT wz wJ;have ez:toString t++ " " ++n++ "z " ++toString j=Str.join " " [toString t,n++ "z",toString j]:=by rw[j3,l_z];simp only[aW]
   refine fT (ys:=A1.map aN++[toString t++ " " ++n++ "z " ++toString j]++((t,n,j)::B).map aN) (SqL.of (by rw[f5,List.map_append,List.map_append];rfl)) (uQ hAok hBok (by rw[ez];exact Nat.le_trans (k8 gz) (by decide)) (by show A1.length+(B.length+1)<=100;lia)) ?_;rw[dN,ez];refine k _ _ (by walk_at"sm") (.inr ⟨_,rfl,?_⟩);cases hz:bL (n++ "z") with
   | true=>exact lE (A:=A1) (B:=(t,n,j)::B) (r:=(t,n++ "z",j)) hAok hBok gz (by show A1.length+(B.length+1)<=50;lia) (pL t0 hr.row.2.1 hz j0 hr.row.2.2.2.2) bU (DS (OV t j n "z" (by lia)))
   | false=>exact sS (A:=A1) (B:=(t,n,j)::B) hAok hBok gz (by show A1.length+(B.length+1)<=50;lia) (iL hz) bU
  walk_at"go";refine cX (fun hw=> ?_) (fun hw=> ?_)
  ·walk_at"go";have e0':toString t++ " " ++n++ " 0" =Str.join " " [toString t,n,"0"]:=by rw[j3,l_0];simp only[aW]
   have g0:WsG [toString t,n,"0"]:=ws3 wT wN (cW (by decide +kernel));refine IL (by walk_at"hp") hok hlen (by rw[e0'];exact Nat.le_trans (k8 g0) (by decide)) fun H' S=>k _ _ (by walk_at"sm") (.inr ⟨_,rfl,?_⟩);rw[e0'];refine lE (A:=A1) (B:=B) (r:=(t,n,0)) hAok (fun z hz=>hBok z (.tail _ hz)) g0 (by lia) ?_ bU (K0 (r:=(t,n,0)) (List.mem_append_left _ (List.mem_append_right _ (.head _))) (by show (0:Int)<=0;decide));rw[QO];exact pL t0 hr.row.2.1 hn (by decide) (by decide)
  walk_at"go";refine cX (fun hw=> ?_) (fun hw=> ?_)
  ·walk_at"go";refine cH [toString t,n,"0" ++toString j] (by walk_at"hp") hok hlen (by rw[j3,l_0];simp only[aW]) (ws3 wT wN (qP (cW (by decide +kernel)) wJ (by lia))) (iN (tP mJ)) bU fun v H' S hv=>k v H' (by walk_at"sm") hv
  walk_at"go";refine cX (fun hw=> ?_) (fun hw=> ?_)
  ·walk_at"go";refine cH ["-" ++toString t,n,toString j] (by walk_at"hp") hok hlen (by rw[j3,nJ,j3];simp only[aW]) (ws3 (qP (cW (by decide +kernel)) wT (by lia)) wN wJ) (tN (GV _)) bU fun v H' S hv=>k v H' (by walk_at"sm") hv
  walk_at"go";refine cX (fun hw=> ?_) (fun hw=> ?_)
  ·walk_at"go";refine gW (SqL.of (by assumption)) (by lia) (by show _<(4:Int);lia) fun v hv=> ?_;simp only[List.mem_cons,List.not_mem_nil,or_false]at hv;rcases hv with rfl|rfl|rfl|rfl
   ·walk_at"go";refine cH [toString t,n,"x"] (by walk_at"hp") hok hlen (by rw[j3,l_x];simp only[aW]) (ws3 wT wN (cW (by decide +kernel))) (iN (by decide +kernel)) bU fun v H' S hv=>k v H' (by walk_at"sm") hv
   ·walk_at"go";refine cH [toString t,n,"-1"] (by walk_at"hp") hok hlen (by rw[j3,QP];simp only[aW]) (ws3 wT wN (cW (by decide +kernel))) (iN (by decide +kernel)) bU fun v H' S hv=>k v H' (by walk_at"sm") hv
   ·walk_at"go";refine cH [toString t,n,"+1"] (by walk_at"hp") hok hlen (by rw[j3,QD];simp only[aW]) (ws3 wT wN (cW (by decide +kernel))) (iN (by decide +kernel)) bU fun v H' S hv=>k v H' (by walk_at"sm") hv
   ·walk_at"go";refine cH [toString t,n,"1.0"] (by walk_at"hp") hok hlen (by rw[j3,QR];simp only[aW]) (ws3 wT wN (cW (by decide +kernel))) (iN (by decide +kernel)) bU fun v H' S hv=>k v H' (by walk_at"sm") hv
  walk_at"go";refine cX (fun hw=> ?_) (fun hw=> ?_)
  ·walk_at"go";refine gW (SqL.of (by assumption)) (by lia) (by show _<(4:Int);lia) fun v hv=> ?_;simp only[List.mem_cons,List.not_mem_nil,or_false]at hv;rcases hv with rfl|rfl|rfl|rfl
   ·walk_at"go";refine cH [toString t,"ninewords",toString j] (by walk_at"hp") hok hlen (by rw[j3,QL];simp only[aW]) (ws3 wT (cW (by decide +kernel)) wJ) (iL (by decide +kernel)) bU fun v H' S hv=>k v H' (by walk_at"sm") hv
   ·walk_at"go";refine cH [toString t,"Hall",toString j] (by walk_at"hp") hok hlen (by rw[j3,QG];simp only[aW]) (ws3 wT (cW (by decide +kernel)) wJ) (iL (by decide +kernel)) bU fun v H' S hv=>k v H' (by walk_at"sm") hv
   ·walk_at"go";refine cH [toString t,"a1",toString j] (by walk_at"hp") hok hlen (by rw[j3,QN];simp only[aW]) (ws3 wT (cW (by decide +kernel)) wJ) (iL (by decide +kernel)) bU fun v H' S hv=>k v H' (by walk_at"sm") hv
   ·walk_at"go";refine cH [toString t,"-",toString j] (by walk_at"hp") hok hlen (by rw[j3,l_d];simp only[aW]) (ws3 wT (cW (by decide +kernel)) wJ) (iL (by decide +kernel)) bU fun v H' S hv=>k v H' (by walk_at"sm") hv
  walk_at"go";refine cX (fun hw=> ?_) (fun hw=> ?_)
  ·walk_at"go";refine gW (SqL.of (by assumption)) (by lia) (by show _<(4:Int);lia) fun v hv=> ?_;simp only[List.mem_cons,List.not_mem_nil,or_false]at hv;rcases hv with rfl|rfl|rfl|rfl
   ·walk_at"go";refine cH [toString t,n,toString j,"1"] (by walk_at"hp") hok hlen (by rw[j4,nJ,j3,l_1];simp only[aW]) (i5 wT (ws3 wN wJ (cW (by decide +kernel))) (by show 3<=9;decide)) rfl bU fun v H' S hv=>k v H' (by walk_at"sm") hv
   ·walk_at"go";refine cH [toString t,n] (by walk_at"hp") hok hlen (by rw[j2];simp only[aW]) (i5 wT (kY wN) (by show 1<=9;decide)) rfl bU fun v H' S hv=>k v H' (by walk_at"sm") hv
   ·walk_at"go";refine cH [toString t] (by walk_at"hp") hok hlen rfl (kY wT) rfl (AE mT) fun v H' S hv=>k v H' (by walk_at"sm") hv
   ·walk_at"go";refine cH ["x"] (by walk_at"hp") hok hlen rfl (kY (cW (by decide +kernel))) rfl (AE (by decide)) fun v H' S hv=>k v H' (by walk_at"sm") hv
  walk_at"go";refine cX (fun hw=> ?_) (fun hw=> ?_)
  ·walk_at"go";unfold IM;walk_at"go";refine⟨_,rfl,by rw[sizeLine_eq];lia,?_⟩;walk_at"go";refine C1 (SqL.of (by walk_at"hp")) ?_;refine⟨_,rfl,by lia,?_⟩;walk_at"go";refine gW (SqL.of (by assumption)) (by lia) (by show _<(3:Int);lia) fun v hv=> ?_;simp only[List.mem_cons,List.not_mem_nil,or_false]at hv;rcases hv with rfl|rfl|rfl
   ·walk_at"go";refine cH ["",toString t,n,toString j] (by walk_at"hp") hok hlen (by rw[j4,nJ,j3,rW]) (i5 i6 wsR (by show 3<=9;decide)) rfl bU fun v H' S hv=>k v H' (by walk_at"sm") hv
   ·walk_at"go";refine cH [toString t,n,toString j,""] (by walk_at"hp") hok hlen (by rw[j4,nJ,j3,xE];simp only[aW]) (i5 wT (ws3 wN wJ i6) (by show 3<=9;decide)) rfl bU fun v H' S hv=>k v H' (by walk_at"sm") hv
   ·walk_at"go";refine cH [toString t,"",n,"",toString j] (by walk_at"hp") hok hlen (by rw[nJ,GE wT.1 wN.1 wJ.1]) (i5 wT (i5 i6 (ws3 wN i6 wJ) (by show 3<=9;decide)) (by show 4<=9;decide)) rfl bU fun v H' S hv=>k v H' (by walk_at"sm") hv
  walk_at"go";refine cX (fun hw=> ?_) (fun hw=> ?_)
  ·have hfit:=nO (ys:=(A1++(t,n,j)::B).map aN) (by rw[List.length_map];lia) (fun y hy=>by
    obtain⟨z,hz,rfl⟩:=List.mem_map.mp hy;exact Nat.le_trans (gU (hok z hz).row) (by decide))
   have hjl:=Nat.le_trans (pX "\n" ((A1++(t,n,j)::B).map aN)) hfit;have hrn:A1++(t,n,j)::B≠[]:=fun z=>by simp at z
   walk_at"go";refine fT (SqL.of (by walk_at"hp")) (Nat.le_trans hfit (by decide)) ?_;walk_at"go";refine fT (SqL.of (by walk_at"hp")) (Nat.le_trans hfit (by decide)) ?_;walk_at"go";refine gW (SqL.of (by assumption)) (by lia) (by show _<(3:Int);lia) fun v hv=> ?_;simp only[List.mem_cons,List.not_mem_nil,or_false]at hv;refine k _ _ (by walk_at"sm") (.inr ?_);rcases hv with rfl|rfl|rfl
   ·exact⟨_,rfl,by rw[dN];exact FT (B:=[]) hok (by lia) hrn⟩
   ·exact⟨_,rfl,by rw[dN];exact AO hok (by lia) hrn⟩
   ·exact⟨_,rfl,E7⟩
  walk_at"go";refine cX (fun hw=> ?_) (fun hw=> ?_)
  ·walk_at"go";refine cH ["0" ++toString t,n,toString j] (by walk_at"hp") hok hlen (by rw[j3,nJ,j3];simp only[aW]) (ws3 (qP (cW (by decide +kernel)) wT (by lia)) wN wJ) (tN (tP mT)) bU fun v H' S hv=>k v H' (by walk_at"sm") hv
  walk_at"go";refine gW (SqL.of (by assumption)) (by lia) (by show _<(5:Int);lia) fun v hv=> ?_;have ha3:=s3 _ _ ha;simp only[List.mem_cons,List.not_mem_nil,or_false]at hv;refine k _ _ (by walk_at"sm") (.inl ?_);rcases hv with rfl|rfl|rfl|rfl|rfl
  ·exact⟨_,.non,by decide⟩
  ·exact⟨_,.int _,by decide⟩
  ·exact⟨_,.lst (by walk_at"hp"),by decide⟩
  ·exact⟨_,.bl _,by decide⟩
  ·exact⟨_,.lst (by walk_at"hp"),by decide⟩
theorem qQ (m:M K mg):Fc P w K mg base "_law_spoiled" 2 ["_law_plan_here","_law_cell"] (pY K):=⟨_,_,m.sM,m.fH.kp,m.sO,qM m⟩
local macro_rules| `(tactic| walk_at"rd1")=> `(tactic| first|((with_reducible refine' M7 ?e ?k ?i ?_);(case e=>walk_at"hp");(case k=>assumption);(case i=>assumption))|((with_reducible refine' LG ?e ?k ?i ?_);(case e=>walk_at"hp");(case k=>assumption);(case i=>assumption)))
theorem j9 {α β:Type}{f:α->Option β}:∀{l:List α}{m m':List β},Paired (fun a b=>f a=some b) l m->Paired (fun a b=>f a=some b) l m'->m=m'
 | _,_,_,.nil,.nil=>rfl
 | _,_,_,.cons a s,.cons b t=>by
  rw[a]at b;rw[Option.some.inj b,j9 s t]
theorem j8 {α β:Type}{f:α->Option β}:∀{l:List α}{m:List β},Paired (fun a b=>f a=some b) l m->∀a∈l,f a≠none
 | _,_,.cons h t,a,ha=>by
  rcases List.mem_cons.mp ha with rfl|ha
  ·rw[h];exact fun z=>nomatch z
  ·exact j8 t a ha
def E8 (K:W.Frag):Sp:=fun vs H Q _=>∃v,vs=[v]/\uR K H v/\∀H',Same H H'->Q (.bl true) H'
theorem qU (m:M K mg):bX P w K mg base CX0 7 m.hZ m.h7 ["_law_text_here"] (E8 K):=by
 refine m.fI.ok sc__law_refused (fun vs H Q E h=> ?_) (fun cdv A outer s H vs Q E hr h=> ?_)
 ·walk_at"g1";obtain⟨v,rfl,hv,k⟩:=h;walk_at"g2";rfl
 ·walk_at"g1";obtain⟨v,rfl,hv,k⟩:=h;walk_at"g2";have nd:=sc__law_refused.nd;walk_at"hu";have c7:= @nI P w K mg base m;refine⟨_,(aF (NO (i:=1) nd rfl rfl rfl rfl m.CP (PP c7 hr (aA (pv 0) aB)) (fun ea=>(aH (aP (wZ (bR (tS K rfl) rfl m.cQ cE (aA (pv 1) (aA (CT rfl m.h8) aB))) (wZ (bR (CC K rfl) rfl m.cQ cE (aA (pv 1) (aA (oY rfl m.xO t8) aB))) (wP (DE (bR (tS K rfl) rfl m.cQ cE (aA (pv 1) (aA (CT rfl m.HY) aB)))))))))))
   (aH (aP jR))),?_⟩
  refine bH (σ:=[some (v),none]) rfl ?_;walk_at"cx";refine C7 ?_;refine⟨_,rfl,v,rfl,?_⟩;rcases hv with⟨n,b,hn⟩|⟨x,rfl,WS,rfl,h0,hl,hg,hne1,hbad⟩
  ·refine .inl ⟨n,b,hn,m.aQ,rfl,m.fA,fun ea hne=> ?_⟩;have e0:(upd H ea (.ext (fV ea m.aQ))) ea=some (.ext (fV ea m.aQ)):=bA;have sE:Same H (upd H ea (.ext (fV ea m.aQ))):=(Same.refl H).trans (i9 hne);have ek:=m.tZ;have i1:=m.jN;have i2:=m.gK;have i3:=m.jL
   dsimp only[List.set]
   walk_at"go";exact k _ sE
  ·obtain⟨r1,r2,r3⟩:=IB h0 hl hg hne1;refine .inr ⟨_,WS,rfl,r1,r2,r3,hl,fun _ H1 S1=>⟨m.aQ,rfl,m.fA,fun ea hne=> ?_⟩,fun rows hrd=>⟨fun ht=> ?_,fun _ H1 S1=>⟨m.aQ,rfl,m.fA,fun ea hne=> ?_⟩⟩⟩
   rotate_left
   ·exfalso
    rcases hbad with⟨ws,hws,hb⟩|⟨rows2,hrd2,hb⟩
    ·exact j8 hrd ws hws hb
    ·rw[j9 hrd hrd2,hb]at ht;cases ht
   all_goals
    have e0:(upd H1 ea (.ext (fV ea m.aQ))) ea=some (.ext (fV ea m.aQ)):=bA;have sE:Same H (upd H1 ea (.ext (fV ea m.aQ))):=S1.trans (i9 hne);have ek:=m.tZ;have i1:=m.jN;have i2:=m.gK;have i3:=m.jL
    dsimp only[List.set]
    walk_at"go";exact k _ sE
theorem qT (m:M K mg):Fc P w K mg base "_law_refused" 7 ["_law_text_here"] (E8 K):=⟨_,_,m.sK,m.fI.kp,m.sJ,qU m⟩
theorem AG {L:List aG}(hG:mH L):(d8 L).length<=1000000/\Paired (fun r ws=>Txt.split r " " =ws/\r.length<=1000000) (jA (d8 L)) (L.map aX)/\(∀ws∈L.map aX,FS ws)/\(L.map aX).length<=60:=by
 have hl:(L.map aX).length<=60:=by rw[List.length_map];exact Nat.le_trans hG.1 (by decide)
 by_cases h0:L=[]
 ·subst h0;exact⟨by decide,.nil,fun ws h=>(nomatch h),hl⟩
 ·have hg:∀ws∈L.map aX,WsG ws:=fun ws hws=>by
   obtain⟨r,hr,rfl⟩:=List.mem_map.mp hws;exact(hG.2.1 r hr).ws
  obtain⟨a,b,c⟩:=IB (fun z=>h0 (List.map_eq_nil_iff.mp z)) hl hg (fun z=>by
   cases L with
   | nil=>exact h0 rfl
   | cons r L=>exact E6 r (List.cons.inj z).1)
  rw[zN];exact⟨a,b,c,hl⟩
theorem r6 {N:Addr}{H:Hp}{Q:VK}{E:XK}{L:List aG} (hG:mH L) (k:∀p us H',H p=none->Same H H'->H' p=some (.lst us)->bT H' us L->Q (.ref p) H'):mL K N [.str (d8 L)] H Q E:=by
 walk_at"g1";obtain⟨a,b,c,d⟩:=AG hG;walk_at"g2";have hrd:=lK hG.2.1;refine⟨_,rfl,.inr ⟨_,L.map aX,rfl,a,b,c,d,fun⟨ws,hws,hb⟩=>absurd hb (j8 hrd ws hws),fun rows h=> ?_⟩⟩;have e:=j9 h hrd;subst e;have ht:iC rows=true:=D4 (fun r hr=>by have:=(hG.2.1 r hr).2.2.2.1;lia) hG.2.2.1 hG.2.2.2;exact⟨fun _=>k,fun z=>by rw[ht]at z;cases z⟩
theorem KH {H:Hp}{Q:VK}{E:XK}{a:Addr}{ns:List Int} (hS:SqL K H a (ns.map V.int)) (k:∀p us P H',H p=none->Same H H'->H' p=some (.lst us)->bT H' us P->mH P->Q (.ref p) H'):lD K [.ref a] H Q E:=⟨_,_,rfl,hS,k⟩
theorem DD:mH []:=⟨by decide,fun r h=>(nomatch h),List.nodup_nil,List.Pairwise.nil⟩
theorem C2 {X:Cx}(K:W.Frag)(h:X.K=K):b9 X (.builtin "isinstance") (rP K):=by subst h;exact jF
theorem LI {H:Hp}{Q:VK}{p:Addr}{xs:List V} (e:H p=some (.lst xs)) (h:Q (.bl true) H):rP K [.ref p,.ty "list"] H Q:=⟨_,.ty "list",_,_,_,rfl,(BTy.lst e).ty,rfl,(by kernel_rfl),h⟩
theorem KL {H:Hp}{Q:VK}{p:Addr}{xs:List V} (e:H p=some (.tup xs)) (h:Q (.bl true) H):rP K [.ref p,.ty "tuple"] H Q:=⟨_,.ty "tuple",_,_,_,rfl,(BTy.tup e).ty,rfl,(by kernel_rfl),h⟩
theorem DA {H:Hp}{Q:VK}{l:Addr}{xs:List V}{y:V} (e:H l=some (.lst xs)) (hz:xs.length<sizeLine) (h:∀H',SameBut l H H'->H' l=some (.lst (xs++[y]))->Q .non H'):zG (.ref l) [y] H Q :=
 ⟨l,xs,y,rfl,rfl,e,hz,h _ SameBut.upd bA⟩
inductive nD (K:W.Frag)(vs:List V)(H:Hp)(Q:VK)(E:XK):Prop
 | mk (a:Addr) (ns:List Int) (_:vs=[.ref a]) (_:SqL K H a (ns.map V.int)) (_:ns.length<=63) (_:∀H',Q (.bl true) H'):nD K vs H Q E
theorem MX (m:M K mg):bX P w K mg base CX0 20 m.CO m.CK ["_law_script"] (nD K):=by
 refine m.QA.ok sc_law (fun vs H Q E h=> ?_) (fun cdv A outer s H vs Q E hr h=> ?_)
 ·walk_at"g1";obtain⟨a,ns,rfl,hS,hlen,k⟩:=h;walk_at"g2";rfl
 ·walk_at"g1";obtain⟨a,ns,rfl,hS,hlen,k⟩:=h;walk_at"g2";have nd:=sc_law.nd;walk_at"hu";have c9:= @rB P w K mg base m;have bP:= @mV P w K mg base m;have iH:= @vM P w K mg base m;have fI:= @qT P w K mg base m;have fH:= @qQ P w K mg base m;have eN:= @oA P w K mg base m;have fM:= @u4 P w K mg base m;have c7:= @nI P w K mg base m;refine⟨_,(aF (cB (i:=1) nd rfl (by walk_at"oi") (bZ iH hr (aA (pv 0) aB)))
   (aF (bV (bD c0 (aE bS (bZ c9 hr (aA (pv 0) (aA aC aB))) aC) aC (bI _)) (aH (cB (i:=1) nd rfl (by walk_at"oi") (cY aB))) a9)
   (aF (cB (i:=2) nd rfl (by walk_at"oi") (fS CJ rfl m.FC z9 (aA (pv 1) aB)))
   (aF (cB (i:=3) nd rfl (by walk_at"oi") (bZ fM hr (aA (pv 2) aB)))
   (aF (bV (PW.pt (q0 (fK (fW (bR jF rfl m.cQ cE (aA (pv 3) (aA (oY rfl m.o8 kW) aB))))) (q0 (bD JI (pv 3) (bZ eN hr (aA (pv 1) aB)) (bI _)) (wW (bD (wI hu9) (pv 2) (pv 1) (bI _)))))) (aH (aP jR)) a9)
   (aF (cB (i:=4) nd rfl (by walk_at"oi") (iV c7 hr uX (aA (pv 3) aB)))
   (aF (bV (PW.pt (q0 (fK (fW (bR jF rfl m.cQ cE (aA (pv 4) (aA (oY rfl m.FC z9) aB))))) (q0 (bD (wI hu9) (pv 4) (pv 1) (bI _)) (wW (bD (DV hu0) (fU (N:=["_law_row"]) (nl:=1) (ci:=[]) rfl (blk (s.heap.objs.size+1) rfl rfl rfl (by kernel_rfl)) (iZ (pv 4)) (fun _ _ _ _=>(bQ (i:=0) (show (["_law_row"]:List Str).Nodup by decide +kernel) rfl (by walk_at"oi"))) (fun _ _ _ _=>(E1 (fK (fW (bR (C2 K rfl) rfl m.cQ cE (aA (pv 0) (aA (oY rfl m.AF wF) aB))))))) (fun _ _ _ _=>(pv 0))) (cY aB) (bI _)))))) (aH (aP jR)) a9)
   (aF (r0 (eS PySem.F.plainAttrs_list PySem.F.slot_list_append PySem.F.type_list_append nW (pv 4) (aA (iO (aA aC (aA aJ (aA aC aB)))) aB)))
   (aF (bV (bD (wI hu9) (iV c7 hr uX (aA (pv 3) aB)) (pv 1) (bI _)) (aH (aP jR)) a9)
   (aF (xI PassesOwn.never rfl (DU rfl m.LO (aA aC aB)) (bQ (i:=5) nd rfl (by walk_at"oi")) (aH (bV (fK (fW (bZ fI hr (aA (bZ fH hr (aA (pv 1) (aA (aE fY (aE c8 (bZ c9 hr (aA (pv 0) (aA aC aB))) aC) (bZ bP hr (aA (bZ c9 hr (aA (pv 0) (aA aC aB))) (aA (pv 5) aB)))) aB))) aB)))) (aH (aP jR)) a9)))
   (aH (aP (zI c0 (bZ fM hr (aA (iV c7 hr uX (aA (pv 3) aB)) aB)) (pv 3) (bI _)))))))))))))),?_⟩
  refine bH (σ:=[some (.ref a),none,none,none,none,none]) rfl ?_;walk_at"cx";walk_at"gs";refine KH hS fun p0 us0 L0 H0 n0 S0 e0 hp0 hG0=> ?_;have hS0:=S0.seq hS;walk_at"gs";refine sF (fun σ' H'=>∃p us L,Same H H'/\H' p=some (.lst us)/\bT H' us L/\mH L/\σ'=[some (.ref a),some (.ref p),none,none,none,none]) ?_ ?_
  rotate_left
  ·intro nx' hnx;walk_at"go";refine cX (fun hw=> ?_) (fun hw=> ?_)
   ·walk_at"go";rename_i p1 H1 n1 S1 e1;exact hnx _ _ ⟨p1,[],[],S0.trans S1,e1,.nil,DD,rfl⟩
   ·walk_at"go";exact hnx _ _ ⟨p0,us0,L0,S0,e0,hp0,hG0,rfl⟩
  rintro _ H1 hq_;walk_at"g1";obtain⟨p,us,L,S1,ep,hpl,hG,rfl⟩:=hq_;walk_at"g2";walk_at"gs";rename_i p2 H2 n2 S2 e2;have hl40:=hG.1;have hrow:∀r∈L,jX r:=fun r hr=>(hG.2.1 r hr).row;refine zQ (SqL.of e2) (eE hpl S2) hrow (by omega) fun H3 S3=> ?_;walk_at"go";refine y7 (SqL.of (S3 _ _ (S2 _ _ ep))) (eE hpl (S2.trans S3)) hG.2.1 (by omega) fun H4 S4=> ?_;have s14:Same H1 H4:=(S2.trans S3).trans S4;have pl4:=eE hpl s14;walk_at"go"
  first|(rw[decide_eq_true (show d8 L=d8 L from rfl)];walk_at"go")|skip
  refine pQ (SqL.of (S4 _ _ (S3 _ _ e2))) (SqL.of (s14 _ _ ep)) (jQ (cZ pl4) (cZ pl4)) ?_;walk_at"go";refine r6 hG fun p5 us5 H5 n5 S5 e5 hp5=> ?_;have s15:=s14.trans S5;have pl5:=eE pl4 S5;walk_at"go";refine LI e5 ?_;walk_at"go";refine pQ (SqL.of e5) (SqL.of (s15 _ _ ep)) (jQ (cZ hp5) (cZ pl5)) ?_;walk_at"go";refine rV (nF H5) (fun _=>false) (fun _ _ _=>True) (fun _ _ _ _ h _=>h) (by rw[sizeLine_eq];omega) (rest:=[]) (by rfl) (SqL.of e5) hp5 ?_ ?_ ?_
  ·rintro v r H6 ⟨q,rfl,hq⟩ _ s6 R hR;walk_at"go";refine KL (s6 _ _ hq) ?_;walk_at"go";exact hR _ (Same.refl _)
  ·intro v r H6 _ _ z;cases z
  intro ys H6 s6 hys;rw[List.filter_eq_nil_iff.mpr (fun _ _=>Bool.false_ne_true)]at hys;cases hys;walk_at"go";rename_i p7 H7 n7 S7 e7 p8 H8 n8 S8 e8;refine DW (SqL.of (S8 _ _ e7)) (SqL.of e8) ?_;rw[show (!(([]:List V).isEmpty))=false from rfl];have s58:Same H5 H8:=(s6.trans S7).trans S8;walk_at"go";rename_i p9 H9 n9 S9 e9;have s59:Same H5 H9:=s58.trans S9;refine DA (s59 _ _ e5) (by rw[sizeLine_eq,Paired.length hp5];omega) fun HA BA eA=> ?_;have s4A:Same H4 HA:=fun b u hb=>BA _ _ (s59 _ _ (S5 _ _ hb)) (fun z=>by rw[z,n5]at hb;cases hb);have s1A:Same H1 HA:=s14.trans s4A;have plA:=eE pl4 s4A;walk_at"go";refine r6 hG fun pB usB HB nB SB eB hpB=> ?_;walk_at"go";refine pQ (SqL.of eB) (SqL.of (SB _ _ (s1A _ _ ep))) (jQ (cZ hpB) (cZ (eE plA SB))) ?_;have s1B:Same H1 HB:=s1A.trans SB;walk_at"go";let Pv1:Nat->St->Hp->Prop:=fun i σ' H'=>Same H1 H'/\∃x,σ'=[some (.ref a),some (.ref p),some (.ref p2),some (.str (d8 L)),some (.ref p5),x];refine LL Pv1 ⟨s1B,_,rfl⟩ ?_ ?_
  ·rintro i _ H' hi ⟨sI,x,rfl⟩;have hSI:=(S1.trans sI).seq hS;walk_at"go";refine⟨p,us,L,_,rfl,sI _ _ ep,eE hpl sI,hG,fun v HV sV hv=> ?_⟩;walk_at"go";refine⟨v,rfl,hv,fun HW sW=> ?_⟩;walk_at"go";exact⟨sI.trans (sV.trans sW),_,rfl⟩
  ·rintro _ H' ⟨sI,x,rfl⟩;walk_at"go";refine r6 hG fun pC usC HC nC SC eC hpC=> ?_;walk_at"go";refine zQ (SqL.of eC) hpC hrow (by omega) fun HD SD=> ?_;walk_at"go"
   first|(rw[decide_eq_true (show d8 L=d8 L from rfl)];exact k _)|exact k _
end
theorem all_mk {l:W.OpenLaw}{w:World}{K:W.Frag}{h:Heap}{mg:Str->Option Value}{fa:Addr} (X:K.In h) (G:h.Ns mainGlobals mg) (hfa:mg "law" =some (.ref fa))
  {zaa zab zac zad zae zaf zag zah zai zaj zak zal zam zan zao zap zaq zar zas zat zau zav zaw zax zay:Addr}
  {zaz zba:Option Addr}{zbb:Array (Option Value)}{zbc zbd zbe zbf zbg zbh:Value}
  {zbi zbj:Option Addr}{zbk:Array (Option Value)}{zbl zbm zbn zbo zbp zbq:Value}
  {zbr zbs:Option Addr}{zbt:Array (Option Value)}{zbu zbv zbw zbx zby zbz:Value}
  {zca zcb:Option Addr}{zcc:Array (Option Value)}{zcd zce zcf zcg zch zci:Value}
  {zcj zck:Option Addr}{zcl:Array (Option Value)}{zcm zcn zco zcp zcq zcr:Value}
  {zcs zct:Option Addr}{zcu:Array (Option Value)}{zcv zcw zcx zcy zcz zda:Value}
  {zdb zdc:Option Addr}{zdd:Array (Option Value)}{zde zdf zdg zdh zdi zdj:Value}
  {zdk zdl:Option Addr}{zdm:Array (Option Value)}{zdn zdo zdp zdq zdr zds:Value}
  {zdt zdu:Option Addr}{zdv:Array (Option Value)}{zdw zdx zdy zdz zea zeb:Value}
  {zec zed:Option Addr}{zee:Array (Option Value)}{zef zeg zeh zei zej zek:Value}
  {zel zem:Option Addr}{zen:Array (Option Value)}{zeo zep zeq zer zes zet:Value}
  {zeu zev:Option Addr}{zew:Array (Option Value)}{zex zey zez zfa zfb zfc:Value}
  {zfd zfe:Option Addr}{zff:Array (Option Value)}{zfg zfh zfi zfj zfk zfl:Value}
  {zfm zfn:Option Addr}{zfo:Array (Option Value)}{zfp zfq zfr zfs zft zfu:Value}
  {zfv zfw:Option Addr}{zfx:Array (Option Value)}{zfy zfz zga zgb zgc zgd:Value}
  {zge zgf:Option Addr}{zgg:Array (Option Value)}{zgh zgi zgj zgk zgl zgm:Value}
  {zgn zgo:Option Addr}{zgp:Array (Option Value)}{zgq zgr zgs zgt zgu zgv:Value}
  {zgw zgx:Option Addr}{zgy:Array (Option Value)}{zgz zha zhb zhc zhd zhe:Value}
  {zhf zhg:Option Addr}{zhh:Array (Option Value)}{zhi zhj zhk zhl zhm zhn:Value}
  {zho zhp:Option Addr}{zhq:Array (Option Value)}{zhr zhs zht zhu zhv zhw:Value}
  {zhx zhy:Option Addr}{zhz:Array (Option Value)}{zia zib zic zid zie zif:Value}
  {zig zih:Option Addr}{zii:Array (Option Value)}{zij zik zil zim zin zio:Value}
  {ziq:ClassData}
  {zir:ClassData}
  {zis:ClassData}
  {zit:Tok}
  {ziu:Tok}
  (ziv:W.nsIn K mainGlobals "is_name" =some (some (.ref zaa)))
  (ziw:W.nsIn K mainGlobals "added_up" =some (some (.ref zab)))
  (zix:W.nsIn K mainGlobals "as_told" =some (some (.ref zac)))
  (ziy:W.nsIn K mainGlobals "row_of" =some (some (.ref zad)))
  (ziz:W.nsIn K mainGlobals "need_text" =some (some (.ref zae)))
  (zja:W.nsIn K mainGlobals "is_written_whole" =some (some (.ref zaf)))
  (zjb:W.nsIn K mainGlobals "read_whole" =some (some (.ref zag)))
  (zjc:W.nsIn K mainGlobals "read_name" =some (some (.ref zah)))
  (zjd:W.nsIn K mainGlobals "read_part" =some (some (.ref zai)))
  (zje:W.nsIn K mainGlobals "read_parts" =some (some (.ref zaj)))
  (zjf:W.nsIn K mainGlobals "plan_rows" =some (some (.ref zak)))
  (zjg:W.nsIn K mainGlobals "plan_text" =some (some (.ref zal)))
  (zjh:W.nsIn K mainGlobals "read_plan" =some (some (.ref zam)))
  (zji:W.nsIn K mainGlobals "_law_cell_at" =some (some (.ref zan)))
  (zjj:W.nsIn K mainGlobals "_law_drawn" =some (some (.ref zao)))
  (zjk:W.nsIn K mainGlobals "_law_name" =some (some (.ref zap)))
  (zjl:W.nsIn K mainGlobals "_law_plan" =some (some (.ref zaq)))
  (zjm:W.nsIn K mainGlobals "_law_text" =some (some (.ref zar)))
  (zjn:W.nsIn K mainGlobals "_law_put" =some (some (.ref zas)))
  (zjo:W.nsIn K mainGlobals "_law_spoiled" =some (some (.ref zat)))
  (zjp:W.nsIn K mainGlobals "_law_refused" =some (some (.ref zau)))
  (zjq:W.nsIn K mainGlobals "law" =some (some (.ref zav)))
  (zjr:W.nsIn K mainGlobals "OutError" =some (some (.ref zaw)))
  (zjs:W.nsIn K mainGlobals "NoPlan" =some (some (.ref zax)))
  (zjt:W.nsIn K mainGlobals "NoText" =some (some (.ref zay)))
  (zju:K.lookup zaa=some ⟨zbc,zaz,.func (W.fnOf "is_name" "is_name" (aZ eU) (aU eU) (aD eU) .none zbd zbe zbf zba zbg zbh),zbb⟩)
  (zjv:W.codeIn K zbg "is_name" =true)
  (zjw:W.keepIn K (.ref zaa)=true)
  (zjx:K.lookup zab=some ⟨zbl,zbi,.func (W.fnOf "added_up" "added_up" (aZ eF) (aU eF) (aD eF) .none zbm zbn zbo zbj zbp zbq),zbk⟩)
  (zjy:W.codeIn K zbp "added_up" =true)
  (zjz:W.keepIn K (.ref zab)=true)
  (zka:K.lookup zac=some ⟨zbu,zbr,.func (W.fnOf "as_told" "as_told" (aZ eW) (aU eW) (aD eW) .none zbv zbw zbx zbs zby zbz),zbt⟩)
  (zkb:W.codeIn K zby "as_told" =true)
  (zkc:W.keepIn K (.ref zac)=true)
  (zkd:K.lookup zad=some ⟨zcd,zca,.func (W.fnOf "row_of" "row_of" (aZ fO) (aU fO) (aD fO) .none zce zcf zcg zcb zch zci),zcc⟩)
  (zke:W.codeIn K zch "row_of" =true)
  (zkf:W.keepIn K (.ref zad)=true)
  (zkg:K.lookup zae=some ⟨zcm,zcj,.func (W.fnOf "need_text" "need_text" (aZ dU) (aU dU) (aD dU) .none zcn zco zcp zck zcq zcr),zcl⟩)
  (zkh:W.codeIn K zcq "need_text" =true)
  (zki:W.keepIn K (.ref zae)=true)
  (zkj:K.lookup zaf=some ⟨zcv,zcs,.func (W.fnOf "is_written_whole" "is_written_whole" (aZ bW) (aU bW) (aD bW) .none zcw zcx zcy zct zcz zda),zcu⟩)
  (zkk:W.codeIn K zcz "is_written_whole" =true)
  (zkl:W.keepIn K (.ref zaf)=true)
  (zkm:K.lookup zag=some ⟨zde,zdb,.func (W.fnOf "read_whole" "read_whole" (aZ dF) (aU dF) (aD dF) .none zdf zdg zdh zdc zdi zdj),zdd⟩)
  (zkn:W.codeIn K zdi "read_whole" =true)
  (zko:W.keepIn K (.ref zag)=true)
  (zkp:K.lookup zah=some ⟨zdn,zdk,.func (W.fnOf "read_name" "read_name" (aZ dS) (aU dS) (aD dS) .none zdo zdp zdq zdl zdr zds),zdm⟩)
  (zkq:W.codeIn K zdr "read_name" =true)
  (zkr:W.keepIn K (.ref zah)=true)
  (zks:K.lookup zai=some ⟨zdw,zdt,.func (W.fnOf "read_part" "read_part" (aZ dW) (aU dW) (aD dW) .none zdx zdy zdz zdu zea zeb),zdv⟩)
  (zkt:W.codeIn K zea "read_part" =true)
  (zku:W.keepIn K (.ref zai)=true)
  (zkv:K.lookup zaj=some ⟨zef,zec,.func (W.fnOf "read_parts" "read_parts" (aZ dE) (aU dE) (aD dE) .none zeg zeh zei zed zej zek),zee⟩)
  (zkw:W.codeIn K zej "read_parts" =true)
  (zkx:W.keepIn K (.ref zaj)=true)
  (zky:K.lookup zak=some ⟨zeo,zel,.func (W.fnOf "plan_rows" "plan_rows" (aZ dX) (aU dX) (aD dX) .none zep zeq zer zem zes zet),zen⟩)
  (zkz:W.codeIn K zes "plan_rows" =true)
  (zla:W.keepIn K (.ref zak)=true)
  (zlb:K.lookup zal=some ⟨zex,zeu,.func (W.fnOf "plan_text" "plan_text" (aZ dY) (aU dY) (aD dY) .none zey zez zfa zev zfb zfc),zew⟩)
  (zlc:W.codeIn K zfb "plan_text" =true)
  (zld:W.keepIn K (.ref zal)=true)
  (zle:K.lookup zam=some ⟨zfg,zfd,.func (W.fnOf "read_plan" "read_plan" (aZ dQ) (aU dQ) (aD dQ) .none zfh zfi zfj zfe zfk zfl),zff⟩)
  (zlf:W.codeIn K zfk "read_plan" =true)
  (zlg:W.keepIn K (.ref zam)=true)
  (zlh:K.lookup zan=some ⟨zfp,zfm,.func (W.fnOf "_law_cell_at" "_law_cell_at" (aZ cN) (aU cN) (aD cN) .none zfq zfr zfs zfn zft zfu),zfo⟩)
  (zli:W.codeIn K zft "_law_cell_at" =true)
  (zlj:W.keepIn K (.ref zan)=true)
  (zlk:K.lookup zao=some ⟨zfy,zfv,.func (W.fnOf "_law_drawn" "_law_drawn" (aZ dG) (aU dG) (aD dG) .none zfz zga zgb zfw zgc zgd),zfx⟩)
  (zll:W.codeIn K zgc "_law_drawn" =true)
  (zlm:W.keepIn K (.ref zao)=true)
  (zln:K.lookup zap=some ⟨zgh,zge,.func (W.fnOf "_law_name" "_law_name" (aZ dP) (aU dP) (aD dP) .none zgi zgj zgk zgf zgl zgm),zgg⟩)
  (zlo:W.codeIn K zgl "_law_name" =true)
  (zlp:W.keepIn K (.ref zap)=true)
  (zlq:K.lookup zaq=some ⟨zgq,zgn,.func (W.fnOf "_law_plan" "_law_plan" (aZ dO) (aU dO) (aD dO) .none zgr zgs zgt zgo zgu zgv),zgp⟩)
  (zlr:W.codeIn K zgu "_law_plan" =true)
  (zls:W.keepIn K (.ref zaq)=true)
  (zlt:K.lookup zar=some ⟨zgz,zgw,.func (W.fnOf "_law_text" "_law_text" (aZ dZ) (aU dZ) (aD dZ) .none zha zhb zhc zgx zhd zhe),zgy⟩)
  (zlu:W.codeIn K zhd "_law_text" =true)
  (zlv:W.keepIn K (.ref zar)=true)
  (zlw:K.lookup zas=some ⟨zhi,zhf,.func (W.fnOf "_law_put" "_law_put" (aZ eG) (aU eG) (aD eG) .none zhj zhk zhl zhg zhm zhn),zhh⟩)
  (zlx:W.codeIn K zhm "_law_put" =true)
  (zly:W.keepIn K (.ref zas)=true)
  (zlz:K.lookup zat=some ⟨zhr,zho,.func (W.fnOf "_law_spoiled" "_law_spoiled" (aZ cJ) (aU cJ) (aD cJ) .none zhs zht zhu zhp zhv zhw),zhq⟩)
  (zma:W.codeIn K zhv "_law_spoiled" =true)
  (zmb:W.keepIn K (.ref zat)=true)
  (zmc:K.lookup zau=some ⟨zia,zhx,.func (W.fnOf "_law_refused" "_law_refused" (aZ cO) (aU cO) (aD cO) .none zib zic zid zhy zie zif),zhz⟩)
  (zmd:W.codeIn K zie "_law_refused" =true)
  (zme:W.keepIn K (.ref zau)=true)
  (zmf:K.lookup zav=some ⟨zij,zig,.func (W.fnOf "law" "law" (aZ iD) (aU iD) (aD iD) .none zik zil zim zih zin zio),zii⟩)
  (zmg:W.codeIn K zin "law" =true)
  (zmh:W.keepIn K (.ref zav)=true)
  (zmi:W.specialIn K (.builtin "object.__class__") "__get__" =some (some (.builtin "getset_descriptor.__get__")))
  (zmj:W.takesIn K (.builtin "object.__class__")=some true)
  (zmk:W.excIn K zay bmV "ValueError.__new__" =true)
  (zml:W.findIn K (.ref zay) "__getattribute__" =some (some (.builtin "BaseException.__getattribute__")))
  (zmm:W.findIn K (.ref zay) "__getattr__" =some none)
  (zmn:W.findIn K (.ref zay) "__class__" =some (some (.builtin "object.__class__")))
  (zmo:W.subIn K (.ref zay) (.type "object")=some true)
  (zmp:W.subIn K (.ref zay) (.type "BaseException")=some true)
  (zmq:W.clsIn K zay=some ziq)
  (zmr:W.clsIn K zaw=some zir)
  (zms:W.typeIn K (.ref zaw)=some (.type "type"))
  (zmt:W.subIn K (.ref zaw) (.type "BaseException")=some true)
  (zmu:W.subIn K (.ref zay) (.ref zaw)=some true)
  (zmv:W.clsIn K zax=some zis)
  (zmw:W.typeIn K (.ref zax)=some (.type "type"))
  (zmx:W.subIn K (.ref zay) (.ref zax)=some false)
  (zmy:(Value.ref zay==Value.ref zax)=false)
  (zmz:W.subIn K (.ref zay) (.type "ValueError")=some true)
  (zna:W.nsIn K mainGlobals "ValueError" =some none)
  (znb:W.nsIn K mainGlobals "sorted" =some none)
  (znc:W.nsIn K mainGlobals "int" =some none)
  (znd:W.nsIn K mainGlobals "tuple" =some none)
  (zne:W.nsIn K mainGlobals "list" =some none)
  (znf:W.nsIn K mainGlobals "range" =some none)
  (zng:W.nsIn K mainGlobals "isinstance" =some none)
  (znh:W.nsIn K mainGlobals "str" =some none)
  (zni:W.nsIn K mainGlobals "all" =some none)
  (znj:W.nsIn K mainGlobals "len" =some none)
  (znk:W.nsIn K mainGlobals "zip" =some none)
  (znl:W.nsIn K mainGlobals "LONGEST_NAME" =some (some (.int 8 zit)))
  (znm:W.nsIn K mainGlobals "MOST_FIGURES" =some (some (.int 60 ziu))) :
  ∃fd:FuncData,(∀(s:Shared) (v:Value),BindsTo s fd ⟨[v],[]⟩ [("_law_script",v)])/\∀base:Heap,K.In base->base.Ns mainGlobals mg->bX l.prog w K mg base CX0 20 fa fd ["_law_script"] (nD K):=by
 have e:=hfa.symm.trans (W.mg_of X G zjq);cases e;have znn:=bN (st:=eU) zju zjv zjw;have zno:=bM (K:=K) (x:= "is_name") (qual:= "is_name") (st:=eU) (kV:=zbd) (doc:=zbe) (pm:=zbf) (an:=zba) (cdv:=zbg) (ct:=zbh) (ps:=["thing"])<|bK 1 _ fun _=>rfl
 have znp:=bN (st:=eF) zjx zjy zjz;have znq:=bM (K:=K) (x:= "added_up") (qual:= "added_up") (st:=eF) (kV:=zbm) (doc:=zbn) (pm:=zbo) (an:=zbj) (cdv:=zbp) (ct:=zbq) (ps:=["plan"])<|bK 1 _ fun _=>rfl
 have znr:=bN (st:=eW) zka zkb zkc;have zns:=bM (K:=K) (x:= "as_told") (qual:= "as_told") (st:=eW) (kV:=zbv) (doc:=zbw) (pm:=zbx) (an:=zbs) (cdv:=zby) (ct:=zbz) (ps:=["plan"])<|bK 1 _ fun _=>rfl
 have znt:=bN (st:=fO) zkd zke zkf;have znu:=bM (K:=K) (x:= "row_of") (qual:= "row_of") (st:=fO) (kV:=zce) (doc:=zcf) (pm:=zcg) (an:=zcb) (cdv:=zch) (ct:=zci) (ps:=["parts"])<|bK 1 _ fun _=>rfl
 have znv:=bN (st:=dU) zkg zkh zki;have znw:=bM (K:=K) (x:= "need_text") (qual:= "need_text") (st:=dU) (kV:=zcn) (doc:=zco) (pm:=zcp) (an:=zck) (cdv:=zcq) (ct:=zcr) (ps:=["thing"])<|bK 1 _ fun _=>rfl
 have znx:=bN (st:=bW) zkj zkk zkl;have zny:=bM (K:=K) (x:= "is_written_whole") (qual:= "is_written_whole") (st:=bW) (kV:=zcw) (doc:=zcx) (pm:=zcy) (an:=zct) (cdv:=zcz) (ct:=zda) (ps:=["text"])<|bK 1 _ fun _=>rfl
 have znz:=bN (st:=dF) zkm zkn zko;have zoa:=bM (K:=K) (x:= "read_whole") (qual:= "read_whole") (st:=dF) (kV:=zdf) (doc:=zdg) (pm:=zdh) (an:=zdc) (cdv:=zdi) (ct:=zdj) (ps:=["text"])<|bK 1 _ fun _=>rfl
 have zob:=bN (st:=dS) zkp zkq zkr;have zoc:=bM (K:=K) (x:= "read_name") (qual:= "read_name") (st:=dS) (kV:=zdo) (doc:=zdp) (pm:=zdq) (an:=zdl) (cdv:=zdr) (ct:=zds) (ps:=["text"])<|bK 1 _ fun _=>rfl
 have zod:=bN (st:=dW) zks zkt zku;have zoe:=bM (K:=K) (x:= "read_part") (qual:= "read_part") (st:=dW) (kV:=zdx) (doc:=zdy) (pm:=zdz) (an:=zdu) (cdv:=zea) (ct:=zeb) (ps:=["form","word"])<|bK 2 _ fun _ _=>rfl
 have zof:=bN (st:=dE) zkv zkw zkx;have zog:=bM (K:=K) (x:= "read_parts") (qual:= "read_parts") (st:=dE) (kV:=zeg) (doc:=zeh) (pm:=zei) (an:=zed) (cdv:=zej) (ct:=zek) (ps:=["forms","words"])<|bK 2 _ fun _ _=>rfl
 have zoh:=bN (st:=dX) zky zkz zla;have zoi:=bM (K:=K) (x:= "plan_rows") (qual:= "plan_rows") (st:=dX) (kV:=zep) (doc:=zeq) (pm:=zer) (an:=zem) (cdv:=zes) (ct:=zet) (ps:=["plan"])<|bK 1 _ fun _=>rfl
 have zoj:=bN (st:=dY) zlb zlc zld;have zok:=bM (K:=K) (x:= "plan_text") (qual:= "plan_text") (st:=dY) (kV:=zey) (doc:=zez) (pm:=zfa) (an:=zev) (cdv:=zfb) (ct:=zfc) (ps:=["plan"])<|bK 1 _ fun _=>rfl
 have zol:=bN (st:=dQ) zle zlf zlg;have zom:=bM (K:=K) (x:= "read_plan") (qual:= "read_plan") (st:=dQ) (kV:=zfh) (doc:=zfi) (pm:=zfj) (an:=zfe) (cdv:=zfk) (ct:=zfl) (ps:=["text"])<|bK 1 _ fun _=>rfl
 have zon:=bN (st:=cN) zlh zli zlj;have zoo:=bM (K:=K) (x:= "_law_cell_at") (qual:= "_law_cell_at") (st:=cN) (kV:=zfq) (doc:=zfr) (pm:=zfs) (an:=zfn) (cdv:=zft) (ct:=zfu) (ps:=["_law_script","_law_k"])<|bK 2 _ fun _ _=>rfl
 have zop:=bN (st:=dG) zlk zll zlm;have zoq:=bM (K:=K) (x:= "_law_drawn") (qual:= "_law_drawn") (st:=dG) (kV:=zfz) (doc:=zga) (pm:=zgb) (an:=zfw) (cdv:=zgc) (ct:=zgd) (ps:=["_law_cell","_law_k"])<|bK 2 _ fun _ _=>rfl
 have zor:=bN (st:=dP) zln zlo zlp;have zos:=bM (K:=K) (x:= "_law_name") (qual:= "_law_name") (st:=dP) (kV:=zgi) (doc:=zgj) (pm:=zgk) (an:=zgf) (cdv:=zgl) (ct:=zgm) (ps:=["_law_draw"])<|bK 1 _ fun _=>rfl
 have zot:=bN (st:=dO) zlq zlr zls;have zou:=bM (K:=K) (x:= "_law_plan") (qual:= "_law_plan") (st:=dO) (kV:=zgr) (doc:=zgs) (pm:=zgt) (an:=zgo) (cdv:=zgu) (ct:=zgv) (ps:=["_law_script"])<|bK 1 _ fun _=>rfl
 have zov:=bN (st:=dZ) zlt zlu zlv;have zow:=bM (K:=K) (x:= "_law_text") (qual:= "_law_text") (st:=dZ) (kV:=zha) (doc:=zhb) (pm:=zhc) (an:=zgx) (cdv:=zhd) (ct:=zhe) (ps:=["_law_plan_here"])<|bK 1 _ fun _=>rfl
 have zox:=bN (st:=eG) zlw zlx zly;have zoy:=bM (K:=K) (x:= "_law_put") (qual:= "_law_put") (st:=eG) (kV:=zhj) (doc:=zhk) (pm:=zhl) (an:=zhg) (cdv:=zhm) (ct:=zhn) (ps:=["_law_rows","_law_at","_law_row"])<|bK 3 _ fun _ _ _=>rfl
 have zoz:=bN (st:=cJ) zlz zma zmb;have zpa:=bM (K:=K) (x:= "_law_spoiled") (qual:= "_law_spoiled") (st:=cJ) (kV:=zhs) (doc:=zht) (pm:=zhu) (an:=zhp) (cdv:=zhv) (ct:=zhw) (ps:=["_law_plan_here","_law_cell"])<|bK 2 _ fun _ _=>rfl
 have zpb:=bN (st:=cO) zmc zmd zme;have zpc:=bM (K:=K) (x:= "_law_refused") (qual:= "_law_refused") (st:=cO) (kV:=zib) (doc:=zic) (pm:=zid) (an:=zhy) (cdv:=zie) (ct:=zif) (ps:=["_law_text_here"])<|bK 1 _ fun _=>rfl
 have zpd:=bN (st:=iD) zmf zmg zmh;have zpe:=bM (K:=K) (x:= "law") (qual:= "law") (st:=iD) (kV:=zik) (doc:=zil) (pm:=zim) (an:=zih) (cdv:=zin) (ct:=zio) (ps:=["_law_script"])<|bK 1 _ fun _=>rfl
 exact⟨W.fnOf "law" "law" (aZ iD) (aU iD) (aD iD) .none zik zil zim zih zin zio,fun s v=> .of_eq rfl,fun base _ _=>MX ⟨zaa,_,znn,zno,
  zab,_,znp,znq,
  zac,_,znr,zns,
  zad,_,znt,znu,
  zae,_,znv,znw,
  zaf,_,znx,zny,
  zag,_,znz,zoa,
  zah,_,zob,zoc,
  zai,_,zod,zoe,
  zaj,_,zof,zog,
  zak,_,zoh,zoi,
  zal,_,zoj,zok,
  zam,_,zol,zom,
  zan,_,zon,zoo,
  zao,_,zop,zoq,
  zap,_,zor,zos,
  zaq,_,zot,zou,
  zar,_,zov,zow,
  zas,_,zox,zoy,
  zat,_,zoz,zpa,
  zau,_,zpb,zpc,
  fa,_,zpd,zpe,
  W.mg_of X G ziv,
  W.mg_of X G ziw,
  W.mg_of X G zix,
  W.mg_of X G ziy,
  W.mg_of X G ziz,
  W.mg_of X G zja,
  W.mg_of X G zjb,
  W.mg_of X G zjc,
  W.mg_of X G zjd,
  W.mg_of X G zje,
  W.mg_of X G zjf,
  W.mg_of X G zjg,
  W.mg_of X G zjh,
  W.mg_of X G zji,
  W.mg_of X G zjj,
  W.mg_of X G zjk,
  W.mg_of X G zjl,
  W.mg_of X G zjm,
  W.mg_of X G zjn,
  W.mg_of X G zjo,
  W.mg_of X G zjp,
  W.mg_of X G zjq,
  zaw,W.mg_of X G zjr,
  zax,W.mg_of X G zjs,
  zay,W.mg_of X G zjt,
  zmk,⟨zml,zmm,zmn,zmo,zmp,_,zmq⟩,
  NS zmr zms zmt zmu,
  GN,
  OB zmy zmv zmw zmx,
  MY oF zmz,
  W.mg_none_of X G zna,
  W.mg_none_of X G znb,
  W.mg_none_of X G znc,
  W.mg_none_of X G znd,
  W.mg_none_of X G zne,
  W.mg_none_of X G znf,
  W.mg_none_of X G zng,
  W.mg_none_of X G znh,
  W.mg_none_of X G zni,
  W.mg_none_of X G znj,
  W.mg_none_of X G znk,
  ⟨zit,W.mg_of X G znl⟩,
  ⟨ziu,W.mg_of X G znm⟩⟩⟩
theorem walk {l:W.OpenLaw}{q:Program}{loose:List Str}{XP:(Str->Option Value)->Heap->Prop}{YP:World->Heap->Prop}{d:DefRec}{K:Params->W.Frag} (hn:l.most=some 63) (hdf:d.params.defaults=[])
  (hY:∀(w:World) (h:Heap),YP w h->(K w.params).In h)
  (F:∀(w:World) (mg:Str->Option Value) (fa:Addr) (h:Heap),(K w.params).In h->h.Ns mainGlobals mg->mg d.name=some (.ref fa) →
   ∃fd:FuncData,(∀(s:Shared) (u:Value),BindsTo s fd ⟨[u],[]⟩ [("_law_script",u)])/\∀base:Heap,(K w.params).In base->base.Ns mainGlobals mg->bX l.prog w (K w.params) mg base CX0 20 fa fd ["_law_script"] (nD (K w.params))) :
  W.WalkO q loose XP YP l.row.toRowW d [] (fun f vs=>PySem.call f vs) :=
 L2.walk_of (n:=63) (k:=20) (x:= "_law_script") (CX:=fun _=>CX0) (sp:=fun w=>nD (K w.params)) hn (by decide) hdf ⟨rfl,by decide,by decide⟩ hY F (fun _ _ a ns hl _ hS=>⟨a,ns,rfl,hS,hl,fun _=>rfl⟩) fun _ _ _ _ _ z=>z
end Prf
open PySem PySem.W PyProof.Rows
set_option maxRecDepth 100000 in
set_option maxHeartbeats 0 in
theorem PySem.Challenge.cw_firstout_k74_plans_as_texts_holds : PySem.Challenge.rw_firstout_k74_plans_as_texts.Holds := by
 w_on;o_law;k_head;(case hw=>w_witness2)
 k_fill
 refine Prf.walk (l:=PySem.Challenge.rw_firstout_k74_plans_as_texts) rfl rfl (fun w h Y=>PySem.W.kIn_of Y) ?F
 case F =>
  intro w mg fa h KX G hmg;refine' Prf.all_mk KX G hmg ?ziv ?ziw ?zix ?ziy ?ziz ?zja ?zjb ?zjc ?zjd ?zje ?zjf ?zjg ?zjh ?zji ?zjj ?zjk ?zjl ?zjm ?zjn ?zjo ?zjp ?zjq ?zjr ?zjs ?zjt ?zju ?zjv ?zjw ?zjx ?zjy ?zjz ?zka ?zkb ?zkc ?zkd ?zke ?zkf ?zkg ?zkh ?zki ?zkj ?zkk ?zkl ?zkm ?zkn ?zko ?zkp ?zkq ?zkr ?zks ?zkt ?zku ?zkv ?zkw ?zkx ?zky ?zkz ?zla ?zlb ?zlc ?zld ?zle ?zlf ?zlg ?zlh ?zli ?zlj ?zlk ?zll ?zlm ?zln ?zlo ?zlp ?zlq ?zlr ?zls ?zlt ?zlu ?zlv ?zlw ?zlx ?zly ?zlz ?zma ?zmb ?zmc ?zmd ?zme ?zmf ?zmg ?zmh ?zmi ?zmj ?zmk ?zml ?zmm ?zmn ?zmo ?zmp ?zmq ?zmr ?zms ?zmt ?zmu ?zmv ?zmw ?zmx ?zmy ?zmz ?zna ?znb ?znc ?znd ?zne ?znf ?zng ?znh ?zni ?znj ?znk ?znl ?znm
  (case ziv|ziw|zix|ziy|ziz|zja|zjb|zjc|zjd|zje|zjf|zjg|zjh|zji|zjj|zjk|zjl|zjm|zjn|zjo|zjp|zjq|zjr|zjs|zjt|zju|zjv|zjw|zjx|zjy|zjz|zka|zkb|zkc|zkd|zke|zkf|zkg|zkh|zki|zkj|zkk|zkl|zkm|zkn|zko|zkp|zkq|zkr|zks|zkt|zku|zkv|zkw|zkx|zky|zkz|zla|zlb|zlc|zld|zle|zlf|zlg|zlh|zli|zlj|zlk|zll|zlm|zln|zlo|zlp|zlq|zlr|zls|zlt|zlu|zlv|zlw|zlx|zly|zlz|zma|zmb|zmc|zmd|zme|zmf|zmg|zmh|zmi|zmj=>k_is)
  (case zmk=>k_exc)
  (case zml|zmm|zmn|zmo|zmp|zmq|zmr|zms|zmt|zmu|zmv|zmw|zmx=>k_is)
  (case zmy=>rfl)
  (case zmz|zna|znb|znc|znd|zne|znf|zng|znh|zni|znj|znk|znl|znm=>k_is)
