import PyProof.Rows.All
import Wide.All
import OpenK.AllK
import Wide.FinOn
import Lean
import PyProof.EqAt
import PyProof.EqKinds
import PyProof.TupleCall
import KE.KSortTup
import PyProof.Rows.DictUnroll
import PyProof.DictItems
import KE.LcSums
import PyProof.IsiH_list
import KE.KDictOf
import PyProof.DictWalks
import PyProof.ListRange
import PyProof.EnumStmt
import PyProof.EnumMake
import KE.KDictSum
import PyProof.StrOps2
import PySem.Challenge.RW_firstout_k13_strange_names
namespace PySem.W.Fast
def tw4552522624610835363:=()
def tw2121886924269195273:=()
def tw7884251612195875979:=()
def tw5017173676545853836:=()
def tw5111684186323075501:=()
def tw3141368960188461901:=()
def tw3574199728854642542:=()
def tw14769197880632132047:=()
def tw12930132820436807444:=()
def tw4633938020226124085:=()
def tw1665830809585165845:=()
def tw9666498867633621657:=()
def tw11614959456629056441:=()
def tw7674555272577229884:=()
def tw10885026252227416509:=()
def tw277484290730658463:=()
end PySem.W.Fast
set_option compiler.extract_closed false
local macro_rules| `(tactic| walk_at"oi")=> `(tactic| first|exact Or.inl rfl|exact Or.inr rfl)
set_option Elab.async false
set_option linter.all false
set_option maxRecDepth 100000
namespace L2
open PySem PySem.Spec PyProof.Rows
abbrev Key:=Sum Int Str
def oS:Key->Value->Bool
 | .inl k,v=>Value.isInt k v
 | .inr x,v=>Value.isStrOf x v
def Q3 (w:World):Key->Int
 | .inl k=>hashInt k
 | .inr x=>hashStr w x
theorem b3:∀{k:Key}{v:Value},oS k v=true->(∃i t,k=Sum.inl i/\v=Value.int i t)∨(∃x t,k=Sum.inr x/\v=Value.str x t)
 | .inl i,v,h=>by
  obtain⟨t,e⟩:=Value.isInt_shape (k:=i) (v:=v) h;exact .inl ⟨i,t,rfl,e⟩
 | .inr x,v,h=>by
  obtain⟨t,e⟩:=Value.isStrOf_shape (x:=x) (v:=v) h;exact .inr ⟨x,t,rfl,e⟩
theorem DG (i:Int)(t:Tok):oS (.inl i) (.int i t)=true:=by simp[oS,Value.isInt]
theorem DI (x:Str)(t:Tok):oS (.inr x) (.str x t)=true:=by simp[oS,Value.isStrOf]
theorem M6 (a b:Int):decide ((Sum.inl a:Key)=Sum.inl b)=(a==b):=by
 by_cases e:a=b
 ·subst e;simp
 ·have h:¬(Sum.inl a:Key)=Sum.inl b:=fun q=>e (Sum.inl.inj q);rw[decide_eq_false h];exact(beq_eq_false_iff_ne.mpr e).symm
theorem N9 (a b:Str):decide ((Sum.inr a:Key)=Sum.inr b)=decide (a=b):=by
 by_cases e:a=b
 ·subst e;simp
 ·have h:¬(Sum.inr a:Key)=Sum.inr b:=fun q=>e (Sum.inr.inj q);rw[decide_eq_false h,decide_eq_false e]
theorem NE (a:Int)(b:Str):decide ((Sum.inl a:Key)=Sum.inr b)=false:=decide_eq_false (fun q=>nomatch q)
theorem M0 (a:Str)(b:Int):decide ((Sum.inr a:Key)=Sum.inl b)=false:=decide_eq_false (fun q=>nomatch q)
def bH (prog:Program)(w:World):PySem.KeyKind prog w Key where
 is:=oS
 hash:=Q3 w
 inj:=fun v a b ha hb=>by
  rcases b3 ha with⟨i,t,rfl,rfl⟩|⟨x,t,rfl,rfl⟩
  ·rcases b3 hb with⟨j,u,rfl,e⟩|⟨y,u,rfl,e⟩
   ·injection e with e1 _;rw[e1]
   ·exact nomatch e
  ·rcases b3 hb with⟨j,u,rfl,e⟩|⟨y,u,rfl,e⟩
   ·exact nomatch e
   ·injection e with e1 _;rw[e1]
 byValue:=fun k v h=>by
  rcases b3 h with⟨i,t,rfl,rfl⟩|⟨x,t,rfl,rfl⟩<;>rfl
 pyHash:=fun hv h=>by
  rcases b3 hv with⟨i,t,rfl,rfl⟩|⟨x,t,rfl,rfl⟩
  ·exact wpAny_pyHash_int h
  ·exact wpAny_pyHash_str h
 eqBool:=fun hu hv h=>by
  rcases b3 hu with⟨i,t,rfl,rfl⟩|⟨x,t,rfl,rfl⟩
  ·rcases b3 hv with⟨j,u,rfl,rfl⟩|⟨y,u,rfl,rfl⟩
   ·rw[M6]at h;exact wpAny_eqBool_int h
   ·rw[NE]at h;exact SeqAt.EqAt.int_str i t y u _ _ _ _ h
  ·rcases b3 hv with⟨j,u,rfl,rfl⟩|⟨y,u,rfl,rfl⟩
   ·rw[M0]at h;exact SeqAt.EqAt.str_int x t j u _ _ _ _ h
   ·rw[N9]at h;exact wpAny_eqBool_str h
 «strs»:=fun k x t v h=>by
  rcases b3 h with⟨i,u,rfl,e⟩|⟨y,u,rfl,e⟩
  ·exact nomatch e
  ·injection e with e1 _;subst e1;cases v<;>rfl
theorem y4 (prog:Program)(w:World)(i:Int)(t:Tok):(bH prog w).is (.inl i) (.int i t)=true:=DG i t
theorem y9 (prog:Program)(w:World)(x:Str)(t:Tok):(bH prog w).is (.inr x) (.str x t)=true:=DI x t
end L2
namespace L2
open PySem PySem.Spec PyProof.Rows
inductive V where
 | non|bl (b:Bool)|int (i:Int)|str (x:Str)|byt (b:Array UInt8)|flt (b:UInt64)|ref (a:Addr)|ty (n:String)
 deriving DecidableEq
def RelV:V->Value->Prop
 | .non,u=>u=Value.none
 | .bl b,u=>u=Value.bool b
 | .int i,u=>∃t,u=Value.int i t
 | .str x,u=>∃t,u=Value.str x t
 | .byt b,u=>∃t,u=Value.bytes b t
 | .flt b,u=>∃t,u=Value.float b t
 | .ref a,u=>u=Value.ref a
 | .ty n,u=>u=Value.type n
abbrev Vals:List V->List Value->Prop:=Paired RelV
theorem Vals.length {xs:List V}{us:List Value} (r:Vals xs us):xs.length=us.length:=Paired.length r
theorem Vals.get:∀{xs:List V}{us:List Value}{i:Nat}{x:V},Vals xs us->xs[i]? =some x->∃u,us[i]? =some u/\RelV x u
 | _,_,_,_,.nil,e=>by simp at e
 | _,_,0,_,.cons r _,e=>by simp at e;subst e;exact⟨_,rfl,r⟩
 | _,_,i+1,x,.cons _ t,e=>by
  obtain⟨u,h1,h2⟩:=Vals.get (i:=i) (x:=x) t (by simpa using e);exact⟨u,by simpa using h1,h2⟩
theorem Vals.append:∀{xs ys:List V}{us ws:List Value},Vals xs us->Vals ys ws->Vals (xs++ys) (us++ws)
 | _,_,_,_,.nil,s=>s
 | _,_,_,_,.cons r t,s=> .cons r (Vals.append t s)
theorem Vals.take:∀{xs:List V}{us:List Value} (n:Nat),Vals xs us->Vals (xs.take n) (us.take n)
 | _,_,0,_=> .nil
 | _,_,_+1,.nil=> .nil
 | _,_,n+1,.cons r t=> .cons r (Vals.take n t)
theorem Vals.drop:∀{xs:List V}{us:List Value} (n:Nat),Vals xs us->Vals (xs.drop n) (us.drop n)
 | _,_,0,r=>r
 | _,_,_+1,.nil=> .nil
 | _,_,n+1,.cons _ t=>Vals.drop n t
def RelO:Option V->Option Value->Prop
 | some v,some u=>RelV v u
 | none,none=>True
 | _,_=>False
def KV {κ:Type}:List (κ×V)->List (κ×Value)->Prop:=Paired fun (p:κ×V) (q:κ×Value)=>p.1=q.1/\RelV p.2 q.2
def kV:Key->V
 | .inl i=> .int i
 | .inr x=> .str x
inductive HO where
  | lst (xs:List V)
  | tup (xs:List V)
  | dK (kvs:List (Key×V))|dT (kvs:List (List Key×V))
  | set (S:Int->Bool) (n:Nat)
  | ins (C dx:Addr) (fs:List (Str×V))
  | own (x:Addr)
  | xd (fs:List (Str×V))
  | met (f x:Addr)
  | rng (lo hi:Int)
  | frz (o:Obj) (u:HO)
  | tbl (ps:Array Value)
  | ext (φ:Heap->Prop)
abbrev Hp:=Addr->Option HO
def upd (H:Hp)(a:Addr)(o:HO):Hp:=fun b=>if b=a then some o else H b
theorem aR {H:Hp}{a:Addr}{o:HO}:upd H a o a=some o:=by unfold upd;rw[if_pos rfl]
theorem aG {H:Hp}{a b:Addr}{o:HO} (h:b≠a):upd H a o b=H b:=by unfold upd;rw[if_neg h]
theorem LI {H:Hp}{a:Addr}{o u:HO}:upd (upd H a o) a u=upd H a u:=by
 funext b;unfold upd;split<;>rfl
theorem P7 {H:Hp}{a b:Addr}{o u:HO} (h:H a=some o) (h':H b=some u) (d:o≠u):a≠b:=by
 intro e;subst e;rw[h]at h';exact d (Option.some.inj h')
theorem aO {H:Hp}{a b:Addr}{o:HO} (h:H a=some o) (h':H b=none):a≠b:=by
 intro e;subst e;rw[h]at h';cases h'
section
variable (P:Program)(w:World)
def ObjOk (H:Hp)(h:Heap)(a:Addr):HO->Prop
 | .lst xs=>xs.length<=sizeLine/\∃(its:List Value) (n:Nat),Vals xs its/\h.get? a=some { cls:= .type "list",data:= .seq its.toArray n }
 | .tup xs=>xs.length<=sizeLine/\∃its:List Value,Vals xs its/\IsTup h a its.toArray
 | .dK kvs=>kvs.length<=sizeLine/\(a==sysModules)=false/\∃vs,KV kvs vs/\h.DictOf (bH P w) a vs
 | .dT kvs=>kvs.length<=sizeLine/\(a==sysModules)=false/\∃xs:List (List Key×Addr×Value),
   Paired (fun (p:List Key×V) (q:List Key×Addr×Value)=>p.1=q.1/\H q.2.1=some (.tup (p.1.map kV))/\RelV p.2 q.2.2) kvs xs ∧
   ∃o es ep,h.get? a=some o/\o.ExactDict/\o.data= .dict es ep/\es.toList=xs.map (entryOfKey (tupleKind (bH P w)))/\(xs.map (·.1)).Nodup
 | .set S n=>h.SetOf (intKind P w) a S n
 | .ins C dx fs=>H dx=some (.own a)/\fs.length<=1000/\dx≠a/\h.get? a=some (PySem.W.instObj C dx) ∧
   ∃mA,h.Ns1 dx mA/\(∀f,RelO (fs.lookup f) (mA f))/\PySem.Within mA (fs.map (·.1))
 | .own _=>∃o,h.get? a=some o
 | .xd fs=>∃mA,h.Ns1 a mA/\∀f,RelO (fs.lookup f) (mA f)
 | .rng lo hi=>∃t u v,h.get? a=some { cls:= .type "range",data:= .fields #[.int lo t,.int hi u,.int 1 v] }
 | .frz o u=>h.get? a=some o/\ObjOk H h a u
 | .tbl ps=>h.get? a=some { cls:= .none,data:= .fields ps }
 | .met f x=>h.get? a=some (PySem.W.methodObj (.ref f) (.ref x))
 | .ext φ=>φ h/\(∃o,h.get? a=some o)/\∀h1 h2:Heap,φ h1->(∀o,h1.get? a=some o->h2.get? a=some o)->φ h2
def HOk (H:Hp)(h:Heap):Prop:=∀a o,H a=some o->ObjOk P w H h a o
end
section
variable {P:Program}{w:World}{H H':Hp}{h h':Heap}{a:Addr}{o:HO}
theorem ObjOk.lt (x:ObjOk P w H h a o):a<h.objs.size:=by
 cases o with
 | lst xs=>obtain⟨_,_,_,_,e⟩:=x;exact Heap.lt_size e
 | tup xs=>obtain⟨_,_,_,p⟩:=x;exact p.lt
 | dK kvs=>obtain⟨_,_,_,_,o,_,_,e,_⟩:=x;exact Heap.lt_size e
 | dT kvs=>obtain⟨_,_,_,_,o,_,_,e,_⟩:=x;exact Heap.lt_size e
 | set S n=>obtain⟨o,_,_,_,e,_⟩:=x;exact Heap.lt_size e
 | ins C dx fs=>obtain⟨_,_,_,e,_⟩:=x;exact Heap.lt_size e
 | own y=>obtain⟨_,e⟩:=x;exact Heap.lt_size e
 | xd fs=>obtain⟨_,⟨_,_,_,e,_⟩,_⟩:=x;exact Heap.lt_size e
 | rng lo hi=>obtain⟨_,_,_,e⟩:=x;exact Heap.lt_size e
 | frz ob u=>obtain⟨e,_⟩:=x;exact Heap.lt_size e
 | tbl ps=>exact Heap.lt_size (show h.get? a=some _ from x)
 | met f y=>exact Heap.lt_size (show h.get? a=some _ from x)
 | ext φ=>obtain⟨_,⟨_,e⟩,_⟩:=x;exact Heap.lt_size e
theorem Paired.mapP {α β:Type}{F G:α->β->Prop}:∀{l₁:List α}{l₂:List β},Paired F l₁ l₂->(∀a b,F a b->G a b)->Paired G l₁ l₂
 | _,_,.nil,_=> .nil
 | _,_,.cons r t,f=> .cons (f _ _ r) (Paired.mapP t f)
theorem Paired.imp' {α β:Type}{F G:α->β->Prop} (f:∀a b,F a b->G a b) {l₁:List α}{l₂:List β} (r:Paired F l₁ l₂):Paired G l₁ l₂:=Paired.mapP r f
theorem ObjOk.stay (x:ObjOk P w H h a o)(k:∀b u,(b=a∨H b=some (.own a))->h.get? b=some u->h'.get? b=some u)
  (ho:∀b,H b=some (.own a)->H' b=some (.own a))(ht:∀b xs,H b=some (.tup xs)->H' b=some (.tup xs)):ObjOk P w H' h' a o:=by
 induction o with
 | lst xs=>obtain⟨z,its,n,r,e⟩:=x;exact⟨z,its,n,r,k _ _ (.inl rfl) e⟩
 | tup xs=>obtain⟨z,its,r,ob,e,c⟩:=x;exact⟨z,its,r,ob,k _ _ (.inl rfl) e,c⟩
 | dK kvs=>obtain⟨z,y,vs,r,ob,es,ep,e,c⟩:=x;exact⟨z,y,vs,r,ob,es,ep,k _ _ (.inl rfl) e,c⟩
 | dT kvs =>
  obtain⟨z,y,xs,r,ob,es,ep,e,c⟩:=x;exact⟨z,y,xs,Paired.mapP r fun p q z=>⟨z.1,ht _ _ z.2.1,z.2.2⟩,ob,es,ep,k _ _ (.inl rfl) e,c⟩
 | set S n=>obtain⟨ob,es,ep,t,e,c⟩:=x;exact⟨ob,es,ep,t,k _ _ (.inl rfl) e,c⟩
 | ins C dx fs =>
  obtain⟨d,z,ne,e,mA,⟨od,es,ep,e2,c⟩,r⟩:=x;exact⟨ho _ d,z,ne,k _ _ (.inl rfl) e,mA,⟨od,es,ep,k _ _ (.inr d) e2,c⟩,r⟩
 | own y=>obtain⟨ob,e⟩:=x;exact⟨ob,k _ _ (.inl rfl) e⟩
 | xd fs=>obtain⟨mA,⟨od,es,ep,e,c⟩,r⟩:=x;exact⟨mA,⟨od,es,ep,k _ _ (.inl rfl) e,c⟩,r⟩
 | rng lo hi=>obtain⟨t,u,v,e⟩:=x;exact⟨t,u,v,k _ _ (.inl rfl) e⟩
 | frz ob u ih=>obtain⟨e,q⟩:=x;exact⟨k _ _ (.inl rfl) e,ih q⟩
 | tbl ps =>
  have e:h.get? a=some { cls:= .none,data:= .fields ps }:=x;show h'.get? a=some { cls:= .none,data:= .fields ps };exact k a _ (.inl rfl) e
 | met f y =>
  have e:h.get? a=some (PySem.W.methodObj (.ref f) (.ref y)):=x;show h'.get? a=some (PySem.W.methodObj (.ref f) (.ref y));exact k a _ (.inl rfl) e
 | ext φ=>obtain⟨p,⟨o,e⟩,st⟩:=x;exact⟨st _ _ p fun o q=>k _ _ (.inl rfl) q,⟨o,k _ _ (.inl rfl) e⟩,st⟩
theorem HOk.lt (x:HOk P w H h)(e:H a=some o):a<h.objs.size:=(x a o e).lt
theorem HOk.fresh (x:HOk P w H h)(e:h.objs.size<=a):H a=none:=by
 cases q:H a with
 | none=>rfl
 | some u=>exact absurd (Nat.lt_of_lt_of_le (x.lt q) e) (Nat.lt_irrefl _)
theorem HOk.kept (x:HOk P w H h)(k:∀b u,h.get? b=some u->h'.get? b=some u):HOk P w H h':=fun a o e =>
 (x a o e).stay (fun b u _ q=>k b u q) (fun _ q=>q) fun _ _ q=>q
theorem HOk.laid (x:HOk P w H h)(k:∀b u,h.get? b=some u->h'.get? b=some u)(hp:h.objs.size<=a)(new:ObjOk P w (upd H a o) h' a o):HOk P w (upd H a o) h':=fun b u e=>by
 have hn:=x.fresh hp
 by_cases hb:b=a
 ·subst hb;rw[aR]at e;cases e;exact new
 ·rw[aG hb]at e;exact(x b u e).stay (fun c v _ q=>k c v q) (fun c q=>by rw[aG (aO q hn)];exact q) fun c xs q=>by rw[aG (aO q hn)];exact q
end
def Rd (H:Hp)(a:Addr)(u:HO):Prop:=H a=some u∨∃o,H a=some (.frz o u)
theorem Rd.ok {P:Program}{w:World}{H:Hp}{h:Heap}{a:Addr}{u:HO} (r:Rd H a u) (x:HOk P w H h):ObjOk P w H h a u:=by
 rcases r with r|⟨o,r⟩
 ·exact x a u r
 ·obtain⟨_,q⟩:=x a _ r;exact q
def Mut:Option HO->Prop
 | some (.lst _)=>True
 | some (.dK _)=>True
 | some (.dT _)=>True
 | some (.set _ _)=>True
 | some (.ins _ _ _)=>True
 | some (.ext _)=>True
 | _=>False
section
variable {P:Program}{w:World}{H:Hp}{h h':Heap}{x e:Addr}{o':HO}
theorem HOk.write (ok:HOk P w H h)(mu:Mut (H x))(he:e=x∨H e=some (.own x))(k:∀b u,b≠e->h.get? b=some u->h'.get? b=some u)(heo:∃u,h'.get? e=some u)
  (new:ObjOk P w (upd H x o') h' x o'):HOk P w (upd H x o') h':=fun b u q=>by
 have nown:∀c y,H c=some (.own y)->c≠x:=fun c y r z=>by subst z;rw[r]at mu;exact mu
 have ntup:∀c xs,H c=some (.tup xs)->c≠x:=fun c xs r z=>by subst z;rw[r]at mu;exact mu
 by_cases hb:b=x
 ·subst hb;rw[aR]at q;cases q;exact new
 ·rw[aG hb]at q
  by_cases hbe:b=e
  ·have q':H b=some (.own x):=by
    rcases he with z|z
    ·exact absurd (hbe.trans z) hb
    ·rw[hbe];exact z
   rw[q]at q';cases q';obtain⟨v,hv⟩:=heo;exact⟨v,by rw[hbe];exact hv⟩
  ·refine(ok b u q).stay (fun c v hc r=>k c v ?_ r) (fun c r=>by rw[aG (nown c b r)];exact r) fun c xs r=>by rw[aG (ntup c xs r)];exact r
   rcases hc with rfl|hc
   ·exact hbe
   ·rintro rfl;rcases he with z|z
    ·exact nown c b hc z
    ·rw[hc]at z;cases z;exact hb rfl
end
structure Un (fs ex:List Addr)(H H':Hp)(h h':Heap):Prop where
 keep:∀b o,h.get? b=some o->H b=none->b∉fs->b∉ex->h'.get? b=some o
 slot:∀b o,h.get? b=some o->H b=none->b∈fs->b∉ex->∃sl,h'.get? b=some { o with slots:=sl }
 free:∀b o,h.get? b=some o->H b=none->b∉ex->H' b=none
 there:∀b o,h.get? b=some o->b∉ex->∃o',h'.get? b=some o'
 tups:∀b xs,H b=some (.tup xs)->H' b=some (.tup xs)
 frzs:∀b o u,H b=some (.frz o u)->H' b=some (.frz o u)
 tbls:∀b ps,H b=some (.tbl ps)->∃more,H' b=some (.tbl (ps++more))
section
variable {fs fs' ex ex':List Addr}{H H1 H2:Hp}{h h1 h2 h':Heap}{a x e:Addr}{o:HO}
theorem Un.any (u:Un fs ex H H1 h h1){b:Addr}{ob:Obj} (q:h.get? b=some ob) (n:H b=none) (hx:b∉ex):∃sl,h1.get? b=some { ob with slots:=sl }:=by
 by_cases hb:b∈fs
 ·exact u.slot b ob q n hb hx
 ·exact⟨ob.slots,u.keep b ob q n hb hx⟩
theorem Un.kept (k:∀b u,h.get? b=some u->h'.get? b=some u):Un fs ex H H h h' :=
 ⟨fun b ob q _ _ _=>k b ob q,fun b ob q _ _ _=>⟨ob.slots,k b ob q⟩,fun _ _ _ n _=>n,fun b ob q _=>⟨ob,k b ob q⟩,fun _ _ q=>q,fun _ _ _ q=>q,fun _ ps q=>⟨#[],by rw[q];simp⟩⟩
theorem Un.refl:Un fs ex H H h h:=Un.kept fun _ _ q=>q
theorem Un.laid (k:∀b u,h.get? b=some u->h'.get? b=some u)(hp:h.objs.size<=a)(hn:H a=none):Un fs ex H (upd H a o) h h' where
 keep:=fun b u q _ _ _=>k b u q
 slot:=fun b u q _ _ _=>⟨u.slots,k b u q⟩
 free:=fun b u q n _=>by rw[aG (Nat.ne_of_lt (Nat.lt_of_lt_of_le (Heap.lt_size q) hp))];exact n
 there:=fun b u q _=>⟨u,k b u q⟩
 tups:=fun b xs q=>by rw[aG (aO q hn)];exact q
 frzs:=fun b u xs q=>by rw[aG (aO q hn)];exact q
 tbls:=fun b ps q=>⟨#[],by rw[aG (aO q hn),q];simp⟩
theorem Un.write (mu:Mut (H x))(he:e=x∨H e=some (.own x))(k:∀b u,b≠e->h.get? b=some u->h'.get? b=some u)(heo:∃u,h'.get? e=some u):Un fs ex H (upd H x o) h h':=by
 have hx:∀b,H b=none->b≠x:=fun b n z=>by subst z;rw[n]at mu;exact mu
 have hb:∀b,H b=none->b≠e:=fun b n z=>by
  subst z;rcases he with r|r
  ·exact hx b n r
  ·rw[n]at r;cases r
 have hm:∀b u,H b=some u->¬Mut (some u)->b≠x:=fun b u q nm z=>by subst z;rw[q]at mu;exact nm mu
 refine⟨fun b u q n _ _=>k b u (hb b n) q,fun b u q n _ _=>⟨u.slots,k b u (hb b n) q⟩,fun b u q n _=>by rw[aG (hx b n)];exact n,fun b u q _=> ?_,
  fun b xs q=>by rw[aG (hm b _ q fun z=>z)];exact q,fun b u xs q=>by rw[aG (hm b _ q fun z=>z)];exact q,fun b ps q=>⟨#[],by rw[aG (hm b _ q fun z=>z),q];simp⟩⟩
 by_cases hbe:b=e
 ·subst hbe;exact heo
 ·exact⟨u,k b u hbe q⟩
end
def trk (h:Heap)(H:Hp):List Addr:=(List.range h.objs.size).filter fun a=>(H a).isSome
def lP (h:Heap)(H:Hp):Heap:=PySem.W.hideAll h (trk h H)
theorem DZ (h:Heap)(H:Hp):(lP h H).objs.size=h.objs.size:=PySem.W.hideAll_size _ _
theorem G6 {h:Heap}{H:Hp}{b:Addr}{o:Obj} (e:h.get? b=some o) (n:H b=none):(lP h H).get? b=some o :=
 PySem.W.hideAll_get _ e fun hm=>by
  have q:(H b).isSome=true:=(List.mem_filter.mp hm).2;rw[n]at q;simp at q
theorem KZ {h:Heap}{H:Hp}{b:Addr}{o:Obj} (e:(lP h H).get? b=some o):h.get? b=some o/\H b=none:=by
 have e':h.get? b=some o:=PySem.W.of_hideAll (trk h H) e;refine⟨e',?_⟩;cases q:H b with
 | none=>rfl
 | some x =>
  have hm:b∈trk h H:=List.mem_filter.mpr ⟨List.mem_range.mpr (Heap.lt_size e'),by simp[q]⟩;have z:(lP h H).get? b=none:=PySem.W.hideAll_none (trk h H) hm;rw[z]at e;cases e
end L2
namespace L2
open PySem PySem.Spec PyProof.Rows
structure Mod (K:PySem.W.Frag)(mg:Str->Option Value)(base:Heap):Prop where
 kin:K.In base
 glob:base.Ns mainGlobals mg
 blt:∃mb,base.Ns builtinsNs mb/\∀x:Str,x≠ "__name__" ->mb x=bootBuiltins x
 nolimit:base.NoLimit
structure Cx where
 prog:Program
 w:World
 K:PySem.W.Frag
 mg:Str->Option Value
 base:Heap
 A:Around
 N:List Str
 s₀:Shared
 H₀:Hp
 env:Env
 outer:List Env
 stack:List Env
 ex:List Addr
 fn:Str->Bool
 calm:Bool
 pn:List (Addr×Obj)
 xe:Value->Shared->Prop
def frs (l:List Env):List Addr:=l.filterMap (·.frame)
abbrev Cx.fs (X:Cx):List Addr:=frs X.outer
def Vis (sc:Scope)(x:Str):Prop:=sc.names.lookup x=some .local∨sc.names.lookup x=some .cell∨sc.names.lookup x=some .free
def Loc (sc:Scope)(x:Str):Prop:=sc.names.lookup x=some .local∨sc.names.lookup x=some .cell
def QZ (env:Env)(h:Heap)(m:Str->Option Value)(x:Str)(u:Value):Prop :=
 (env.kindOf x=some .local/\m x=some u)∨((env.kindOf x=some .cell∨env.kindOf x=some .free)/\∃c,env.cells.lookup x=some c/\h.IsCell c (some u))
structure Cx.Ok (X:Cx):Prop where
 mod:Mod X.K X.mg X.base
 kind:X.env.scope.kind= .function
 glob:X.env.globals=mainGlobals
 blt:X.env.builtins=builtinsNs
 above:X.s₀.heap.objs.size<=X.env.locals
 inj:∀x y c,X.env.cells.lookup x=some c->X.env.cells.lookup y=some c->x=y
 has:∀x,(X.env.kindOf x=some .cell∨X.env.kindOf x=some .free)->∃c,X.env.cells.lookup x=some c
 cab:∀x c,X.fn x=true->X.env.cells.lookup x=some c->X.s₀.heap.objs.size<=c
 hd:X.calm=true->X.A.handled=none
 frames:X.A.frames=some X.stack
 stk:X.stack=X.outer∨(X.stack=X.env::X.outer/\X.env.frame=some X.env.locals)
 exf:∀b∈X.ex,b≠X.env.locals/\∀x c,X.env.cells.lookup x=some c->c≠b
 bs:∀b o,X.base.get? b=some o->X.s₀.heap.get? b=some o/\X.H₀ b=none
 bsz:X.base.objs.size<=X.s₀.heap.objs.size
 noex:∀b o,X.base.get? b=some o->b∉X.ex
 exfs:∀b∈X.ex,b∉X.fs
 funs:X.s₀.heap.FunFrames X.base X.outer
 frf:∀b∈X.fs,X.H₀ b=none
structure Inv (X:Cx)(pins:List (Addr×Obj))(σ:List (Option V))(H:Hp)(s:Shared):Prop where
 ok:X.Ok
 os:s.os=X.s₀.os
 bare:AllBare s.gens
 base:Un X.fs X.ex X.H₀ H X.s₀.heap s.heap
 loc:∃m,s.heap.Ns X.env.locals m/\∀(i:Nat) (x:Str) (v:V),X.N[i]? =some x->σ[i]? =some (some v)->Vis X.env.scope x->∃u,RelV v u/\QZ X.env s.heap m x u
 cell:∀x c,X.env.cells.lookup x=some c->∃v,s.heap.IsCell c v
 free:H X.env.locals=none
 freeC:∀x c,X.env.cells.lookup x=some c->H c=none
 pin:∀p∈X.pn++pins,s.heap.get? p.1=some p.2/\H p.1=none/\p.1≠X.env.locals/\p.1∉X.fs/\∀v,p.2.data≠ .cell v
 hok:HOk X.prog X.w H s.heap
 len:σ.length=X.N.length
section
variable {X:Cx}{pins:List (Addr×Obj)}{σ:List (Option V)}{H H':Hp}{s:Shared}{h':Heap}
theorem Cx.Ok.nofr (ok:X.Ok){b:Addr}{o:Obj} (e:X.base.get? b=some o):b∉X.fs:=fun hb=>by
 have:=(ok.funs.mem hb).1;rw[e]at this;cases this
theorem Inv.bs (I:Inv X pins σ H s):∀b o,X.base.get? b=some o->s.heap.get? b=some o/\H b=none:=fun b o e =>
 ⟨I.base.keep b o (I.ok.bs b o e).1 (I.ok.bs b o e).2 (I.ok.nofr e) (I.ok.noex b o e),I.base.free b o (I.ok.bs b o e).1 (I.ok.bs b o e).2 (I.ok.noex b o e)⟩
theorem Inv.bk (I:Inv X pins σ H s):∀b o,X.base.get? b=some o->s.heap.get? b=some o:=fun b o e=>(I.bs b o e).1
theorem Inv.mod (I:Inv X pins σ H s):Mod X.K X.mg X.base:=I.ok.mod
theorem Inv.kIn (I:Inv X pins σ H s):X.K.In s.heap:=I.ok.mod.kin.keeps I.bk
theorem Inv.lt (I:Inv X pins σ H s):X.env.locals<s.heap.objs.size:=let ⟨_,hn,_⟩:=I.loc;hn.lt
theorem Inv.sz (I:Inv X pins σ H s):X.s₀.heap.objs.size<=s.heap.objs.size:=Nat.le_trans I.ok.above (Nat.le_of_lt I.lt)
theorem Inv.nofs (I:Inv X pins σ H s){a:Addr}(h:s.heap.objs.size<=a):a∉X.fs:=fun hb=>by
 obtain⟨_,o,ho,_⟩:=I.ok.funs.mem hb;exact absurd (Nat.lt_of_lt_of_le (Heap.lt_size ho) (Nat.le_trans I.sz h)) (Nat.lt_irrefl _)
theorem Inv.cne (I:Inv X pins σ H s):∀x c,X.env.cells.lookup x=some c->c≠X.env.locals:=fun x c e z=>by
 obtain⟨v,o,ho,hd⟩:=I.cell x c e;obtain⟨m,⟨o',es,ep,ho',hd',_⟩,_⟩:=I.loc;rw[z,ho']at ho;cases ho;rw[hd']at hd;cases hd
theorem Inv.funs (I:Inv X pins σ H s):s.heap.FunFrames X.base X.outer:=by
 have all:∀(l:List Env),(∀b∈frs l,b∈X.fs)->X.s₀.heap.FunFrames X.base l->s.heap.FunFrames X.base l:=by
  intro l
  induction l with
  | nil=>intro _ _;trivial
  | cons env r ih =>
   intro hs hl;obtain⟨hk,⟨L,o,hf,hn,ho,hd⟩,hr⟩:=hl;have hL:L∈X.fs:=hs L (by unfold frs;rw[List.filterMap_cons,hf];exact List.mem_cons_self);obtain⟨sl,e⟩:=I.base.slot L o ho (I.ok.frf L hL) hL fun z=>I.ok.exfs L z hL;exact⟨hk,⟨L,_,hf,hn,e,hd⟩,ih (fun b hb=>hs b (by unfold frs;rw[List.filterMap_cons,hf];exact List.mem_cons_of_mem _ hb)) hr⟩
 exact all X.outer (fun _ hb=>hb) I.ok.funs
theorem Inv.stack (I:Inv X pins σ H s):s.heap.FunFrames X.base X.stack:=by
 rcases I.ok.stk with e|⟨e,hf⟩
 ·rw[e];exact I.funs
 ·rw[e];obtain⟨m,hn,_⟩:=I.loc;refine .cons (by rw[I.ok.kind];decide) hf hn ?_ I.funs;exact Heap.get?_none_of_le (Nat.le_trans I.ok.bsz I.ok.above)
theorem Inv.stkSub (I:Inv X pins σ H s):∀b∈frs X.stack,b∈X.env.locals::X.fs:=fun b hb=>by
 rcases I.ok.stk with e|⟨e,hf⟩
 ·rw[e]at hb;exact List.mem_cons_of_mem _ hb
 ·rw[e]at hb;unfold frs at hb;rw[List.filterMap_cons,hf]at hb;exact hb
theorem Inv.stkFree (I:Inv X pins σ H s):∀b∈frs X.stack,H b=none:=fun b hb=>by
 rcases List.mem_cons.mp (I.stkSub b hb) with e|hb
 ·rw[e];exact I.free
 ·obtain⟨_,o,ho,_⟩:=I.ok.funs.mem hb;exact I.base.free b o ho (I.ok.frf b hb) fun z=>I.ok.exfs b z hb
theorem Inv.step {g':Array GenState}{t':Nat}{d':Drawn}{ch:List Addr} (I:Inv X pins σ H s)
  (hch:∀b∈ch,(b∈X.ex∨X.s₀.heap.objs.size<=b)/\b≠X.env.locals/\(∀x c,X.env.cells.lookup x=some c->c≠b)/\∀p∈X.pn++pins,p.1≠b)
  (keep:∀b o,b≠X.env.locals->b∉X.fs->b∉ch->s.heap.get? b=some o->H b=none->h'.get? b=some o)
  (slot:∀b o,b≠X.env.locals->b∈X.fs->b∉ch->s.heap.get? b=some o->H b=none->∃sl,h'.get? b=some { o with slots:=sl })(free:∀b o,b∉ch->s.heap.get? b=some o->H b=none->H' b=none)
  (there:∀b o,b∉ch->s.heap.get? b=some o->∃o',h'.get? b=some o')
  (tups:∀b xs,H b=some (.tup xs)->H' b=some (.tup xs))(frzs:∀b o u,H b=some (.frz o u)->H' b=some (.frz o u))(tbls:∀b ps,H b=some (.tbl ps)->∃more,H' b=some (.tbl (ps++more)))
  (ns:∀m,s.heap.Ns X.env.locals m->h'.Ns X.env.locals m)(hok:HOk X.prog X.w H' h')(hg:AllBare g') :
  Inv X pins σ H' { s with heap:=h',gens:=g',drawn:=d',toks:=t' }:=by
 have neL:∀b o,X.s₀.heap.get? b=some o->b≠X.env.locals:=fun b o e=>Nat.ne_of_lt (Nat.lt_of_lt_of_le (Heap.lt_size e) I.ok.above);have neC:∀b o,X.s₀.heap.get? b=some o->b∉X.ex->b∉ch:=fun b o e hx hb=>by
  rcases (hch b hb).1 with z|z
  ·exact hx z
  ·exact absurd (Nat.lt_of_lt_of_le (Heap.lt_size e) z) (Nat.lt_irrefl _)
 have cellK:∀x c,X.env.cells.lookup x=some c->∀v,s.heap.IsCell c v->h'.IsCell c v:=fun x c e v ⟨o,ho,hd⟩=>by
  have nch:c∉ch:=fun z=>(hch c z).2.2.1 x c e rfl
  by_cases hc:c∈X.fs
  ·obtain⟨sl,q⟩:=slot c o (I.cne x c e) hc nch ho (I.freeC x c e);exact⟨_,q,hd⟩
  ·exact⟨o,keep c o (I.cne x c e) hc nch ho (I.freeC x c e),hd⟩
 refine⟨I.ok,I.os,hg,⟨fun b o e n hb hx=> ?_,fun b o e n hb hx=> ?_,fun b o e n hx=> ?_,fun b o e hx=> ?_,fun b xs e=>tups b xs (I.base.tups b xs e),fun b o xs e=>frzs b o xs (I.base.frzs b o xs e),fun b ps e=> ?_⟩,?_,fun x c e=> ?_,?_,fun x c e=> ?_,fun p hp=> ?_,hok,I.len⟩
 ·exact keep b o (neL b o e) hb (neC b o e hx) (I.base.keep b o e n hb hx) (I.base.free b o e n hx)
 ·obtain⟨sl,e1⟩:=I.base.slot b o e n hb hx;obtain⟨sl',e2⟩:=slot b _ (neL b o e) hb (neC b o e hx) e1 (I.base.free b o e n hx);exact⟨sl',e2⟩
 ·obtain⟨o',e1⟩:=I.base.there b o e hx;exact free b o' (neC b o e hx) e1 (I.base.free b o e n hx)
 ·obtain⟨o',e1⟩:=I.base.there b o e hx;exact there b o' (neC b o e hx) e1
 ·obtain⟨m1,e1⟩:=I.base.tbls b ps e;obtain⟨m2,e2⟩:=tbls b _ e1;exact⟨m1++m2,by rw[e2,Array.append_assoc]⟩
 ·obtain⟨m,hn,hl⟩:=I.loc;refine⟨m,ns m hn,fun i x v e1 e2 e3=> ?_⟩;obtain⟨u,r,l⟩:=hl i x v e1 e2 e3;refine⟨u,r,?_⟩;rcases l with l|⟨k,c,e,z⟩
  ·exact .inl l
  ·exact .inr ⟨k,c,e,cellK x c e _ z⟩
 ·obtain⟨v,z⟩:=I.cell x c e;exact⟨v,cellK x c e v z⟩
 ·obtain⟨m,⟨o,_,_,ho,_⟩,_⟩:=I.loc;exact free _ o (fun z=>(hch _ z).2.1 rfl) ho I.free
 ·obtain⟨v,o,ho,hd⟩:=I.cell x c e;exact free c o (fun z=>(hch c z).2.2.1 x c e rfl) ho (I.freeC x c e)
 ·obtain⟨e,n,ne,nf,d⟩:=I.pin p hp;have nch:p.1∉ch:=fun z=>(hch p.1 z).2.2.2 p hp rfl;exact⟨keep p.1 p.2 ne nf nch e n,free p.1 p.2 nch e n,ne,nf,d⟩
theorem Inv.un {t':Nat}(I:Inv X pins σ H s)(u:Un X.fs [] H H' s.heap h')(hok:HOk X.prog X.w H' h'):Inv X pins σ H' { s with heap:=h',toks:=t' }:=by
 obtain⟨m,⟨o,es,ep,ho,r⟩,_⟩:=id I.loc;obtain⟨sl,hL⟩:=u.any ho I.free (by simp);exact I.step (g':=s.gens) (d':=s.drawn) (ch:=[]) (fun _ z=>nomatch z) (fun b o _ hb _ e n=>u.keep b o e n hb (by simp)) (fun b o _ hb _ e n=>u.slot b o e n hb (by simp)) (fun b o _ e n=>u.free b o e n (by simp)) (fun b o _ e=>u.there b o e (by simp)) u.tups u.frzs u.tbls (fun m' hm=>by
  obtain⟨o',es',ep',ho',r'⟩:=hm;rw[ho]at ho';cases ho';exact⟨_,es',ep',hL,r'⟩) hok I.bare
theorem Inv.call {g':Array GenState}{t':Nat}{d':Drawn}{ch:List Addr} (I:Inv X pins σ H s) (u:Un (frs X.stack) ch H H' s.heap h') (hok:HOk X.prog X.w H' h') (hg:AllBare g')
  (hch:∀b∈ch,(b∈X.ex∨X.s₀.heap.objs.size<=b)/\b≠X.env.locals/\(∀x c,X.env.cells.lookup x=some c->c≠b)/\∀p∈X.pn++pins,p.1≠b) :
  Inv X pins σ H' { s with heap:=h',gens:=g',drawn:=d',toks:=t' }:=by
 obtain⟨m,⟨o,es,ep,ho,r⟩,_⟩:=id I.loc;obtain⟨sl,hL⟩:=u.any ho I.free fun z=>(hch _ z).2.1 rfl;exact I.step (ch:=ch) hch (fun b o hL hb hc e n=>u.keep b o e n (fun z=>(List.mem_cons.mp (I.stkSub b z)).elim hL hb) hc) (fun b o _ _ hc e n=>u.any e n hc) (fun b o hc e n=>u.free b o e n hc) (fun b o hc e=>u.there b o e hc) u.tups u.frzs u.tbls (fun m' hm=>by
  obtain⟨o',es',ep',ho',r'⟩:=hm;rw[ho]at ho';cases ho';exact⟨_,es',ep',hL,r'⟩) hok hg
theorem Inv.turned {t':Nat}{it:Addr} (I:Inv X pins σ H s) (k:∀b o,b≠it->s.heap.get? b=some o->h'.get? b=some o) (hn:H it=none) (hL:it≠X.env.locals)
  (h1:it∈X.ex∨X.s₀.heap.objs.size<=it)(h2:∀x c,X.env.cells.lookup x=some c->c≠it)(h3:∀p∈X.pn++pins,p.1≠it):Inv X pins σ H { s with heap:=h',toks:=t' }:=by
 have nit:∀b u,H b=some u->b≠it:=fun b u e z=>by rw[z,hn]at e;cases e
 refine I.step (g':=s.gens) (d':=s.drawn) (ch:=[it]) (fun b hb=> ?_) (fun b o _ _ hc e _=>k b o (fun z=>hc (by simp[z])) e) (fun b o _ _ hc e _=>⟨o.slots,k b o (fun z=>hc (by simp[z])) e⟩) (fun _ _ _ _ n=>n)
  (fun b o hc e=>⟨o,k b o (fun z=>hc (by simp[z])) e⟩) (fun _ _ e=>e) (fun _ _ _ e=>e) (fun b ps e=>⟨#[],by rw[e];simp⟩) (fun m hm=> ?_) (fun b u e=> ?_) I.bare
 ·have e:b=it:=by simpa using hb
  subst e;exact⟨h1,hL,h2,h3⟩
 ·obtain⟨o,es,ep,ho,r⟩:=hm;exact⟨o,es,ep,k _ o (Ne.symm hL) ho,r⟩
 ·refine(I.hok b u e).stay (fun c v hc q=>k c v ?_ q) (fun _ q=>q) fun _ _ q=>q;rcases hc with z|z
  ·rw[z];exact nit b u e
  ·exact nit c _ z
theorem Inv.tok (I:Inv X pins σ H s)(t:Nat):Inv X pins σ H { s with toks:=t }:=I.un (h':=s.heap) (t':=t) Un.refl I.hok
theorem Inv.kept {t':Nat}(I:Inv X pins σ H s)(k:∀b u,s.heap.get? b=some u->h'.get? b=some u):Inv X pins σ H { s with heap:=h',toks:=t' }:=I.un (Un.kept k) (I.hok.kept k)
theorem Inv.laid {a:Addr}{o:HO}{t':Nat} (I:Inv X pins σ H s) (k:∀b u,s.heap.get? b=some u->h'.get? b=some u) (hp:s.heap.objs.size<=a) (new:ObjOk X.prog X.w (upd H a o) h' a o) :
  Inv X pins σ (upd H a o) { s with heap:=h',toks:=t' }:=I.un (Un.laid k hp (I.hok.fresh hp)) (I.hok.laid k hp new)
theorem Inv.write {x e:Addr}{o:HO}{t':Nat} (I:Inv X pins σ H s) (mu:Mut (H x)) (he:e=x∨H e=some (.own x)) (k:∀b u,b≠e->s.heap.get? b=some u->h'.get? b=some u) (heo:∃u,h'.get? e=some u)
  (new:ObjOk X.prog X.w (upd H x o) h' x o):Inv X pins σ (upd H x o) { s with heap:=h',toks:=t' }:=I.un (Un.write mu he k heo) (I.hok.write mu he k heo new)
theorem Inv.weak {σ':List (Option V)}(I:Inv X pins σ H s)(hl:σ'.length=σ.length)(w:∀(i:Nat) v,σ'[i]? =some (some v)->σ[i]? =some (some v)):Inv X pins σ' H s :=
 ⟨I.ok,I.os,I.bare,I.base,let ⟨m,hn,hl'⟩:=I.loc;⟨m,hn,fun i x v e1 e2 e3=>hl' i x v e1 (w i v e2) e3⟩,I.cell,I.free,I.freeC,I.pin,I.hok,hl.trans I.len⟩
theorem Inv.pins_of {pins':List (Addr×Obj)}(I:Inv X pins σ H s)(h:∀p∈pins',s.heap.get? p.1=some p.2/\H p.1=none/\p.1≠X.env.locals/\p.1∉X.fs/\∀v,p.2.data≠ .cell v):Inv X pins' σ H s :=
 ⟨I.ok,I.os,I.bare,I.base,I.loc,I.cell,I.free,I.freeC,fun p hp=>(List.mem_append.mp hp).elim (fun z=>I.pin p (List.mem_append_left _ z)) (h p),I.hok,I.len⟩
theorem qW {N:List Str}(hN:N.Nodup){i j:Nat}{x:Str} (a:N[i]? =some x) (b:N[j]? =some x):i=j:=by
 obtain⟨h1,e1⟩:=List.getElem?_eq_some_iff.mp a;obtain⟨h2,e2⟩:=List.getElem?_eq_some_iff.mp b;exact(List.getElem_inj hN).mp (e1.trans e2.symm)
theorem EX {M:Model}{A:Around}{E:Value->Shared->Prop}{i:Nat}{x:Str}{v:V}{u:Value}{Q:Unit->Shared->Prop} (I:Inv X pins σ H s) (hN:X.N.Nodup) (hi:X.N[i]? =some x) (hx:Loc X.env.scope x) (r:RelV v u)
  (h:∀s',Inv X pins (σ.set i (some v)) H s'->(∃a,Heap.SameBut a s.heap s'.heap/\(a=X.env.locals∨X.env.cells.lookup x=some a))->Q () s')(hf:X.fn x=true∨X.env.scope.names.lookup x=some .local:=by first|exact .inl rfl|exact .inr rfl|assumption):wpAny M A (storeName X.env x u) Q E s:=by
 obtain⟨m,hn,hl⟩:=id I.loc;have hcls:(X.env.scope.kind== .class||(X.env.scope.kind== .module&&X.env.locals !=X.env.globals))=false:=by rw[I.ok.kind];rfl
 have hiσ:i<σ.length:=by rw[I.len];exact(List.getElem?_eq_some_iff.mp hi).1
 have cne:=I.cne;have tracked:∀{a:Addr}{h':Heap},(∃o,s.heap.get? a=some o/\H a=none)->Heap.SameBut a s.heap h'->HOk X.prog X.w H h':=fun {a h'} ha hs b ob e=>by
  obtain⟨_,_,hfree⟩:=ha;refine(I.hok b ob e).stay (fun c w' hc q=>(hs.2 c ?_).trans q) (fun _ q=>q) fun _ _ q=>q;rintro rfl;rcases hc with rfl|hc
  ·rw[hfree]at e;cases e
  ·rw[hfree]at hc;cases hc
 rcases hx with hk|hk
 ·refine wpAny_storeName_local hk hn (fun h' hn' hs=> ?_) hcls;obtain⟨oL,_,_,hoL,_⟩:=id hn;refine h _ ⟨I.ok,I.os,I.bare,⟨fun b o e n hb hx=> ?_,fun b o e n hb hx=> ?_,I.base.free,fun b o e hx=> ?_,I.base.tups,I.base.frzs,I.base.tbls⟩,⟨_,hn',fun j y v' e1 e2 e3=> ?_⟩,fun y c e=> ?_,I.free,I.freeC,fun p hp=> ?_,tracked ⟨oL,hoL,I.free⟩ hs,by simpa using I.len⟩ ⟨_,hs,.inl rfl⟩
  ·exact(hs.2 b (Nat.ne_of_lt (Nat.lt_of_lt_of_le (Heap.lt_size e) I.ok.above))).trans (I.base.keep b o e n hb hx)
  ·obtain⟨sl,e1⟩:=I.base.slot b o e n hb hx;exact⟨sl,(hs.2 b (Nat.ne_of_lt (Nat.lt_of_lt_of_le (Heap.lt_size e) I.ok.above))).trans e1⟩
  ·obtain⟨o',e1⟩:=I.base.there b o e hx;exact⟨o',(hs.2 b (Nat.ne_of_lt (Nat.lt_of_lt_of_le (Heap.lt_size e) I.ok.above))).trans e1⟩
  ·by_cases hj:j=i
   ·subst hj;rw[hi]at e1;cases e1;rw[List.getElem?_set_self hiσ]at e2;cases e2;exact⟨u,r,.inl ⟨hk,by simp⟩⟩
   ·rw[List.getElem?_set_ne (Ne.symm hj)]at e2;obtain⟨u',r',q⟩:=hl j y v' e1 e2 e3;refine⟨u',r',?_⟩;rcases q with⟨k,e⟩|⟨k,c,e,z⟩
    ·refine .inl ⟨k,?_⟩;have:y≠x:=fun e=>hj (qW hN e1 (e▸hi));simp[this,e]
    ·exact .inr ⟨k,c,e,z.sameBut hs (cne y c e)⟩
  ·obtain⟨w',z⟩:=I.cell y c e;exact⟨w',z.sameBut hs (cne y c e)⟩
  ·obtain⟨e,n,ne,nf,d⟩:=I.pin p hp;exact⟨(hs.2 p.1 ne).trans e,n,ne,nf,d⟩
 ·have hfn:X.fn x=true:=by
   rcases hf with z|z
   ·exact z
   ·rw[z]at hk;cases hk
  obtain⟨c,hc⟩:=I.ok.has x (.inl hk);obtain⟨w',z⟩:=I.cell x c hc;refine wpAny_storeName_cell I.ok.kind hk hc z (fun h' hc' hs=> ?_);obtain⟨oc,hoc,hocd⟩:=id z;refine h { s with heap:=h' } ⟨I.ok,I.os,I.bare,⟨fun b o e n hb hx=> ?_,fun b o e n hb hx=> ?_,I.base.free,fun b o e hx=> ?_,I.base.tups,I.base.frzs,I.base.tbls⟩,⟨m,hn.sameBut hs (Ne.symm (cne x c hc)),fun j y v' e1 e2 e3=> ?_⟩,fun y c' e=> ?_,I.free,I.freeC,fun p hp=> ?_,tracked ⟨oc,hoc,I.freeC x c hc⟩ hs,by simpa using I.len⟩ ⟨c,hs,.inr hc⟩
  ·exact(hs.2 b (Nat.ne_of_lt (Nat.lt_of_lt_of_le (Heap.lt_size e) (I.ok.cab x c hfn hc)))).trans (I.base.keep b o e n hb hx)
  ·obtain⟨sl,e1⟩:=I.base.slot b o e n hb hx;exact⟨sl,(hs.2 b (Nat.ne_of_lt (Nat.lt_of_lt_of_le (Heap.lt_size e) (I.ok.cab x c hfn hc)))).trans e1⟩
  ·obtain⟨o',e1⟩:=I.base.there b o e hx;exact⟨o',(hs.2 b (Nat.ne_of_lt (Nat.lt_of_lt_of_le (Heap.lt_size e) (I.ok.cab x c hfn hc)))).trans e1⟩
  ·by_cases hj:j=i
   ·subst hj;rw[hi]at e1;cases e1;rw[List.getElem?_set_self hiσ]at e2;cases e2;exact⟨u,r,.inr ⟨.inl hk,c,hc,hc'⟩⟩
   ·rw[List.getElem?_set_ne (Ne.symm hj)]at e2;obtain⟨u',r',q⟩:=hl j y v' e1 e2 e3;refine⟨u',r',?_⟩;rcases q with q|⟨k,c',e,z'⟩
    ·exact .inl q
    ·refine .inr ⟨k,c',e,z'.sameBut hs ?_⟩;rintro rfl;exact hj (qW hN e1 (I.ok.inj _ _ _ e hc▸hi))
  ·by_cases hcc:c'=c
   ·subst hcc;exact⟨_,hc'⟩
   ·obtain⟨w2,z2⟩:=I.cell y c' e;exact⟨w2,z2.sameBut hs hcc⟩
  ·obtain⟨e,n,ne,nf,d⟩:=I.pin p hp;refine⟨(hs.2 p.1 ?_).trans e,n,ne,nf,d⟩;intro q;rw[q,hoc]at e;have q':oc=p.2:=Option.some.inj e;exact d w' (by rw[←q'];exact hocd)
theorem jU {M:Model}{A:Around}{E:Value->Shared->Prop}{i:Nat}{x:Str}{v:V}{u:Value}{Q:Unit->Shared->Prop} (I:Inv X pins σ H s) (hN:X.N.Nodup) (hi:X.N[i]? =some x) (hx:Loc X.env.scope x) (r:RelV v u)
  (h:∀s',Inv X pins (σ.set i (some v)) H s'->Q () s')(hf:X.fn x=true∨X.env.scope.names.lookup x=some .local:=by first|exact .inl rfl|exact .inr rfl|assumption):wpAny M A (storeName X.env x u) Q E s :=
 EX I hN hi hx r (fun s' I' _=>h s' I') hf
theorem Inv.call' {s':Shared}{ch:List Addr} (I:Inv X pins σ H s) (ho:s'.os=s.os) (u:Un (frs X.stack) ch H H' s.heap s'.heap) (hok:HOk X.prog X.w H' s'.heap) (hg:AllBare s'.gens)
  (hch:∀b∈ch,(b∈X.ex∨X.s₀.heap.objs.size<=b)/\b≠X.env.locals/\(∀x c,X.env.cells.lookup x=some c->c≠b)/\∀p∈X.pn++pins,p.1≠b):Inv X pins σ H' s':=by
 obtain⟨h',g',d',t',o'⟩:=s';have e:o'=s.os:=ho;subst e;exact I.call (g':=g') (t':=t') (d':=d') u hok hg hch
end
abbrev XK:=Value->Option Addr->Hp->Prop
abbrev St:=List (Option V)
abbrev VK:=V->Hp->Prop
abbrev TE:=St->Hp->VK->Prop
abbrev TT:=St->Hp->(Bool->Hp->Prop)->Prop
abbrev TA:=St->Hp->(List V->Hp->Prop)->Prop
structure dU where
 nx:St->Hp->Prop
 rt:VK
 bk:St->Hp->Prop:=fun _ _=>False
 ct:St->Hp->Prop:=fun _ _=>False
abbrev TS:=dU->St->Hp->Prop
def EP (X:Cx)(pins:List (Addr×Obj))(σ:St)(Q:VK)(u:Value)(s':Shared):Prop:=∃v H',Inv X pins σ H' s'/\RelV v u/\Q v H'
def TP (X:Cx)(pins:List (Addr×Obj))(σ:St)(Q:Bool->Hp->Prop)(b:Bool)(s':Shared):Prop:=∃H',Inv X pins σ H' s'/\Q b H'
def AP (X:Cx)(pins:List (Addr×Obj))(σ:St)(Q:List V->Hp->Prop)(us:List Value)(s':Shared):Prop:=∃vs H',Inv X pins σ H' s'/\Vals vs us/\Q vs H'
def SP (X:Cx)(pins:List (Addr×Obj))(D:dU)(f:Flow)(s':Shared):Prop :=
 match f with
 | .next=>∃σ' H',Inv X pins σ' H' s'/\D.nx σ' H'
 | .brk=>∃σ' H',Inv X pins σ' H' s'/\D.bk σ' H'
 | .cont=>∃σ' H',Inv X pins σ' H' s'/\D.ct σ' H'
 | .ret u=>∃v σ' H',Inv X pins σ' H' s'/\RelV v u/\D.rt v H'
def PE (X:Cx)(e:Expr)(t:TE):Prop :=
 ∀(pins:List (Addr×Obj)) (s:Shared) (σ:St) (H:Hp) (Q:VK),Inv X pins σ H s->t σ H Q->wpAny (model X.prog X.w) X.A (eval e X.env) (EP X pins σ Q) X.xe s
def PT (X:Cx)(e:Expr)(t:TT):Prop :=
 ∀(pins:List (Addr×Obj)) (s:Shared) (σ:St) (H:Hp) (Q:Bool->Hp->Prop),Inv X pins σ H s->t σ H Q->wpAny (model X.prog X.w) X.A (isTrue e X.env (eval e X.env)) (TP X pins σ Q) X.xe s
def PW (X:Cx)(e:Expr)(t:TT):Prop :=
 ∀(whole:Sem Value) (pins:List (Addr×Obj)) (s:Shared) (σ:St) (H:Hp) (Q:Bool->Hp->Prop),Inv X pins σ H s->t σ H Q->wpAny (model X.prog X.w) X.A (isTrue e X.env whole) (TP X pins σ Q) X.xe s
theorem PW.pt {X:Cx}{e:Expr}{t:TT} (h:PW X e t):PT X e t:=h _
def PA (X:Cx)(es:List Expr)(t:TA):Prop :=
 ∀(pos:Pos) (pins:List (Addr×Obj)) (s:Shared) (σ:St) (H:Hp) (Q:List V->Hp->Prop),Inv X pins σ H s->t σ H Q->wpAny (model X.prog X.w) X.A (spliced (backTo pos (starEach es X.env))) (AP X pins σ Q) X.xe s
def PS (X:Cx)(st:Stmt)(t:TS):Prop :=
 ∀(pins:List (Addr×Obj)) (s:Shared) (σ:St) (H:Hp) (D:dU),Inv X pins σ H s->t D σ H->wpAny (model X.prog X.w) X.A (exec st X.env) (SP X pins D) X.xe s
def PSs (X:Cx)(st:List Stmt)(t:TS):Prop :=
 ∀(pins:List (Addr×Obj)) (s:Shared) (σ:St) (H:Hp) (D:dU),Inv X pins σ H s->t D σ H->wpAny (model X.prog X.w) X.A (execs st X.env) (SP X pins D) X.xe s
theorem thn {α:Type}{t:Sem α}{Q Q':α->Shared->Prop}{M:Model}{A:Around}{E:Value->Shared->Prop}{s:Shared} (h:wpAny M A t Q E s) (hQ:∀a s,Q a s->Q' a s):wpAny M A t Q' E s:=wpAny_mono h hQ fun _ _ x=>x
end L2
namespace L2
open PySem PySem.Spec PyProof.Rows
section
variable {X:Cx}
def fK (i:Nat):TE:=fun σ H Q=>∃v,σ[i]? =some (some v)/\Q v H
def tC (v:V):TE:=fun _ H Q=>Q v H
theorem ML {i:Nat}{x:Str}{pos:Pos} (hN:X.N[i]? =some x) (hv:Vis X.env.scope x) (hd:(x==("__debug__" :Str))=false:=by decide) (hcd:(x==("__classdict__" :Str))=false:=by decide):PE X (.Name x pos) (fK i):=by
 intro pins s σ H Q I h;obtain⟨v,e,h⟩:=h;obtain⟨m,hn,hl⟩:=I.loc;obtain⟨u,r,l⟩:=hl i x v hN e hv;have fin:EP X pins σ Q u s:=⟨v,H,I,r,h⟩
 rcases l with⟨hk,hm⟩|⟨hk,c,hc,hcell⟩
 ·exact wpAny_Name (wpAny_loadName_local I.ok.kind hk hn hm fin) hd
 ·rcases hk with hk|hk
  ·exact wpAny_Name (wpAny_loadName_cell I.ok.kind hk hc hcell fin) hd
  ·exact wpAny_Name (wpAny_loadName_free I.ok.kind hk hc hcell fin hcd) hd
theorem aJ {i j pos}:PE X (.Constant (.int i) j pos) (tC (.int i)):=fun _ _ _ H _ I h=>wpAny_Constant_int ⟨.int i,H,I.tok _,⟨_,rfl⟩,h⟩
theorem j2 {b j pos}:PE X (.Constant (.bool b) j pos) (tC (.bl b)):=fun _ _ _ H _ I h=>Constant_bool ⟨.bl b,H,I,rfl,h⟩
theorem sJ {j pos}:PE X (.Constant .none j pos) (tC .non):=fun _ _ _ H _ I h=>Constant_none ⟨.non,H,I,rfl,h⟩
theorem bL {x j pos}:PE X (.Constant (.str x) j pos) (tC (.str x)):=fun _ _ _ H _ I h=>Calls.Constant_str ⟨.str x,H,I.tok _,⟨_,rfl⟩,h⟩
def Gl (X:Cx)(x:Str):Prop:=X.env.kindOf x=some .globalImplicit
theorem kQ {E:Value->Shared->Prop}{pins:List (Addr×Obj)}{s:Shared}{σ:St}{H:Hp}{x:Str}{u:Value}{pos:Pos}{Q:Value->Shared->Prop} (I:Inv X pins σ H s) (hg:Gl X x) (hm:X.mg x=some u) (h:Q u s)
  (hd:(x==("__debug__" :Str))=false:=by decide):wpAny (model X.prog X.w) X.A (eval (.Name x pos) X.env) Q E s :=
 Calls.Name_function_global I.ok.kind hg (Calls.loadGlobal_global (by rw[I.ok.glob];exact I.mod.glob.keeps I.bk) hm h) hd
theorem k7 {E:Value->Shared->Prop}{pins:List (Addr×Obj)}{s:Shared}{σ:St}{H:Hp}{x:Str}{u:Value}{pos:Pos}{Q:Value->Shared->Prop} (I:Inv X pins σ H s) (hg:Gl X x) (hm:X.mg x=none) (hv:bootBuiltins x=some u) (h:Q u s)
  (hn:x≠ "__name__" :=by decide)(hd:(x==("__debug__" :Str))=false:=by decide):wpAny (model X.prog X.w) X.A (eval (.Name x pos) X.env) Q E s:=by
 obtain⟨mb,h1,h2⟩:=I.mod.blt;exact Calls.Name_function_global I.ok.kind hg (Calls.loadGlobal_builtin (by rw[I.ok.glob];exact I.mod.glob.keeps I.bk) hm (by rw[I.ok.blt];exact h1.keeps I.bk) ((h2 x hn).trans hv) h) hd
theorem AH {x:Str}{v:V}{u:Value}{pos:Pos} (hg:Gl X x) (hm:X.mg x=some u) (r:RelV v u) (hd:(x==("__debug__" :Str))=false:=by decide):PE X (.Name x pos) (tC v) :=
 fun _ _ _ H _ I h=>kQ I hg hm ⟨v,H,I,r,h⟩ hd
theorem JZ {x:Str}{v:V}{u:Value}{pos:Pos} (hg:Gl X x) (hm:X.mg x=none) (hv:bootBuiltins x=some u) (r:RelV v u) (hn:x≠ "__name__" :=by decide) (hd:(x==("__debug__" :Str))=false:=by decide):PE X (.Name x pos) (tC v) :=
 fun _ _ _ H _ I h=>k7 I hg hm hv ⟨v,H,I,r,h⟩ hn hd
variable {a b:Expr}{ta tb:TE}{pos:Pos}
def PC (X:Cx)(op:CmpOp)(a b:Expr)(t:TE):Prop :=
 ∀(pins:List (Addr×Obj)) (s:Shared) (σ:St) (H:Hp) (Q:VK),Inv X pins σ H s->t σ H Q →
  wpAny (model X.prog X.w) X.A (eval a X.env) (fun v s₁=>wpAny (model X.prog X.w) X.A (eval b X.env) (fun u s₂=>wpAny (model X.prog X.w) X.A (compareOp op v u) (EP X pins σ Q) X.xe s₂) X.xe s₁) X.xe s
def tB (t:TE):TT:=fun σ H Q=>t σ H fun x H1=>∃c,x= .bl c/\Q c H1
theorem m9 {op:CmpOp}{t:TE} (h:PC X op a b t) (h1:behindInMarks op b=false:=by first|exact nobehind _ (by decide) (by decide)|rfl):PT X (.Compare a [op] [b] pos) (tB t):=by
 intro pins s σ H Q I hw;refine wpAny_isTrue_Compare1 (thn (h pins s σ H _ I hw) fun v s1 h1=>thn h1 fun u s2 h2=>thn h2 fun c s3 ⟨x,H1,I1,r1,q1⟩=> ?_) h1;obtain⟨d,rfl,q⟩:=q1;cases r1;exact wpAny_truthy_bool ⟨H1,I1,q⟩
theorem jS {e:Expr}{t:TE} (h:PE X e t) (he:∀whole,isTrue e X.env whole=(do let v ←whole;standAt e.pos;holding [v] (truthy v)):=by intro _;rfl):PT X e (tB t):=by
 intro pins s σ H Q I hw;refine isTrue_plain (thn (h pins s σ H _ I hw) fun v s1 ⟨x,H1,I1,r1,q1⟩=> ?_) (he _);obtain⟨d,rfl,q⟩:=q1;cases r1;exact wpAny_truthy_bool ⟨H1,I1,q⟩
variable {tA tB':TT}{rest:List Expr}
def MW (t u:TT):TT:=fun σ H Q=>t σ H fun c H1=>if c=true then u σ H1 Q else Q false H1
def tOr (t u:TT):TT:=fun σ H Q=>t σ H fun c H1=>if c=true then Q true H1 else u σ H1 Q
def OQ (t:TT):TT:=fun σ H Q=>t σ H fun c H1=>Q (!c) H1
theorem KA (ha:PT X a tA):PW X (.BoolOp .And [a] pos) tA:=by
 intro wh pins s σ H Q I h;refine isTrue_and (thn (ha pins s σ H Q I h) fun c s1 e=> ?_);cases c with
 | true=>exact isTrue_and_nil e
 | false=>exact e
theorem yH (ha:PT X a tA):PW X (.BoolOp .Or [a] pos) tA:=by
 intro wh pins s σ H Q I h;refine isTrue_or (thn (ha pins s σ H Q I h) fun c s1 e=> ?_);cases c with
 | false=>exact isTrue_or_nil e
 | true=>exact e
theorem MI (ha:PT X a tA)(hb:PW X (.BoolOp .And (b::rest) pos) tB'):PW X (.BoolOp .And (a::b::rest) pos) (MW tA tB'):=by
 intro wh pins s σ H Q I h;refine isTrue_and (thn (ha pins s σ H _ I h) fun c s1 ⟨H1,I1,q1⟩=> ?_);cases c with
 | true=>exact hb wh pins s1 σ H1 Q I1 q1
 | false=>exact⟨H1,I1,q1⟩
theorem A8 (ha:PT X a tA)(hb:PW X (.BoolOp .Or (b::rest) pos) tB'):PW X (.BoolOp .Or (a::b::rest) pos) (tOr tA tB'):=by
 intro wh pins s σ H Q I h;refine isTrue_or (thn (ha pins s σ H _ I h) fun c s1 ⟨H1,I1,q1⟩=> ?_);cases c with
 | true=>exact⟨H1,I1,q1⟩
 | false=>exact hb wh pins s1 σ H1 Q I1 q1
theorem mO (ha:PT X a tA):PT X (.UnaryOp .Not a pos) (OQ tA):=by
 intro pins s σ H Q I h;exact isTrue_not (ha pins s σ H (fun c H1=>Q (!c) H1) I h)
def ID (ta tb:TE):TE:=fun σ H Q=>ta σ H fun x H1=>∃c,x= .bl c/\if c=true then tb σ H1 Q else Q (.bl false) H1
def NI (ta tb:TE):TE:=fun σ H Q=>ta σ H fun x H1=>∃c,x= .bl c/\if c=true then Q (.bl true) H1 else tb σ H1 Q
def HQ (ta:TE):TE:=fun σ H Q=>ta σ H fun x H1=>∃c,x= .bl c/\Q (.bl (!c)) H1
theorem rF {op}{t:TE} (h:PE X a t):PE X (.BoolOp op [a] pos) t:=fun pins s σ H Q I hw=>BoolOp_one (h pins s σ H Q I hw)
theorem xJ (ha:PE X a ta)(hb:PE X (.BoolOp .And (b::rest) pos) tb):PE X (.BoolOp .And (a::b::rest) pos) (ID ta tb):=by
 intro pins s σ H Q I h;refine BoolOp_and (thn (ha pins s σ H _ I h) fun v s1 ⟨x,H1,I1,r1,q1⟩=> ?_);obtain⟨c,rfl,q1⟩:=q1;cases r1;refine wpAny_truthy_bool ?_;cases c with
 | true=>exact hb pins s1 σ H1 Q I1 q1
 | false=>exact⟨.bl false,H1,I1,rfl,q1⟩
theorem P1 (ha:PE X a ta)(hb:PE X (.BoolOp .Or (b::rest) pos) tb):PE X (.BoolOp .Or (a::b::rest) pos) (NI ta tb):=by
 intro pins s σ H Q I h;refine BoolOp_or (thn (ha pins s σ H _ I h) fun v s1 ⟨x,H1,I1,r1,q1⟩=> ?_);obtain⟨c,rfl,q1⟩:=q1;cases r1;refine wpAny_truthy_bool ?_;cases c with
 | false=>exact hb pins s1 σ H1 Q I1 q1
 | true=>exact⟨.bl true,H1,I1,rfl,q1⟩
theorem DM (ha:PE X a ta):PE X (.UnaryOp .Not a pos) (HQ ta):=by
 intro pins s σ H Q I h;refine UnaryOp_ (thn (ha pins s σ H _ I h) fun v s1 ⟨x,H1,I1,r1,q1⟩=> ?_);obtain⟨c,rfl,q1⟩:=q1;cases r1;exact not_of (wpAny_truthy_bool ⟨.bl (!c),H1,I1,rfl,q1⟩)
end
end L2
namespace L2
open PySem PySem.Spec PyProof.Rows
def SqL (K:PySem.W.Frag)(H:Hp)(a:Addr)(xs:List V):Prop :=
 Rd H a (.lst xs) ∨
  ∃(o:Obj) (its:Array Value) (n:Nat),K.lookup a=some o/\o.cls= .type "list" /\o.dict=none/\o.data= .seq its n/\its.size<=sizeLine/\Vals xs its.toList
def SqT (K:PySem.W.Frag)(H:Hp)(a:Addr)(xs:List V):Prop :=
 Rd H a (.tup xs) ∨
  ∃(o:Obj) (its:Array Value) (n:Nat),K.lookup a=some o/\o.cls= .type "tuple" /\o.data= .seq its n/\its.size<=sizeLine/\Vals xs its.toList
def Q5:Value->Option V
 | .none=>some .non
 | .bool b=>some (.bl b)
 | .int i _=>some (.int i)
 | .str x _=>some (.str x)
 | .bytes b _=>some (.byt b)
 | .float b _=>some (.flt b)
 | .ref a=>some (.ref a)
 | .type n=>some (.ty n)
 | _=>none
theorem RelV.abs {x:V}{u:Value} (r:RelV x u):Q5 u=some x:=by
 cases x with
 | non=>cases r;rfl
 | bl _=>cases r;rfl
 | int _=>obtain⟨t,rfl⟩:=r;rfl
 | str _=>obtain⟨t,rfl⟩:=r;rfl
 | byt _=>obtain⟨t,rfl⟩:=r;rfl
 | flt _=>obtain⟨t,rfl⟩:=r;rfl
 | ref _=>cases r;rfl
 | ty _=>cases r;rfl
theorem RelV.inj {x y:V}{u:Value} (r:RelV x u) (q:RelV y u):x=y:=Option.some.inj (r.abs.symm.trans q.abs)
theorem Vals.inj:∀{xs ys:List V}{us:List Value},Vals xs us->Vals ys us->xs=ys
 | _,_,_,.nil,.nil=>rfl
 | _,_,_,.cons r t,.cons r' t'=>by rw[r.inj r',Vals.inj t t']
section
variable {X:Cx}{pins:List (Addr×Obj)}{σ:St}{H:Hp}{s:Shared}{a:Addr}{xs ys:List V}
theorem SqL.of {K:PySem.W.Frag}(h:H a=some (.lst xs)):SqL K H a xs:= .inl (.inl h)
theorem SqT.of {K:PySem.W.Frag}(h:H a=some (.tup xs)):SqT K H a xs:= .inl (.inl h)
theorem Inv.list (I:Inv X pins σ H s)(h:SqL X.K H a xs):∃its:List Value,Vals xs its/\PlainL s.heap a its.toArray/\xs.length<=sizeLine:=by
 rcases h with h|⟨o,its,n,hk,hc,hd,hs,hz,r⟩
 ·obtain⟨z,its,n,r,e⟩:=h.ok I.hok;exact⟨its,r,⟨_,n,e,rfl,rfl,rfl⟩,z⟩
 ·refine⟨its.toList,r,⟨o,n,I.kIn a o hk,hc,hd,by simpa using hs⟩,?_⟩;have e:=r.length;simp only[Array.length_toList]at e
  lia
theorem Inv.tuple (I:Inv X pins σ H s)(h:SqT X.K H a xs):∃its:List Value,Vals xs its/\IsTup s.heap a its.toArray/\xs.length<=sizeLine:=by
 rcases h with h|⟨o,its,n,hk,hc,hs,hz,r⟩
 ·obtain⟨z,its,r,p⟩:=h.ok I.hok;exact⟨its,r,p,z⟩
 ·refine⟨its.toList,r,⟨o,I.kIn a o hk,hc,n,by simpa using hs⟩,?_⟩;have e:=r.length;simp only[Array.length_toList]at e
  lia
theorem Inv.list_inj (I:Inv X pins σ H s)(h:SqL X.K H a xs)(h':SqL X.K H a ys):xs=ys:=by
 obtain⟨its,r,⟨o,n,e,_,_,d⟩,_⟩:=I.list h;obtain⟨its',r',⟨o',n',e',_,_,d'⟩,_⟩:=I.list h';rw[e]at e';cases e';rw[d]at d';injection d' with d1 _;have:its=its':=by simpa using congrArg Array.toList d1
 subst this;exact r.inj r'
end
abbrev Cx.wish (X:Cx)(E:Value->Shared->Prop):Cx:={ X with xe:=E }
abbrev Cx.nox (X:Cx):Cx:=X.wish fun _ _=>False
theorem Cx.Ok.wish {X:Cx}(ok:X.Ok)(E:Value->Shared->Prop):(X.wish E).Ok :=
 ⟨ok.mod,ok.kind,ok.glob,ok.blt,ok.above,ok.inj,ok.has,ok.cab,ok.hd,ok.frames,ok.stk,ok.exf,ok.bs,ok.bsz,ok.noex,ok.exfs,ok.funs,ok.frf⟩
theorem Cx.Ok.unwish {X:Cx}{E:Value->Shared->Prop} (ok:(X.wish E).Ok):X.Ok :=
 ⟨ok.mod,ok.kind,ok.glob,ok.blt,ok.above,ok.inj,ok.has,ok.cab,ok.hd,ok.frames,ok.stk,ok.exf,ok.bs,ok.bsz,ok.noex,ok.exfs,ok.funs,ok.frf⟩
section
variable {X:Cx}{pins:List (Addr×Obj)}{σ:St}{H:Hp}{s:Shared}{E:Value->Shared->Prop}
theorem Inv.wish (I:Inv X pins σ H s)(E:Value->Shared->Prop):Inv (X.wish E) pins σ H s:=⟨I.ok.wish E,I.os,I.bare,I.base,I.loc,I.cell,I.free,I.freeC,I.pin,I.hok,I.len⟩
theorem Inv.unwish (I:Inv (X.wish E) pins σ H s):Inv X pins σ H s:=⟨I.ok.unwish,I.os,I.bare,I.base,I.loc,I.cell,I.free,I.freeC,I.pin,I.hok,I.len⟩
theorem SP.unwish {D:dU}{f:Flow}{s':Shared} (h:SP (X.wish E) pins D f s'):SP X pins D f s':=by
 cases f with
 | next=>obtain⟨σ',H',I,q⟩:=h;exact⟨σ',H',I.unwish,q⟩
 | brk=>obtain⟨σ',H',I,q⟩:=h;exact⟨σ',H',I.unwish,q⟩
 | cont=>obtain⟨σ',H',I,q⟩:=h;exact⟨σ',H',I.unwish,q⟩
 | ret u=>obtain⟨v,σ',H',I,r,q⟩:=h;exact⟨v,σ',H',I.unwish,r,q⟩
theorem PSs.nox {st:List Stmt}{t:TS} (h:PSs X.nox st t):PSs X st t:=fun pins s σ H D I hw =>
 wpAny_mono (h pins s σ H D (I.wish _) hw) (fun _ _ q=>q.unwish) fun _ _ z=>False.elim z
end
section
variable {X:Cx}{st:Stmt}{rest:List Stmt}{t u:TS}{e:Expr}{te:TE}{pos:Pos}
def IO:TS:=fun D σ H=>D.nx σ H
def xS (t u:TS):TS:=fun D σ H=>t { D with nx:=u D } σ H
theorem bG:PSs X [] IO:=fun _ _ σ H _ I h=>wpAny_execs_nil ⟨σ,H,I,h⟩
theorem aC (h1:PS X st t)(h2:PSs X rest u):PSs X (st::rest) (xS t u):=by
 intro pins s σ H D I h;refine wpAny_execs_cons (thn (h1 pins s σ H { D with nx:=u D } I h) fun f s1 q=> ?_);cases f with
 | next =>
  obtain⟨σ',H',I',q⟩:=q;exact h2 pins s1 σ' H' D I' q
 | ret v=>exact q
 | brk=>exact q
 | cont=>exact q
theorem aE (h1:PS X st t):PSs X [st] t:=by
 intro pins s σ H D I h;refine wpAny_execs_cons (thn (h1 pins s σ H D I h) fun f s1 q=> ?_);cases f with
 | next=>exact wpAny_execs_nil q
 | ret v=>exact q
 | brk=>exact q
 | cont=>exact q
theorem Inv.quiet {pins:List (Addr×Obj)}{σ:St}{H:Hp}{s:Shared} (I:Inv X pins σ H s):interactive X.env=false:=by simp[interactive,I.ok.kind]
def HF (te:TE):TS:=fun D σ H=>te σ H fun _ H1=>D.nx σ H1
theorem bM (he:PE X e te)(hs:swapsWith e none pos.line X.env=pure false:=by rfl):PS X (.Expr e pos) (HF te):=by
 intro pins s σ H D I h;exact wpAny_Expr_any (thn (he pins s σ H _ I h) fun v s1 ⟨x,H1,I1,r1,q1⟩=>⟨σ,H1,I1,q1⟩) I.quiet hs
def NP (te:TE):TS:=fun D σ H=>te σ H D.rt
theorem bA (he:PE X e te):PS X (.Return (some e) pos) (NP te):=by
 intro pins s σ H D I h;exact wpAny_Return_some (thn (he pins s σ H _ I h) fun v s1 ⟨x,H1,I1,r1,q1⟩=>⟨x,σ,H1,I1,r1,q1⟩)
def xE (c:TT)(t u:TS):TS:=fun D σ H=>c σ H fun b H1=>if b=true then t D σ H1 else u D σ H1
theorem bY {c:Expr}{a b:List Stmt}{tc:TT} (hc:PT X c tc) (ha:PSs X a t) (hb:PSs X b u):PS X (.If c a b pos) (xE tc t u):=by
 intro pins s σ H D I h;refine wpAny_If (thn (hc pins s σ H _ I h) fun d s1 ⟨H1,I1,q1⟩=> ?_);cases d with
 | true=>exact ha pins s1 σ H1 D I1 q1
 | false=>exact hb pins s1 σ H1 D I1 q1
def MX:TS:=fun _ _ _=>False
theorem dI:PS X st MX:=fun _ _ _ _ _ _ h=>h.elim
end
abbrev TG:=V->St->Hp->(St->Hp->Prop)->Prop
abbrev TGs:=List V->St->Hp->(St->Hp->Prop)->Prop
def PG (X:Cx)(target:Expr)(t:TG):Prop :=
 ∀(pins:List (Addr×Obj)) (s:Shared) (σ:St) (H:Hp) (v:V) (u:Value) (Q:St->Hp->Prop),Inv X pins σ H s->RelV v u->t v σ H Q →
  wpAny (model X.prog X.w) X.A (assign target X.env u) (fun _ s'=>∃σ' H',Inv X pins σ' H' s'/\Q σ' H') X.xe s
def PGs (X:Cx)(ts:List Expr)(t:TGs):Prop :=
 ∀(pins:List (Addr×Obj)) (s:Shared) (σ:St) (H:Hp) (vs:List V) (us:List Value) (Q:St->Hp->Prop),Inv X pins σ H s->Vals vs us->t vs σ H Q →
  wpAny (model X.prog X.w) X.A (assignInOrder ((assignEach ts X.env).map (·.2)) us) (fun _ s'=>∃σ' H',Inv X pins σ' H' s'/\Q σ' H') X.xe s
section
variable {X:Cx}{pos:Pos}
def cK (i:Nat):TG:=fun v σ H Q=>Q (σ.set i (some v)) H
theorem aW {i:Nat}{x:Str} (hN:X.N.Nodup) (hi:X.N[i]? =some x) (hx:Loc X.env.scope x) (hf:X.fn x=true∨X.env.scope.names.lookup x=some .local:=by first|exact .inl rfl|exact .inr rfl|assumption):PG X (.Name x pos) (cK i):=by
 intro pins s σ H v u Q I r h;exact wpAny_assign_Name (jU I hN hi hx r (fun s' I'=>⟨_,H,I',h⟩) hf)
def AY:TGs:=fun vs σ H Q=>vs=[]/\Q σ H
def oV (t:TG)(u:TGs):TGs:=fun vs σ H Q=>∃v r,vs=v::r/\t v σ H fun σ' H'=>u r σ' H' Q
theorem fB:PGs X [] AY:=by
 intro pins s σ H vs us Q I r h;obtain⟨e,h⟩:=h;subst e;cases r;exact assignInOrder_nil ⟨σ,H,I,h⟩
theorem bT {e:Expr}{es:List Expr}{t:TG}{u:TGs} (h1:PG X e t) (h2:PGs X es u)
  (hs:(assignEach (e::es) X.env).map (·.2)=assign e X.env::(assignEach es X.env).map (·.2):=by rfl):PGs X (e::es) (oV t u):=by
 intro pins s σ H vs us Q I r h;obtain⟨v,vr,e1,h⟩:=h;subst e1;cases r with
 | cons r rr =>
  rw[hs];refine assignInOrder_cons (thn (h1 pins s σ H _ _ _ I r h) fun _ s1 ⟨σ1,H1,I1,q1⟩=> ?_);exact h2 pins s1 σ1 H1 _ _ Q I1 rr q1
def yA (K:PySem.W.Frag)(n:Nat)(t:TGs):TG:=fun v σ H Q=>∃a xs,v= .ref a/\SqT K H a xs/\xs.length=n/\t xs σ H Q
theorem yE {es:List Expr}{k:Nat}{t:TGs}{n:Nat} (hc:X.calm=true) (h:PGs X es t)
  (hn:(assignEach es X.env).length=n:=by rfl)(hst:(assignEach es X.env).findIdx? (·.1)=none:=by rfl):PG X (.Tuple es k pos) (yA X.K n t):=by
 intro pins s σ H v u Q I r hw;obtain⟨a,xs,e1,hq,hl,hw⟩:=hw;subst e1;cases r;obtain⟨its,rv,ht,hz⟩:=I.tuple hq;refine assign_Tuple_tuple (I.ok.hd hc) ht (by simp[hn,←hl,rv.length]) hst fun h' hx=> ?_;have I1:Inv X pins σ H { s with heap:=h' }:=I.kept (t':=s.toks) fun b o e=>hx b o (Nat.ne_of_lt (Heap.lt_size e)) e;exact h pins _ σ H xs _ Q I1 (by simpa using rv) hw
def GW (te:TE)(g:TG):TS:=fun D σ H=>te σ H fun x H1=>g x σ H1 D.nx
theorem bD {i:Nat}{x:Str}{e:Expr}{te:TE}{pos':Pos} (hN:X.N.Nodup) (hi:X.N[i]? =some x) (hx:Loc X.env.scope x) (he:PE X e te) (hs:swapsWith e (some (.Name x pos')) pos.line X.env=pure false:=by rfl) (hf:X.fn x=true∨X.env.scope.names.lookup x=some .local:=by first|exact .inl rfl|exact .inr rfl|assumption) :
  PS X (.Assign [.Name x pos'] e pos) (GW te (cK i)):=by
 intro pins s σ H D I h;refine wpAny_Assign_Name (thn (he pins s σ H _ I h) fun v s1 ⟨y,H1,I1,r1,q1⟩=> ?_) hs;exact jU I1 hN hi hx r1 (fun s2 I2=>⟨_,H1,I2,q1⟩) hf
def O2 (i j:Nat)(ta:TA):TS:=fun D σ H=>ta σ H fun vs H1=>∃v w,vs=[v,w]/\D.nx ((σ.set i (some v)).set j (some w)) H1
theorem CU {i j:Nat}{x y:Str}{a b:Expr}{ta:TA}{px py pt:Pos}{kt k2 pt2} (hc:X.calm=true) (hN:X.N.Nodup) (hi:X.N[i]? =some x) (hj:X.N[j]? =some y) (hij:i≠j)
  (hx:X.env.scope.names.lookup x=some .local)(hy:X.env.scope.names.lookup y=some .local)(ha:PA X [a,b] ta)
  (hw:swappedStores [.Tuple [.Name x px,.Name y py] kt pt] (.Tuple [a,b] k2 pt2) X.env=pure (some [x,y]))
  (hs:swapsWithSole [.Tuple [.Name x px,.Name y py] kt pt] (.Tuple [a,b] k2 pt2) pos.line X.env=pure false:=by rfl) :
  PS X (.Assign [.Tuple [.Name x px,.Name y py] kt pt] (.Tuple [a,b] k2 pt2) pos) (O2 i j ta):=by
 intro pins s σ H D I h;rw[exec_Assign_arm];refine wpAny_bind (wpAny_standAt ?_);rw[hs];refine wpAny_bind (wpAny_pure ?_);rw[if_neg (by decide)];refine wpAny_bind (Tuple_ (thn (ha _ pins s σ H _ I h) fun us s1 ⟨vs,H1,I1,r1,q1⟩=> ?_));obtain⟨v,w,e1,q1⟩:=q1;subst e1;obtain⟨u1,u2,rfl,rv,rw'⟩:∃u1 u2,us=[u1,u2]/\RelV v u1/\RelV w u2:=by
  cases r1 with
  | cons p q =>
   cases q with
   | cons p' q' =>
    cases q';exact⟨_,_,rfl,p,p'⟩
 refine wpAny_newObj_type ?_ (by show 2<=sizeLine;decide);have I2:Inv X pins σ H1 { s1 with heap:=s1.heap.push { cls:= .type "tuple",data:= .seq [u1,u2].toArray } }:=I1.kept (t':=s1.toks) fun b o e=>Heap.get?_push_of_some _ e;rw[hw];refine wpAny_bind (wpAny_pure ?_);show wpAny (model X.prog X.w) X.A (do rule "assign.swapped-stores";let items ←unpackItems (.ref s1.heap.objs.size) 2 none;assignInOrder [fun v=>bindName X.env y v,fun v=>bindName X.env x v] items.reverse;pure Flow.next) _ _ _;refine wpAny_bind (wpAny_rule (wpAny_bind (unpackItems_tuple (items:= #[u1,u2]) (I.ok.hd hc) (IsTup.new s1.heap _) fun h' hx'=> ?_)));have I3:=I2.kept (h':=h') (t':=s1.toks) fun b o e=>hx' b o (Nat.ne_of_lt (Heap.lt_size e)) e;show wpAny _ _ (assignInOrder [fun v=>bindName X.env y v,fun v=>bindName X.env x v] [u2,u1] >>= fun _=>pure Flow.next) _ _ _;refine wpAny_bind (assignInOrder_cons (wpAny_bindName (jU I3 hN hj (.inl hy) rw' (fun s2 I4=> ?_) (.inr hy))));refine assignInOrder_cons (wpAny_bindName (jU I4 hN hi (.inl hx) rv (fun s3 I5=>assignInOrder_nil (wpAny_pure ?_)) (.inr hx)));rw[List.set_comm _ _ (Ne.symm hij)]at I5;exact⟨_,H1,I5,q1⟩
end
section
variable {X:Cx}{pos:Pos}
end
structure It where
 go:Nat->Hp->Prop
 yld:Nat->Hp->V->Hp->Prop
 stop:Nat->Hp->Prop
def gL (X:Cx)(pins:List (Addr×Obj))(H:Hp)(b:Addr):Prop :=
 H b=none/\b≠X.env.locals/\b∉X.fs/\(b∈X.ex∨X.s₀.heap.objs.size<=b)/\(∀x c,X.env.cells.lookup x=some c->c≠b)/\∀p∈X.pn++pins,p.1≠b
theorem Inv.fpOk {X:Cx}{pins:List (Addr×Obj)}{σ:St}{H H':Hp}{s:Shared}{b:Addr} (I:Inv X pins σ H s) (hb:s.heap.objs.size<=b) (hn:H' b=none):gL X pins H' b:=by
 refine⟨hn,Nat.ne_of_gt (Nat.lt_of_lt_of_le I.lt hb),I.nofs hb,.inr (Nat.le_trans I.sz hb),fun x c e z=> ?_,fun p hp z=> ?_⟩
 ·obtain⟨v,q⟩:=I.cell x c e;exact absurd (Nat.lt_of_lt_of_le q.lt (by rw[z];exact hb)) (Nat.lt_irrefl _)
 ·exact absurd (Nat.lt_of_lt_of_le (Heap.lt_size (I.pin p hp).1) (by rw[z];exact hb)) (Nat.lt_irrefl _)
structure nG (P:Program)(w:World)(K:PySem.W.Frag)(tg:Expr)(J:It)(fp:List Addr)(it:Addr)(tn:Nat->Heap->Prop):Prop where
 mem:it∈fp
 obj:∀i h,tn i h->∀b∈fp,∃o,h.get? b=some o/\∀v,o.data≠ .cell v
 keep:∀i h h',tn i h->(∀b∈fp,∀o,h.get? b=some o->h'.get? b=some o)->tn i h'
 item:∀(X:Cx),X.prog=P->X.w=w->X.K=K->X.calm=true->∀(i:Nat) (pins:List (Addr×Obj)) (s:Shared) (σ:St) (H:Hp) (E:Value->Shared->Prop),Inv X pins σ H s->(∀b∈fp,gL X pins H b)->tn i s.heap->J.go i H →
  wpAny (model P w) X.A (pyNext (.ref it)) (fun r s1=>∃u,r=some u ∧
   wpAny (model P w) X.A (letOwnedTupleGo tg (.ref it) u) (fun _ s2=>∃x H',Inv X pins σ H' s2/\RelV x u/\J.yld i H x H'/\tn (i+1) s2.heap/\∀b∈fp,H' b=none) E s1) E s
 done:∀(X:Cx),X.prog=P->X.w=w->X.K=K->X.calm=true->∀(i:Nat) (pins:List (Addr×Obj)) (s:Shared) (σ:St) (H:Hp) (E:Value->Shared->Prop),Inv X pins σ H s->(∀b∈fp,gL X pins H b)->tn i s.heap->J.stop i H →
  wpAny (model P w) X.A (pyNext (.ref it)) (fun r s1=>r=none/\Inv X pins σ H s1) E s
 self:∀(A:Around) (i:Nat) (s:Shared) (Q:Value->Shared->Prop) (E:Value->Shared->Prop),tn i s.heap->Q (.ref it) s->wpAny (model P w) A (pyIter (.ref it)) Q E s
abbrev TI:=St->Hp->(It->Hp->Prop)->Prop
def PIE (X:Cx)(pins:List (Addr×Obj))(σ:St)(tg:Expr)(R:It->Hp->Prop)(itv:Value)(s2:Shared):Prop :=
 ∃(it:Addr) (fp:List Addr) (tn:Nat->Heap->Prop) (J:It) (H':Hp),itv= .ref it/\Inv X pins σ H' s2/\nG X.prog X.w X.K tg J fp it tn/\tn 0 s2.heap/\(∀b∈fp,gL X pins H' b)/\R J H'
def PI (X:Cx)(tg iter:Expr)(wi:TI):Prop :=
 ∀(pins:List (Addr×Obj)) (s:Shared) (σ:St) (H:Hp) (R:It->Hp->Prop),Inv X pins σ H s->wi σ H R →
  wpAny (model X.prog X.w) X.A (eval iter X.env) (fun v s1=>wpAny (model X.prog X.w) X.A (pyIter v) (PIE X pins σ tg R) X.xe s1) X.xe s
theorem A9 {M:Model}{A:Around}{E:Value->Shared->Prop}{s:Shared}{tg:Expr}{it:Addr}{u:Value}{o:Obj}{n:String}{vs:Array Value}{Q:Unit->Shared->Prop} (ho:s.heap.get? it=some o) (hc:o.cls= .type n) (hd:o.data= .fields vs)
  (hn:["enumerate","zip","dict_itemiterator","dict_reverseitemiterator","odict_iterator","itertools.zip_longest","itertools.pairwise"].contains n=false)(hQ:Q () s):wpAny M A (letOwnedTupleGo tg (.ref it) u) Q E s:=by
 unfold letOwnedTupleGo;cases tg<;>first
  | exact wpAny_pure hQ
  | (cases u<;>first
    | exact wpAny_pure hQ
    | (refine wpAny_bind (wpAny_load ho ?_);rw[hc,hd];show wpAny M A (if (["enumerate","zip","dict_itemiterator","dict_reverseitemiterator","odict_iterator","itertools.zip_longest","itertools.pairwise"].contains n&&vs[0]? ==some (rawInt _))=true then _ else _) Q E s;rw[if_neg (by intro h;rw[hn,Bool.false_and]at h;cases h)];exact wpAny_pure hQ))
def Itl (K:PySem.W.Frag)(a:Addr):It :=
 ⟨fun i H=>∃xs x,SqL K H a xs/\xs[i]? =some x,fun i H x H'=>H'=H/\∀xs,SqL K H a xs->xs[i]? =some x,fun i H=>∃xs,SqL K H a xs/\xs.length<=i⟩
def Itr (lo:Int)(n:Nat):It:=⟨fun i _=>i<n,fun i H x H'=>H'=H/\x= .int (lo+i),fun i _=>n<=i⟩
theorem EL {P:Program}{w:World}{K:PySem.W.Frag}{tg:Expr} (a it:Addr):nG P w K tg (Itl K a) [it] it (fun i h=>h.IsListIter it a i) where
 mem:=by simp
 obj:=fun i h st b hb=>by
  have e:b=it:=by simpa using hb
  subst e;obtain⟨o,e,c,d⟩:=st;exact⟨o,e,fun v z=>by rw[d]at z;cases z⟩
 keep:=fun i h h' st k=>st.at fun o e=>k it (by simp) o e
 item:=by
  intro X hP hw hK hc i pins s σ H E I hf st hg;subst hP hw hK;obtain⟨xs,x,hq,hx⟩:=hg;obtain⟨its,rv,p,hz⟩:=I.list hq;obtain⟨u,hu,ru⟩:=rv.get hx;obtain⟨f0,f1,f2,f3,f4,f5⟩:=hf it (by simp);refine wpAny_pyNext_list_item st p.isList (x:=u) (by simpa using hu) fun h' st' sb=> ?_;have I1:Inv X pins σ H { s with heap:=h' }:=I.turned (t':=s.toks) (fun b o hb e=>(sb.2 b hb).trans e) f0 f1 f3 f4 f5;obtain⟨o,e,c,d⟩:=id st';exact⟨u,rfl,A9 (s:={ s with heap:=h' }) e c d (by decide) ⟨x,H,I1,ru,⟨rfl,fun ys hy=>by rw[I.list_inj hy hq];exact hx⟩,st',fun b hb=>(hf b hb).1⟩⟩
 done:=by
  intro X hP hw hK hc i pins s σ H E I hf st hg;subst hP hw hK;obtain⟨xs,hq,hx⟩:=hg;obtain⟨its,rv,p,hz⟩:=I.list hq;obtain⟨f0,f1,f2,f3,f4,f5⟩:=hf it (by simp);have hl:=rv.length;exact wpAny_pyNext_list_end (I.ok.hd hc) st p.isList (by simp;lia) fun h' eb=>⟨rfl,I.turned (t':=s.toks) (fun b o hb e=>eb b o hb e) f0 f1 f3 f4 f5⟩
 self:=fun _ _ _ _ _ st h=>wpAny_pyIter_listiter st h
theorem BI {P:Program}{w:World}{K:PySem.W.Frag}{tg:Expr} (it:Addr) (lo:Int) (n:Nat):nG P w K tg (Itr lo n) [it] it (fun i h=>IsRangeIter h it (lo+(i:Nat) * 1) ((n:Int) - (i:Nat)) 1) where
 mem:=by simp
 obj:=fun i h st b hb=>by
  have e:b=it:=by simpa using hb
  subst e;exact⟨_,st,fun v z=>by
   have z':Data.fields _=Data.cell v:=z;cases z'⟩
 keep:=fun i h h' st k=>k it (by simp) _ st
 item:=by
  intro X hP hw hK hc i pins s σ H E I hf st hg;subst hP hw hK;obtain⟨f0,f1,f2,f3,f4,f5⟩:=hf it (by simp);have W:=Walks.range (prog:=X.prog) (w:=X.w) (I.ok.hd hc) it lo 1 n;refine W.item i s _ _ hg st fun v h' tk hv st' kk=> ?_;obtain⟨t,rfl⟩:=hv;have I1:Inv X pins σ H { s with heap:=h',toks:=tk }:=I.turned (fun b o hb e=>kk b o (by simpa using hb) e) f0 f1 f3 f4 f5;refine⟨_,rfl,A9 (s:={ s with heap:=h',toks:=tk }) (n:= "range_iterator") st' rfl rfl (by decide) ⟨.int (lo+i),H,I1,⟨t,?_⟩,⟨rfl,rfl⟩,st',fun b hb=>(hf b hb).1⟩⟩;rw[Int.mul_one]
 done:=by
  intro X hP hw hK hc i pins s σ H E I hf st hg;subst hP hw hK;obtain⟨f0,f1,f2,f3,f4,f5⟩:=hf it (by simp);exact wpAny_pyNext_range_end (I.ok.hd hc) st (by have:n<=i:=hg;lia) fun h' eb=>⟨rfl,I.turned (t':=s.toks) (fun b o hb e=>eb b o hb e) f0 f1 f3 f4 f5⟩
 self:=fun _ _ _ _ _ st h=>wpAny_pyIter_rangeiter st h
end L2
namespace L2
open PySem PySem.Spec PyProof.Rows
section
variable {X:Cx}{tg:Expr}
def HM (K:PySem.W.Frag)(tl:TE):TI:=fun σ H R=>tl σ H fun x H1=>∃a,x= .ref a/\(∃xs,SqL K H1 a xs)/\R (Itl K a) H1
theorem c3 {l:Expr}{tl:TE} (hl:PE X l tl):PI X tg l (HM X.K tl):=by
 intro pins s σ H R I h;refine thn (hl pins s σ H _ I h) fun v s1 ⟨x,H1,I1,r1,q1⟩=> ?_;obtain⟨a,e,⟨xs,hq⟩,q⟩:=q1;subst e;cases r1;obtain⟨its,rv,p,hz⟩:=I1.list hq;refine wpAny_pyIter_list p.isList ?_;refine⟨s1.heap.objs.size,[s1.heap.objs.size],_,_,H1,rfl,I1.kept (t':=s1.toks) fun b o e=>Heap.get?_push_of_some _ e,EL a _,⟨_,Heap.get?_push_size _ rfl,rfl,rfl⟩,fun b hb=> ?_,q⟩;have e:b=s1.heap.objs.size:=by simpa using hb
 subst e;exact I1.fpOk (Nat.le_refl _) (I1.hok.fresh (Nat.le_refl _))
theorem xX {pins:List (Addr×Obj)}{σ:St}{H:Hp}{s:Shared}{R:It->Hp->Prop}{E:Value->Shared->Prop}{lo hi:Int}{t u v:Tok}{tk:Nat} (I:Inv X pins σ H s) (h1: -(2^62)<=lo) (h2:lo<2^62) (h3: -(2^62)<=hi) (h4:hi<2^62)
  (q:R (Itr lo (hi - lo).toNat) H):wpAny (model X.prog X.w) X.A (pyIter (.ref s.heap.objs.size)) (PIE X pins σ tg R) E { s with heap:=s.heap.push { cls:= .type "range",data:= .fields #[.int lo t,.int hi u,.int 1 v] },toks:=tk }:=by
 refine wpAny_pyIter_range (IsRange.new ..) (small_one h1 h2 h3 h4) ?_;have I1:Inv X pins σ H { s with heap:=s.heap.push { cls:= .type "range",data:= .fields #[.int lo t,.int hi u,.int 1 v] },toks:=tk }:=I.kept fun b o e=>Heap.get?_push_of_some _ e;refine⟨(s.heap.push { cls:= .type "range",data:= .fields #[.int lo t,.int hi u,.int 1 v] }).objs.size,[(s.heap.push { cls:= .type "range",data:= .fields #[.int lo t,.int hi u,.int 1 v] }).objs.size],_,_,H,rfl,
  I1.kept (t':=tk) fun b o e=>Heap.get?_push_of_some _ e,BI _ lo (hi - lo).toNat,?_,fun b hb=> ?_,q⟩
 ·have e1:lo+((0:Nat):Int) * 1=lo:=by simp
  have e2:(((hi - lo).toNat:Nat):Int) - ((0:Nat):Int)=Builtin.Range.rangeSize lo hi 1:=by rw[rangeSize_one];split<;>lia
  show IsRangeIter _ _ (lo+((0:Nat):Int) * 1) ((((hi - lo).toNat:Nat):Int) - ((0:Nat):Int)) 1;rw[e1,e2];exact Heap.get?_push_size _ rfl
 ·have e:b=(s.heap.push { cls:= .type "range",data:= .fields #[.int lo t,.int hi u,.int 1 v] }).objs.size:=by simpa using hb
  subst e;exact I1.fpOk (Nat.le_refl _) (I1.hok.fresh (Nat.le_refl _))
def HW (ta:TA):TI:=fun σ H R=>ta σ H fun vs H1=>∃j:Int,vs=[.int j]/\ -(2^62)<=j/\j<2^62/\R (Itr 0 j.toNat) H1
def HV (ta:TA):TI:=fun σ H R=>ta σ H fun vs H1=>∃i j:Int,vs=[.int i,.int j]/\(-(2^62)<=i/\i<2^62/\ -(2^62)<=j/\j<2^62)/\R (Itr i (j - i).toNat) H1
theorem nC {a:Expr}{ta:TA}{p pos:Pos} (hg:Gl X "range") (hm:X.mg "range" =none) (ha:PA X [a] ta) (hs:starEach [a] X.env=[(false,eval a X.env)]:=by rfl):PI X tg (.Call (.Name "range" p) [a] [] pos) (HW ta):=by
 intro pins s σ H R I h;refine Call_ (k7 I hg hm boot_range (PyProof.Rows.callWith_type1 (thn (ha pos pins s σ H _ I h) fun us s1 ⟨vs,H1,I1,r1,q1⟩=> ?_) hs rfl));obtain⟨j,e,q1,q2,q⟩:=q1;subst e;cases r1 with
 | cons r rr =>
  cases rr;obtain⟨t,rfl⟩:=r;exact call_range_1 (xX I1 (by lia) (by lia) q1 q2 (by simpa using q))
theorem DJ {a b:Expr}{ta:TA}{p pos:Pos} (hg:Gl X "range") (hm:X.mg "range" =none) (ha:PA X [a,b] ta) (hs:starEach [a,b] X.env=[(false,eval a X.env),(false,eval b X.env)]:=by rfl) (hs2:starEach [b] X.env=[(false,eval b X.env)]:=by rfl) :
  PI X tg (.Call (.Name "range" p) [a,b] [] pos) (HV ta):=by
 intro pins s σ H R I h;refine Call_ (k7 I hg hm boot_range (PyProof.Rows.callWith_type1 (thn (ha pos pins s σ H _ I h) fun us s1 ⟨vs,H1,I1,r1,q1⟩=> ?_) (by rw[hs,hs2]) (by rw[hs2];rfl)));obtain⟨i,j,e,⟨q1,q2,q3,q4⟩,q⟩:=q1;subst e;cases r1 with
 | cons r rr =>
  cases rr with
  | cons r' rr =>
   cases rr;obtain⟨t,rfl⟩:=r;obtain⟨t',rfl⟩:=r';exact call_range_2 (xX I1 q1 q2 q3 q4 q)
def NK (wi:TI)(g:TG)(tb:TS):TS:=fun D σ H=>wi σ H fun J H1=>∃W:Nat->Nat->St->Hp->Prop,(∃m,W 0 m σ H1)/\∀i m σ H,W i m σ H →
 (J.stop i H/\D.nx σ H)∨(J.go i H/\∃N:St->Hp->Prop,(∀σ' H',N σ' H'->∃m',m'<m/\W (i+1) m' σ' H')/\∀x H',J.yld i H x H'->g x σ H' fun σ2 H2=>tb { D with nx:=N,ct:=N,bk:=D.nx } σ2 H2)
def iK (fp:List Addr)(h:Heap):List (Addr×Obj):=fp.filterMap fun b=>(h.get? b).map fun o=>(b,o)
theorem fH {fp:List Addr}{h:Heap}{b:Addr}{o:Obj} (hb:b∈fp) (e:h.get? b=some o):(b,o)∈iK fp h:=List.mem_filterMap.mpr ⟨b,hb,by rw[e];rfl⟩
theorem vD {fp:List Addr}{h:Heap}{p:Addr×Obj} (hp:p∈iK fp h):p.1∈fp/\h.get? p.1=some p.2:=by
 obtain⟨b,hb,e⟩:=List.mem_filterMap.mp hp;cases q:h.get? b with
 | none=>rw[q]at e;cases e
 | some o =>
  rw[q]at e;have e':(b,o)=p:=Option.some.inj e;subst e';exact⟨hb,q⟩
theorem Inv.pinned {pins:List (Addr×Obj)}{σ:St}{H:Hp}{s:Shared}{fp:List Addr} (I:Inv X pins σ H s) (hf:∀b∈fp,gL X pins H b) (ho:∀b∈fp,∃o,s.heap.get? b=some o/\∀v,o.data≠ .cell v):Inv X (pins++iK fp s.heap) σ H s :=
 I.pins_of fun p hp=>(List.mem_append.mp hp).elim (fun z=>I.pin p (List.mem_append_right _ z)) fun z=>by
  obtain⟨hb,e⟩:=vD z;obtain⟨f0,f1,f2,_⟩:=hf p.1 hb;obtain⟨o,e',d⟩:=ho p.1 hb;rw[e]at e';cases e';exact⟨e,f0,f1,f2,d⟩
theorem Inv.unpinned {pins pl:List (Addr×Obj)}{σ:St}{H:Hp}{s:Shared} (I:Inv X (pins++pl) σ H s):Inv X pins σ H s:=I.pins_of fun p hp=>I.pin p (List.mem_append_right _ (List.mem_append_left _ hp))
theorem d4 {iter:Expr}{body:List Stmt}{wi:TI}{g:TG}{tb:TS}{pos:Pos} (hp:PassesOwn (model X.prog X.w) X.A X.env X.xe) (hc:X.calm=true) (hi:PI X tg iter wi) (hg:PG X tg g) (hb:PSs X body tb)
  (hs:∀x,foldedSetIterable iter X.env x=pure x:=by intro _;rfl):PS X (.For tg iter body [] pos) (NK wi g tb):=by
 intro pins s σ H D I h;refine wpAny_For (thn (hi pins s σ H _ I h) fun v s1 h1=>thn h1 fun itv s2 h2=> ?_) hs;obtain⟨it,fp,tn,J,H2,e,I2,T,st2,f2,W,⟨m0,w0⟩,turn⟩:=h2;subst e;have stat:∀{H':Hp},(∀b∈fp,H' b=none)->∀b∈fp,gL X pins H' b:=fun hn b hb=>⟨hn b hb,(f2 b hb).2⟩
 refine codeAny_forLoop_any (fun n s'=>∃i σ' H',Inv X pins σ' H' s'/\tn i s'.heap/\(∀b∈fp,H' b=none)/\W i n σ' H') ?_ m0 ⟨0,σ,H2,I2,st2,fun b hb=>(f2 b hb).1,w0⟩;rintro n s3 ⟨i,σ3,H3,I3,st3,fr3,w3⟩;rcases turn i n σ3 H3 w3 with⟨stop,qn⟩|⟨go,N,hN,step⟩
 ·refine wpAny_passesOwn hp (thn (T.done X rfl rfl rfl hc i pins s3 σ3 H3 X.xe I3 (stat fr3) st3 stop) fun r s4 ⟨hr,I4⟩=> ?_);subst hr;exact wpAny_execs_nil ⟨σ3,H3,I4,qn⟩
 ·refine wpAny_passesOwn hp (thn (T.item X rfl rfl rfl hc i pins s3 σ3 H3 X.xe I3 (stat fr3) st3 go) fun r s4 ⟨u,hr,h4⟩=> ?_);subst hr;refine wpAny_passesOwn hp (thn h4 fun _ s5 ⟨x,H5,I5,r5,y5,st5,fr5⟩=> ?_);have I5':=I5.pinned (stat fr5) (T.obj _ _ st5);refine wpAny_passesOwn hp (thn (hg _ s5 σ3 H5 x u _ I5' r5 (step x H5 y5)) fun _ s6 ⟨σ6,H6,I6,q6⟩=> ?_);refine wpAny_passesOwn hp (thn (hb _ s6 σ6 H6 _ I6 q6) fun f s7 q7=> ?_);have again:∀{σ7:St}{H7:Hp},Inv X (pins++iK fp s5.heap) σ7 H7 s7->N σ7 H7->∃m,m<n/\∃i σ' H',Inv X pins σ' H' s7/\tn i s7.heap/\(∀b∈fp,H' b=none)/\W i m σ' H':=fun {σ7 H7} I7 n7=>by
   obtain⟨m',hm,w7⟩:=hN σ7 H7 n7;refine⟨m',hm,i+1,σ7,H7,I7.unpinned,T.keep _ _ _ st5 fun b hb o e=>(I7.pin (b,o) (List.mem_append_right _ (List.mem_append_right _ (fH hb e)))).1,fun b hb=> ?_,w7⟩;obtain⟨o,e,d⟩:=T.obj _ _ st5 b hb;exact(I7.pin (b,o) (List.mem_append_right _ (List.mem_append_right _ (fH hb e)))).2.1
  cases f with
  | next=>obtain⟨σ7,H7,I7,n7⟩:=q7;exact again I7 n7
  | cont=>obtain⟨σ7,H7,I7,n7⟩:=q7;exact again I7 n7
  | brk=>obtain⟨σ7,H7,I7,q7⟩:=q7;exact⟨σ7,H7,I7.unpinned,q7⟩
  | ret v=>obtain⟨x7,σ7,H7,I7,r7,q7⟩:=q7;exact⟨x7,σ7,H7,I7.unpinned,r7,q7⟩
end
theorem F6 {K:PySem.W.Frag}{a:Addr}{xs:List V}{g:TG}{tb:TS}{D:dU}{σ:St}{H:Hp} (Pv:Nat->St->Hp->Prop) (h0:Pv 0 σ H) (hl:∀i σ H,i<=xs.length->Pv i σ H->SqL K H a xs)
  (hs:∀i x σ H,xs[i]? =some x->Pv i σ H->g x σ H fun σ2 H2=>tb { D with nx:=Pv (i+1),ct:=Pv (i+1),bk:=D.nx } σ2 H2)(hd:∀σ H,Pv xs.length σ H->D.nx σ H) :
  ∃W:Nat->Nat->St->Hp->Prop,(∃m,W 0 m σ H)/\∀i m σ H,W i m σ H →
   ((Itl K a).stop i H/\D.nx σ H)∨((Itl K a).go i H/\∃N:St->Hp->Prop,(∀σ' H',N σ' H'->∃m',m'<m/\W (i+1) m' σ' H')/\∀x H',(Itl K a).yld i H x H'->g x σ H' fun σ2 H2=>tb { D with nx:=N,ct:=N,bk:=D.nx } σ2 H2):=by
 refine⟨fun i m σ H=>m=xs.length - i/\i<=xs.length/\Pv i σ H,⟨xs.length,by simp,Nat.zero_le _,h0⟩,?_⟩;rintro i m σ H ⟨rfl,hi,p⟩;have q:=hl i σ H hi p
 by_cases hlt:i<xs.length
 ·refine .inr ⟨⟨xs,xs[i],q,by simp[hlt]⟩,Pv (i+1),fun σ' H' p'=>⟨xs.length - (i+1),by lia,rfl,hlt,p'⟩,fun x H' y=> ?_⟩;obtain⟨e,y⟩:=y;subst e;exact hs i x σ _ (y xs q) p
 ·have e:i=xs.length:=by lia
  subst e;exact .inl ⟨⟨xs,q,Nat.le_refl _⟩,hd σ H p⟩
theorem DL {lo:Int}{n:Nat}{g:TG}{tb:TS}{D:dU}{σ:St}{H:Hp} (Pv:Nat->St->Hp->Prop) (h0:Pv 0 σ H)
  (hs:∀i σ H,i<n->Pv i σ H->g (.int (lo+i)) σ H fun σ2 H2=>tb { D with nx:=Pv (i+1),ct:=Pv (i+1),bk:=D.nx } σ2 H2)(hd:∀σ H,Pv n σ H->D.nx σ H) :
  ∃W:Nat->Nat->St->Hp->Prop,(∃m,W 0 m σ H)/\∀i m σ H,W i m σ H →
   ((Itr lo n).stop i H/\D.nx σ H)∨((Itr lo n).go i H/\∃N:St->Hp->Prop,(∀σ' H',N σ' H'->∃m',m'<m/\W (i+1) m' σ' H')/\∀x H',(Itr lo n).yld i H x H'->g x σ H' fun σ2 H2=>tb { D with nx:=N,ct:=N,bk:=D.nx } σ2 H2):=by
 refine⟨fun i m σ H=>m=n - i/\i<=n/\Pv i σ H,⟨n,by simp,Nat.zero_le _,h0⟩,?_⟩;rintro i m σ H ⟨rfl,hi,p⟩
 by_cases hlt:i<n
 ·refine .inr ⟨hlt,Pv (i+1),fun σ' H' p'=>⟨n - (i+1),by lia,rfl,hlt,p'⟩,fun x H' y=> ?_⟩;obtain⟨e,y⟩:=y;subst e y;exact hs i σ _ hlt p
 ·have e:i=n:=by lia
  subst e;exact .inl ⟨Nat.le_refl _,hd σ H p⟩
end L2
namespace L2
open PySem PySem.Spec PyProof.Rows
abbrev R2:=V->V->Hp->VK->Prop
def OpR (X:Cx)(f:Value->Value->Sem Value)(r:R2):Prop :=
 ∀(pins:List (Addr×Obj)) (s:Shared) (σ:St) (H:Hp) (x y:V) (v u:Value) (Q:VK),Inv X pins σ H s->RelV x v->RelV y u->r x y H Q →
  wpAny (model X.prog X.w) X.A (f v u) (EP X pins σ Q) X.xe s
def UnR (X:Cx)(f:Value->Sem Value)(r:V->Hp->VK->Prop):Prop :=
 ∀(pins:List (Addr×Obj)) (s:Shared) (σ:St) (H:Hp) (x:V) (v:Value) (Q:VK),Inv X pins σ H s->RelV x v->r x H Q →
  wpAny (model X.prog X.w) X.A (f v) (EP X pins σ Q) X.xe s
def cX (X:Cx)(f:Value)(r:List V->Hp->VK->Prop):Prop :=
 ∀(pins:List (Addr×Obj)) (s:Shared) (σ:St) (H:Hp) (xs:List V) (us:List Value) (Q:VK),Inv X pins σ H s->Vals xs us->r xs H Q →
  wpAny (model X.prog X.w) X.A (call f us) (EP X pins σ Q) X.xe s
def tOp (r:R2)(ta tb:TE):TE:=fun σ H Q=>ta σ H fun x H1=>tb σ H1 fun y H2=>r x y H2 Q
def tUn (r:V->Hp->VK->Prop)(ta:TE):TE:=fun σ H Q=>ta σ H fun x H1=>r x H1 Q
def rI (C:Int->Int->Prop)(g:Int->Int->V):R2:=fun x y H Q=>∃i j,x= .int i/\y= .int j/\C i j/\Q (g i j) H
def rI0 (g:Int->Int->V):R2:=fun x y H Q=>∃i j,x= .int i/\y= .int j/\Q (g i j) H
def rU (g:Int->V):V->Hp->VK->Prop:=fun x H Q=>∃i,x= .int i/\Q (g i) H
section
variable {X:Cx}{a b c:Expr}{ta tb tc:TE}{pos:Pos}
theorem F3 (ha:PE X a ta)(hb:PE X b tb){pins:List (Addr×Obj)}{s:Shared}{σ:St}{H:Hp}{R:V->V->Hp->Prop} (I:Inv X pins σ H s)
  (h:ta σ H fun x H1=>tb σ H1 fun y H2=>R x y H2){Q:Value->Shared->Prop}{f:Value->Value->Sem Value}
  (hf:∀v u s2 x y H2,Inv X pins σ H2 s2->RelV x v->RelV y u->R x y H2->wpAny (model X.prog X.w) X.A (f v u) Q X.xe s2) :
  wpAny (model X.prog X.w) X.A (eval a X.env) (fun v s₁=>wpAny (model X.prog X.w) X.A (eval b X.env) (fun u s₂=>wpAny (model X.prog X.w) X.A (f v u) Q X.xe s₂) X.xe s₁) X.xe s:=by
 refine thn (ha pins s σ H _ I h) fun v s1 ⟨x,H1,I1,r1,q1⟩=> ?_;refine thn (hb pins s1 σ H1 _ I1 q1) fun u s2 ⟨y,H2,I2,r2,q2⟩=> ?_;exact hf v u s2 x y H2 I2 r1 r2 q2
theorem a9 {op:Operator}{r:R2} (ho:OpR X (binaryOp op) r) (ha:PE X a ta) (hb:PE X b tb):PE X (.BinOp a op b pos) (tOp r ta tb):=by
 intro pins s σ H Q I h;exact wpAny_BinOp (F3 ha hb I h fun v u s2 x y H2 I2 rx ry q=>ho pins s2 σ H2 x y v u Q I2 rx ry q)
theorem PP {op:UnaryOp}{r:V->Hp->VK->Prop} (ho:UnR X (unaryOp op) r) (ha:PE X a ta):PE X (.UnaryOp op a pos) (tUn r ta):=by
 intro pins s σ H Q I h;exact UnaryOp_ (thn (ha pins s σ H _ I h) fun v s1 ⟨x,H1,I1,r1,q1⟩=>ho pins s1 σ H1 x v Q I1 r1 q1)
theorem opI {f:Value->Value->Sem Value}{C:Int->Int->Prop}{g:Int->Int->Int}
  (rule:∀(i j:Int) (t u:Tok) (s:Shared) (Q:Value->Shared->Prop) (E:Value->Shared->Prop),C i j->Q (.int (g i j) s.toks) { s with toks:=s.toks+1 }->wpAny (model X.prog X.w) X.A (f (.int i t) (.int j u)) Q E s) :
  OpR X f (rI C fun i j=> .int (g i j)):=by
 intro pins s σ H x y v u Q I rx ry h;obtain⟨i,j,rfl,rfl,hc,q⟩:=h;obtain⟨t,rfl⟩:=rx;obtain⟨t',rfl⟩:=ry;exact rule i j t t' s _ _ hc ⟨.int (g i j),H,I.tok _,⟨_,rfl⟩,q⟩
theorem Q1 {f:Value->Value->Sem Value}{g:Int->Int->Int}
  (rule:∀(i j:Int) (t u:Tok) (s:Shared) (Q:Value->Shared->Prop) (E:Value->Shared->Prop),Q (.int (g i j) s.toks) { s with toks:=s.toks+1 }->wpAny (model X.prog X.w) X.A (f (.int i t) (.int j u)) Q E s) :
  OpR X f (rI0 fun i j=> .int (g i j)):=by
 intro pins s σ H x y v u Q I rx ry h;obtain⟨i,j,rfl,rfl,q⟩:=h;obtain⟨t,rfl⟩:=rx;obtain⟨t',rfl⟩:=ry;exact rule i j t t' s _ _ ⟨.int (g i j),H,I.tok _,⟨_,rfl⟩,q⟩
theorem BW {f:Value->Value->Sem Value}{g:Int->Int->Bool}
  (rule:∀(i j:Int) (t u:Tok) (s:Shared) (Q:Value->Shared->Prop) (E:Value->Shared->Prop),Q (.bool (g i j)) s->wpAny (model X.prog X.w) X.A (f (.int i t) (.int j u)) Q E s) :
  OpR X f (rI0 fun i j=> .bl (g i j)):=by
 intro pins s σ H x y v u Q I rx ry h;obtain⟨i,j,rfl,rfl,q⟩:=h;obtain⟨t,rfl⟩:=rx;obtain⟨t',rfl⟩:=ry;exact rule i j t t' s _ _ ⟨.bl (g i j),H,I,rfl,q⟩
def NV (i j:Int):Prop:=0<j/\j<1073741824
def MN (i j:Int):Prop:=0<=j/\j<=1000000/\i.natAbs<2^64
theorem iE:OpR X (binaryOp .Add) (rI0 fun i j=> .int (i+j)):=Q1 fun _ _ _ _ _ _ _ q=>add_int q
theorem dO:OpR X (binaryOp .FloorDiv) (rI NV fun i j=> .int (i/j)):=opI fun i j _ _ _ _ _ hc q=>by
 have h1:(0:Int)<j:=hc.1;have h2:j<1073741824:=hc.2;exact floordiv_int (by lia) (by rw[Int.fdiv_eq_ediv_of_nonneg i (by lia)];exact q) (.inl (PyProof.noPylong_small (by lia)))
theorem c4:OpR X (binaryOp .Mod) (rI (fun _ j=>0<j) fun i j=> .int (i%j)):=opI fun i j _ _ _ _ _ hc q=>by
 have h1:(0:Int)<j:=hc;exact mod_int' (by lia) (by rw[Int.fmod_eq_emod_of_nonneg i (by lia)];exact q)
theorem NG:OpR X (binaryOp .Pow) (rI MN fun i j=> .int (i^j.toNat)):=opI fun _ _ _ _ _ _ _ hc q=>pow_int_small hc.1 hc.2.1 hc.2.2 q
theorem unI {f:Value->Sem Value}{g:Int->Int}
  (rule:∀(i:Int) (t:Tok) (s:Shared) (Q:Value->Shared->Prop) (E:Value->Shared->Prop),Q (.int (g i) s.toks) { s with toks:=s.toks+1 }->wpAny (model X.prog X.w) X.A (f (.int i t)) Q E s) :
  UnR X f (rU fun i=> .int (g i)):=by
 intro pins s σ H x v Q I rx h;obtain⟨i,rfl,q⟩:=h;obtain⟨t,rfl⟩:=rx;exact rule i t s _ _ ⟨.int (g i),H,I.tok _,⟨_,rfl⟩,q⟩
theorem OX:UnR X (unaryOp .USub) (rU fun i=> .int (-i)):=unI fun _ _ _ _ _ q=>neg_int q
end
def Q2:V->V->Bool
 | .non,.non=>true| .non,.int _=>true| .int _,.non=>true| .non,.bl _=>true| .bl _,.non=>true| .non,.str _=>true| .str _,.non=>true
 | .int _,.int _=>true| .bl _,.bl _=>true| .str _,.str _=>true| .byt _,.byt _=>true
 | .int _,.str _=>true| .str _,.int _=>true| .bl _,.str _=>true| .str _,.bl _=>true
 | _,_=>false
def rEq:R2:=fun x y H Q=>Q2 x y=true/\Q (.bl (decide (x=y))) H
theorem JR {i j:Int}:decide (V.int i=V.int j)=(i==j):=by
 rw[Bool.eq_iff_iff];simp
theorem N6 {i j:Bool}:decide (V.bl i=V.bl j)=(i==j):=by
 rw[Bool.eq_iff_iff];simp
theorem JW {i j:Str}:decide (V.str i=V.str j)=(i==j):=by
 rw[Bool.eq_iff_iff];simp
theorem K3 {i j:Array UInt8}:decide (V.byt i=V.byt j)=(i.toList==j.toList):=by
 rw[Bool.eq_iff_iff];cases i;cases j;simp
section
variable {X:Cx}{a b c:Expr}{ta tb tc:TE}{pos:Pos}
theorem cB {pins:List (Addr×Obj)}{σ:St}{H:Hp}{s:Shared}{Q:VK}{k k':Bool} (I:Inv X pins σ H s) (q:Q (.bl k) H) (e:k=k'):EP X pins σ Q (.bool k') s:=by
 subst e;exact⟨.bl k,H,I,rfl,q⟩
theorem dB:OpR X (compareOp .Eq) rEq:=by
 intro pins s σ H x y v u Q I rx ry h;obtain⟨hs,q⟩:=h;cases x with
 | non =>
  cases rx;cases y with
  | non=>cases ry;exact PySem.EqNone.eq_none_none (cB I q (by simp))
  | bl j=>cases ry;exact PySem.EqNone.eq_none_bool (cB I q (by simp))
  | int j=>obtain⟨t',rfl⟩:=ry;exact PySem.EqNone.eq_none_int (cB I q (by simp))
  | str j=>obtain⟨t',rfl⟩:=ry;exact PySem.EqNone.eq_none_str (cB I q (by simp))
  | _=>exact absurd (show false=true from hs) Bool.false_ne_true
 | bl i =>
  cases rx;cases y with
  | non=>cases ry;exact PySem.EqNone.eq_bool_none (cB I q (by simp))
  | bl j=>cases ry;exact eq_bool (cB I q N6)
  | str j=>obtain⟨t',rfl⟩:=ry;exact PySem.EqMixed.eq_bool_str (cB I q (by simp))
  | _=>exact absurd (show false=true from hs) Bool.false_ne_true
 | int i =>
  obtain⟨t,rfl⟩:=rx;cases y with
  | non=>cases ry;exact PySem.EqNone.eq_int_none (cB I q (by simp))
  | int j=>obtain⟨t',rfl⟩:=ry;exact eq_int (cB I q JR)
  | str j=>obtain⟨t',rfl⟩:=ry;exact PySem.EqMixed.eq_int_str (cB I q (by simp))
  | _=>exact absurd (show false=true from hs) Bool.false_ne_true
 | str i =>
  obtain⟨t,rfl⟩:=rx;cases y with
  | non=>cases ry;exact PySem.EqNone.eq_str_none (cB I q (by simp))
  | bl j=>cases ry;exact PySem.EqMixed.eq_str_bool (cB I q (by simp))
  | int j=>obtain⟨t',rfl⟩:=ry;exact PySem.EqMixed.eq_str_int (cB I q (by simp))
  | str j=>obtain⟨t',rfl⟩:=ry;exact eq_str (cB I q JW)
  | _=>exact absurd (show false=true from hs) Bool.false_ne_true
 | byt i =>
  obtain⟨t,rfl⟩:=rx;cases y with
  | byt j=>obtain⟨t',rfl⟩:=ry;exact PySem.W.eq_bytes (cB I q K3)
  | _=>exact absurd (show false=true from hs) Bool.false_ne_true
 | _=>cases y<;>exact absurd (show false=true from hs) Bool.false_ne_true
theorem lK:OpR X (compareOp .Lt) (rI0 fun i j=> .bl (decide (i<j))):=BW fun _ _ _ _ _ _ _ q=>lt_int q
theorem HS:OpR X (compareOp .LtE) (rI0 fun i j=> .bl (decide (i<=j))):=BW fun _ _ _ _ _ _ _ q=>le_int q
theorem HJ:OpR X (compareOp .Gt) (rI0 fun i j=> .bl (decide (j<i))):=BW fun _ _ _ _ _ _ _ q=>gt_int q
theorem HK:OpR X (compareOp .GtE) (rI0 fun i j=> .bl (decide (j<=i))):=BW fun _ _ _ _ _ _ _ q=>ge_int q
theorem OI:OpR X (compareOp .Is) (fun x y H Q=>y= .non/\Q (.bl (decide (x= .non))) H):=by
 intro pins s σ H x y v u Q I rx ry h;obtain⟨rfl,q⟩:=h;cases ry;refine is_none_gen (cB I q ?_);cases x<;>first
  | (cases rx;rfl)
  | (obtain⟨t,rfl⟩:=rx;rfl)
theorem LY:OpR X (compareOp .IsNot) (fun x y H Q=>y= .non/\Q (.bl (!decide (x= .non))) H):=by
 intro pins s σ H x y v u Q I rx ry h;obtain⟨rfl,q⟩:=h;cases ry;refine isnot_none_gen (cB I q ?_);cases x<;>first
  | (cases rx;rfl)
  | (obtain⟨t,rfl⟩:=rx;rfl)
theorem bB (b:Expr){op:CmpOp}(h:op≠ .In:=by decide)(h2:op≠ .NotIn:=by decide):behindInMarks op b=false:=by
 have e1:(op==CmpOp.In)=false:=by cases op<;>first|rfl|exact absurd rfl h
 have e2:(op==CmpOp.NotIn)=false:=by cases op<;>first|rfl|exact absurd rfl h2
 cases b<;>simp[behindInMarks,e1,e2]
theorem fF {op:CmpOp}{r:R2} (ho:OpR X (compareOp op) r) (ha:PE X a ta) (hb:PE X b tb) (hm:behindInMarks op b=false):PE X (.Compare a [op] [b] pos) (tOp r ta tb):=by
 intro pins s σ H Q I h;exact wpAny_Compare1 (F3 ha hb I h fun v u s2 x y H2 I2 rx ry q=>ho pins s2 σ H2 x y v u Q I2 rx ry q) hm
def IM (t:TE):TT:=fun σ H Q=>t σ H fun x H'=>∃k,x= .bl k/\Q k H'
theorem bF {op:CmpOp}{r:R2} (ho:OpR X (compareOp op) r) (ha:PE X a ta) (hb:PE X b tb) (hm:behindInMarks op b=false):PT X (.Compare a [op] [b] pos) (IM (tOp r ta tb)):=by
 intro pins s σ H Q I h;refine wpAny_isTrue_Compare1 (thn (ha pins s σ H _ I h) fun v s1 ⟨x,H1,I1,r1,q1⟩=>thn (hb pins s1 σ H1 _ I1 q1) fun u s2 ⟨y,H2,I2,r2,q2⟩ =>
  thn (ho pins s2 σ H2 x y v u _ I2 r1 r2 q2) fun c s3 ⟨z,H3,I3,r3,k,e,q3⟩=> ?_) hm
 subst e;cases r3;exact wpAny_truthy_bool ⟨H3,I3,q3⟩
def NU (r r':R2)(ta tb tc:TE):TE:=fun σ H Q=>ta σ H fun x H1=>tb σ H1 fun y H2=>r x y H2 fun z H3=>∃k,z= .bl k ∧
 (if k=true then tc σ H3 fun w' H4=>r' y w' H4 Q else Q (.bl false) H3)
theorem x8 {op op':CmpOp}{r r':R2} (ho:OpR X (compareOp op) r) (ho':OpR X (compareOp op') r') (ha:PE X a ta) (hb:PE X b tb) (hc:PE X c tc)
  (hm:lastMarks [op,op'] [b,c]=false:=by with_unfolding_all rfl):PE X (.Compare a [op,op'] [b,c] pos) (NU r r' ta tb tc):=by
 intro pins s σ H Q I h;refine Compare_chain (thn (ha pins s σ H _ I h) fun v s1 ⟨x,H1,I1,r1,q1⟩=>chain_link (thn (hb pins s1 σ H1 _ I1 q1) fun u s2 ⟨y,H2,I2,r2,q2⟩ =>
  thn (ho pins s2 σ H2 x y v u _ I2 r1 r2 q2) fun d s3 ⟨z,H3,I3,r3,k,e,q3⟩=> ?_)) hm
 subst e;cases r3;refine wpAny_truthy_bool ?_;cases k with
 | false=>exact ite_ff ⟨.bl false,H3,I3,rfl,q3⟩
 | true=>exact ite_tt (chain_last (thn (hc pins s3 σ H3 _ I3 q3) fun w' s4 ⟨z',H4,I4,r4,q4⟩=>ho' pins s4 σ H4 y z' u w' Q I4 r2 r4 q4))
theorem m3:(sizeLine:Nat)<2^63:=by rw[sizeLine_eq];decide
theorem A6:OpR X (binaryOp .Add) (fun x y H Q=>∃i j,x= .str i/\y= .str j/\i.length+j.length<=sizeLine/\Q (.str (i++j)) H):=by
 intro pins s σ H x y v u Q I rx ry h;obtain⟨i,j,rfl,rfl,hz,q⟩:=h;obtain⟨t,rfl⟩:=rx;obtain⟨t',rfl⟩:=ry;exact add_str (fun t' tk=>⟨.str (i++j),H,I.tok _,⟨_,rfl⟩,q⟩) hz
theorem j6 {x:V}{us:List Value} (r:Vals [x] us):∃u,us=[u]/\RelV x u:=by
 cases r with
 | cons r1 r2=>cases r2;exact⟨_,rfl,r1⟩
theorem BR {x y:V}{us:List Value} (r:Vals [x,y] us):∃u w',us=[u,w']/\RelV x u/\RelV y w':=by
 cases r with
 | cons r1 r2 =>
  cases r2 with
  | cons r3 r4=>cases r4;exact⟨_,_,rfl,r1,r3⟩
end
end L2
namespace L2
open PySem PySem.Spec PyProof.Rows
structure ObjM (h:Heap)(x dx C:Addr)(mA:Str->Option Value):Prop where
 obj:h.get? x=some (PySem.W.instObj C dx)
 ns:h.Ns1 dx mA
 ne:dx≠x
theorem EQ {h:Heap}{dx:Addr}{mA:Str->Option Value} (n:h.Ns1 dx mA):∃od,h.get? dx=some od/\∀name,PySem.W.lookIn name od=some (mA name):=by
 obtain⟨o,es,ep,ho,hd,hk,_,hm⟩:=n;refine⟨o,ho,fun name=> ?_⟩;have e:=hm name;unfold nsFind findBy at e;rw[←Array.find?_toList]at e;unfold PySem.W.lookIn;rw[hd]
 dsimp only
 split
 ·rename_i y q;rw[q]at e;exact congrArg some e
 ·rename_i q;rw[q]at e;have a:es.toList.any (·.refKey)=false:=by
   rw[List.any_eq_false];intro y hy;obtain⟨z,t,hkey⟩:=hk y (Array.mem_toList_iff.mp hy);simp[DictEntry.refKey,hkey]
  have a':¬es.toList.any (·.refKey)=true:=by rw[a];exact Bool.false_ne_true
  rw[if_neg a'];exact congrArg some e
theorem ObjM.look {h:Heap}{x dx C:Addr}{mA:Str->Option Value} (I:ObjM h x dx C mA):∃od,PySem.W.InstAt h x (PySem.W.instObj C dx) C (some od)/\∀name,PySem.W.lookIn name od=some (mA name) :=
 let ⟨od,ho,hl⟩:=EQ I.ns
 ⟨od,⟨I.obj,rfl,rfl,ho⟩,hl⟩
section
variable {prog:Program}{w:World}{A:Around}{E:Value->Shared->Prop}{s:Shared}{K:PySem.W.Frag}{x dx C f:Addr}{mA:Str->Option Value}{name:Str}{v:Value}
theorem IV {expr:Bool}{Q:Value->Shared->Prop} (X:K.In s.heap) (I:ObjM s.heap x dx C mA) (hg:PySem.W.plainGet K C name=true) (hh:PySem.W.hasDictIn K C=true)
  (ha:PySem.W.findIn K (.ref C) name=some none)(hv:mA name=some v)(hv':PySem.W.handedIn v=true)(h:Q v { s with toks:=s.toks+1 }) :
  wpAny (model prog w) A (getAttr (.ref x) name expr) Q E s:=by
 obtain⟨od,J,hl⟩:=I.look;exact PySem.W.get_value X J (PySem.W.plainGet_of hg).1 (PySem.W.findObj_own hh ha rfl (by rw[hl,hv])) hv' h
theorem GS {pl:Sem Bool}{Q:Value×List Value->Shared->Prop} (X:K.In s.heap) (I:ObjM s.heap x dx C mA) (hg:PySem.W.plainGet K C name=true)
  (hf:PySem.W.findIn K (.ref C) name=some (some (.ref f)))(ht:PySem.W.isFn K (.ref f)=true)(hv:mA name=none)(h:Q (.ref f,[.ref x]) s) :
  wpAny (model prog w) A (getMethod (.ref x) name pl) Q E s:=by
 obtain⟨od,J,hl⟩:=I.look;exact PySem.W.method_fn X J (PySem.W.plainGet_of hg).1 (PySem.W.plainGet_of hg).2 hf (beq_iff_eq.mp ht) (by show (PySem.W.lookIn name od).map (·.isSome)=some false;rw[hl,hv];rfl) h
theorem LB {ns:List Str}{Q:Unit->Shared->Prop} (X:K.In s.heap) (I:ObjM s.heap x dx C mA)
  (hs:PySem.W.findIn K (.ref C) "__setattr__" =some (some (.builtin "object.__setattr__")))(hp:PySem.W.plainOver K C=true)(ht:PySem.W.takerIn K C name=some none)(hh:PySem.W.hasDictIn K C=true)
  (hw:PySem.Within mA ns)(hsz:ns.length<=sizeLine)
  (h:∀h',ObjM h' x dx C (fun y=>if y=name then some v else mA y)->Heap.SameBut dx s.heap h'->Q () { s with heap:=h',toks:=s.toks+2 }) :
  wpAny (model prog w) A (setAttr (.ref x) name v) Q E s:=by
 obtain⟨od,J,hl⟩:=I.look;refine PySem.W.set_plain X J hs (PySem.W.osa_open (s:={ s with toks:=s.toks+1 }) (r:=none) X J hp ht fun b=> ?_);obtain⟨cd,hc,hd'⟩:=PySem.W.any_some hh;have hx:s.heap.get? x=some ⟨.ref C,some dx,.plain,#[]⟩:=I.obj;refine wpAny_bind (wpAny_pure (wpAny_bind (wpAny_bind (wpAny_loadPart hx (wpAny_bind (PySem.W.Looks.here (s:={ s with toks:=s.toks+1 }) (PySem.W.looks_clsIn X hc) ?_))))));rw[hd'];refine wpAny_pure (a:=some dx) (wpAny_bind (wpAny_pure (wpAny_bind ?_)));refine wpAny_nsSet1 (s:={ s with toks:=s.toks+1 }) I.ns fun h' hn2 hs2=> ?_;obtain⟨oD,esD,epD,hoD,hdD,hcD⟩:=hn2.count (PySem.Within.cons name v hw);refine wpAny_bind (wpAny_lookBehind hoD (by rw[hdD];exact pastItsLine_dict (Nat.le_trans hcD (by rw[List.length_cons];lia))) ?_);exact wpAny_pure (h _ ⟨(hs2.2 _ (Ne.symm I.ne)).trans I.obj,hn2,I.ne⟩ hs2)
theorem FI {R:Result->Shared->Prop}{vs:List Value}{kw:List (Str×Value)} (X:K.In s.heap) (hm:PySem.W.makesIn K C=true)
  (hi:PySem.W.findIn K (.ref C) "__init__" =some (some (.ref f)))(hf:PySem.W.typeIn K (.ref f)=some (.type "function"))
  (h:codeAny (model prog w) (A.under (.builtin "type.__call__" ⟨.ref C::vs,kw⟩)) (.call (.ref f) ⟨.ref (s.heap.objs.size+1)::vs,kw⟩) (PySem.W.InitBack (s.heap.objs.size+1) R)
   { s with heap:=(s.heap.push PySem.W.emptyDict).push (PySem.W.instObj C s.heap.objs.size) }) :
  codeAny (model prog w) A (.call (.ref C) ⟨vs,kw⟩) R s:=by
 obtain⟨hh,g,d,t,os⟩:=s;exact PySem.W.make_core (PySem.W.makes_of X hm) (PySem.W.looks_findIn X hi) (fun self=>PySem.W.bind_fn X self hf) (.inl rfl) h
end
def b4 (f:Str)(v:V):List (Str×V)->List (Str×V)
 | []=>[(f,v)]
 | (g,x)::r=>if g=f then (g,v)::r else (g,x)::b4 f v r
theorem g0 (f g:Str)(v:V):∀fs:List (Str×V),(b4 f v fs).lookup g=if g=f then some v else fs.lookup g
 | []=>by
  show List.lookup g [(f,v)]=_
  by_cases h:g=f
  ·have hb:(g==f)=true:=beq_iff_eq.mpr h;simp only[List.lookup,hb,if_pos h]
  ·have hb:(g==f)=false:=beq_eq_false_iff_ne.mpr h;simp only[List.lookup,hb,if_neg h]
 | (k,x)::r=>by
  have ih:=g0 f g v r;rw[show b4 f v ((k,x)::r)=(if k=f then (k,v)::r else (k,x)::b4 f v r) from rfl]
  by_cases hk:k=f
  ·rw[if_pos hk]
   by_cases h:g=k
   ·have hb:(g==k)=true:=beq_iff_eq.mpr h;simp only[List.lookup,hb,if_pos (h.trans hk)]
   ·have hb:(g==k)=false:=beq_eq_false_iff_ne.mpr h;simp only[List.lookup,hb,if_neg (fun e:g=f=>h (e.trans hk.symm))]
  ·rw[if_neg hk]
   by_cases h:g=k
   ·have hb:(g==k)=true:=beq_iff_eq.mpr h;simp only[List.lookup,hb,if_neg (fun e:g=f=>hk (h.symm.trans e))]
   ·have hb:(g==k)=false:=beq_eq_false_iff_ne.mpr h;simp only[List.lookup,hb];exact ih
theorem m5 (f:Str)(v:V):∀fs:List (Str×V),f∈(b4 f v fs).map (·.1)/\∀g,g∈fs.map (·.1)->g∈(b4 f v fs).map (·.1)
 | []=>⟨by simp[b4],fun g h=>by simp at h⟩
 | (k,x)::r=>by
  obtain⟨i1,i2⟩:=m5 f v r;rw[show b4 f v ((k,x)::r)=(if k=f then (k,v)::r else (k,x)::b4 f v r) from rfl]
  by_cases hk:k=f
  ·rw[if_pos hk];subst hk;exact⟨by simp,fun g h=>by simpa using h⟩
  ·rw[if_neg hk];refine⟨?_,fun g h=> ?_⟩
   ·rw[List.map_cons];exact List.mem_cons_of_mem _ i1
   ·rw[List.map_cons]at h ⊢;rcases List.mem_cons.mp h with e|e
    ·exact List.mem_cons.mpr (.inl e)
    ·exact List.mem_cons_of_mem _ (i2 g e)
theorem pN (f:Str)(v:V):∀fs:List (Str×V),(b4 f v fs).length<=fs.length+1
 | []=>by simp[b4]
 | (k,x)::r=>by
  have ih:=pN f v r;rw[show b4 f v ((k,x)::r)=(if k=f then (k,v)::r else (k,x)::b4 f v r) from rfl]
  by_cases hk:k=f
  ·rw[if_pos hk,List.length_cons,List.length_cons];lia
  ·rw[if_neg hk,List.length_cons,List.length_cons];lia
theorem RelO.some_of {v:V}{o:Option Value} (r:RelO (some v) o):∃u,o=some u/\RelV v u:=by
 cases o with
 | none=>exact(show False from r).elim
 | some u=>exact⟨u,rfl,r⟩
theorem RelO.none_of {o:Option Value}(r:RelO none o):o=none:=by
 cases o with
 | none=>rfl
 | some u=>exact(show False from r).elim
theorem EG {v:V}{u:Value} (r:RelV v u):PySem.W.handedIn u=true:=by
 cases v with
 | non=>cases (show u=Value.none from r);rfl
 | bl b=>cases (show u=Value.bool b from r);rfl
 | int i=>obtain⟨t,e⟩:=(show ∃t,u=Value.int i t from r);cases e;rfl
 | str x=>obtain⟨t,e⟩:=(show ∃t,u=Value.str x t from r);cases e;rfl
 | byt b=>obtain⟨t,e⟩:=(show ∃t,u=Value.bytes b t from r);cases e;rfl
 | flt b=>obtain⟨t,e⟩:=(show ∃t,u=Value.float b t from r);cases e;rfl
 | ref a=>cases (show u=Value.ref a from r);rfl
 | ty n=>cases (show u=Value.type n from r);rfl
section
variable {P:Program}{w:World}{H H':Hp}{h h':Heap}{a C dx:Addr}{fs fs':List (Str×V)}
theorem oQ (hok:HOk P w H h)(e:H a=some (.ins C dx fs)):∃mA,ObjM h a dx C mA/\(∀f,RelO (fs.lookup f) (mA f))/\PySem.Within mA (fs.map (·.1))/\fs.length<=1000/\H dx=some (.own a):=by
 obtain⟨d,z,ne,ob,mA,n,r,q⟩:=(show ObjOk P w H h a (.ins C dx fs) from hok a _ e)
 exact⟨mA,⟨ob,n,ne⟩,r,q,z,d⟩
end
structure Cls (K:PySem.W.Frag)(C:Addr):Prop where
 pg:PySem.W.plainGet K C Str.empty=true
 hd:PySem.W.hasDictIn K C=true
 po:PySem.W.plainOver K C=true
 sa:PySem.W.findIn K (.ref C) "__setattr__" =some (some (.builtin "object.__setattr__"))
theorem Cls.get {K:PySem.W.Frag}{C:Addr} (c:Cls K C) (f:Str):PySem.W.plainGet K C f=true:=c.pg
def NoAttr (K:PySem.W.Frag)(C:Addr)(f:Str):Prop:=PySem.W.findIn K (.ref C) f=some none
theorem NoAttr.taker {K:PySem.W.Frag}{C:Addr}{f:Str} (n:NoAttr K C f):PySem.W.takerIn K C f=some none:=by
 unfold PySem.W.takerIn;rw[show PySem.W.findIn K (.ref C) f=some none from n];rfl
structure dZ (K:PySem.W.Frag)(C:Addr)(m:Str)(f:Addr):Prop where
 at_:PySem.W.findIn K (.ref C) m=some (some (.ref f))
 fn:PySem.W.isFn K (.ref f)=true
 kp:PySem.W.keepIn K (.ref f)=true
section
variable {X:Cx}{pins:List (Addr×Obj)}{σ:St}{H:Hp}{s:Shared}{a C dx:Addr}{fs:List (Str×V)}{f:Str}{v:V}{A:Around}{E:Value->Shared->Prop}
theorem BL {b:Bool}{Q:Value->Shared->Prop} (I:Inv X pins σ H s) (e:H a=some (.ins C dx fs)) (c:Cls X.K C) (n:NoAttr X.K C f) (l:fs.lookup f=some v)
  (h:∀u s',Inv X pins σ H s'->RelV v u->Q u s'):wpAny (model X.prog X.w) A (getAttr (.ref a) f b) Q E s:=by
 obtain⟨mA,O,r,_,_,_⟩:=oQ I.hok e;obtain⟨u,hu,ru⟩:=RelO.some_of (v:=v) (o:=mA f) (by rw[←l];exact r f);exact IV I.kIn O (c.get f) c.hd n hu (EG ru) (h u _ (I.tok _) ru)
theorem jB {m:Str}{g:Addr}{pl:Sem Bool}{Q:Value×List Value->Shared->Prop} (I:Inv X pins σ H s) (e:H a=some (.ins C dx fs)) (c:Cls X.K C) (k:dZ X.K C m g) (l:fs.lookup m=none)
  (h:Q (.ref g,[.ref a]) s):wpAny (model X.prog X.w) A (getMethod (.ref a) m pl) Q E s:=by
 obtain⟨mA,O,r,_,_,_⟩:=oQ I.hok e;have hn:mA m=none:=RelO.none_of (by rw[←l];exact r m);exact GS I.kIn O (c.get m) k.at_ k.fn hn h
theorem AW {y:V}{u:Value}{Q:Unit->Shared->Prop} (I:Inv X pins σ H s) (e:H a=some (.ins C dx fs)) (c:Cls X.K C) (n:NoAttr X.K C f) (hl:fs.length<1000) (ry:RelV y u)
  (h:∀s',Inv X pins σ (upd H a (.ins C dx (b4 f y fs))) s'->Q () s'):wpAny (model X.prog X.w) A (setAttr (.ref a) f u) Q E s:=by
 obtain⟨mA,O,r,wi,_,ho⟩:=oQ I.hok e;have hz:(fs.map (·.1)).length<=sizeLine:=by rw[List.length_map,sizeLine_eq];lia
 refine LB I.kIn O c.sa c.po n.taker c.hd wi hz fun h' O' sb=>h _ ?_;have hd:∃o,h'.get? dx=some o:=let ⟨o,_,_,e',_⟩:=O'.ns;⟨o,e'⟩;refine I.write (x:=a) (e:=dx) (by rw[e];exact True.intro) (.inr ho) (fun b q hb z=>(sb.2 b hb).trans z) hd ?_;refine⟨by rw[aG O.ne];exact ho,?_,O.ne,O'.obj,_,O'.ns,fun g=> ?_,fun g hg=> ?_⟩
 ·have:=pN f y fs;lia
 ·show RelO ((b4 f y fs).lookup g) (if g=f then some u else mA g);rw[g0]
  by_cases q:g=f
  ·rw[if_pos q,if_pos q];exact ry
  ·rw[if_neg q,if_neg q];exact r g
 ·by_cases q:g=f
  ·rw[q];exact(m5 f y fs).1
  ·refine(m5 f y fs).2 g (wi g fun z=>hg ?_);show (if g=f then some u else mA g)=none;rw[if_neg q];exact z
theorem Inv.made (I:Inv X pins σ H s):Inv X pins σ (upd (upd H s.heap.objs.size (.own (s.heap.objs.size+1))) (s.heap.objs.size+1) (.ins C s.heap.objs.size []))
  { s with heap:=(s.heap.push PySem.W.emptyDict).push (PySem.W.instObj C s.heap.objs.size) }:=by
 have e1:(s.heap.push PySem.W.emptyDict).get? s.heap.objs.size=some PySem.W.emptyDict:=Heap.get?_push_size s.heap rfl;have e2:((s.heap.push PySem.W.emptyDict).push (PySem.W.instObj C s.heap.objs.size)).get? (s.heap.objs.size+1)=some (PySem.W.instObj C s.heap.objs.size):=by
  have:=Heap.get?_push_size (s.heap.push PySem.W.emptyDict) (o:=PySem.W.instObj C s.heap.objs.size) rfl
  rwa [Heap.size_push]at this
 have e3:(s.heap.push PySem.W.emptyDict).Ns s.heap.objs.size (fun _=>none):=⟨PySem.W.emptyDict,#[],_,e1,rfl,(fun e he=>absurd he (by simp)),fun _=>rfl⟩
 have I1:=I.laid (a:=s.heap.objs.size) (o:= .own (s.heap.objs.size+1)) (h':=s.heap.push PySem.W.emptyDict) (t':=s.toks) (fun b u q=>Heap.get?_push_of_some _ q) (Nat.le_refl _) ⟨_,e1⟩;refine I1.laid (a:=s.heap.objs.size+1) (o:= .ins C s.heap.objs.size []) (t':=s.toks) (fun b u q=>Heap.get?_push_of_some _ q) (Nat.le_of_eq (Heap.size_push _ _)) ?_;have ne:s.heap.objs.size≠s.heap.objs.size+1:=Nat.ne_of_lt (Nat.lt_succ_self _);refine⟨by rw[aG ne,aR],Nat.zero_le _,ne,e2,fun _=>none,(Heap.Ns1.of_empty e3).at fun o q=>Heap.get?_push_of_some _ q,fun _=>True.intro,fun y hy=>absurd rfl hy⟩
theorem zV {prog:Program}{w:World}{env:Env}{e:Expr}{f:Str}{pos:Pos}{s:Shared}{Q:Value->Shared->Prop} (hb:attributeBase e f env (eval e env)=eval e env)
  (h:wpAny (model prog w) A (eval e env) (fun o s₁=>wpAny (model prog w) A (getAttr o f true) Q E s₁) E s):wpAny (model prog w) A (eval (.Attribute e f pos) env) Q E s :=
 Attribute_any_ h (by rw[arm_eval_Attribute,hb])
end
def FP (K:PySem.W.Frag)(ta:TE)(f:Str):TE:=fun σ H Q=>ta σ H fun x H1=>∃a C dx fs v,x= .ref a/\H1 a=some (.ins C dx fs)/\Cls K C/\NoAttr K C f/\fs.lookup f=some v/\Q v H1
def OC (K:PySem.W.Frag)(ta tv:TE)(f:Str):TS:=fun D σ H=>tv σ H fun y H1=>ta σ H1 fun x H2=>∃a C dx fs,x= .ref a/\H2 a=some (.ins C dx fs)/\Cls K C/\NoAttr K C f/\fs.length<1000 ∧
 D.nx σ (upd H2 a (.ins C dx (b4 f y fs)))
def N8 (X:Cx)(op:Operator)(rd:V->V->Hp->VK->Prop):Prop :=
 ∀(pins:List (Addr×Obj)) (s:Shared) (σ:St) (H:Hp) (x y:V) (u v:Value) (Q:VK),Inv X pins σ H s->RelV x u->RelV y v->rd x y H Q->wpAny (model X.prog X.w) X.A (inplaceOp op u v) (EP X pins σ Q) X.xe s
section
variable {X:Cx}{o e value:Expr}{f:Str}{pos pos' tpos:Pos}{ta tv:TE}
theorem bI (he:PE X e ta)(hb:attributeBase e f X.env (eval e X.env)=eval e X.env):PE X (.Attribute e f pos) (FP X.K ta f):=by
 intro pins s σ H Q I h;refine zV hb (thn (he pins s σ H _ I h) fun u s1 ⟨x,H1,I1,rx,a,C,dx,fs,v,ex,ea,c,n,l,q⟩=> ?_);subst ex;obtain rfl:u=Value.ref a:=rx;exact BL I1 ea c n l fun u' s2 I2 ru=>⟨v,H1,I2,ru,q⟩
theorem fU (ha:PE X o ta)(hv:PE X value tv)(hs:swapsWith value (some (.Attribute o f pos')) pos.line X.env=pure false):PS X (.Assign [.Attribute o f pos'] value pos) (OC X.K ta tv f):=by
 intro pins s σ H D I h;refine plainObj_wpAny_Assign_Attribute (thn (hv pins s σ H _ I h) fun u s1 ⟨y,H1,I1,ry,q⟩=>thn (ha pins s1 σ H1 _ I1 q) fun ov s2 ⟨x,H2,I2,rx,a,C,dx,fs,ex,ea,c,n,l,q2⟩=> ?_) hs;subst ex;obtain rfl:ov=Value.ref a:=rx;exact AW I2 ea c n l ry fun s3 I3=>⟨σ,_,I3,q2⟩
def M3:V->V->Hp->VK->Prop:=fun x y H Q=>∃i j,x= .int i/\y= .int j/\Q (.int (i+j)) H
theorem M7:N8 X .Add M3:=by
 rintro pins s σ H x y u v Q I rx ry ⟨i,j,rfl,rfl,q⟩;obtain⟨t,rfl⟩:=(show ∃t,u=Value.int i t from rx)
 obtain⟨t',rfl⟩:=(show ∃t',v=Value.int j t' from ry)
 exact PyProof.Rows.iadd_int ⟨.int (i+j),H,I.tok _,⟨_,rfl⟩,q⟩
end
section
variable {X:Cx}{pins:List (Addr×Obj)}{σ:St}{H:Hp}{s:Shared}{A:Around}{E:Value->Shared->Prop}{Q:Value->Shared->Prop}{c:Value}{b:Bool}
inductive eX (K:PySem.W.Frag)(H:Hp):V->Value->Prop where
 | non:eX K H .non (.type "NoneType")
 | bl (x:Bool):eX K H (.bl x) (.type "bool")
 | int (i:Int):eX K H (.int i) (.type "int")
 | str (x:Str):eX K H (.str x) (.type "str")
 | flt (x:UInt64):eX K H (.flt x) (.type "float")
 | lst {a:Addr}{xs:List V} (e:H a=some (.lst xs)):eX K H (.ref a) (.type "list")
 | frz {a:Addr}{o:Obj}{xs:List V} (e:H a=some (.frz o (.lst xs))):eX K H (.ref a) (.type "list")
 | tup {a:Addr}{xs:List V} (e:H a=some (.tup xs)):eX K H (.ref a) (.type "tuple")
 | dK {a:Addr}{kvs:List (Key×V)} (e:H a=some (.dK kvs)):eX K H (.ref a) (.type "dict")
 | dT {a:Addr}{kvs:List (List Key×V)} (e:H a=some (.dT kvs)):eX K H (.ref a) (.type "dict")
 | ins {a C dx:Addr}{fs:List (Str×V)} (e:H a=some (.ins C dx fs)) (cl:Cls K C) (ha:PySem.W.findIn K (.ref C) "__class__" =some (some (.builtin "object.__class__")))
   (hn:PySem.W.specialIn K (.builtin "object.__class__") "__get__" =some (some (.builtin "getset_descriptor.__get__")))(htk:PySem.W.takesIn K (.builtin "object.__class__")=some true)
   (hm:PySem.W.mroIn K C (.type "object")=some true):eX K H (.ref a) (.ref C)
theorem DA {x:V}{u t:Value} (I:Inv X pins σ H s) (rx:RelV x u) (ty:eX X.K H x t) (e:PySem.W.kitOne X.K t c=some b) (h:∀tk,Q (.bool b) { s with toks:=tk }) :
  wpAny (model X.prog X.w) A (call (.builtin "isinstance") [u,c]) Q E s:=by
 cases ty with
 | non=>cases (show u=Value.none from rx);exact PySem.W.kia_one PySem.W.kitx_none I.kIn True.intro e (fun z=>nomatch z) h
 | bl y=>cases (show u=Value.bool y from rx);exact PySem.W.kia_one PySem.W.kitx_bool I.kIn True.intro e (fun z=>nomatch z) h
 | int i=>obtain⟨t,q⟩:=(show ∃t,u=Value.int i t from rx);cases q;exact PySem.W.kia_one PySem.W.kitx_int I.kIn True.intro e (fun z=>nomatch z) h
 | str y=>obtain⟨t,q⟩:=(show ∃t,u=Value.str y t from rx);cases q;exact PySem.W.kia_one PySem.W.kitx_str I.kIn True.intro e (fun z=>nomatch z) h
 | flt y=>obtain⟨t,q⟩:=(show ∃t,u=Value.float y t from rx);cases q;exact PySem.W.kia_one PySem.W.kitx_float I.kIn True.intro e (fun z=>nomatch z) h
 | @lst a xs ea =>
  cases (show u=Value.ref a from rx);obtain⟨_,_,n,_,h1⟩:=(show ObjOk X.prog X.w H s.heap a (.lst xs) from I.hok a _ ea)
  exact PySem.W.kia_one PySem.W.kitx_list I.kIn ⟨_,h1,rfl⟩ e (fun z=>nomatch z) h
 | @frz a ob xs ea =>
  cases (show u=Value.ref a from rx);obtain⟨_,_,_,n,_,h1⟩:=(show ObjOk X.prog X.w H s.heap a (.frz ob (.lst xs)) from I.hok a _ ea)
  exact PySem.W.kia_one PySem.W.kitx_list I.kIn ⟨_,h1,rfl⟩ e (fun z=>nomatch z) h
 | @tup a xs ea =>
  cases (show u=Value.ref a from rx);obtain⟨_,_,_,p⟩:=(show ObjOk X.prog X.w H s.heap a (.tup xs) from I.hok a _ ea)
  obtain⟨o,h1,h2,_⟩:=p;exact PySem.W.kia_one PySem.W.kitx_tuple I.kIn ⟨o,h1,h2⟩ e (fun z=>nomatch z) h
 | @dK a kvs ea =>
  cases (show u=Value.ref a from rx);obtain⟨_,_,vs,_,p⟩:=(show ObjOk X.prog X.w H s.heap a (.dK kvs) from I.hok a _ ea)
  obtain⟨o,es,ep,h1,h2,_⟩:=p;exact PySem.W.kia_one PySem.W.kitx_dict I.kIn ⟨o,h1,h2.1⟩ e (fun z=>nomatch z) h
 | @dT a kvs ea =>
  cases (show u=Value.ref a from rx);obtain⟨_,_,xs,_,o,es,ep,h1,h2,_⟩:=(show ObjOk X.prog X.w H s.heap a (.dT kvs) from I.hok a _ ea)
  exact PySem.W.kia_one PySem.W.kitx_dict I.kIn ⟨o,h1,h2.1⟩ e (fun z=>nomatch z) h
 | @ins a C dx fs ea cl ha hn htk hm =>
  cases (show u=Value.ref a from rx);obtain⟨mA,O,_⟩:=oQ I.hok ea;obtain⟨od,J,_⟩:=O.look;exact PySem.W.kia_one (PySem.W.kitx_own (cl.get _) cl.hd ha hn htk hm) I.kIn J e (fun z=>nomatch z) h
end
end L2
namespace L2
open PySem PySem.Spec PyProof.Rows
structure Room (k:Nat)(A:Around):Prop where
 hd:A.handled=none
 dp:A.depth+3 * k+5<recursionLimit
 un:A.units+16 * k+200<cLine
theorem Room.mono {j k:Nat}{A:Around} (r:Room k A) (h:j<=k):Room j A:=⟨r.hd,by have:=r.dp;lia,by have:=r.un;lia⟩
theorem Room.deeper {k:Nat}{A:Around} (r:Room (k+1) A) (env:Env):Room k (A.deeper env) :=
 ⟨r.hd,by have:=r.dp;show A.depth+1+3 * k+5<_;lia,by have:=r.un;show A.units+3+16 * k+200<_;lia⟩
theorem B1 {A:Around}{C:Addr}{us:List Value}{kw:List (Str×Value)}:(A.under (.builtin "type.__call__" ⟨.ref C::us,kw⟩)).depth=A.depth+1:=by
 first|rfl|simp[Around.under,Code.weight,Code.isCreation,Code.isGuard,Code.isCaller,Code.frames,Code.isFrame,guardIds]
theorem BC {A:Around}{C:Addr}{us:List Value}{kw:List (Str×Value)}:(A.under (.builtin "type.__call__" ⟨.ref C::us,kw⟩)).units=A.units+1:=by
 first|rfl|simp[Around.under,Code.cUnits,Code.frames,Code.isFrame]
theorem Room.make {k:Nat}{A:Around} (r:Room (k+1) A) (C:Addr) (us:List Value) (kw:List (Str×Value)):Room k (A.under (.builtin "type.__call__" ⟨.ref C::us,kw⟩)) :=
 ⟨r.hd,by have:=r.dp;rw[B1];lia,by have:=r.un;rw[BC];lia⟩
theorem Room.depth {k:Nat}{A:Around} (r:Room k A):A.depth<recursionLimit:=by have:=r.dp;lia
theorem Room.units0 {k:Nat}{A:Around} (r:Room k A):A.units<cLine:=by have:=r.un;lia
def F8:TA:=fun _ H Q=>Q [] H
def HL (ta:TE)(tr:TA):TA:=fun σ H Q=>ta σ H fun x H1=>tr σ H1 fun xs H2=>Q (x::xs) H2
section
variable {X:Cx}{e:Expr}{es:List Expr}{te:TE}{t:TA}{pos:Pos}
theorem aD:PA X [] F8:=fun _ _ _ _ H Q I h=>Calls.spliced_nil ⟨[],H,I,.nil,h⟩
theorem aA (ha:PE X e te)(hr:PA X es t)(hs:starEach (e::es) X.env=(false,eval e X.env)::starEach es X.env:=by rfl):PA X (e::es) (HL te t):=by
 intro pos pins s σ H Q I h;rw[hs];show wpAny _ _ (spliced ((false,eval e X.env)::backTo pos (starEach es X.env))) _ _ s;refine Calls.spliced_cons (thn (ha pins s σ H _ I h) fun u s1 ⟨x,H1,I1,r1,q1⟩=> ?_);exact thn (hr pos pins s1 σ H1 _ I1 q1) fun us s2 ⟨xs,H2,I2,r2,q2⟩=>⟨x::xs,H2,I2,.cons r1 r2,q2⟩
def O3 (t:TA):TE:=fun σ H Q=>t σ H fun xs H1=>xs.length<=sizeLine/\∀p,H1 p=none->Q (.ref p) (upd H1 p (.tup xs))
def M2 (t:TA):TE:=fun σ H Q=>t σ H fun xs H1=>xs.length<=sizeLine/\∀p,H1 p=none->Q (.ref p) (upd H1 p (.lst xs))
theorem mU {x1}(h:PA X es t):PE X (.Tuple es x1 pos) (O3 t):=by
 intro pins s σ H Q I hq;refine wpAny_Tuple_spliced (thn (h pos pins s σ H _ I hq) fun us s1 ⟨xs,H1,I1,r,z,q⟩=>⟨by rw[←r.length];exact z,?_⟩);have hf:H1 s1.heap.objs.size=none:=I1.hok.fresh (Nat.le_refl _);refine⟨.ref s1.heap.objs.size,upd H1 s1.heap.objs.size (.tup xs),I1.laid (t':=s1.toks) (fun b u e=>Heap.get?_push_of_some _ e) (Nat.le_refl _) ?_,rfl,q _ hf⟩;exact⟨z,us,r,⟨_,Heap.get?_push_size _ rfl,rfl,_,rfl⟩⟩
theorem cP (h:PA X es t):PE X (.List es pos) (M2 t):=by
 intro pins s σ H Q I hq;refine wpAny_List_spliced (thn (h pos pins s σ H _ I hq) fun us s1 ⟨xs,H1,I1,r,z,q⟩=>⟨by rw[←r.length];exact z,?_⟩);have hf:H1 s1.heap.objs.size=none:=I1.hok.fresh (Nat.le_refl _);refine⟨.ref s1.heap.objs.size,upd H1 s1.heap.objs.size (.lst xs),I1.laid (t':=s1.toks) (fun b u e=>Heap.get?_push_of_some _ e) (Nat.le_refl _) ?_,rfl,q _ hf⟩;exact⟨z,us,0,r,Heap.get?_push_size _ rfl⟩
end
abbrev Sp:=List V->Hp->VK->XK->Prop
abbrev CXT:=List Env->Hp->Shared->XK->Value->Shared->Prop
structure Env0 (P:Program)(w:World)(K:PySem.W.Frag)(mg:Str->Option Value)(base:Heap)(A:Around)(outer:List Env)(s:Shared)(H:Hp):Prop where
 frames:A.frames=some outer
 mod:Mod K mg base
 bs:∀b o,base.get? b=some o->s.heap.get? b=some o/\H b=none
 bsz:base.objs.size<=s.heap.objs.size
 funs:s.heap.FunFrames base outer
 frf:∀b∈frs outer,H b=none
 hok:HOk P w H s.heap
 bare:AllBare s.gens
def CE (outer:List Env)(P:Program)(w:World)(H:Hp)(s:Shared)(Q:VK)(u:Value)(s':Shared):Prop :=
 ∃v H',s'.os=s.os/\AllBare s'.gens/\Un (frs outer) [] H H' s.heap s'.heap/\HOk P w H' s'.heap/\RelV v u/\Q v H'
def CR (CX:CXT)(outer:List Env)(P:Program)(w:World)(H:Hp)(s:Shared)(Q:VK)(E:XK)(r:Result)(s':Shared):Prop :=
 match r with
 | .ok (.ret u)=>CE outer P w H s Q u s'
 | .ok _=>False
 | .error e=>CX outer H s E e s'
structure aY (P:Program)(w:World)(K:PySem.W.Frag)(mg:Str->Option Value)(base:Heap)(CX:CXT)(k:Nat)(f:Addr)(fd:FuncData)(ps:List Str)(sp:Sp):Prop where
 len:∀vs H Q E,sp vs H Q E->vs.length=ps.length
 run:∀(A:Around) (outer:List Env) (s:Shared) (H:Hp) (args:Args) (us:List Value) (vs:List V) (Q:VK) (E:XK),Room k A->Env0 P w K mg base A outer s H->BindsTo s fd args (ps.zip us)->Vals vs us->sp vs H Q E →
  codeAny (model P w) A (.call (.ref f) args) (CR CX outer P w H s Q E) s
theorem Env0.make {P:Program}{w:World}{K:PySem.W.Frag}{mg:Str->Option Value}{base:Heap}{A:Around}{outer:List Env}{s:Shared}{H:Hp} (e:Env0 P w K mg base A outer s H) (C:Addr) (us:List Value) (kw:List (Str×Value)) :
  Env0 P w K mg base (A.under (.builtin "type.__call__" ⟨.ref C::us,kw⟩)) outer s H:=⟨by first|exact e.frames|(simpa [Around.under,Code.envs,Code.isFrame,pushEnvs] using e.frames),e.mod,e.bs,e.bsz,e.funs,e.frf,e.hok,e.bare⟩
section
variable {X:Cx}{pins:List (Addr×Obj)}{σ:St}{H:Hp}{s s':Shared}
theorem Inv.env0 (I:Inv X pins σ H s):Env0 X.prog X.w X.K X.mg X.base X.A X.stack s H :=
 ⟨I.ok.frames,I.ok.mod,I.bs,Nat.le_trans I.ok.bsz I.sz,I.stack,I.stkFree,I.hok,I.bare⟩
theorem Inv.after {Q:VK}{u:Value} (I:Inv X pins σ H s) (h:CE X.stack X.prog X.w H s Q u s'):EP X pins σ Q u s':=by
 obtain⟨v,H',os,bare,un,hok,r,q⟩:=h;obtain⟨hh,g,d,t,os'⟩:=s';obtain rfl:os'=s.os:=os;exact⟨v,H',I.call (h':=hh) (g':=g) (d':=d) (t':=t) (ch:=[]) un hok bare (fun b z=>absurd z (by simp)),r,q⟩
end
def rJ (sp:Sp)(dvs:List V)(E:XK)(t:TA):TE:=fun σ H Q=>t σ H fun vs H1=>sp (vs++dvs) H1 Q E
def AT (C:Addr)(sp:Sp)(dvs:List V)(E:XK)(t:TA):TE:=fun σ H Q=>t σ H fun vs H1=>∀x dx,H1 x=none->H1 dx=none->dx≠x →
 sp (.ref x::(vs++dvs)) (upd (upd H1 dx (.own x)) x (.ins C dx [])) (fun v H2=>v= .non/\Q (.ref x) H2) E
def Binds (K:PySem.W.Frag)(fd:FuncData)(ps:List Str)(ds:List Value):Prop :=
 ∀(s:Shared) (us:List Value),K.In s.heap->(us++ds).length=ps.length->BindsTo s fd ⟨us,[]⟩ (ps.zip (us++ds))
theorem Binds.all {K:PySem.W.Frag}{fd:FuncData}{ps:List Str} (h:∀us:List Value,us.length=ps.length->bindArgs fd ⟨us,[]⟩=pure (ps.zip us)):Binds K fd ps []:=fun s us _ hl=>by
 rw[List.append_nil]at hl ⊢;exact .of_eq (h us hl)
def iC (CX:CXT)(X:Cx)(E:XK):Prop:=∀(pins:List (Addr×Obj)) (σ:St) (H:Hp) (s:Shared) (e:Value) (s':Shared),Inv X pins σ H s->CX X.stack H s E e s'->X.xe e s'
section
variable {X:Cx}{CX:CXT}{k:Nat}{f C:Addr}{fd:FuncData}{ps:List Str}{sp:Sp}{dvs:List V}{ds:List Value}{E:XK}{x m:Str}{p pos apos:Pos}{e o:Expr}{es:List Expr}{ta:TE}{t:TA}
theorem rK {pins:List (Addr×Obj)}{σ:St}{H:Hp}{s:Shared}{Q:VK}{us:List Value}{vs:List V} (F:aY X.prog X.w X.K X.mg X.base CX k f fd ps sp) (hr:Room k X.A) (hb:Binds X.K fd ps ds) (hd:Vals dvs ds) (hx:iC CX X E)
  (I:Inv X pins σ H s)(r:Vals vs us)(h:sp (vs++dvs) H Q E):wpAny (model X.prog X.w) X.A (call (.ref f) us) (EP X pins σ Q) X.xe s:=by
 have r2:Vals (vs++dvs) (us++ds):=r.append hd;have hl:(us++ds).length=ps.length:=by rw[←r2.length];exact F.len _ _ _ _ h
 refine wpAny_call (codeAny_mono (F.run X.A X.stack s H ⟨us,[]⟩ (us++ds) (vs++dvs) Q E hr I.env0 (hb s us I.kIn hl) r2 h) fun r s' hq=> ?_);cases r with
 | error e=>exact hx pins σ H s e s' I hq
 | ok fl =>
  cases fl with
  | ret u=>exact I.after hq
  | next=>exact False.elim hq
  | brk=>exact False.elim hq
  | cont=>exact False.elim hq
theorem AL (F:aY X.prog X.w X.K X.mg X.base CX k f fd ps sp)(hr:Room k X.A)(hg:Gl X x)(hm:X.mg x=some (.ref f))(hk:PySem.W.keepIn X.K (.ref f)=true)(hb:Binds X.K fd ps ds)(hd:Vals dvs ds)(hx:iC CX X E)
  (ha:PA X (e::es) t)(hdb:(x==("__debug__" :Str))=false:=by decide)(he:starEach (e::es) X.env=(false,eval e X.env)::starEach es X.env:=by rfl)(hpl:(backTo pos (starEach es X.env)).any (·.1)=false:=by rfl) :
  PE X (.Call (.Name x p) (e::es) [] pos) (rJ sp dvs E t):=by
 intro pins s σ H Q I h;refine wpAny_Call_Name_kw (kQ I hg hm ?_ hdb);refine PySem.W.callWith_K (h₀:=X.base) I.ok.mod.kin hk (thn (ha pos pins s σ H _ I h) fun us s1 ⟨vs,H1,I1,r,q⟩=>⟨I1.kIn,?_⟩) he hpl;exact rK F hr hb hd hx I1 r q
structure Mk (K:PySem.W.Frag)(C f:Addr):Prop where
 makes:PySem.W.makesIn K C=true
 init:PySem.W.findIn K (.ref C) "__init__" =some (some (.ref f))
 fn:PySem.W.isFn K (.ref f)=true
 kp:PySem.W.keepIn K (.ref C)=true
theorem GA {pins:List (Addr×Obj)}{σ:St}{H:Hp}{s:Shared}{Q:VK}{us:List Value}{vs:List V} (M:Mk X.K C f) (F:aY X.prog X.w X.K X.mg X.base CX k f fd ps sp) (hr:Room (k+1) X.A) (hb:Binds X.K fd ps ds) (hd:Vals dvs ds)
  (hx:iC CX X E)(I:Inv X pins σ H s)(r:Vals vs us)
  (h:∀x dx,H x=none->H dx=none->dx≠x->sp (.ref x::(vs++dvs)) (upd (upd H dx (.own x)) x (.ins C dx [])) (fun v H2=>v= .non/\Q (.ref x) H2) E) :
  wpAny (model X.prog X.w) X.A (call (.ref C) us) (EP X pins σ Q) X.xe s:=by
 have hq:=h (s.heap.objs.size+1) s.heap.objs.size (I.hok.fresh (Nat.le_succ _)) (I.hok.fresh (Nat.le_refl _)) (Nat.ne_of_lt (Nat.lt_succ_self _));have I2:=Inv.made (C:=C) I;have r2:Vals (V.ref (s.heap.objs.size+1)::(vs++dvs)) (Value.ref (s.heap.objs.size+1)::(us++ds)):= .cons rfl (r.append hd);have hl:(Value.ref (s.heap.objs.size+1)::us++ds).length=ps.length:=by
  have e:=r2.length;rw[F.len _ _ _ _ hq]at e;exact e.symm
 refine wpAny_call (FI (f:=f) I.kIn M.makes M.init (beq_iff_eq.mp M.fn) (codeAny_mono (F.run _ X.stack _ _ ⟨Value.ref (s.heap.objs.size+1)::us,[]⟩ (Value.ref (s.heap.objs.size+1)::(us++ds)) _ _ E (hr.make C us [])
  (I2.env0.make C us []) (hb _ (Value.ref (s.heap.objs.size+1)::us) I2.kIn hl) r2 hq) fun r s' hq'=> ?_))
 cases r with
 | error e=>exact hx pins σ _ _ e s' I2 hq'
 | ok fl =>
  cases fl with
  | ret u =>
   obtain⟨v,H',I3,rv,ev,q3⟩:=I2.after hq';subst ev;exact⟨rv,⟨V.ref (s.heap.objs.size+1),H',I3,rfl,q3⟩⟩
  | next=>exact False.elim hq'
  | brk=>exact False.elim hq'
  | cont=>exact False.elim hq'
theorem K6 (M:Mk X.K C f)(F:aY X.prog X.w X.K X.mg X.base CX k f fd ps sp)(hr:Room (k+1) X.A)(hg:Gl X x)(hm:X.mg x=some (.ref C))(hb:Binds X.K fd ps ds)(hd:Vals dvs ds)(hx:iC CX X E)
  (ha:PA X (e::es) t)(hdb:(x==("__debug__" :Str))=false:=by decide)(he:starEach (e::es) X.env=(false,eval e X.env)::starEach es X.env:=by rfl)(hpl:(backTo pos (starEach es X.env)).any (·.1)=false:=by rfl) :
  PE X (.Call (.Name x p) (e::es) [] pos) (AT C sp dvs E t):=by
 intro pins s σ H Q I h;refine wpAny_Call_Name_kw (kQ I hg hm ?_ hdb);refine PySem.W.callWith_K (h₀:=X.base) I.ok.mod.kin M.kp (thn (ha pos pins s σ H _ I h) fun us s1 ⟨vs,H1,I1,r,q⟩=>⟨I1.kIn,?_⟩) he hpl;exact GA M F hr hb hd hx I1 r q
end
section
variable {X:Cx}{CX:CXT}{k:Nat}{f C:Addr}{fd:FuncData}{ps ks:List Str}{sp:Sp}{E:XK}{x m:Str}{p pos apos kpos:Pos}{e o:Expr}{es:List Expr}{kws:List Keyword}{te ta:TE}{t tk:TA}{nm:Option Str}
variable {g:List Value->List Value->List Value}{gV:List V->List V->List V}
end
structure aS (N P:List Str)(sc:Scope):Prop where
 kind:sc.kind= .function
 co:sc.isCoroutine=false
 gen:sc.isGenerator=false
 nd:N.Nodup
 pre:N.take P.length=P
 par:∀x∈P,sc.names.lookup x=some .local∨sc.names.lookup x=some .cell
 nofree:∀y∈sc.names,y.2≠ .free
theorem vN {kindOf:Str->Option NameKind}{x:Str}:∀{binds:List (Str×Value)}{m:Str->Option Value},(∀v,(x,v)∉binds)->bindL kindOf binds m x=m x
 | [],_,_=>rfl
 | (n,v)::r,m,h=>by
  unfold bindL;rw[vN fun w hw=>h w (List.mem_cons_of_mem _ hw)]
  split
  ·have:x≠n:=by rintro rfl;exact h v List.mem_cons_self
   simp[this]
  ·rfl
theorem u5 {kindOf:Str->Option NameKind}{x:Str}:∀{binds:List (Str×Value)}{m:Str->Option Value},(∀v,(x,v)∉binds)->bindC kindOf binds m x=m x
 | [],_,_=>rfl
 | (n,v)::r,m,h=>by
  unfold bindC;rw[u5 fun w hw=>h w (List.mem_cons_of_mem _ hw)]
  split
  ·rfl
  ·have:x≠n:=by rintro rfl;exact h v List.mem_cons_self
   simp[this]
theorem vJ {kindOf:Str->Option NameKind}{x:Str}{v:Value}:∀{P:List Str}{vs:List Value}{i:Nat}{m:Str->Option Value},P.Nodup->P[i]? =some x->vs[i]? =some v->kindOf x=some .local →
  bindL kindOf (P.zip vs) m x=some v
 | [],_,_,_,_,h,_,_=>by simp at h
 | _::_,[],_,_,_,_,h,_=>by simp at h
 | p::P,w::vs,0,m,nd,h1,h2,hk=>by
  simp at h1 h2;subst h1;subst h2;show bindL kindOf ((p,w)::P.zip vs) m p=_;unfold bindL;rw[vN fun v hv=>(List.nodup_cons.mp nd).1 (List.of_mem_zip hv).1,if_pos hk];simp
 | p::P,w::vs,i+1,m,nd,h1,h2,hk=>by
  show bindL kindOf ((p,w)::P.zip vs) m x=_;unfold bindL;exact vJ (i:=i) (List.nodup_cons.mp nd).2 (by simpa using h1) (by simpa using h2) hk
theorem uZ {kindOf:Str->Option NameKind}{x:Str}{v:Value}:∀{P:List Str}{vs:List Value}{i:Nat}{m:Str->Option Value},P.Nodup->P[i]? =some x->vs[i]? =some v->kindOf x≠some .local →
  bindC kindOf (P.zip vs) m x=some v
 | [],_,_,_,_,h,_,_=>by simp at h
 | _::_,[],_,_,_,_,h,_=>by simp at h
 | p::P,w::vs,0,m,nd,h1,h2,hk=>by
  simp at h1 h2;subst h1;subst h2;show bindC kindOf ((p,w)::P.zip vs) m p=_;unfold bindC;rw[u5 fun v hv=>(List.nodup_cons.mp nd).1 (List.of_mem_zip hv).1,if_neg hk];simp
 | p::P,w::vs,i+1,m,nd,h1,h2,hk=>by
  show bindC kindOf ((p,w)::P.zip vs) m x=_;unfold bindC;exact uZ (i:=i) (List.nodup_cons.mp nd).2 (by simpa using h1) (by simpa using h2) hk
def fS (N:List Str)(vs:List V):St:=vs.map some++List.replicate (N.length - vs.length) none
def gM (CX:CXT)(P:Program)(w:World)(K:PySem.W.Frag)(mg:Str->Option Value)(base:Heap)(N:List Str)(qual:Str)(scope:Scope)(f:Addr)(cd:Value)(A:Around)(outer:List Env)(s:Shared)(H:Hp)(E:XK):Cx where
 prog:=P
 w:=w
 K:=K
 mg:=mg
 base:=base
 A:=A.deeper (envOfC qual scope s.heap.objs.size f cd)
 N:=N
 s₀:=s
 H₀:=H
 env:=envOfC qual scope s.heap.objs.size f cd
 outer:=outer
 stack:=envOfC qual scope s.heap.objs.size f cd::outer
 ex:=[]
 calm:=true
 fn:=fun _=>true
 pn:=[]
 xe:=fun e s'=>wpAny (model P w) (A.deeper (envOfC qual scope s.heap.objs.size f cd)) (leaving (envOfC qual scope s.heap.objs.size f cd) e) (fun _ s''=>CX outer H s E e s'') (fun e' s''=>CX outer H s E e' s'') s'
theorem pV {sc:Scope}{n:Nat}{x:Str} (h:sc.names.lookup x=some .cell):∃c,(cellsFrom n sc.names []).lookup x=some c:=by
 have q:=PySem.W.cellsFrom_some sc.names n [] (.inl h);exact Option.isSome_iff_exists.mp q
theorem C4 {CX:CXT}{P:Program}{w:World}{K:PySem.W.Frag}{mg:Str->Option Value}{base:Heap}{N ps:List Str}{qual:Str}{scope:Scope}{f:Addr}{cd:Value}{A:Around}{outer:List Env}{s s1:Shared}{H:Hp}{E:XK}{us:List Value}{vs:List V}
  (S:aS N ps scope)(hd:A.handled=none)(e0:Env0 P w K mg base A outer s H)(hl:vs.length=ps.length)(r:Vals vs us)
  (x:InCallC s s.heap.objs.size (bindL (envOfC qual scope s.heap.objs.size f cd).kindOf (ps.zip us) fun _=>none) (cellsFrom (s.heap.objs.size+1) scope.names []) (bindC (envOfC qual scope s.heap.objs.size f cd).kindOf (ps.zip us) fun _=>none) s1) :
  Inv (gM CX P w K mg base N qual scope f cd A outer s H E) [] (fS N vs) H s1:=by
 have hpl:ps.length<=N.length:=by have:=congrArg List.length S.pre;rw[List.length_take]at this;lia
 obtain⟨h1,tk,rfl,hk⟩:=x.done;have noA:∀b:Addr,b∉(gM CX P w K mg base N qual scope f cd A outer s H E).ex:=fun b z=>absurd (show b∈([]:List Addr) from z) (by simp);refine⟨⟨e0.mod,S.kind,rfl,rfl,Nat.le_refl _,fun y z c h1 h2=> ?_,fun y hy=> ?_,fun y c _ h=> ?_,fun _=>hd,Around.frames_deeper e0.frames,.inr ⟨rfl,rfl⟩,fun b z=>absurd z (noA b),e0.bs,e0.bsz,fun b _ _=>noA b,fun b z=>absurd z (noA b),e0.funs,e0.frf⟩,
  rfl,e0.bare,Un.kept hk,⟨_,x.toInCall.ns,fun i y v h1 h2 h3=> ?_⟩,fun y c h=>⟨_,x.cell y c h⟩,e0.hok.fresh (Nat.le_refl _),fun y c h=> ?_,fun p hp=>absurd (show p∈([]:List (Addr×Obj)) from hp) (by simp),e0.hok.kept hk,?_⟩
 ·exact name_of_addr x.apart (PySem.mem_of_lookup h1) (PySem.mem_of_lookup h2)
 ·have hy:scope.names.lookup y=some .cell∨scope.names.lookup y=some .free:=hy;rcases hy with hy|hy
  ·exact pV hy
  ·exact absurd rfl (S.nofree _ (PySem.mem_of_lookup hy))
 ·exact Nat.le_of_lt (x.above y c (PySem.mem_of_lookup h))
 ·have hi:i<vs.length:=by
   unfold fS at h2
   by_cases hi:i<vs.length
   ·exact hi
   ·rw[List.getElem?_append_right (by simpa using hi)]at h2;rw[List.getElem?_replicate]at h2
    split at h2<;>cases h2
  have ha:vs[i]? =some v:=by
   unfold fS at h2;rw[List.getElem?_append_left (by simpa using hi),List.getElem?_map]at h2;cases e:vs[i]? with
   | none=>rw[e]at h2;cases h2
   | some a=>rw[e]at h2;cases h2;rfl
  obtain⟨u,hu,rv⟩:=r.get ha;have hp:ps[i]? =some y:=by
   rw[←S.pre,List.getElem?_take_of_lt (by lia)];exact h1
  have ndP:ps.Nodup:=by rw[←S.pre];exact S.nd.sublist (List.take_sublist _ _)
  refine⟨u,rv,?_⟩;rcases S.par y (List.mem_of_getElem? hp) with k|k
  ·exact .inl ⟨k,vJ ndP hp hu k⟩
  ·obtain⟨c,e⟩:=pV (n:=s.heap.objs.size+1) k;refine .inr ⟨.inl k,c,e,?_⟩;have q:=x.cell y c e;rw[uZ ndP hp hu (by show scope.names.lookup y≠_;rw[k];decide)]at q;exact q
 ·exact e0.hok.fresh (Nat.le_of_lt (x.above y c (PySem.mem_of_lookup h)))
 ·unfold fS;show _=N.length;rw[List.length_append,List.length_map,List.length_replicate]
  lia
theorem IC {CX:CXT}{P:Program}{w:World}{K:PySem.W.Frag}{mg:Str->Option Value}{base:Heap}{k:Nat}{f:Addr}{name qual:Str}{params:Arguments}{body:List Stmt}{scope:Scope}{dV kV doc pm cdv ct oc:Value}{an od:Option Addr}
  {osl:Array (Option Value)}{N ps:List Str}{sp:Sp} (lk:K.lookup f=some ⟨oc,od,.func (PySem.W.fnOf name qual params body scope dV kV doc pm an cdv ct),osl⟩) (hcd:PySem.W.codeIn K cdv qual=true) (S:aS N ps scope)
  (len:∀vs H Q E,sp vs H Q E->vs.length=ps.length)
  (hbody:∀(A:Around) (outer:List Env) (s:Shared) (H:Hp) (vs:List V) (Q:VK) (E:XK),Room k (A.deeper (envOfC qual scope s.heap.objs.size f cdv))->sp vs H Q E →
   ∃t,PSs (gM CX P w K mg base N qual scope f cdv A outer s H E) body t/\t { nx:=fun _ H'=>Q .non H',rt:=Q } (fS N vs) H) :
  aY P w K mg base CX (k+1) f (PySem.W.fnOf name qual params body scope dV kV doc pm an cdv ct) ps sp:=by
 refine⟨len,fun A outer s H args us vs Q E hr e0 hb r hsp=> ?_⟩;have hl:=len _ _ _ _ hsp;have KX:K.In s.heap:=e0.mod.kin.keeps fun b o e=>(e0.bs b o e).1;have lim:s.heap.NoLimit:=e0.mod.nolimit.keeps fun b o e=>(e0.bs b o e).1;have hkind:∀y∈ps.zip us,scope.names.lookup y.1=some .local∨(scope.names.lookup y.1=some .cell/\((cellsFrom (s.heap.objs.size+1) scope.names []).lookup y.1).isSome=true):=fun⟨n,v⟩ hy=>by
  rcases S.par n (List.of_mem_zip hy).1 with q|q
  ·exact .inl q
  ·exact .inr ⟨q,PySem.W.cellsFrom_some _ _ _ (.inl q)⟩
 refine codeAny_call_function hr.depth (KX _ _ lk) rfl S.co S.gen rfl (PySem.W.codeRec_of KX hcd) (hb _ _ _ _ ?_);refine wpAny_newFunctionEnv_cells S.kind hkind fun env he s1 x=> ?_;subst he;refine⟨lim.keeps x.toInCall.keep,codeAny_func ?_⟩;obtain⟨t,ht,hq⟩:=hbody A outer s H vs Q E (hr.deeper _) hsp;have I:Inv (gM CX P w K mg base N qual scope f cdv A outer s H E) [] (fS N vs) H s1:=C4 S hr.hd e0 hl r x;refine wpAny_mono (ht [] s1 (fS N vs) H _ I hq) (fun fl s' hs=> ?_) fun e s' hs=>hs;have fin:∀{σ':St}{H':Hp}{v:V}{u:Value},Inv (gM CX P w K mg base N qual scope f cdv A outer s H E) [] σ' H' s'->RelV v u->Q v H'->CE outer P w H s Q u s' :=
  fun {σ' H' v u} J rv q=>⟨v,H',J.os,J.bare,J.base,J.hok,rv,q⟩
 cases fl with
 | ret u =>
  obtain⟨v,σ',H',J,rv,q⟩:=hs;exact fin J rv q
 | next =>
  obtain⟨σ',H',J,q⟩:=hs;exact fin (v:=V.non) (u:=Value.none) J rfl q
 | brk =>
  obtain⟨_,_,_,q⟩:=hs;exact False.elim q
 | cont =>
  obtain⟨_,_,_,q⟩:=hs;exact False.elim q
end L2
namespace L2
open PySem PySem.Spec PyProof.Rows
section
variable {X:Cx}{x:Str}{p pos:Pos}{e:Expr}{es:List Expr}{t:TA}{id T:String}{r:List V->Hp->VK->Prop}
def tCB (r:List V->Hp->VK->Prop)(t:TA):TE:=fun σ H Q=>t σ H fun vs H1=>r vs H1 Q
theorem bN (hc:cX X (.builtin id) r)(hg:Gl X x)(hm:X.mg x=none)(hv:bootBuiltins x=some (.builtin id))(ha:PA X (e::es) t)(hn:x≠ "__name__" :=by decide)(hdb:(x==("__debug__" :Str))=false:=by decide)
  (he:starEach (e::es) X.env=(false,eval e X.env)::starEach es X.env:=by rfl)(hpl:(backTo pos (starEach es X.env)).any (·.1)=false:=by rfl):PE X (.Call (.Name x p) (e::es) [] pos) (tCB r t):=by
 intro pins s σ H Q I h;refine wpAny_Call_Name_kw (k7 I hg hm hv ?_ hn hdb);exact PyProof.Rows.callWith_builtin1 (thn (ha pos pins s σ H _ I h) fun us s1 ⟨vs,H1,I1,r1,q1⟩=>hc pins s1 σ H1 vs us Q I1 r1 q1) he hpl
theorem mV (hc:cX X (.type T) r)(hg:Gl X x)(hm:X.mg x=none)(hv:bootBuiltins x=some (.type T))(ha:PA X (e::es) t)(hn:x≠ "__name__" :=by decide)(hdb:(x==("__debug__" :Str))=false:=by decide)
  (he:starEach (e::es) X.env=(false,eval e X.env)::starEach es X.env:=by rfl)(hpl:(backTo pos (starEach es X.env)).any (·.1)=false:=by rfl):PE X (.Call (.Name x p) (e::es) [] pos) (tCB r t):=by
 intro pins s σ H Q I h;refine wpAny_Call_Name_kw (k7 I hg hm hv ?_ hn hdb);exact PyProof.Rows.callWith_type1 (thn (ha pos pins s σ H _ I h) fun us s1 ⟨vs,H1,I1,r1,q1⟩=>hc pins s1 σ H1 vs us Q I1 r1 q1) he hpl
end
end L2
namespace HT
open PySem PyProof.Rows
section
open PySem.SeqAt
open PySem.AutoSeq1 (wpAny_loadPart')
open PySem.MeetsSeq PySem.MeetsSeq2 PySem.MeetsSeq3
end
section
variable {prog:Program}{w:World}{A:Around}{E:Value->Shared->Prop}{s:Shared}
def sIx (n d:Nat):Option Int->Nat
 | none=>d
 | some v=>if v<0 then (v+(n:Int)).toNat else min v.toNat n
end
end HT
namespace L2
open PySem PySem.Spec PyProof.Rows
abbrev TO:=St->Hp->(Option Int->Hp->Prop)->Prop
def PO (X:Cx)(e:Option Expr)(t:TO):Prop :=
 ∀(pins:List (Addr×Obj)) (s:Shared) (σ:St) (H:Hp) (Q:Option Int->Hp->Prop),Inv X pins σ H s->t σ H Q →
  wpAny (model X.prog X.w) X.A (evalPart e X.env) (fun u s'=>∃o H',Inv X pins σ H' s'/\IsPart u o/\Q o H') X.xe s
def zX:TO:=fun _ H Q=>Q none H
def HN (t:TE):TO:=fun σ H Q=>t σ H fun x H1=>∃i,x= .int i/\Q (some i) H1
section
variable {X:Cx}{e:Expr}{te:TE}{lo hi:Option Expr}{tl th:TO}{pos p2:Pos}
theorem z5:PO X none zX:=by
 intro pins s σ H Q I h;rw[evalPart_none];exact wpAny_pure ⟨none,H,I,.none,h⟩
theorem oK (h:PE X e te):PO X (some e) (HN te):=by
 intro pins s σ H Q I hw;rw[evalPart_some];refine thn (h pins s σ H _ I hw) fun u s1 ⟨x,H1,I1,r1,q1⟩=> ?_;obtain⟨i,rfl,q⟩:=q1;obtain⟨t,rfl⟩:=r1;exact⟨some i,H1,I1,.int i t,q⟩
def SlR (X:Cx)(r:V->Option Int->Option Int->Hp->VK->Prop):Prop :=
 ∀(pins:List (Addr×Obj)) (s:Shared) (σ:St) (H:Hp) (x:V) (v vl vu:Value) (lo hi:Option Int) (sl:Addr) (Q:VK),Inv X pins σ H s->RelV x v->s.heap.IsSliceOf sl vl vu .none->IsPart vl lo->IsPart vu hi->r x lo hi H Q →
  ∃T id,typeLookup (.type T) "__getitem__" =pure (some (.builtin id))/\s.TypeIs v T/\wpAny (model X.prog X.w) X.A (getItem v (.ref sl)) (EP X pins σ Q) X.xe s
def tSl (r:V->Option Int->Option Int->Hp->VK->Prop)(te:TE)(tl th:TO):TE:=fun σ H Q=>te σ H fun x H1=>tl σ H1 fun l H2=>th σ H2 fun u H3=>r x l u H3 Q
theorem p0 {r:V->Option Int->Option Int->Hp->VK->Prop}(hr:SlR X r)(he:PE X e te)(hl:PO X lo tl)(hu:PO X hi th):PE X (.Subscript e (.Slice lo hi none p2) pos) (tSl r te tl th):=by
 intro pins s σ H Q I h;refine Subscript_ (thn (he pins s σ H _ I h) fun v s1 ⟨x,H1,I1,r1,q1⟩=> ?_);refine wpAny_Slice (thn (hl pins s1 σ H1 _ I1 q1) fun vl s2 ⟨l,H2,I2,pl,q2⟩=>thn (hu pins s2 σ H2 _ I2 q2) fun vu s3 ⟨u,H3,I3,pu,q3⟩=> ?_);rw[evalPart_none];refine wpAny_pure ?_;have I4:Inv X pins σ H3 { s3 with heap:=s3.heap.push { cls:= .type "slice",data:= .fields #[vl,vu,.none] } }:=I3.kept (t':=s3.toks) fun b ob q=>Heap.get?_push_of_some _ q;obtain⟨T,id,hT,ht,hg⟩:=hr pins { s3 with heap:=s3.heap.push { cls:= .type "slice",data:= .fields #[vl,vu,.none] } } σ H3 x v vl vu l u s3.heap.objs.size Q I4 r1 (Heap.IsSliceOf.new ..) pl pu q3;show wpAny (model X.prog X.w) X.A (subscriptTail e (.Slice lo hi none p2) v (.ref s3.heap.objs.size)) (EP X pins σ Q) X.xe { s3 with heap:=s3.heap.push { cls:= .type "slice",data:= .fields #[vl,vu,.none] } };exact tail_any (ops:=[.ref s3.heap.objs.size,v]) ht hT hg (by with_unfolding_all rfl)
def qG (xs:List V)(lo hi:Option Int):List V:=(xs.drop (HT.sIx xs.length 0 lo)).take (HT.sIx xs.length xs.length hi - HT.sIx xs.length 0 lo)
theorem yY (xs:List V)(lo hi:Option Int):(qG xs lo hi).length<=xs.length:=by
 unfold qG;rw[List.length_take,List.length_drop]
 lia
end
end L2
namespace L2
open PySem PySem.Spec PyProof.Rows
def ixN (n:Nat)(i:Int):Option Nat:=if 0<=i then (if i<n then some i.toNat else none) else if -(n:Int)<=i then some (i+n).toNat else none
def atI {α:Type}(xs:List α)(i:Int):Option α:=(ixN xs.length i).bind fun j=>xs[j]?
theorem J0 {n:Nat}{i:Int}{j:Nat} (h:ixN n i=some j):seqIndex? i n=some j/\j<n/\ -(n:Int)<=i/\i<n:=by
 unfold ixN at h
 by_cases h0:0<=i
 ·rw[if_pos h0]at h
  by_cases h1:i<n
  ·rw[if_pos h1]at h;have e:i.toNat=j:=Option.some.inj h;exact⟨by rw[seqIndex_of h0 h1,e],by lia,by lia,h1⟩
  ·rw[if_neg h1]at h;cases h
 ·rw[if_neg h0]at h
  by_cases h1: -(n:Int)<=i
  ·rw[if_pos h1]at h;have e:(i+n).toNat=j:=Option.some.inj h;exact⟨by rw[seqIndex_neg (by lia) h1,e],by lia,h1,by lia⟩
  ·rw[if_neg h1]at h;cases h
theorem tO {α:Type}{xs:List α}{i:Int}{v:α} (h:atI xs i=some v):∃j,seqIndex? i xs.length=some j/\xs[j]? =some v/\j<xs.length/\ -(xs.length:Int)<=i/\i<xs.length:=by
 unfold atI at h;cases e:ixN xs.length i with
 | none=>rw[e]at h;cases h
 | some j =>
  rw[e]at h;obtain⟨h1,h2,h3,h4⟩:=J0 e;exact⟨j,h1,h,h2,h3,h4⟩
theorem oO {α:Type}{xs:List α}{j:Nat}{v:α} (h:xs[j]? =some v):atI xs (j:Int)=some v:=by
 have hj:j<xs.length:=(List.getElem?_eq_some_iff.mp h).1;have e:ixN xs.length (j:Int)=some j:=by
  unfold ixN;rw[if_pos (by lia),if_pos (by lia)];simp
 unfold atI;rw[e];exact h
def L6 (b:Expr):Prop:=∀o i,subscripted b false o i=operate [o,i] (getItem o i)
def IxR (X:Cx)(r:R2):Prop :=
 ∀(value slice:Expr) (pins:List (Addr×Obj)) (s:Shared) (σ:St) (H:Hp) (x y:V) (v u:Value) (Q:VK),Inv X pins σ H s->RelV x v->RelV y u->r x y H Q →
  subscripted slice false v u=operate [v,u] (getItem v u)->wpAny (model X.prog X.w) X.A (subscriptTail value slice v u) (EP X pins σ Q) X.xe s
def MtR (X:Cx)(id:String)(r:V->List V->Hp->VK->Prop):Prop :=
 ∀(pins:List (Addr×Obj)) (s:Shared) (σ:St) (H:Hp) (x:V) (xs:List V) (v:Value) (us:List Value) (Q:VK),Inv X pins σ H s->RelV x v->Vals xs us->r x xs H Q →
  wpAny (model X.prog X.w) X.A (call (.builtin id) (v::us)) (EP X pins σ Q) X.xe s
section
variable {X:Cx}{a b:Expr}{ta tb:TE}{pos:Pos}
theorem d7 {r:R2}(hr:IxR X r)(ha:PE X a ta)(hb:PE X b tb)(hs:L6 b):PE X (.Subscript a b pos) (tOp r ta tb):=by
 intro pins s σ H Q I h;exact Subscript_ (F3 ha hb I h fun v u s2 x y H2 I2 rx ry q=>hr a b pins s2 σ H2 x y v u Q I2 rx ry q (hs _ _))
def GT (K:PySem.W.Frag):R2:=fun x y H Q=>∃p xs i v,x= .ref p/\y= .int i/\SqL K H p xs/\atI xs i=some v/\Q v H
def RA (K:PySem.W.Frag):R2:=fun x y H Q=>∃p xs i v,x= .ref p/\y= .int i/\SqT K H p xs/\atI xs i=some v/\Q v H
def Q9:R2:=fun x y H Q=>∃z i c,x= .str z/\y= .int i/\z.length<=sizeLine/\atI z.cps.toList i=some c/\Q (.str ⟨#[c]⟩) H
theorem fC:IxR X (GT X.K):=by
 intro value slice pins s σ H x y v u Q I rx ry h hs;obtain⟨p,xs,i,z,rfl,rfl,hq,he,q⟩:=h;cases rx;obtain⟨t,rfl⟩:=ry;obtain⟨its,r,pl,hz⟩:=I.list hq;obtain⟨j,h1,h2,h3,h4,h5⟩:=tO he;obtain⟨w,ew,rw'⟩:=r.get h2;have hl:=r.length;have hn:=m3;have fin:EP X pins σ Q w s:=⟨z,H,I,rw',q⟩
 by_cases h0:0<=i
 ·have hj:i.toNat=j:=by
   rw[seqIndex_of h0 h5]at h1;exact Option.some.inj h1
  exact item_listR pl.isList h0 (by lia) (by rw[hj];simpa using ew) fin hs
 ·have hj:(i+(its.toArray.size:Int)).toNat=j:=by
   rw[seqIndex_neg (by lia) h4]at h1;rw[List.size_toArray,←hl];exact Option.some.inj h1
  exact subscriptTail_builtinR (x:=w) pl.isList.typeIs slot_list_getitem.lookup
   (wpAny_getItem_list_neg (Q:=fun r s'=>r=w/\EP X pins σ Q r s') pl.isList (by lia) (by rw[List.size_toArray]<;>lia) (by lia) (by rw[hj];simpa using ew) ⟨rfl,fin⟩) hs
theorem yF:IxR X (RA X.K):=by
 intro value slice pins s σ H x y v u Q I rx ry h hs;obtain⟨p,xs,i,z,rfl,rfl,hq,he,q⟩:=h;cases rx;obtain⟨t,rfl⟩:=ry;obtain⟨its,r,pl,hz⟩:=I.tuple hq;obtain⟨j,h1,h2,h3,h4,h5⟩:=tO he;obtain⟨w,ew,rw'⟩:=r.get h2;have hl:=r.length;have hn:=m3;have fin:EP X pins σ Q w s:=⟨z,H,I,rw',q⟩
 exact subscriptTail_builtinR (x:=w) pl.typeIs slot_tuple_getitem.lookup
  (getItem_tuple (j:=j) (Q:=fun r s'=>r=w/\EP X pins σ Q r s') pl (by lia) (by lia) (by rw[List.size_toArray,←hl];exact h1) (by simpa using ew) ⟨rfl,fin⟩) hs
theorem CQ:IxR X Q9:=by
 intro value slice pins s σ H x y v u Q I rx ry h hs;obtain⟨z,i,c,rfl,rfl,hz,he,q⟩:=h;obtain⟨t,rfl⟩:=rx;obtain⟨t',rfl⟩:=ry;obtain⟨j,h1,h2,h3,h4,h5⟩:=tO he;have hl:z.cps.toList.length=z.length:=by simp[Str.length]
 rw[hl]at h1 h4 h5;have hn:=m3;exact tail_any (typeIs_str s z t) slot_str_getitem.lookup (getItem_str (c:=c) (by
  have e1:decide (i< -(2^63:Int))=false:=decide_eq_false (by lia);have e2:decide (i≥2^63)=false:=decide_eq_false (by lia);rw[e1,e2,Bool.or_false]) (by rw[h1];simpa using h2) ⟨.str ⟨#[c]⟩,H,I.tok _,⟨_,rfl⟩,q⟩) hs
theorem xN (lo hi:Option Int)(n:Nat):(sliceBounds lo hi none n).1=((HT.sIx n 0 lo:Nat):Int)/\(sliceBounds lo hi none n).2.1=((HT.sIx n n hi:Nat):Int)/\(sliceBounds lo hi none n).2.2=1:=by
 refine⟨?_,?_,rfl⟩
 ·cases lo with
  | none=>simp[sliceBounds,HT.sIx]
  | some i =>
   simp only[sliceBounds,HT.sIx,Option.getD_none,show (1:Int)>0 by decide,if_true]
   by_cases h:i<0
   ·simp only[h,if_true]<;>lia
   ·simp only[h,if_false]<;>lia
 ·cases hi with
  | none=>simp[sliceBounds,HT.sIx]
  | some i =>
   simp only[sliceBounds,HT.sIx,Option.getD_none,show (1:Int)>0 by decide,if_true]
   by_cases h:i<0
   ·simp only[h,if_true]<;>lia
   ·simp only[h,if_false]<;>lia
theorem vW (its:List Value)(lo hi:Option Int):slicePick its.toArray lo hi none=((its.drop (HT.sIx its.length 0 lo)).take (HT.sIx its.length its.length hi - HT.sIx its.length 0 lo)).toArray:=by
 obtain⟨h1,h2,h3⟩:=xN lo hi its.toArray.size;unfold slicePick;rw[h1,h2,h3];simp only[sliceRange_one,pick_run,List.size_toArray]<;>rfl
def GZ (K:PySem.W.Frag):V->Option Int->Option Int->Hp->VK->Prop:=fun x lo hi H Q=>∃a xs,x= .ref a/\SqL K H a xs/\∀p,H p=none->Q (.ref p) (upd H p (.lst (qG xs lo hi)))
theorem J4:SlR X (GZ X.K):=by
 intro pins s σ H x v vl vu lo hi sl Q I rx hs pl pu h;obtain⟨a,xs,rfl,hx,q⟩:=h;cases rx;obtain⟨its,r,ht,hz⟩:=I.list hx;have hlen:=r.length;refine⟨"list",_,slot_list_getitem.lookup,ht.isList.typeIs,?_⟩;refine wpAny_getItem_list_slice ht.isList hs pl pu .none (by simp) ?_ (by rw[List.size_toArray]<;>lia);rw[vW,←hlen];refine⟨.ref s.heap.objs.size,_,I.laid (t':=s.toks) (o:= .lst (qG xs lo hi)) (fun b ob q=>Heap.get?_push_of_some _ q) (Nat.le_refl _) ?_,rfl,q _ (I.hok.fresh (Nat.le_refl _))⟩;exact⟨Nat.le_trans (yY xs lo hi) hz,_,0,(r.drop (HT.sIx xs.length 0 lo)).take (HT.sIx xs.length xs.length hi - HT.sIx xs.length 0 lo),Heap.get?_push_size _ rfl⟩
def fT:V->Bool
 | .non=>true
 | .bl _=>true
 | .int _=>true
 | .str _=>true
 | _=>false
def eqV:V->V->Bool
 | .non,.non=>true
 | .bl a,.bl b=>a==b
 | .bl a,.int b=>(if a then 1 else 0)==b
 | .int a,.bl b=>a==(if b then 1 else 0)
 | .int a,.int b=>a==b
 | .str a,.str b=>a==b
 | _,_=>false
theorem DP {A:Around}{s:Shared}{y x:V}{u v:Value} (ry:RelV y u) (rx:RelV x v) (fy:fT y=true) (fx:fT x=true):SeqAt.EqAt A s u v (eqV y x):=by
 cases y with
 | non =>
  cases ry;cases x with
  | non=>cases rx;exact SeqAt.EqAt.same _
  | bl b=>cases rx;exact SeqAt.EqAt.none_bool b
  | int b=>obtain⟨t,rfl⟩:=rx;exact SeqAt.EqAt.none_int b t
  | str b=>obtain⟨t,rfl⟩:=rx;exact SeqAt.EqAt.none_str b t
  | _=>exact absurd (show false=true from fx) Bool.false_ne_true
 | bl a =>
  cases ry;cases x with
  | non=>cases rx;exact SeqAt.EqAt.bool_none a
  | bl b=>cases rx;exact SeqAt.EqAt.bool_bool a b
  | int b=>obtain⟨t,rfl⟩:=rx;exact SeqAt.EqAt.bool_int a b t
  | str b=>obtain⟨t,rfl⟩:=rx;exact SeqAt.EqAt.bool_str a b t
  | _=>exact absurd (show false=true from fx) Bool.false_ne_true
 | int a =>
  obtain⟨t',rfl⟩:=ry;cases x with
  | non=>cases rx;exact SeqAt.EqAt.int_none a t'
  | bl b=>cases rx;exact SeqAt.EqAt.int_bool a t' b
  | int b=>obtain⟨t,rfl⟩:=rx;exact SeqAt.EqAt.int_int a t' b t
  | str b=>obtain⟨t,rfl⟩:=rx;exact SeqAt.EqAt.int_str a t' b t
  | _=>exact absurd (show false=true from fx) Bool.false_ne_true
 | str a =>
  obtain⟨t',rfl⟩:=ry;cases x with
  | non=>cases rx;exact SeqAt.EqAt.str_none a t'
  | bl b=>cases rx;exact SeqAt.EqAt.str_bool a t' b
  | int b=>obtain⟨t,rfl⟩:=rx;exact SeqAt.EqAt.str_int a t' b t
  | str b=>obtain⟨t,rfl⟩:=rx;exact SeqAt.EqAt.str_str a t' b t
  | _=>exact absurd (show false=true from fx) Bool.false_ne_true
 | _=>exact absurd (show false=true from fy) Bool.false_ne_true
def eqU (x:V)(u:Value):Bool:=match u with
 | .none=>eqV .non x
 | .bool b=>eqV (.bl b) x
 | .int i _=>eqV (.int i) x
 | .str z _=>eqV (.str z) x
 | _=>false
theorem DT {x y:V}{u:Value} (r:RelV y u) (f:fT y=true):eqU x u=eqV y x:=by
 cases y with
 | non=>cases r;rfl
 | bl b=>cases r;rfl
 | int i=>obtain⟨t,rfl⟩:=r;rfl
 | str z=>obtain⟨t,rfl⟩:=r;rfl
 | _=>exact absurd (show false=true from f) Bool.false_ne_true
theorem uG {x:V}:∀{xs:List V}{us:List Value},Vals xs us->xs.all fT=true->us.any (eqU x)=xs.any fun y=>eqV y x
 | _,_,.nil,_=>rfl
 | y::xs,u::us,.cons r t,f=>by
  rw[List.all_cons,Bool.and_eq_true]at f;rw[List.any_cons,List.any_cons,DT r f.1,uG t f.2]
theorem qV {A:Around}{s:Shared}{x:V}{v:Value} (rx:RelV x v) (fx:fT x=true):∀{xs:List V}{us:List Value},Vals xs us->xs.all fT=true->∀u∈us,SeqAt.EqAt A s u v (eqU x u)
 | _,_,.nil,_=>fun u hu=>by cases hu
 | y::xs,u::us,.cons r t,f=>fun u' hu=>by
  rw[List.all_cons,Bool.and_eq_true]at f;rcases List.mem_cons.mp hu with rfl|hu
  ·rw[DT r f.1];exact DP r rx f.1 fx
  ·exact qV rx fx t f.2 u' hu
def inV (x:V)(xs:List V):Bool:=xs.any fun y=>eqV y x
def rIn (K:PySem.W.Frag)(neg:Bool):R2:=fun x y H Q=>∃p xs,y= .ref p/\(SqL K H p xs∨SqT K H p xs)/\fT x=true/\xs.all fT=true/\Q (.bl (if neg then !inV x xs else inV x xs)) H
theorem D9:OpR X (compareOp .In) (rIn X.K false):=by
 intro pins s σ H x y v u Q I rx ry h;obtain⟨p,xs,rfl,hq,fx,fs,q⟩:=h;cases ry;rcases hq with hq|hq
 ·obtain⟨its,r,pl,hz⟩:=I.list hq;refine SeqAt.in_listAt (eqU x) pl.isList (fun w hw=>qV rx fx r fs w (by simpa using hw)) ⟨.bl _,H,I,rfl,?_⟩;rw[show its.toArray.any (eqU x)=its.any (eqU x) by simp,uG r fs];exact q
 ·obtain⟨its,r,pl,hz⟩:=I.tuple hq;refine SeqAt.in_tupleAt (eqU x) pl (fun w hw=>qV rx fx r fs w (by simpa using hw)) ⟨.bl _,H,I,rfl,?_⟩;rw[show its.toArray.any (eqU x)=its.any (eqU x) by simp,uG r fs];exact q
theorem yG:cX X (.builtin "len") (fun xs H Q=>∃p ys,xs=[.ref p]/\(SqL X.K H p ys∨SqT X.K H p ys)/\Q (.int ys.length) H):=by
 intro pins s σ H xs us Q I r h;obtain⟨p,ys,rfl,hq,q⟩:=h;obtain⟨u,rfl,rx⟩:=j6 r;cases rx;have hn:=m3;rcases hq with hq|hq
 ·obtain⟨its,r',pl,hz⟩:=I.list hq;have hlen:=r'.length;exact Calls.call_len_list pl.isList (by simp only[List.size_toArray]<;>lia) ⟨.int ys.length,H,I.tok _,⟨s.toks+1,by rw[List.size_toArray,hlen]⟩,q⟩
 ·obtain⟨its,r',pl,hz⟩:=I.tuple hq;have hlen:=r'.length;exact len_tuple pl (by simp only[List.size_toArray]<;>lia) ⟨.int ys.length,H,I.tok _,⟨s.toks+1,by rw[List.size_toArray,hlen]⟩,q⟩
theorem xR:cX X (.builtin "len") (fun xs H Q=>∃z,xs=[.str z]/\z.length<=sizeLine/\Q (.int z.length) H):=by
 intro pins s σ H xs us Q I r h;obtain⟨z,rfl,hz,q⟩:=h;obtain⟨u,rfl,t,rfl⟩:=j6 r;have hn:=m3;exact len_str (by lia) ⟨.int z.length,H,I.tok _,⟨_,rfl⟩,q⟩
def tyV (K:PySem.W.Frag)(T:String)(x:V)(H:Hp):Prop:=match x with
 | .str _=>T= "str"
 | .int _=>T= "int"
 | .ref p=>(T= "list" /\∃xs,SqL K H p xs)∨(T= "tuple" /\∃o,K.lookup p=some o/\o.cls= .type "tuple" /\o.dict=none) ∨
   (T= "dict" /\((∃kvs,H p=some (.dK kvs))∨∃kvs,H p=some (.dT kvs)))∨(T= "set" /\∃S n,H p=some (.set S n))
 | _=>False
theorem OJ {pins:List (Addr×Obj)}{σ:St}{H:Hp}{s:Shared}{T:String}{x:V}{v:Value} (I:Inv X pins σ H s) (r:RelV x v) (ty:tyV X.K T x H) :
  s.TypeIs v T/\∀a,v= .ref a->∃ob,s.heap.get? a=some ob/\ob.dict=none:=by
 cases x with
 | str z =>
  obtain⟨t,rfl⟩:=r;cases (show T= "str" from ty);exact⟨typeIs_str s z t,fun _ e=>nomatch e⟩
 | int i =>
  obtain⟨t,rfl⟩:=r;cases (show T= "int" from ty);exact⟨typeIs_int s i t,fun _ e=>nomatch e⟩
 | ref p =>
  cases r;rcases ty with⟨rfl,xs,hq⟩|⟨rfl,o,hk,hc,hd⟩|⟨rfl,hk⟩|⟨rfl,S,n,hk⟩
  ·obtain⟨its,_,pl,_⟩:=I.list hq;refine⟨pl.isList.typeIs,fun a e=> ?_⟩;cases e;obtain⟨o,n,e,c,hd,_⟩:=pl;exact⟨o,e,hd⟩
  ·refine⟨⟨o,I.kIn p o hk,hc⟩,fun a e=> ?_⟩;cases e;exact⟨o,I.kIn _ o hk,hd⟩
  ·have z:∃o,s.heap.get? p=some o/\o.ExactDict:=by
    rcases hk with⟨kvs,hk⟩|⟨kvs,hk⟩
    ·obtain⟨_,_,_,_,o,_,_,e,ex,_⟩:=I.hok p _ hk;exact⟨o,e,ex⟩
    ·obtain⟨_,_,_,_,o,_,_,e,ex,_⟩:=I.hok p _ hk;exact⟨o,e,ex⟩
   obtain⟨o,e,ex⟩:=z;refine⟨⟨o,e,ex.1⟩,fun a e2=> ?_⟩;cases e2;exact⟨o,e,ex.2.1⟩
  ·obtain⟨o,_,_,_,e,ex,_⟩:=I.hok p _ hk;refine⟨⟨o,e,ex.1⟩,fun a e2=> ?_⟩;cases e2;exact⟨o,e,ex.2.1⟩
 | _=>exact False.elim ty
def tBM (K:PySem.W.Frag)(T:String)(r:V->List V->Hp->VK->Prop)(to:TE)(t:TA):TE:=fun σ H Q=>to σ H fun x H1=>tyV K T x H1/\t σ H1 fun xs H2=>r x xs H2 Q
variable {o e:Expr}{es:List Expr}{to:TE}{t:TA}{name:Str}{apos cpos:Pos}{T id:String}{r:V->List V->Hp->VK->Prop}
theorem wR (pa:PlainAttrs T)(slot:Slot T name id)(hty:typeOf (.builtin id)=pure (.type "method_descriptor"))(hm:MtR X id r)(ho:PE X o to)(ha:PA X (e::es) t)
  (hbase:attributeBase o name X.env (eval o X.env)=eval o X.env:=by rfl)
  (hfew:((backTo cpos (starEach (e::es) X.env)).all (fun x=> !x.1)&&(backToKw cpos (keywordEach [] X.env)).all (fun x=>x.1.isSome)
   && decide ((e::es).length+([]:List Keyword).length+(if ([]:List Keyword).isEmpty then 0 else 1)<30))=true:=by rfl)
  (hline:(apos.endLine==cpos.line)=true:=by rfl)(hs:starEach (e::es) X.env=(false,eval e X.env)::starEach es X.env:=by rfl)(hplain:(backTo cpos (starEach es X.env)).any (·.1)=false:=by rfl) :
  PE X (.Call (.Attribute o name apos) (e::es) [] cpos) (tBM X.K T r to t):=by
 intro pins s σ H Q I h;refine wpAny_Call_method_late hbase hfew hline rfl (thn (ho pins s σ H _ I h) fun v s1 ⟨x,H1,I1,r1,ty,q1⟩=> ?_);obtain⟨h1,h2⟩:=OJ I1 r1 ty;refine⟨T,id,pa,slot,hty,h1,h2,?_⟩;have hA:=ha cpos pins s1 σ H1 _ I1 q1;rw[hs]at hA ⊢;refine Calls.callWith_builtin (by show (false||(backTo cpos (starEach es X.env)).any (·.1))=false;rw[hplain]<;>rfl) (Calls.evalArgs_plain ?_);exact thn hA fun us s2 ⟨vs,H2,I2,r2,q2⟩=>hm pins s2 σ H2 x vs v us Q I2 r1 r2 q2
end
end L2
namespace L2
open PySem PySem.Spec PyProof.Rows
def MtM (X:Cx)(id:String)(r:V->List V->Hp->VK->Prop):Prop :=
 ∀(pins:List (Addr×Obj)) (s:Shared) (σ:St) (H:Hp) (x:V) (xs:List V) (v:Value) (us:List Value) (Q:VK),Inv X pins σ H s->RelV x v->Vals xs us->r x xs H Q →
  wpAny (model X.prog X.w) X.A (call (.builtin id) (v::us)) (EP X pins σ Q) X.xe s
theorem Vals.one:∀{x:V}{us:List Value},Vals [x] us->∃u,us=[u]/\RelV x u
 | _,_,.cons r .nil=>⟨_,rfl,r⟩
section
variable {X:Cx}{pins:List (Addr×Obj)}{σ:St}{H:Hp}{s:Shared}{l b:Addr}{xs ys zs:List V}
theorem Inv.lset {its its':List Value}{n:Nat}{f:Array Value->Array Value}{t':Nat} (I:Inv X pins σ H s) (hH:H l=some (.lst xs))
  (e:s.heap.get? l=some { cls:= .type "list",data:= .seq its.toArray n })(hf:f its.toArray=its'.toArray)(hv:Vals ys its')(hz:ys.length<=sizeLine) :
  Inv X pins σ (upd H l (.lst ys)) { s with heap:=s.heap.update l (Obj.mapSeq f),toks:=t' }:=by
 have q:=PySem.IsL.update e f;rw[hf]at q;refine I.write (x:=l) (e:=l) (by rw[hH];exact trivial) (.inl rfl) (fun b' u hb hu=>(Heap.get?_update_other s.heap (Obj.mapSeq f) (Ne.symm hb)).trans hu) ⟨_,q⟩ ?_;exact⟨hz,its',_,hv,q⟩
theorem Inv.lnew {its:List Value}{t':Nat} (I:Inv X pins σ H s) (hv:Vals ys its) (hz:ys.length<=sizeLine) :
  Inv X pins σ (upd H s.heap.objs.size (.lst ys)) { s with heap:=s.heap.push { cls:= .type "list",data:= .seq its.toArray },toks:=t' } :=
 I.laid (fun _ _ q=>Heap.get?_push_of_some _ q) (Nat.le_refl _) ⟨hz,its,0,hv,Heap.get?_push_size _ rfl⟩
theorem Inv.fresh (I:Inv X pins σ H s):H s.heap.objs.size=none:=I.hok.fresh (Nat.le_refl _)
theorem Inv.lstM (I:Inv X pins σ H s)(hH:H l=some (.lst xs)):xs.length<=sizeLine/\∃(its:List Value) (n:Nat),Vals xs its/\xs.length=its.length/\s.heap.get? l=some { cls:= .type "list",data:= .seq its.toArray n }:=by
 obtain⟨z,its,n,r,e⟩:=I.hok l _ hH;exact⟨z,its,n,r,r.length,e⟩
theorem FH {n:Nat}(h:n<=sizeLine):Builtin.List.listTooLong n=false:=by
 unfold Builtin.List.listTooLong;exact decide_eq_false (by lia)
end
section
variable {X:Cx}
def AB:V->List V->Hp->VK->Prop:=fun x vs H Q=>∃l xs y,x= .ref l/\vs=[y]/\H l=some (.lst xs)/\xs.length<sizeLine/\Q .non (upd H l (.lst (xs++[y])))
theorem j7:MtM X "list.append" AB:=by
 intro pins s σ H x vs v us Q I rx rv h;obtain⟨l,xs,y,rfl,rfl,hH,hz,q⟩:=h;cases rx;obtain⟨u,rfl,ru⟩:=rv.one;obtain⟨z,its,n,r,hl,e⟩:=I.lstM hH;refine call_meets F.slot_list_append ⟨_,e,rfl⟩ F.entry_list_append (F.args_list_append_2 _ _) (PySem.list_append l its.toArray n u (by rw[List.size_toArray];lia)) ⟨e,?_⟩;refine⟨.non,_,I.lset (its':=its++[u]) hH e (by simp) (r.append (.cons ru .nil)) ?_,rfl,q⟩;rw[List.length_append,List.length_singleton]
 lia
def zS:V->List V->Hp->VK->Prop:=fun x vs H Q=>∃l b xs zs,x= .ref l/\vs=[.ref b]/\H l=some (.lst xs)/\H b=some (.lst zs)/\xs.length+zs.length<=sizeLine/\Q .non (upd H l (.lst (xs++zs)))
theorem DH:MtM X "list.extend" zS:=by
 intro pins s σ H x vs v us Q I rx rv h;obtain⟨l,b,xs,zs,rfl,rfl,hH,hB,hz,q⟩:=h;cases rx;obtain⟨u,rfl,ru⟩:=rv.one;cases ru;obtain⟨z,its,n,r,hl,e⟩:=I.lstM hH;obtain⟨z2,its2,n2,r2,hl2,e2⟩:=I.lstM hB;have hsz:its.toArray.size+its2.toArray.size<=sizeLine:=by rw[List.size_toArray,List.size_toArray];lia
 have hlong:¬(!its.toArray.isEmpty&&Builtin.List.listTooLong (its.toArray.size+its2.toArray.size))=true:=by
  rw[FH hsz,Bool.and_false];exact Bool.false_ne_true
 refine call_meets F.slot_list_extend ⟨_,e,rfl⟩ F.entry_list_extend (F.args_list_extend_2 _ _)
  (AutoSeq1.list_extend_list_list_0 l its.toArray n b its2.toArray n2 hlong (by rw[List.size_toArray];lia) (by lia)) ⟨e,e2,?_⟩
 refine⟨.non,_,I.lset (its':=its++its2) hH e (by simp) (r.append r2) ?_,rfl,q⟩;rw[List.length_append]
 lia
def OY:R2:=fun x y H Q=>∃l b xs zs,x= .ref l/\y= .ref b/\H l=some (.lst xs)/\H b=some (.lst zs)/\xs.length+zs.length<=sizeLine/\∀p,H p=none->Q (.ref p) (upd H p (.lst (xs++zs)))
theorem rQ:OpR X (binaryOp .Add) OY:=by
 intro pins s σ H x y v u Q I rx ry h;obtain⟨l,b,xs,zs,rfl,rfl,hH,hB,hz,q⟩:=h;cases rx;cases ry;obtain⟨z,its,n,r,hl,e⟩:=I.lstM hH;obtain⟨z2,its2,n2,r2,hl2,e2⟩:=I.lstM hB;refine PySem.P.add_list e e2 ?_ (by rw[List.size_toArray,List.size_toArray];lia);have ea:its.toArray++its2.toArray=(its++its2).toArray:=by simp
 rw[ea];exact⟨.ref _,_,I.lnew (t':=s.toks) (r.append r2) (by rw[List.length_append];lia),rfl,q _ I.fresh⟩
end
section
variable {prog:Program}{w:World}{A:Around}{E:Value->Shared->Prop}{s:Shared}
set_option maxRecDepth 100000 in
end
section
variable {X:Cx}
end
end L2
namespace Att
open PySem PySem.W PySem.Calls PyProof.Rows
theorem sK {P:Params}{h:Heap}:∀(ns:List Int) (vs:List Value),WellAll P h vs (ns.map WData.int)->IntsAre vs ns:=by
 intro ns
 induction ns with
 | nil =>
  intro vs w;rw[List.map_nil]at w;cases w;exact .nil
 | cons n ns ih =>
  intro vs w;rw[List.map_cons]at w;cases w with
  | cons a b =>
   cases a;exact .cons _ _ (ih _ b)
theorem DU {l:OpenLaw}{n:Nat} (hn:l.most=some n) {P:Params}{h:Heap}{args:List WData}{vals:List Value}
  (hpre:l.row.toRowW.claim.pre args=true)(hwl:WellAll P h vals args) :
  ∃a vs ns,vals=[Value.ref a]/\args=[WData.list (ns.map WData.int)]/\h.get? a=some { cls:= .type "list",data:= .seq vs.toArray }/\IntsAre vs ns/\ns.length<=n:=by
 have hsh:WShape.hasAll [] args [.list .int]=true:=(pre_splitW hpre).1;have hc:l.pre.holds [] { args:=args }=true:=(pre_splitW hpre).2;obtain⟨d,r,rfl,h1,h2⟩:=hasAllW_cons hsh;obtain rfl:=hasAllW_nil h2;obtain⟨xs,rfl,h3⟩:=hasW_list h1;obtain⟨ns,rfl⟩:=items_int h3;have hlen:ns.length<=n:=by
  unfold OpenLaw.pre at hc;have h4:(WTm.not (.lt (.lit (.int (n:Int))) (.len (.arg 0)))).holds [] { args:=[.list (ns.map .int)] }=true:=by
   have h4:=(holds_andW hc).1;rw[hn]at h4;exact h4
  have h5:=condW_of h4 (w_not (w_lt w_lit (w_len_list (w_arg rfl))));rw[List.length_map]at h5;refine Nat.le_of_not_lt fun q=> ?_;have q':(n:Int)<((ns.length:Nat):Int):=by lia
  first
   | (rw[decide_eq_true q']at h5;exact absurd h5 (by decide))
   | (simp at h5;lia)
 cases hwl with
 | cons w1 w2 =>
  cases w2;cases w1 with
  | list ho hall=>exact⟨_,_,ns,rfl,rfl,ho,sK ns _ hall,hlen⟩
theorem EC (l:OpenLaw)(args:List WData):l.row.toRowW.claim.post args (.bool true) args=true :=
 postW_of (r:=l.row.toRowW) (X:=(true==true))
  (show WShape.has [] (.bool true) .bool=true by first|rfl|decide|simp[WShape.has,WShape.arms,WShape.armsAll])
  (show (WTm.eq .res (.lit (.bool true))).value [] { args:=args,res:=some (.bool true),after:=args }=some (.bool (true==true)) from w_eq_bool (w_res rfl) w_lit) rfl
theorem attach_call {l:OpenLaw}{n:Nat}{q:Program}{loose:List Str}{XP:(Str->Option Value)->Heap->Prop}{YP:World->Heap->Prop}{d:DefRec}
  (hn:l.most=some n)(hdf:d.params.defaults=[])
  (call:∀(w:World) (s₀ s₁:Shared) (mg mb:Str->Option Value) (fa:Addr) (o:Obj) (pm cd doc:Value) (a:Addr) (vs:List Value) (ns:List Int),
   Ground q loose [] XP w s₀ mg mb s₁.heap->YP w s₁.heap →
   s₁.heap.get? fa=some o->o.data= .func (docDef d.name d.params d.body d.scope pm cd doc)->s₁.heap.CodeRec cd d.name->mg d.name=some (.ref fa) →
   s₁.heap.get? a=some { cls:= .type "list",data:= .seq vs.toArray }->IntsAre vs ns->ns.length<=n->s₁.gens= #[] →
   codeAny (model l.prog w) callerA (.call (.ref fa) ⟨[.ref a],[]⟩) (fun r s'=>r= .ok (.ret (.bool true))/\OldK s₁.heap s'.heap/\s'.os=s₁.os/\AllBare s'.gens) s₁) :
  WalkO q loose XP YP l.row.toRowW d [] (fun f vs=>PySem.call f vs):=by
 intro w s₀ s₁ mg mb G Y fa o pm cd doc dV kV ho hd hcd hD hmg hg args vals as hpre hlay hrd hwl hlo;obtain rfl:dV= .none:=Dflts.none hD hdf;obtain rfl:kV= .none:=Dflts.noKw hD;obtain⟨a,vs,ns,rfl,rfl,hobj,hints,hlen⟩:=DU hn hpre hwl;refine enter_call (codeAny_mono (call w s₀ s₁ mg mb fa o pm cd doc a vs ns G Y ho (fd_plain hd) hcd hmg hobj hints hlen hg) fun r s' hq=> ?_);obtain⟨rfl,h2,h3,h4⟩:=hq;exact⟨.inl ⟨.bool true,.bool true,[],rfl,fun _=>rfl,.bool true,EC l _,fun _=>⟨List.Pairwise.nil,fun _ hm=>(nomatch hm)⟩⟩,h2,h3,h4⟩
section
variable {prog:Program}{w:World}{A:Around}{E:Value->Shared->Prop}{s:Shared}{K:Frag}
end
end Att
namespace L2
open PySem PySem.Spec PyProof.Rows
theorem u3:∀{vs:List Value}{ns:List Int},IntsAre vs ns->Vals (ns.map V.int) vs
 | _,_,.nil=> .nil
 | _,_,.cons n t h=> .cons ⟨t,rfl⟩ (u3 h)
def FG (H:Hp):Prop:=∀b,H b=none∨∃o xs,H b=some (.frz o (.lst xs))
theorem FS {P:Program}{w:World}{K:PySem.W.Frag}{mg mb:Str->Option Value}{CX:CXT}{k:Nat}{fa a:Addr}{fd:FuncData}{x:Str}{sp:Sp}{s₁:Shared}{vs:List Value}{ns:List Int}
  (KX:K.In s₁.heap)(hns:s₁.heap.Ns mainGlobals mg)(hb:s₁.heap.Ns builtinsNs mb)(hbb:∀x:Str,x≠ "__name__" ->mb x=bootBuiltins x)(hlim:s₁.heap.NoLimit)(hg:s₁.gens= #[])
  (ha:s₁.heap.get? a=some { cls:= .type "list",data:= .seq vs.toArray })(hi:IntsAre vs ns)(hl:ns.length<=sizeLine)(hr:Room k callerA)
  (F:∀base:Heap,K.In base->base.Ns mainGlobals mg->aY P w K mg base CX k fa fd [x] sp)(hbind:∀(s:Shared) (u:Value),BindsTo s fd ⟨[u],[]⟩ [(x,u)])
  (hsp:∀H:Hp,FG H->SqL K H a (ns.map V.int)->sp [.ref a] H (fun v _=>v= .bl true) fun _ _ _=>False)
  (hCX:∀H e s',CX [] H s₁ (fun _ _ _=>False) e s'->False) :
  codeAny (model P w) callerA (.call (.ref fa) ⟨[.ref a],[]⟩) (fun r s'=>r= .ok (.ret (.bool true))/\OldK s₁.heap s'.heap/\s'.os=s₁.os/\AllBare s'.gens) s₁:=by
 have rv:=u3 hi;have lenV:=hi.length;have core:∀H:Hp,FG H->SqL K H a (ns.map V.int)->HOk P w H s₁.heap->(∀b,H b≠none->b=a)->(H a≠none->K.lookup a=none) →
   codeAny (model P w) callerA (.call (.ref fa) ⟨[.ref a],[]⟩) (fun r s'=>r= .ok (.ret (.bool true))/\OldK s₁.heap s'.heap/\s'.os=s₁.os/\AllBare s'.gens) s₁:=by
  intro H hO hS hok hA hK;have base_of:∀{b:Addr}{o:Obj},s₁.heap.get? b=some o->H b=none->(lP s₁.heap H).get? b=some o:=fun e n=>G6 e n;have noA:∀{b:Addr}{o:Obj}{es:Array DictEntry}{ep:Nat},s₁.heap.get? b=some o->o.data= .dict es ep->H b=none:=fun {b o es ep} e d=>by
   cases q:H b with
   | none=>rfl
   | some u =>
    have e':b=a:=hA b (by rw[q];simp);subst e';rw[ha]at e;cases e;have d':Data.seq vs.toArray _=Data.dict es ep:=d;cases d'
  have nsK:∀{b:Addr}{m:Str->Option Value},s₁.heap.Ns b m->(lP s₁.heap H).Ns b m:=fun {b m} ⟨o,es,ep,e,d,r⟩=>⟨o,es,ep,base_of e (noA e d),d,r⟩
  have hKb:K.In (lP s₁.heap H):=fun b o e=>base_of (KX b o e) (by
   cases q:H b with
   | none=>rfl
   | some u =>
    have e':b=a:=hA b (by rw[q];simp);subst e';rw[hK (by rw[q];simp)]at e;cases e)
  have hM:Mod K mg (lP s₁.heap H):=⟨hKb,nsK hns,⟨mb,nsK hb,hbb⟩,let ⟨mc,h1,h2⟩:=hlim;⟨mc,nsK h1,h2⟩⟩
  have e0:Env0 P w K mg (lP s₁.heap H) callerA [] s₁ H:=⟨rfl,hM,fun b o e=>KZ e,Nat.le_of_eq (DZ _ _),trivial,fun b hb=>absurd (show b∈([]:List Addr) from hb) (by simp),hok,.of_eq hg⟩
  refine codeAny_mono ((F _ hKb (nsK hns)).run callerA [] s₁ H ⟨[.ref a],[]⟩ [.ref a] [.ref a] _ _ hr e0 (hbind s₁ (.ref a)) (.cons rfl .nil) (hsp H hO hS)) fun r s' h=> ?_;cases r with
  | error e=>exact(hCX H e s' h).elim
  | ok fl =>
   cases fl with
   | next=>exact False.elim h
   | brk=>exact False.elim h
   | cont=>exact False.elim h
   | ret u =>
    obtain⟨v,H',os,bare,un,hok',r',q⟩:=h;have q':v= .bl true:=q;subst q';obtain rfl:u=Value.bool true:=r';refine⟨rfl,OldK.of_keep fun b o e=> ?_,os,bare⟩;cases q:H b with
    | none=>exact un.keep b o e q (by intro z;exact absurd (show b∈([]:List Addr) from z) (by simp)) (by simp)
    | some u =>
     rcases hO b with z|⟨ob,xs,z⟩
     ·rw[q]at z;cases z
     ·have z2:=un.frzs b ob _ z;obtain⟨e1,_⟩:=hok b _ z;obtain⟨e2,_⟩:=hok' b _ z2;rw[e]at e1;cases e1;exact e2
 cases hk:K.lookup a with
 | some o =>
  have e:=KX a o hk;rw[ha]at e;cases e;refine core (fun _=>none) (fun _=> .inl rfl) (.inr ⟨_,vs.toArray,_,hk,rfl,rfl,rfl,by rw[List.size_toArray,lenV];exact hl,by simpa using rv⟩) (fun b u z=>by have z':(none:Option HO)=some u:=z;cases z') (fun b z=>absurd rfl z) fun z=>absurd rfl z
 | none =>
  refine core (fun b=>if b=a then some (.frz { cls:= .type "list",data:= .seq vs.toArray } (.lst (ns.map V.int))) else none) (fun b=> ?_) (.inl (.inr ⟨{ cls:= .type "list",data:= .seq vs.toArray },if_pos rfl⟩)) (fun b u z=> ?_) (fun b z=> ?_) fun _=>hk
  ·by_cases hb:b=a
   ·exact .inr ⟨_,_,if_pos hb⟩
   ·exact .inl (if_neg hb)
  ·by_cases hb:b=a
   ·have z':=(if_pos hb).symm.trans z;cases z';subst hb;exact⟨ha,by rw[List.length_map];exact hl,vs,_,rv,ha⟩
   ·have z':=(if_neg hb).symm.trans z;cases z'
  ·by_cases hb:b=a
   ·exact hb
   ·exact absurd (if_neg hb) z
end L2
namespace L2
open PySem PySem.Spec PyProof.Rows
theorem walk_of {l:PySem.W.OpenLaw}{n k:Nat}{q:Program}{loose:List Str}{XP:(Str->Option Value)->Heap->Prop}{YP:World->Heap->Prop}{d:DefRec}{K:Params->PySem.W.Frag}{CX:World->CXT}{sp:World->Sp}{x:Str}
  (hn:l.most=some n)(hn2:n<=sizeLine)(hdf:d.params.defaults=[])(hr:Room k callerA)
  (hY:∀(w:World) (h:Heap),YP w h->(K w.params).In h)
  (F:∀(w:World) (mg:Str->Option Value) (fa:Addr) (h:Heap),(K w.params).In h->h.Ns mainGlobals mg->mg d.name=some (.ref fa) →
   ∃fd:FuncData,(∀(s:Shared) (u:Value),BindsTo s fd ⟨[u],[]⟩ [(x,u)]) ∧
    ∀base:Heap,(K w.params).In base->base.Ns mainGlobals mg->aY l.prog w (K w.params) mg base (CX w) k fa fd [x] (sp w))
  (hsp:∀(w:World) (H:Hp) (a:Addr) (ns:List Int),ns.length<=n->FG H->SqL (K w.params) H a (ns.map V.int)->sp w [.ref a] H (fun v _=>v= .bl true) fun _ _ _=>False)
  (hCX:∀(w:World) (H:Hp) (s:Shared) (e:Value) (s':Shared),CX w [] H s (fun _ _ _=>False) e s'->False) :
  PySem.W.WalkO q loose XP YP l.row.toRowW d [] (fun f vs=>PySem.call f vs):=by
 refine Att.attach_call hn hdf fun w s₀ s₁ mg mb fa o pm cd doc a vs ns G Y ho hd hcd hmg hobj hints hlen hg=> ?_;have KX:=hY w _ Y;obtain⟨fd,hb,hF⟩:=F w mg fa _ KX G.T.g hmg;exact FS KX G.T.g G.T.b G.T.builtins G.T.nolimit hg hobj hints (Nat.le_trans hlen hn2) hr hF hb (fun H hO hS=>hsp w H a ns hlen hO hS) fun H e s'=>hCX w H s₁ e s'
end L2
namespace L2
open PySem PySem.Spec PyProof.Rows
def bZ (s:Stmt)(j:Nat):Stmt:=match s with
 | .ClassDef _ _ _ body _ _ _ _ _ _ _=>body.getD j (.Pass ⟨0,0,0,0⟩)
 | _=> .Pass ⟨0,0,0,0⟩
def aM (s:Stmt):Arguments:=match s with
 | .FunctionDef _ a _ _ _ _ _ _ _ _=>a
 | _=>{ posonlyargs:=[],args:=[],vararg:=none,kwonlyargs:=[],kw_defaults:=[],kwarg:=none,defaults:=[] }
def aK (s:Stmt):List Stmt:=match s with
 | .FunctionDef _ _ b _ _ _ _ _ _ _=>b
 | _=>[]
def aB (s:Stmt):Scope:=match s with
 | .FunctionDef _ _ _ _ _ _ sc _ _ _=>sc
 | _=>{ kind:= .function,names:=[],isGenerator:=false,isCoroutine:=false }
abbrev CX0:CXT:=fun _ _ _ _ _ _=>False
abbrev E0:XK:=fun _ _ _=>False
theorem wN {X:Cx}:iC CX0 X E0:=fun _ _ _ _ _ _ _ h=>h.elim
section
variable {P:Program}{w:World}{K:PySem.W.Frag}{mg:Str->Option Value}{base:Heap}
end
theorem CT {n:Nat}(h:n<=1000):n<sizeLine:=Nat.lt_of_le_of_lt h (by decide)
section
variable {X:Cx}
theorem pv (i:Nat){x:Str}{pos:Pos} (hN:X.N[i]? =some x:=by rfl) (hv:Vis X.env.scope x:=by first|exact Or.inl rfl|exact Or.inr (Or.inl rfl)|exact Or.inr (Or.inr rfl)) (hd:(x==("__debug__" :Str))=false:=by decide)
  (hcd:(x==("__classdict__" :Str))=false:=by decide):PE X (.Name x pos) (fK i):=ML hN hv hd hcd
end
theorem tG {c A B:Prop}[Decidable c](h1:c->A)(h2:¬c->B):if c then A else B:=by
 by_cases h:c
 ·rw[if_pos h];exact h1 h
 ·rw[if_neg h];exact h2 h
def Same (H H':Hp):Prop:=∀b o,H b=some o->H' b=some o
theorem Same.refl (H:Hp):Same H H:=fun _ _ h=>h
theorem Same.trans {H H1 H2:Hp}(a:Same H H1)(b:Same H1 H2):Same H H2:=fun c o h=>b c o (a c o h)
theorem Same.seq {K:PySem.W.Frag}{H H':Hp}{a:Addr}{xs:List V} (e:Same H H') (h:SqL K H a xs):SqL K H' a xs:=by
 rcases h with (h|⟨o,h⟩)|h
 ·exact .inl (.inl (e _ _ h))
 ·exact .inl (.inr ⟨o,e _ _ h⟩)
 ·exact .inr h
end L2
namespace L2
open PySem PySem.Spec PyProof.Rows
section
variable {X:Cx}{pins:List (Addr×Obj)}{σ:St}{H:Hp}{s:Shared}{D:Addr}{ys:List V}
theorem HOk.adds {P:Program}{w:World}{h:Heap}{o:HO} (x:HOk P w H h) (hn:H D=none) (new:ObjOk P w (upd H D o) h D o):HOk P w (upd H D o) h:=fun b u e=>by
 by_cases hb:b=D
 ·subst hb;rw[aR]at e;cases e;exact new
 ·rw[aG hb]at e;exact(x b u e).stay (fun c v _ q=>q) (fun c q=>by rw[aG (aO q hn)];exact q) fun c xs q=>by rw[aG (aO q hn)];exact q
theorem HOk.drops {P:Program}{w:World}{h:Heap} (x:HOk P w (upd H D (.lst ys)) h) (hn:H D=none):HOk P w H h:=fun b u e=>by
 have hb:b≠D:=aO e hn;refine(x b u (by rw[aG hb];exact e)).stay (fun c v _ q=>q) (fun c q=> ?_) fun c xs q=> ?_
 ·by_cases hc:c=D
  ·subst hc;rw[aR]at q;cases q
  ·rw[aG hc]at q;exact q
 ·by_cases hc:c=D
  ·subst hc;rw[aR]at q;cases q
  ·rw[aG hc]at q;exact q
theorem Inv.track {its:List Value}{n:Nat} (I:Inv X pins σ H s) (hn:H D=none) (e:s.heap.get? D=some { cls:= .type "list",data:= .seq its.toArray n }) (r:Vals ys its) (hz:ys.length<=sizeLine)
  (h0:X.s₀.heap.objs.size<=D)(h1:D≠X.env.locals)(h2:∀x c,X.env.cells.lookup x=some c->c≠D)(h3:∀p∈X.pn++pins,p.1≠D):Inv X pins σ (upd H D (.lst ys)) s where
 ok:=I.ok
 os:=I.os
 bare:=I.bare
 base:=by
  have lt:∀b o,X.s₀.heap.get? b=some o->b≠D:=fun b o q=>Nat.ne_of_lt (Nat.lt_of_lt_of_le (Heap.lt_size q) h0);refine⟨I.base.keep,I.base.slot,fun b o q n' hx=> ?_,I.base.there,fun b xs q=> ?_,fun b o u q=> ?_,fun b ps q=> ?_⟩
  ·rw[aG (lt b o q)];exact I.base.free b o q n' hx
  ·have z:=I.base.tups b xs q;rw[aG (aO z hn)];exact z
  ·have z:=I.base.frzs b o u q;rw[aG (aO z hn)];exact z
  ·obtain⟨more,z⟩:=I.base.tbls b ps q;exact⟨more,by rw[aG (aO z hn)];exact z⟩
 loc:=I.loc
 cell:=I.cell
 free:=by rw[aG (Ne.symm h1)];exact I.free
 freeC:=fun x c q=>by rw[aG (h2 x c q)];exact I.freeC x c q
 pin:=fun p hp=>by
  obtain⟨a,b,c⟩:=I.pin p hp;exact⟨a,by rw[aG (h3 p hp)];exact b,c⟩
 hok:=I.hok.adds hn ⟨hz,its,n,r,e⟩
 len:=I.len
theorem Inv.untrack (I:Inv X pins σ (upd H D (.lst ys)) s)(hn:H D=none):Inv X pins σ H s where
 ok:=I.ok
 os:=I.os
 bare:=I.bare
 base:=by
  have low:∀b u,upd H D (.lst ys) b=some u->(∀xs,u≠ .lst xs)->H b=some u:=fun b u q nl=>by
   by_cases hb:b=D
   ·subst hb;rw[aR]at q;cases q;exact absurd rfl (nl ys)
   ·rw[aG hb]at q;exact q
  refine⟨I.base.keep,I.base.slot,fun b o q n' hx=> ?_,I.base.there,fun b xs q=> ?_,fun b o u q=> ?_,fun b ps q=> ?_⟩
  ·have z:=I.base.free b o q n' hx
   by_cases hb:b=D
   ·subst hb;exact hn
   ·rw[aG hb]at z;exact z
  ·exact low _ _ (I.base.tups b xs q) (fun _ z=>by cases z)
  ·exact low _ _ (I.base.frzs b o u q) (fun _ z=>by cases z)
  ·obtain⟨more,z⟩:=I.base.tbls b ps q;exact⟨more,low _ _ z (fun _ z=>by cases z)⟩
 loc:=I.loc
 cell:=I.cell
 free:=by
  have z:=I.free
  by_cases hb:X.env.locals=D
  ·rw[hb];exact hn
  ·rw[aG hb]at z;exact z
 freeC:=fun x c q=>by
  have z:=I.freeC x c q
  by_cases hb:c=D
  ·rw[hb];exact hn
  ·rw[aG hb]at z;exact z
 pin:=fun p hp=>by
  obtain⟨a,b,c⟩:=I.pin p hp;refine⟨a,?_,c⟩
  by_cases hb:p.1=D
  ·rw[hb];exact hn
  ·rw[aG hb]at b;exact b
 hok:=I.hok.drops hn
 len:=I.len
end
def bC (X:Cx)(scope:Scope)(cl:List (Str×Addr))(N:List Str)(C:Addr)(s0:Shared)(H0:Hp)(fp:List Addr):Cx where
 prog:=X.prog
 w:=X.w
 K:=X.K
 mg:=X.mg
 base:=X.base
 A:=X.A
 N:=N
 s₀:=s0
 H₀:=H0
 env:=compEnvC scope cl C X.env
 outer:=X.stack
 stack:=X.stack
 ex:=fp
 fn:=fun _=>false
 calm:=X.calm
 pn:=[]
 xe:=fun _ _=>False
structure Blk (X:Cx)(scope:Scope)(cl:List (Str×Addr))(N:List Str)(nl:Nat)(ci:List Nat):Prop where
 kind:scope.kind= .function
 names:∀y∈scope.names,y.2= .local->scope.names.lookup y.1=some .local
 nocell:∀y∈scope.names,y.2≠ .cell
 clos:closureFor scope X.env=pure cl
 sub:∀n c,cl.lookup n=some c->X.env.cells.lookup n=some c
 has:∀n,((relabel scope X.env).names.lookup n=some .cell∨(relabel scope X.env).names.lookup n=some .free)->∃c,cl.lookup n=some c
 len:N.length=nl+ci.length
 cap:∀(j i:Nat),ci[j]? =some i->∃n,N[nl+j]? =some n/\X.N[i]? =some n/\(X.env.scope.names.lookup n=some .cell∨X.env.scope.names.lookup n=some .free) ∧
  ((relabel scope X.env).names.lookup n=some .cell∨(relabel scope X.env).names.lookup n=some .free)/\cl.lookup n=X.env.cells.lookup n
def bS (nl:Nat)(ci:List Nat)(σ:St):St:=List.replicate nl none++ci.map fun i=>(σ[i]?).join
theorem D2 {nl:Nat}{ci:List Nat}{σ:St}{k:Nat}{v:V} (h:(bS nl ci σ)[k]? =some (some v)):∃j i,k=nl+j/\ci[j]? =some i/\σ[i]? =some (some v):=by
 unfold bS at h
 by_cases hk:k<nl
 ·rw[List.getElem?_append_left (by simpa using hk),List.getElem?_replicate]at h
  split at h<;>cases h
 ·rw[List.getElem?_append_right (by simpa using hk),List.length_replicate,List.getElem?_map]at h;cases e:ci[k - nl]? with
  | none=>rw[e]at h;cases h
  | some i =>
   rw[e]at h;have h':(σ[i]?).join=some v:=by simpa using h
   refine⟨k - nl,i,by lia,e,?_⟩;cases q:σ[i]? with
   | none=>rw[q]at h';cases h'
   | some o=>rw[q]at h';simp at h';rw[h']
theorem xF {nl:Nat}{ci:List Nat}{σ:St}:(bS nl ci σ).length=nl+ci.length:=by unfold bS;simp
section
variable {X:Cx}{scope:Scope}{cl:List (Str×Addr)}{N:List Str}{nl:Nat}{ci:List Nat}{pins:List (Addr×Obj)}{σ:St}{H2:Hp}{s2:Shared}{fp:List Addr}
theorem yZ (B:Blk X scope cl N nl ci)(I:Inv X pins σ H2 s2)(f2:∀b∈fp,gL X pins H2 b)(fo:∀b∈fp,∃o,s2.heap.get? b=some o){C:Addr}{h4:Heap}{t4:Nat}{m4:Str->Option Value} (hC:s2.heap.objs.size<=C) (hns:h4.Ns C m4)
  (hk:∀b o,s2.heap.get? b=some o->h4.get? b=some o):Inv (bC X scope cl N C s2 H2 fp) [] (bS nl ci σ) H2 { s2 with heap:=h4,toks:=t4 }:=by
 have lt2:∀b∈fp,b<s2.heap.objs.size:=fun b hb=>by obtain⟨o,e⟩:=fo b hb;exact Heap.lt_size e
 have ok:(bC X scope cl N C s2 H2 fp).Ok:=by
  refine⟨I.ok.mod,B.kind,I.ok.glob,I.ok.blt,hC,fun x y c h1 h2=>I.ok.inj x y c (B.sub x c h1) (B.sub y c h2),fun x hx=>B.has x hx,fun x c hf _=>(by cases hf),I.ok.hd,I.ok.frames,.inl rfl,fun b hb=>⟨?_,?_⟩,I.bs,?_,fun b o e hb=> ?_,fun b hb z=> ?_,I.stack,I.stkFree⟩
  ·exact Nat.ne_of_lt (Nat.lt_of_lt_of_le (lt2 b hb) hC)
  ·exact fun x c h=>(f2 b hb).2.2.2.2.1 x c (B.sub x c h)
  ·exact Nat.le_trans I.ok.bsz I.sz
  ·rcases (f2 b hb).2.2.2.1 with z|z
   ·exact I.ok.noex b o e z
   ·exact absurd (Nat.lt_of_lt_of_le (Heap.lt_size e) (Nat.le_trans I.ok.bsz z)) (Nat.lt_irrefl _)
  ·rcases List.mem_cons.mp (I.stkSub b z) with q|q
   ·exact(f2 b hb).2.1 q
   ·exact(f2 b hb).2.2.1 q
 refine⟨ok,rfl,I.bare,Un.kept hk,⟨m4,hns,fun k x v e1 e2 e3=> ?_⟩,fun x c e=> ?_,I.hok.fresh hC,fun x c e=>I.freeC x c (B.sub x c e),fun p hp=>(by cases hp),I.hok.kept hk,?_⟩
 ·obtain⟨j,i,rfl,hj,hσ⟩:=D2 e2;obtain⟨n,hn1,hn2,hk1,hk2,hl⟩:=B.cap j i hj;have en:x=n:=by
   have e1':N[nl+j]? =some x:=e1;rw[hn1]at e1';exact(Option.some.inj e1').symm
  subst en;obtain⟨m,hm,hloc⟩:=I.loc;have vis:Vis X.env.scope x:= .inr hk1;obtain⟨u,ru,lk⟩:=hloc i x v hn2 hσ vis;refine⟨u,ru,.inr ⟨hk2,?_⟩⟩;rcases lk with⟨kl,_⟩|⟨_,c,ec,hc⟩
  ·have kl':X.env.scope.names.lookup x=some .local:=kl;rcases hk1 with z|z<;>· rw[z]at kl';cases kl'
  ·refine⟨c,hl.trans ec,?_⟩;obtain⟨o,ho,hd⟩:=hc;exact⟨o,hk _ _ ho,hd⟩
 ·obtain⟨v,o,ho,hd⟩:=I.cell x c (B.sub x c e);exact⟨v,o,hk _ _ ho,hd⟩
 ·show (bS nl ci σ).length=N.length;rw[xF,B.len]
theorem D4 {C:Addr}{σ':St}{H':Hp}{s':Shared}{pb:List (Addr×Obj)} (I:Inv X pins σ H2 s2) (f2:∀b∈fp,gL X pins H2 b) (J:Inv (bC X scope cl N C s2 H2 fp) pb σ' H' s'):Inv X pins σ H' s' :=
 I.call' J.os J.base J.hok J.bare fun b hb=>⟨(f2 b hb).2.2.2.1,(f2 b hb).2.1,(f2 b hb).2.2.2.2.1,(f2 b hb).2.2.2.2.2⟩
end
section
variable {prog:Program}{w:World}{A:Around}{R:Result->Shared->Prop}{s:Shared}
theorem yX {elt target iter:Expr}{ifs:List Expr}{scope:Scope}{pos:Pos}{it acc:Value}{env:Env} (I:Nat->Shared->Prop)
  (turn:∀n s,I n s->wpAny (model prog w) A (pyNext it) (fun r s₁=>match r with
   | none=>R (.ok .next) s₁
   | some v=>wpAny (model prog w) A (letOwnedTupleGo target it v) (fun _ s₁'=>wpAny (model prog w) A (assign target env v) (fun _ s₂ =>
     wpAny (model prog w) A (forIn ifs true fun c r=>if r=true then do let ok ←isTrue c env (eval c env);pure (ForInStep.yield ok) else pure (ForInStep.yield r)) (fun ok s₃ =>
      if ok=true then wpAny (model prog w) A (eval elt env) (fun x s₄ =>
       wpAny (model prog w) A (call (.builtin "list.append") [acc,x]) (fun _ s₅=>∃m,m<n/\I m s₅) (notedBy (model prog w) A env fun e s'=>R (.error e) s') s₄) (notedBy (model prog w) A env fun e s'=>R (.error e) s') s₃
      else ∃m,m<n/\I m s₃) (notedBy (model prog w) A env fun e s'=>R (.error e) s') s₂) (notedBy (model prog w) A env fun e s'=>R (.error e) s') s₁') (notedBy (model prog w) A env fun e s'=>R (.error e) s') s₁) (notedBy (model prog w) A env fun e s'=>R (.error e) s') s)
  (n:Nat)(h:I n s) :
  codeAny (model prog w) A (.compLoop (.ListComp elt [⟨target,iter,ifs,0⟩] scope pos) 0 it acc env) R s:=by
 refine codeAny_loop rfl I (fun n s hI=> ?_) n h;show wpAny _ A ((compTurn (.ListComp elt [⟨target,iter,ifs,0⟩] scope pos) 0 it acc env).onRaise (fun x=>do noteFrame x env;theTreesLotGoes x)) _ _ s;refine wpAny_noted ?_;rw[compTurn_list];refine wpAny_bind (wpAny_standAt (wpAny_bind (wpAny_mono (turn n s hI) (fun r s₁ h₁=> ?_) fun _ _ h'=>h')));cases r with
 | none=>exact wpAny_pure h₁
 | some v =>
  refine wpAny_bind (wpAny_mono h₁ (fun _ s₁' h₁'=> ?_) fun _ _ h'=>h');refine wpAny_bind (wpAny_mono h₁' (fun _ s₂ h₂=>wpAny_bind (wpAny_mono h₂ (fun ok s₃ h₃=> ?_) fun _ _ h'=>h')) fun _ _ h'=>h');cases ok with
  | false=>exact wpAny_pure ⟨rfl,h₃⟩
  | true =>
   exact wpAny_bind (wpAny_bind (wpAny_mono h₃ (fun x s₄ h₄=>wpAny_bind (wpAny_mono h₄ (fun _ s₅ h₅=>wpAny_pure (wpAny_pure ⟨rfl,h₅⟩)) fun _ _ h'=>h')) fun _ _ h'=>h'))
end
def PF (X:Cx)(ifs:List Expr)(t:TT):Prop :=
 ∀(pins:List (Addr×Obj)) (s:Shared) (σ:St) (H:Hp) (Q:Bool->Hp->Prop),Inv X pins σ H s->t σ H Q →
  wpAny (model X.prog X.w) X.A (forIn ifs true fun c r=>if r=true then do let ok ←isTrue c X.env (eval c X.env);pure (ForInStep.yield ok) else pure (ForInStep.yield r)) (TP X pins σ Q) X.xe s
def MU:TT:=fun _ H Q=>Q true H
theorem eN {X:Cx}:PF X [] MU:=fun _ _ _ H _ I h=>wpAny_tests_nil ⟨H,I,h⟩
theorem xH {X:Cx}{c:Expr}{t:TT} (h:PT X c t):PF X [c] t:=fun pins s σ H Q I q=>wpAny_tests_one (h pins s σ H Q I q)
def eM (J:It)(g:TG)(ti:TT)(te:TE)(σ0:St)(fin:List V->Hp->Prop)(H1:Hp):Prop :=
 ∃W:Nat->Nat->List V->Hp->Prop,(∃m,W 0 m [] H1)/\∀i m ys H,W i m ys H →
  (J.stop i H/\fin ys H) ∨
  (J.go i H/\∀x H',J.yld i H x H'->g x σ0 H' fun σ2 H2=>(σ2.length=σ0.length/\∀(j:Nat) v,σ0[j]? =some (some v)->σ2[j]? =some (some v)) ∧
   ti σ2 H2 fun b H3=>if b=true then te σ2 H3 fun y H4=>ys.length<sizeLine/\∃m',m'<m/\W (i+1) m' (ys++[y]) H4 else ∃m',m'<m/\W (i+1) m' ys H3)
def AQ (wi:TI)(nl:Nat)(ci:List Nat)(g:TG)(ti:TT)(te:TE):TE:=fun σ H Q =>
 wi σ H fun J H1=>eM J g ti te (bS nl ci σ) (fun ys H'=>∀p,H' p=none->Q (.ref p) (upd H' p (.lst ys))) H1
section
variable {X:Cx}{scope:Scope}{cl:List (Str×Addr)}{N:List Str}{nl:Nat}{ci:List Nat}{tg elt iter:Expr}{ifs:List Expr}{pos:Pos}{wi:TI}{g:TG}{ti:TT}{te:TE}
theorem vB {pins:List (Addr×Obj)}{σ:St}{H2:Hp}{s2:Shared}{fp:List Addr}{it:Addr}{J:It}{tn:Nat->Heap->Prop}{E:Value->Shared->Prop}{RR:Value->Addr->Result->Shared->Prop}{fin:List V->Hp->Prop}
  (hc:X.calm=true)(B:Blk X scope cl N nl ci)(hg:∀C s0 H0 fp,PG (bC X scope cl N C s0 H0 fp) tg g)(hi:∀C s0 H0 fp,PF (bC X scope cl N C s0 H0 fp) ifs ti)(he:∀C s0 H0 fp,PE (bC X scope cl N C s0 H0 fp) elt te)
  (I2:Inv X pins σ H2 s2)(T:nG X.prog X.w X.K tg J fp it tn)(st2:tn 0 s2.heap)(f2:∀b∈fp,gL X pins H2 b)(hW:eM J g ti te (bS nl ci σ) fin H2)
  (hfin:∀(D C:Addr) (s':Shared) (H':Hp) (ys:List V) (oC:Obj) (m:Str->Option Value),H' D=none->Inv X (pins++[(C,oC)]) σ (upd H' D (.lst ys)) s'->s'.heap.Ns C m->s2.heap.objs.size<=C->fin ys H'->RR (.ref D) C (.ok .next) s') :
  wpAny (model X.prog X.w) X.A (newList []) (fun acc s₃=>wpAny (model X.prog X.w) X.A (newFunctionEnv scope X.env.globals cl [] X.env.qual none .none (some X.env)) (fun cenv s₄ =>
   codeAny (model X.prog X.w) X.A (.compStart (.ListComp elt [⟨tg,iter,ifs,0⟩] scope pos) 0 (.ref it) acc { cenv with scope:=relabel scope X.env }) (RR acc cenv.locals) s₄) E s₃) E s2:=by
 obtain⟨W,⟨m0,w0⟩,turn⟩:=hW;refine wpAny_newObj_type (wpAny_newFunctionEnv B.nocell (by intro y hy;simp at hy) (fun h1 hns1 hsb1=> ?_) B.kind)
 dsimp only at hns1 hsb1 ⊢
 generalize hH2:s2.heap.push { cls:= .type "list",dict:=none,data:= .seq ([]:List Value).toArray }=G2 at hns1 hsb1 ⊢;have hCs:G2.objs.size=s2.heap.objs.size+1:=by rw[←hH2,Heap.size_push]
 generalize hCe:G2.objs.size=C at hns1 hsb1 hCs ⊢;have hDC:s2.heap.objs.size≠C:=by rw[hCs];exact Nat.ne_of_lt (Nat.lt_succ_self _)
 have hCle:s2.heap.objs.size<=C:=by rw[hCs];exact Nat.le_succ _
 have old:∀b o,s2.heap.get? b=some o->h1.get? b=some o:=fun b o e=>hsb1.extBut b o (by rw[hCs];exact Nat.ne_of_lt (Nat.lt_succ_of_lt (Heap.lt_size e))) (Heap.get?_push_of_some _ (hH2▸Heap.get?_push_of_some _ e));have hacc:h1.get? s2.heap.objs.size=some { cls:= .type "list",data:= .seq ([]:List Value).toArray 0 }:=hsb1.extBut _ _ hDC (Heap.get?_push_of_some _ (hH2▸Heap.get?_push_size _ rfl));have fo:∀b∈fp,∃o,s2.heap.get? b=some o:=fun b hb=>let ⟨o,e,_⟩:=T.obj 0 _ st2 b hb;⟨o,e⟩;have lt2:∀b∈fp,b<s2.heap.objs.size:=fun b hb=>let ⟨o,e⟩:=fo b hb;Heap.lt_size e;have hDfp:s2.heap.objs.size∉fp:=fun z=>Nat.lt_irrefl _ (lt2 _ z);have hCfp:C∉fp:=fun z=>Nat.lt_irrefl _ (Nat.lt_of_lt_of_le (lt2 _ z) hCle);generalize hDe:s2.heap.objs.size=D at hCs hDC hCle hacc hDfp lt2;have loop:∀s3:Shared,s3={ s2 with heap:=h1,toks:=s2.toks+([]:List (Str×Value)).length } →
   codeAny (model X.prog X.w) X.A (.compLoop (.ListComp elt [⟨tg,iter,ifs,0⟩] scope pos) 0 (.ref it) (.ref D) (compEnvC scope cl C X.env)) (RR (.ref D) C) s3:=by
  rintro s3 rfl;have I4:Inv (bC X scope cl N C s2 H2 fp) [] (bS nl ci σ) H2 { s2 with heap:=h1,toks:=s2.toks+([]:List (Str×Value)).length }:=yZ B I2 f2 fo (by rw[hDe];exact hCle) hns1 old;have fpk:∀{H':Hp},(∀b∈fp,H' b=none)->∀b∈fp,gL (bC X scope cl N C s2 H2 fp) [] H' b:=fun hn b hb =>
   ⟨hn b hb,(I4.ok.exf b hb).1,I4.ok.exfs b hb,.inl hb,(I4.ok.exf b hb).2,fun p hp=>by cases hp⟩
  have hDX:∀x c,(bC X scope cl N C s2 H2 fp).env.cells.lookup x=some c->c≠D:=fun x c e=>by
   obtain⟨v,o,ho,_⟩:=I2.cell x c (B.sub x c e);rw[←hDe];exact Nat.ne_of_lt (Heap.lt_size ho)
  have hDL:D≠(bC X scope cl N C s2 H2 fp).env.locals:=hDC;have hDf:D∉(bC X scope cl N C s2 H2 fp).fs:=fun z=>by
   rcases List.mem_cons.mp (I2.stkSub D z) with q|q
   ·exact Nat.lt_irrefl _ (by have:=I2.lt;rw[hDe,←q]at this;exact this)
   ·exact I2.nofs (by rw[hDe];exact Nat.le_refl _) q
  refine yX (fun n s'=>∃i ys its k H',W i n ys H'/\Inv (bC X scope cl N C s2 H2 fp) [] (bS nl ci σ) H' s'/\tn i s'.heap/\(∀b∈fp,H' b=none)/\H' D=none ∧
   s'.heap.get? D=some { cls:= .type "list",data:= .seq its.toArray k }/\Vals ys its/\ys.length<=sizeLine) ?_ m0 ?_
  ·rintro n s' ⟨i,ys,its,k,H',w',I',st',fr',hD',eD,rv,hz⟩;have IP:Inv (bC X scope cl N C s2 H2 fp) [(D,{ cls:= .type "list",data:= .seq its.toArray k })] (bS nl ci σ) H' s':=I'.pins_of fun p hp=>by
    obtain rfl:p=_:=by simpa using hp
    exact⟨eD,hD',hDL,hDf,fun v z=>by cases z⟩
   have fpD:∀{H'':Hp},(∀b∈fp,H'' b=none)->∀b∈fp,gL (bC X scope cl N C s2 H2 fp) [(D,{ cls:= .type "list",data:= .seq its.toArray k })] H'' b:=fun hn b hb =>
    ⟨hn b hb,(I4.ok.exf b hb).1,I4.ok.exfs b hb,.inl hb,(I4.ok.exf b hb).2,fun p hp=>by
     obtain rfl:p=_:=by simpa [bC] using hp
     exact fun z=>hDfp ((show D=b from z)▸hb)⟩
   rcases turn i n ys H' w' with⟨stop,q⟩|⟨go,step⟩
   ·refine thn (T.done (bC X scope cl N C s2 H2 fp) rfl rfl rfl hc i _ s' (bS nl ci σ) H' _ IP (fpD fr') st' stop) fun r s'' ⟨hr,I''⟩=> ?_;subst hr;have eD2:=(I''.pin (D,_) (List.mem_append_right _ List.mem_cons_self)).1;have J1:Inv (bC X scope cl N C s2 H2 fp) [] (bS nl ci σ) (upd H' D (.lst ys)) s'' :=
     (I''.pins_of (pins':=[]) fun p hp=>by cases hp).track hD' eD2 rv hz (by show s2.heap.objs.size<=D;rw[hDe];exact Nat.le_refl _) hDL hDX fun p hp=>by cases hp
    have K1:Inv X pins σ (upd H' D (.lst ys)) s'':=D4 I2 f2 J1;obtain⟨mC,nsC,_⟩:=J1.loc;obtain⟨oC,es,ep,hoC,hdC,rC⟩:=id nsC;refine hfin D C s'' H' ys oC mC hD' (K1.pins_of fun p hp=> ?_) nsC (by rw[hDe];exact hCle) q;rcases List.mem_append.mp hp with hp|hp
    ·exact K1.pin p (List.mem_append_right _ hp)
    ·obtain rfl:p=(C,oC):=by simpa using hp
     refine⟨hoC,J1.free,Nat.ne_of_gt (Nat.lt_of_lt_of_le I2.lt (by rw[hDe];exact hCle)),I2.nofs (by rw[hDe];exact hCle),fun v z=> ?_⟩;rw[hdC]at z;cases z
   ·refine thn (T.item (bC X scope cl N C s2 H2 fp) rfl rfl rfl hc i _ s' (bS nl ci σ) H' _ IP (fpD fr') st' go) fun r s4 ⟨u,hr,h4⟩=> ?_;subst hr;refine thn h4 fun _ s5 ⟨x,H5,I5,r5,y5,st5,fr5⟩=> ?_;have I5':=I5.pinned (fpD fr5) (T.obj _ _ st5);refine wpAny_mono (hg C s2 H2 fp _ s5 (bS nl ci σ) H5 x u _ I5' r5 (step x H5 y5)) (fun _ s6 ⟨σ6,H6,I6,⟨hl6,hk6⟩,q6⟩=> ?_) fun _ _ f=>f.elim;refine wpAny_mono (hi C s2 H2 fp _ s6 σ6 H6 _ I6 q6) (fun b s7 ⟨H7,I7,q7⟩=> ?_) fun _ _ f=>f.elim;have pinD:∀{pp:List (Addr×Obj)}{σx:St}{Hx:Hp}{sx:Shared},Inv (bC X scope cl N C s2 H2 fp) ([(D,({ cls:= .type "list",data:= .seq its.toArray k }:Obj))]++iK fp s5.heap) σx Hx sx →
      sx.heap.get? D=some { cls:= .type "list",data:= .seq its.toArray k }/\Hx D=none/\tn (i+1) sx.heap/\(∀b∈fp,Hx b=none):=fun {pp σx Hx sx} Ix=>by
     refine⟨(Ix.pin (D,_) (List.mem_append_right _ (List.mem_append_left _ List.mem_cons_self))).1,(Ix.pin (D,_) (List.mem_append_right _ (List.mem_append_left _ List.mem_cons_self))).2.1,T.keep _ _ _ st5 fun b hb o e=>(Ix.pin (b,o) (List.mem_append_right _ (List.mem_append_right _ (fH hb e)))).1,fun b hb=> ?_⟩;obtain⟨o,e,d⟩:=T.obj _ _ st5 b hb;exact(Ix.pin (b,o) (List.mem_append_right _ (List.mem_append_right _ (fH hb e)))).2.1
    cases b with
    | false =>
     rw[if_neg Bool.false_ne_true]at q7 ⊢;obtain⟨m',hm',w7⟩:=q7;obtain⟨e7,n7,st7,fr7⟩:=pinD (pp:=[]) I7;exact⟨m',hm',i+1,ys,its,k,H7,w7,(I7.pins_of (pins':=[]) fun p hp=>by cases hp).weak hl6.symm hk6,st7,fr7,n7,e7,rv,hz⟩
    | true =>
     rw[if_pos rfl]at q7 ⊢;refine wpAny_mono (he C s2 H2 fp _ s7 σ6 H7 _ I7 q7) (fun y' s8 ⟨y,H8,I8,r8,hlt,m',hm',w8⟩=> ?_) fun _ _ f=>f.elim;obtain⟨e8,n8,st8,fr8⟩:=pinD (pp:=[]) I8;have I8f:Inv (bC X scope cl N C s2 H2 fp) (iK fp s5.heap) σ6 H8 s8:=I8.pins_of fun p hp=>I8.pin p (List.mem_append_right _ (List.mem_append_right _ hp));have I8t:=I8f.track n8 e8 rv hz (by show s2.heap.objs.size<=D;rw[hDe];exact Nat.le_refl _) hDL hDX fun p hp=>by
      have hp':p∈iK fp s5.heap:=by simpa [bC] using hp
      exact fun z=>hDfp (z▸(vD hp').1)
     refine wpAny_mono (j7 (X:=bC X scope cl N C s2 H2 fp) (iK fp s5.heap) s8 σ6 _ (.ref D) [y] (.ref D) [y'] (fun _ H9=>H9=upd H8 D (.lst (ys++[y]))) I8t rfl (.cons r8 .nil)
      ⟨D,ys,y,rfl,rfl,aR,hlt,LI⟩) (fun _ s9 ⟨_,H9,I9,_,e9⟩=> ?_) fun _ _ f=>f.elim
     subst e9;obtain⟨hz9,its9,k9,rv9,e9⟩:=I9.hok D _ aR;have I9u:=I9.untrack n8;refine⟨m',hm',i+1,ys++[y],its9,k9,H8,w8,(I9u.pins_of (pins':=[]) fun p hp=>by cases hp).weak hl6.symm hk6,?_,fr8,n8,e9,rv9,hz9⟩;exact T.keep _ _ _ st5 fun b hb o e=>(I9u.pin (b,o) (List.mem_append_right _ (fH hb e))).1
  ·exact⟨0,[],[],0,H2,w0,I4,T.keep _ _ _ st2 fun b hb o e=>old b o e,fun b hb=>(f2 b hb).1,I2.hok.fresh (by rw[hDe];exact Nat.le_refl _),hacc,.nil,Nat.zero_le _⟩
 exact codeAny_compStart_list (loop _ rfl) (T.self _ 0 _ _ _ (T.keep _ _ _ st2 fun b hb o e=>old b o e) (loop _ rfl))
theorem dN (hc:X.calm=true)(B:Blk X scope cl N nl ci)(hp:PI X tg iter wi)(hg:∀C s0 H0 fp,PG (bC X scope cl N C s0 H0 fp) tg g)(hi:∀C s0 H0 fp,PF (bC X scope cl N C s0 H0 fp) ifs ti)
  (he:∀C s0 H0 fp,PE (bC X scope cl N C s0 H0 fp) elt te)(hs:∀x,foldedSetIterable iter X.env x=pure x:=by intro _;rfl):PE X (.ListComp elt [⟨tg,iter,ifs,0⟩] scope pos) (AQ wi nl ci g ti te):=by
 intro pins s σ H Q I h;rw[eval_ListComp];refine wpAny_comprehension_free (use:=none) rfl hs B.clos B.kind B.names (thn (hp pins s σ H _ I h) fun v s1 h1=>thn h1 fun itv s2 h2=> ?_);obtain⟨it,fp,tn,J,H2,e,I2,T,st2,f2,hW⟩:=h2;subst e;refine vB (RR:=fun acc C=>compPost (model X.prog X.w) X.A X.xe none (EP X pins σ Q) acc C) hc B hg hi he I2 T st2 f2 hW ?_;intro D C s' H' ys oC m hD K1 hn hC q;refine⟨m,hn,fun h' hs'=> ?_⟩;have hL:C≠X.env.locals:=(K1.pin (C,oC) (by simp)).2.2.1;have I9:Inv X pins σ (upd H' D (.lst ys)) { s' with heap:=h',toks:=s'.toks }:=K1.unpinned.turned (t':=s'.toks) (it:=C) (fun b o hb e=>hs'.extBut b o hb e) (K1.pin (C,oC) (by simp)).2.1 hL (.inr (Nat.le_trans I2.sz hC)) (fun x c e z=> ?_) fun p hp z=> ?_
 ·exact⟨.ref D,_,I9,rfl,q D hD⟩
 ·obtain⟨v,o,ho,_⟩:=I2.cell x c e;exact absurd (Nat.lt_of_lt_of_le (Heap.lt_size ho) (z▸hC)) (Nat.lt_irrefl _)
 ·exact absurd (Nat.lt_of_lt_of_le (Heap.lt_size (I2.pin p hp).1) (z▸hC)) (Nat.lt_irrefl _)
theorem lN {i:Nat}{x:Str}{pos' spos:Pos} (hN:X.N.Nodup) (hix:X.N[i]? =some x) (hx:Loc X.env.scope x) (hc:X.calm=true) (B:Blk X scope cl N nl ci) (hp:PI X tg iter wi) (hg:∀C s0 H0 fp,PG (bC X scope cl N C s0 H0 fp) tg g)
  (hi:∀C s0 H0 fp,PF (bC X scope cl N C s0 H0 fp) ifs ti)(he:∀C s0 H0 fp,PE (bC X scope cl N C s0 H0 fp) elt te)
  (hsw:swapsWith (.ListComp elt [⟨tg,iter,ifs,0⟩] scope pos) (some (.Name x pos')) spos.line X.env=pure true:=by rfl)(hs:∀x,foldedSetIterable iter X.env x=pure x:=by intro _;rfl)
  (hf:X.fn x=true∨X.env.scope.names.lookup x=some .local:=by first|exact .inl rfl|exact .inr rfl|assumption) :
  PS X (.Assign [.Name x pos'] (.ListComp elt [⟨tg,iter,ifs,0⟩] scope pos) spos) (GW (AQ wi nl ci g ti te) (cK i)):=by
 intro pins s σ H D I h;rw[exec_Assign_Name_used _ _ _ _ hsw];refine wpAny_bind (wpAny_standAt (wpAny_bind ?_));show wpAny _ X.A (do let _ ←comprehension (.ListComp elt [⟨tg,iter,ifs,0⟩] scope pos) scope X.env _ (newList []) false (eval iter X.env) (some (assign (.Name x pos') X.env))) _ _ s;refine wpAny_bind (wpAny_mono (wpAny_comprehension_free (use:=some (assign (.Name x pos') X.env)) (Q:=fun _ s'=>SP X pins D .next s') rfl hs B.clos B.kind B.names
  (thn (hp pins s σ H _ I h) fun v s1 h1=>thn h1 fun itv s2 h2=> ?_)) (fun _ s' hq=>wpAny_pure (wpAny_pure hq)) fun _ _ e=>e)
 obtain⟨it,fp,tn,J,H2,e,I2,T,st2,f2,hW⟩:=h2;subst e;refine vB (RR:=fun acc C=>compPost (model X.prog X.w) X.A X.xe (some (assign (.Name x pos') X.env)) (fun _ s'=>SP X pins D .next s') acc C) hc B hg hi he I2 T st2 f2 hW ?_;intro Dd C s' H' ys oC m hD K1 hn hC q;show wpAny _ X.A (assign (.Name x pos') X.env (.ref Dd)) _ _ _;refine thn (aW (i:=i) hN hix hx hf (pins++[(C,oC)]) s' σ (upd H' Dd (.lst ys)) (.ref Dd) (.ref Dd) (fun σ' H''=>D.nx σ' H'') K1 rfl (q Dd hD)) fun _ s'' ⟨σ',H'',K2,q2⟩=> ?_;have eC:=K2.pin (C,oC) (by simp);obtain⟨oC',es,ep,hoC,hdC,rC⟩:=id hn;have eo:oC'=oC:=by
  have:=(K1.pin (C,oC) (by simp)).1;rw[hoC]at this;exact Option.some.inj this
 subst eo;refine⟨m,⟨oC',es,ep,eC.1,hdC,rC⟩,fun h' hs'=> ?_⟩;have hL:C≠X.env.locals:=eC.2.2.1;have I9:Inv X pins σ' H'' { s'' with heap:=h',toks:=s''.toks }:=K2.unpinned.turned (t':=s''.toks) (it:=C) (fun b o hb e=>hs'.extBut b o hb e) eC.2.1 hL (.inr (Nat.le_trans I2.sz hC)) (fun x c e z=> ?_) fun p hp z=> ?_
 ·exact⟨σ',H'',I9,q2⟩
 ·obtain⟨v,o,ho,_⟩:=I2.cell x c e;exact absurd (Nat.lt_of_lt_of_le (Heap.lt_size ho) (z▸hC)) (Nat.lt_irrefl _)
 ·exact absurd (Nat.lt_of_lt_of_le (Heap.lt_size (I2.pin p hp).1) (z▸hC)) (Nat.lt_irrefl _)
end
end L2
namespace L2
open PySem PySem.Spec PyProof.Rows
def Its (x:Str):It:=⟨fun i _=>i<x.cps.size,fun i H v H'=>H'=H/\∃c,x.cps[i]? =some c/\v= .str ⟨#[c]⟩,fun i _=>i=x.cps.size⟩
theorem xG {P:Program}{w:World}{K:PySem.W.Frag}{tg:Expr} (it:Addr) (x:Str) (t:Tok) (ty:String)
  (hty:["enumerate","zip","dict_itemiterator","dict_reverseitemiterator","odict_iterator","itertools.zip_longest","itertools.pairwise"].contains ty=false)
  (W:∀A':Around,A'.handled=none->Walks P w A' it [it] [it] x.cps.size (SignAt x) (fun i h=>h.IsStrIter it ty x t i))
  (hself:∀(A:Around) (i:Nat) (s:Shared) (Q:Value->Shared->Prop) (E:Value->Shared->Prop),s.heap.IsStrIter it ty x t i->Q (.ref it) s->wpAny (model P w) A (pyIter (.ref it)) Q E s) :
  nG P w K tg (Its x) [it] it (fun i h=>h.IsStrIter it ty x t i) where
 mem:=by simp
 obj:=fun i h st b hb=>by
  have e:b=it:=by simpa using hb
  subst e;obtain⟨o,e,c,d⟩:=st;exact⟨o,e,fun v z=>by rw[d]at z;cases z⟩
 keep:=fun i h h' st k=>let ⟨o,ho,r⟩:=st;⟨o,k it (by simp) o ho,r⟩
 item:=by
  intro X hP hw hK hc i pins s σ H E I hf st hg;subst hP hw hK;obtain⟨f0,f1,f2,f3,f4,f5⟩:=hf it (by simp);refine(W X.A (I.ok.hd hc)).item i s _ _ hg st fun v h' tk hv st' kk=> ?_;obtain⟨c,u,hc',rfl⟩:=hv;have I1:Inv X pins σ H { s with heap:=h',toks:=tk }:=I.turned (fun b o hb e=>kk b o (by simpa using hb) e) f0 f1 f3 f4 f5;obtain⟨o,e,c1,d⟩:=id st';exact⟨_,rfl,A9 (s:={ s with heap:=h',toks:=tk }) e c1 d hty ⟨.str ⟨#[c]⟩,H,I1,⟨u,rfl⟩,⟨rfl,c,hc',rfl⟩,st',fun b hb=>(hf b hb).1⟩⟩
 done:=by
  intro X hP hw hK hc i pins s σ H E I hf st hg;subst hP hw hK;obtain⟨f0,f1,f2,f3,f4,f5⟩:=hf it (by simp);have e:i=x.cps.size:=hg;subst e;exact(W X.A (I.ok.hd hc)).done s _ _ st fun h' tk kk=>⟨rfl,I.turned (fun b o hb e=>kk b o (by simpa using hb) e) f0 f1 f3 f4 f5⟩
 self:=hself
def Q6 (tl:TE):TI:=fun σ H R=>tl σ H fun x H1=>∃z,x= .str z/\R (Its z) H1
theorem NO {X:Cx}{tg l:Expr}{tl:TE} (hl:PE X l tl):PI X tg l (Q6 tl):=by
 intro pins s σ H R I h;refine thn (hl pins s σ H _ I h) fun v s1 ⟨x,H1,I1,rx,z,ez,q⟩=> ?_;subst ez;obtain⟨t,rfl⟩:=rx;cases ha:z.cps.all (·<128)
 ·refine wpAny_pyIter_wide ha ⟨s1.heap.objs.size,[s1.heap.objs.size],_,Its z,H1,rfl,I1.kept (t':=s1.toks) fun b u e=>Heap.get?_push_of_some _ e,xG _ z t "str_iterator" (by decide) (fun A' hA=>Walks.strWide hA _ z t) (fun _ _ _ _ _ st h=>wpAny_pyIter_striter_wide st h),⟨_,Heap.get?_push_size _ rfl,rfl,rfl⟩,fun b hb=> ?_,q⟩;have e:b=s1.heap.objs.size:=by simpa using hb
  subst e;exact I1.fpOk (Nat.le_refl _) (I1.hok.fresh (Nat.le_refl _))
 ·refine wpAny_pyIter_ascii ha ⟨s1.heap.objs.size,[s1.heap.objs.size],_,Its z,H1,rfl,I1.kept (t':=s1.toks) fun b u e=>Heap.get?_push_of_some _ e,xG _ z t "str_ascii_iterator" (by decide) (fun A' hA=>Walks.strAscii hA _ z t) (fun _ _ _ _ _ st h=>wpAny_pyIter_striter_ascii st h),⟨_,Heap.get?_push_size _ rfl,rfl,rfl⟩,fun b hb=> ?_,q⟩;have e:b=s1.heap.objs.size:=by simpa using hb
  subst e;exact I1.fpOk (Nat.le_refl _) (I1.hok.fresh (Nat.le_refl _))
theorem LH {J:It}{g:TG}{ti:TT}{te:TE}{σ0:St}{fin:List V->Hp->Prop}{H1:Hp} (n:Nat) (f:Nat->V) (hn:n<=sizeLine) (Ok:Hp->Prop) (h0:Ok H1)
  (hst:∀H,Ok H->J.stop n H)(hgo:∀i H,i<n->Ok H->J.go i H)
  (hstep:∀i H x H',i<n->Ok H->J.yld i H x H'->g x σ0 H' fun σ2 H2=>(σ2.length=σ0.length/\∀(j:Nat) v,σ0[j]? =some (some v)->σ2[j]? =some (some v))/\ti σ2 H2 fun b H3=>b=true/\te σ2 H3 fun y H4=>y=f i/\Ok H4)
  (mono:∀σ H (Q Q':Bool->Hp->Prop),(∀b H',Q b H'->Q' b H')->ti σ H Q->ti σ H Q')(mono2:∀σ H (Q Q':VK),(∀b H',Q b H'->Q' b H')->te σ H Q->te σ H Q')(mono3:∀x σ H (Q Q':St->Hp->Prop),(∀σ' H',Q σ' H'->Q' σ' H')->g x σ H Q->g x σ H Q')
  (hfin:∀H,Ok H->fin ((List.range n).map f) H):eM J g ti te σ0 fin H1:=by
 refine⟨fun i m ys H=>m=n - i/\i<=n/\ys=(List.range i).map f/\Ok H,⟨n,by simp,Nat.zero_le _,rfl,h0⟩,?_⟩;rintro i m ys H ⟨rfl,hi,rfl,ok⟩
 by_cases hlt:i<n
 ·refine .inr ⟨hgo i H hlt ok,fun x H' y=> ?_⟩;refine mono3 _ _ _ _ _ (fun σ' H'' q=>⟨q.1,mono _ _ _ _ (fun b H3 q=> ?_) q.2⟩) (hstep i H x H' hlt ok y);obtain⟨rfl,q⟩:=q;rw[if_pos rfl];refine mono2 _ _ _ _ (fun v H4 q=> ?_) q;obtain⟨rfl,ok4⟩:=q;refine⟨by rw[List.length_map,List.length_range];lia,n - (i+1),by lia,rfl,hlt,?_,ok4⟩;rw[List.range_succ,List.map_append];rfl
 ·have e:i=n:=by lia
  subst e;exact .inl ⟨hst H ok,hfin H ok⟩
section
variable {X:Cx}
theorem xA:∀bs:List Bool,(List.range bs.length).all (fun i=>bs.getD i true)=bs.all id
 | []=>rfl
 | b::bs=>by
  rw[List.length_cons,List.range_succ_eq_map,List.all_cons,List.all_map,List.all_cons,←xA bs];rfl
theorem uF (hc:X.calm=true):cX X (.builtin "all") (fun xs H Q=>∃(p:Addr) (bs:List Bool),xs=[.ref p]/\SqL X.K H p (bs.map V.bl)/\Q (.bl (bs.all id)) H):=by
 intro pins s σ H xs us Q I r h;obtain⟨p,bs,rfl,hq,q⟩:=h;obtain⟨u,rfl,rx⟩:=j6 r;cases rx;obtain⟨its,r',pl,hz⟩:=I.list hq;have hl:=pl.isList;have hlt:p<s.heap.objs.size:=by obtain⟨_,e,_⟩:=hl;exact Heap.lt_size e
 have hlen:bs.length=its.length:=by have:=r'.length;rw[List.length_map]at this;exact this
 refine call_all_walk (wpAny_pyIter_list hl ?_);refine⟨s.heap.objs.size,_,_,its.toArray.size,_,_,fun i=>bs.getD i true,rfl,Walks.list (show X.A.in1.handled=none from I.ok.hd hc) s.heap.objs.size p (Nat.ne_of_lt hlt) its.toArray,⟨⟨_,Heap.get?_push_size _ rfl,rfl,rfl⟩,hl.push _⟩,?_,?_⟩
 ·intro i v s' Q' E' hi hQ;have hi':its[i]? =some v:=by simpa using hi
  have hib:i<bs.length:=by rw[hlen];exact(List.getElem?_eq_some_iff.mp hi').1
  obtain⟨u,hu,ru⟩:=r'.get (i:=i) (x:=V.bl bs[i]) (by rw[List.getElem?_map,List.getElem?_eq_getElem hib];rfl);rw[hi']at hu;cases hu;have:v=Value.bool bs[i]:=ru;subst this;refine wpAny_truthy_bool ?_;have eb:bs.getD i true=bs[i]:=by rw[List.getD_eq_getElem?_getD,List.getElem?_eq_getElem hib];rfl
  have hQ':Q' (bs.getD i true) s':=hQ;rw[eb]at hQ';exact hQ'
 ·intro h' tk hk;have eall:(List.range its.toArray.size).all (fun i=>bs.getD i true)=bs.all id:=by
   rw[List.size_toArray,←hlen];exact xA bs
  rw[eall];refine⟨.bl (bs.all id),H,?_,rfl,q⟩;have I1:Inv X pins σ H { s with heap:=s.heap.push { cls:= .type "list_iterator",data:= .fields #[.ref p,.int 0 0] },toks:=s.toks }:=I.kept fun b u e=>Heap.get?_push_of_some _ e;obtain⟨f0,f1,f2,f3,f4,f5⟩:=I.fpOk (Nat.le_refl _) (I.hok.fresh (Nat.le_refl _));exact I1.turned (fun b o hb e=>hk b o (by simpa using hb) e) f0 f1 f3 f4 f5
theorem zD:cX X (.builtin "isinstance") (fun xs H Q=>∃x c t u b,xs=[x,c]/\eX X.K H x t/\RelV c u/\PySem.W.kitOne X.K t u=some b/\Q (.bl b) H):=by
 intro pins s σ H xs us Q I r h;obtain⟨x,c,t,u,b,rfl,ty,rc,e,q⟩:=h;obtain⟨v1,v2,rfl,r1,r2⟩:=BR r;have e2:v2=u:=by
  cases c with
  | non=>exact(show v2=_ from r2).trans (show u=_ from rc).symm
  | bl b=>exact(show v2=_ from r2).trans (show u=_ from rc).symm
  | ref b=>exact(show v2=_ from r2).trans (show u=_ from rc).symm
  | ty b=>exact(show v2=_ from r2).trans (show u=_ from rc).symm
  | int i =>
   obtain⟨t1,rfl⟩:=(show ∃t,u=_ from rc)
   cases ty<;>simp[PySem.W.kitOne,PySem.W.kitCls]at e
  | str i =>
   obtain⟨t1,rfl⟩:=(show ∃t,u=_ from rc)
   cases ty<;>simp[PySem.W.kitOne,PySem.W.kitCls]at e
  | byt i =>
   obtain⟨t1,rfl⟩:=(show ∃t,u=_ from rc)
   cases ty<;>simp[PySem.W.kitOne,PySem.W.kitCls]at e
  | flt i =>
   obtain⟨t1,rfl⟩:=(show ∃t,u=_ from rc)
   cases ty<;>simp[PySem.W.kitOne,PySem.W.kitCls]at e
 subst e2;exact DA I r1 ty e fun tk=>⟨.bl b,H,I.tok tk,rfl,q⟩
theorem CP:OpR X (compareOp .LtE) (fun x y H Q=>∃i j,x= .str i/\y= .str j/\Q (.bl (!decide (j.cps.toList<i.cps.toList))) H):=by
 intro pins s σ H x y v u Q I rx ry h;obtain⟨i,j,rfl,rfl,q⟩:=h;obtain⟨t,rfl⟩:=rx;obtain⟨t',rfl⟩:=ry;exact P.le_str ⟨.bl _,H,I,rfl,q⟩
theorem sP {v:Value}{o:Option Int} (p:IsPart v o):∃l:Option (Int×Tok),v=partValue l/\o=l.map (·.1):=by
 cases p with
 | none=>exact⟨none,rfl,rfl⟩
 | int i u=>exact⟨some (i,u),rfl,rfl⟩
def NT:V->Option Int->Option Int->Hp->VK->Prop:=fun x lo hi H Q=>∃z,x= .str z/\z.length<=sizeLine/\Q (.str (Txt.slice z lo hi)) H
theorem C5:SlR X NT:=by
 intro pins s σ H x v vl vu lo hi sl Q I rx hs pl pu h;obtain⟨z,rfl,hz,q⟩:=h;obtain⟨t,rfl⟩:=rx;obtain⟨l,rfl,rfl⟩:=sP pl;obtain⟨u,rfl,rfl⟩:=sP pu;refine⟨"str",_,F.slot_str_getitem.lookup,typeIs_str _ _ _,?_⟩;exact wpAny_getItem_str_slice (l:=l) (u:=u) (st:=none) hs rfl (post_val_or_str ⟨Nat.le_trans (Txt.slice_le z _ _) hz,fun t' k=>⟨.str _,H,I.tok k,⟨t',rfl⟩,q⟩⟩)
end
end L2
namespace L2
open PySem PySem.Spec PyProof.Rows
def HZ (xs:List (Str×NameKind))(XN:List Str)(ns:List (Str×NameKind))(N:List Str)(nl:Nat)(ci:List Nat):Bool :=
 (ns.all fun y=>y.2 != .cell&&(y.2 != .local||ns.lookup y.1==some .local)&&(y.2 != .free||(xs.lookup y.1==some .cell&&ns.lookup y.1==some .free))) &&
 (N.length==nl+ci.length) &&
 (List.range ci.length).all fun j=>match ci[j]?,N[nl+j]? with
  | some i,some n=>XN[i]? ==some n&&xs.lookup n==some .cell&&ns.lookup n==some .free
  | _,_=>false
def lG (ns:List (Str×NameKind))(cs:List (Str×Addr)):List (Str×Addr)->List (Str×Addr)
 | acc=>ns.foldl (fun acc y=>if y.2== .free then (y.1,(cs.lookup y.1).getD 0)::acc else acc) acc
theorem l0 {env:Env}:∀(ns:List (Str×NameKind)) (acc:List (Str×Addr)),(∀y∈ns,y.2= .free->∃c,env.cells.lookup y.1=some c) →
  (forIn ns acc fun x r=>(do
   let (name,kind):=x
   if (kind==NameKind.free)=true then do
     let c ←cellOf env name
     pure (ForInStep.yield ((name,c)::r))
    else pure (ForInStep.yield r)):Sem (List (Str×Addr)))=pure (lG ns env.cells acc)
 | [],acc,_=>rfl
 | (n,k)::r,acc,h=>by
  have ih:=fun acc=>l0 r acc fun y hy=>h y (List.mem_cons_of_mem _ hy);rw[List.forIn_cons]
  by_cases hk:k= .free
  ·subst hk;obtain⟨c,e⟩:=h (n,.free) List.mem_cons_self rfl;have e1:cellOf env n=pure c:=by unfold cellOf;rw[e]
   simp only[beq_self_eq_true,if_true,e1];show (forIn r ((n,c)::acc) _:Sem (List (Str×Addr)))=_;rw[ih];show _=pure (lG ((n,NameKind.free)::r) env.cells acc);simp only[lG,List.foldl_cons,beq_self_eq_true,if_true,e,Option.getD_some]
  ·have hb:(k==NameKind.free)=false:=by simpa using hk
   simp only[hb,Bool.false_eq_true,if_false];show (forIn r acc _:Sem (List (Str×Addr)))=_;rw[ih];simp only[lG,List.foldl_cons,hb,Bool.false_eq_true,if_false]
theorem eO {cs:List (Str×Addr)}:∀(ns:List (Str×NameKind)) (acc:List (Str×Addr)) (n:Str),(∀y∈ns,y.2= .free->∃c,cs.lookup y.1=some c) →
  ((n,NameKind.free)∈ns∨acc.lookup n=cs.lookup n)->(∀c,acc.lookup n=some c->cs.lookup n=some c)->(lG ns cs acc).lookup n=cs.lookup n
 | [],acc,n,_,h,_=>by
  rcases h with h|h
  ·cases h
  ·exact h
 | (m,k)::r,acc,n,hc,h,hs=>by
  have hc':∀y∈r,y.2= .free->∃c,cs.lookup y.1=some c:=fun y hy=>hc y (List.mem_cons_of_mem _ hy);show (lG r cs (if k== .free then (m,(cs.lookup m).getD 0)::acc else acc)).lookup n=cs.lookup n
  by_cases hk:k= .free
  ·subst hk;obtain⟨c,e⟩:=hc (m,.free) List.mem_cons_self rfl;simp only[beq_self_eq_true,if_true,e,Option.getD_some]
   by_cases hm:n=m
   ·subst hm;have q:List.lookup n ((n,c)::acc)=some c:=by simp[List.lookup_cons]
    exact eO r _ n hc' (.inr (q.trans e.symm)) fun c' z=>by rw[q]at z;cases z;exact e
   ·have hb:(n==m)=false:=by simpa using hm
    have q:List.lookup n ((m,c)::acc)=acc.lookup n:=by simp[List.lookup_cons,hb]
    refine eO r _ n hc' ?_ fun c' z=>hs c' (q▸z);rcases h with h|h
    ·rcases List.mem_cons.mp h with z|z
     ·cases z;exact absurd rfl hm
     ·exact .inl z
    ·exact .inr (q.trans h)
  ·have hb:(k==NameKind.free)=false:=by simpa using hk
   simp only[hb,Bool.false_eq_true,if_false];refine eO r _ n hc' ?_ hs;rcases h with h|h
   ·rcases List.mem_cons.mp h with z|z
    ·cases z;exact absurd rfl hk
    ·exact .inl z
   ·exact .inr h
theorem xK {cs:List (Str×Addr)}:∀(ns:List (Str×NameKind)) (acc:List (Str×Addr)),(∀y∈ns,y.2= .free->∃c,cs.lookup y.1=some c) →
  (∀n c,acc.lookup n=some c->cs.lookup n=some c)->∀n c,(lG ns cs acc).lookup n=some c->cs.lookup n=some c
 | [],acc,_,hs,n,c,h=>hs n c h
 | (m,k)::r,acc,hc,hs,n,c,h=>by
  have hc':∀y∈r,y.2= .free->∃c,cs.lookup y.1=some c:=fun y hy=>hc y (List.mem_cons_of_mem _ hy);have h':(lG r cs (if k== .free then (m,(cs.lookup m).getD 0)::acc else acc)).lookup n=some c:=h;refine xK r _ hc' ?_ n c h';intro n' c' z
  by_cases hk:k= .free
  ·subst hk;obtain⟨d,e⟩:=hc (m,.free) List.mem_cons_self rfl;simp only[beq_self_eq_true,if_true,e,Option.getD_some]at z
   by_cases hm:n'=m
   ·subst hm;simp[List.lookup_cons]at z;subst z;exact e
   ·have hb:(n'==m)=false:=by simpa using hm
    simp[List.lookup_cons,hb]at z;exact hs n' c' z
  ·have hb:(k==NameKind.free)=false:=by simpa using hk
   simp only[hb,Bool.false_eq_true,if_false]at z;exact hs n' c' z
theorem gK {env:Env}(hkf:env.scope.kind= .function):∀{names:List (Str×NameKind)}{x:Str},names.lookup x=some .free->env.kindOf x=some .cell →
  (names.map fun (n,k)=>if (k==NameKind.free&&env.scope.kind== .function&&env.kindOf n==some .cell) then (n,NameKind.cell) else (n,k)).lookup x=some .cell
 | [],_,h,_=>by simp at h
 | (n,k)::r,x,h,hc=>by
  show List.lookup x ((if (k==NameKind.free&&env.scope.kind== .function&&env.kindOf n==some .cell)=true then (n,NameKind.cell) else (n,k))::_)=_;cases hx:x==n with
  | true =>
   simp only[List.lookup_cons,hx]at h;cases h;have e:x=n:=by simpa using hx
   subst e;rw[hkf,hc];simp[List.lookup_cons]
  | false =>
   simp only[List.lookup_cons,hx]at h;have ih:=gK hkf h hc
   split
   ·simp only[List.lookup_cons,hx];exact ih
   ·simp only[List.lookup_cons,hx];exact ih
theorem dS {env:Env}:∀{names:List (Str×NameKind)}{x:Str}{k':NameKind},(∀y∈names,y.2≠ .cell)->(k'= .cell∨k'= .free) →
  (names.map fun (n,k)=>if (k==NameKind.free&&env.scope.kind== .function&&env.kindOf n==some .cell) then (n,NameKind.cell) else (n,k)).lookup x=some k'->(x,NameKind.free)∈names
 | [],_,_,_,_,h=>by simp at h
 | (n,k)::r,x,k',hn,hk',h=>by
  have h':List.lookup x ((if (k==NameKind.free&&env.scope.kind== .function&&env.kindOf n==some .cell)=true then (n,NameKind.cell) else (n,k))::r.map _)=some k':=h;cases hx:x==n with
  | true =>
   have e:x=n:=by simpa using hx
   subst e
   by_cases hf:k= .free
   ·subst hf;exact List.mem_cons_self
   ·have hb:(k==NameKind.free)=false:=by simpa using hf
    simp only[hb,Bool.false_and,Bool.false_eq_true,if_false,List.lookup_cons,hx]at h';cases h';rcases hk' with z|z
    ·exact absurd z (hn (x,k) List.mem_cons_self)
    ·exact absurd z hf
  | false =>
   have h2:List.lookup x (r.map fun (n,k)=>if (k==NameKind.free&&env.scope.kind== .function&&env.kindOf n==some .cell) then (n,NameKind.cell) else (n,k))=some k':=by
    split at h'
    ·simp only[List.lookup_cons,hx]at h';exact h'
    ·simp only[List.lookup_cons,hx]at h';exact h'
   exact List.mem_cons_of_mem _ (dS (fun y hy=>hn y (List.mem_cons_of_mem _ hy)) hk' h2)
theorem blk {X:Cx}{scope:Scope}{N:List Str}{nl:Nat}{ci:List Nat} (n0:Nat) (hX:X.env.cells=cellsFrom n0 X.env.scope.names []) (hkf:X.env.scope.kind= .function) (hk:scope.kind= .function)
  (h:HZ X.env.scope.names X.N scope.names N nl ci=true):Blk X scope (lG scope.names X.env.cells []) N nl ci:=by
 unfold HZ at h;rw[Bool.and_eq_true,Bool.and_eq_true]at h;obtain⟨⟨h1,h2⟩,h3⟩:=h;rw[List.all_eq_true]at h1;have h1':∀y∈scope.names,y.2≠ .cell/\(y.2= .local->scope.names.lookup y.1=some .local)/\(y.2= .free->X.env.scope.names.lookup y.1=some .cell/\scope.names.lookup y.1=some .free):=fun y hy=>by
  have q:=h1 y hy;simp only[Bool.and_eq_true,Bool.or_eq_true,bne_iff_ne,ne_eq,beq_iff_eq]at q;obtain⟨⟨q1,q2⟩,q3⟩:=q;exact⟨q1,fun e=>q2.resolve_left fun z=>z e,fun e=>q3.resolve_left fun z=>z e⟩
 have hcs:∀y∈scope.names,y.2= .free->∃c,X.env.cells.lookup y.1=some c:=fun y hy e=>by
  rw[hX];exact pV ((h1' y hy).2.2 e).1
 refine⟨hk,fun y hy=>(h1' y hy).2.1,fun y hy=>(h1' y hy).1,?_,?_,?_,by simpa using h2,?_⟩
 ·unfold closureFor;refine(congrArg (fun m:Sem (List (Str×Addr))=>m >>= fun cs=>pure cs) (l0 scope.names [] hcs)).trans ?_;rfl
 ·exact xK scope.names [] hcs fun n c z=>by cases z
 ·intro n hn;have hm:(n,NameKind.free)∈scope.names:=by
   rcases hn with z|z
   ·exact dS (fun y hy=>(h1' y hy).1) (.inl rfl) z
   ·exact dS (fun y hy=>(h1' y hy).1) (.inr rfl) z
  obtain⟨c,e⟩:=hcs _ hm rfl;exact⟨c,(eO scope.names [] n hcs (.inl hm) fun c z=>by cases z).trans e⟩
 ·intro j i hj;have hjl:j<ci.length:=(List.getElem?_eq_some_iff.mp hj).1;rw[List.all_eq_true]at h3;have q:=h3 j (List.mem_range.mpr hjl);rw[hj]at q;cases e:N[nl+j]? with
  | none=>rw[e]at q;cases q
  | some n =>
   rw[e]at q;simp only[Bool.and_eq_true,beq_iff_eq]at q;obtain⟨⟨q1,q2⟩,q3⟩:=q;refine⟨n,rfl,q1,.inl q2,.inl (gK hkf q3 q2),?_⟩;exact eO scope.names [] n hcs (.inl (PySem.mem_of_lookup q3)) fun c z=>by cases z
structure Fc (P:Program)(w:World)(K:PySem.W.Frag)(mg:Str->Option Value)(base:Heap)(x:Str)(k:Nat)(ps:List Str)(sp:Sp):Prop where
 ex:∃f fd,mg x=some (.ref f)/\PySem.W.keepIn K (.ref f)=true/\Binds K fd ps []/\aY P w K mg base CX0 k f fd ps sp
theorem cZ {X:Cx}{x:Str}{k k':Nat}{ps:List Str}{sp:Sp}{e:Expr}{es:List Expr}{t:TA}{p pos:Pos} (F:Fc X.prog X.w X.K X.mg X.base x k ps sp) (hr:Room k' X.A) (ha:PA X (e::es) t) (hk:k<=k':=by decide) (hg:Gl X x:=by rfl)
  (hdb:(x==("__debug__" :Str))=false:=by decide)(he:starEach (e::es) X.env=(false,eval e X.env)::starEach es X.env:=by rfl)(hpl:(backTo pos (starEach es X.env)).any (·.1)=false:=by rfl) :
  PE X (.Call (.Name x p) (e::es) [] pos) (rJ sp [] E0 t):=by
 obtain⟨f,fd,hm,kp,b,G⟩:=F.ex;exact AL G (hr.mono hk) hg hm kp b .nil wN ha hdb he hpl
theorem wO {X:Cx}{x:Str}{n:String}{pos:Pos} (hg:Gl X x) (hm:X.mg x=none) (hv:bootBuiltins x=some (.type n)) (hn:x≠ "__name__" :=by decide) (hd:(x==("__debug__" :Str))=false:=by decide):PE X (.Name x pos) (tC (.ty n)):=JZ hg hm hv rfl hn hd
theorem LZ {X:Cx}{x:Str}{i:Int}{t:Tok}{pos:Pos} (hg:Gl X x) (hm:X.mg x=some (.int i t)) (hd:(x==("__debug__" :Str))=false:=by decide):PE X (.Name x pos) (tC (.int i)):=AH hg hm ⟨t,rfl⟩ hd
theorem nA {X:Cx}{x:Str}{a:Addr}{pos:Pos} (hg:Gl X x) (hm:X.mg x=some (.ref a)) (hd:(x==("__debug__" :Str))=false:=by decide):PE X (.Name x pos) (tC (.ref a)):=AH hg hm rfl hd
theorem b0:bootBuiltins "isinstance" =some (.builtin "isinstance"):=by decide +kernel
theorem OP:bootBuiltins "all" =some (.builtin "all"):=by decide +kernel
theorem kY:bootBuiltins "len" =some (.builtin "len"):=by decide +kernel
theorem MG:bootBuiltins "int" =some (.type "int"):=by decide +kernel
theorem N1:bootBuiltins "str" =some (.type "str"):=by decide +kernel
theorem LM:bootBuiltins "bool" =some (.type "bool"):=by decide +kernel
theorem AC:bootBuiltins "list" =some (.type "list"):=by decide +kernel
theorem KS:bootBuiltins "dict" =some (.type "dict"):=by decide +kernel
inductive BTy (K:PySem.W.Frag)(H:Hp):V->String->Prop where
 | non:BTy K H .non "NoneType"
 | bl (x:Bool):BTy K H (.bl x) "bool"
 | int (i:Int):BTy K H (.int i) "int"
 | str (x:Str):BTy K H (.str x) "str"
 | lst {a:Addr}{xs:List V} (e:H a=some (.lst xs)):BTy K H (.ref a) "list"
 | tup {a:Addr}{xs:List V} (e:H a=some (.tup xs)):BTy K H (.ref a) "tuple"
 | dK {a:Addr}{kvs:List (Key×V)} (e:H a=some (.dK kvs)):BTy K H (.ref a) "dict"
theorem BTy.ty {K:PySem.W.Frag}{H:Hp}{x:V}{n:String} (b:BTy K H x n):eX K H x (.type n):=by
 cases b with
 | non=>exact .non
 | bl=>exact .bl _
 | int=>exact .int _
 | str=>exact .str _
 | lst e=>exact .lst e
 | tup e=>exact .tup e
 | dK e=>exact .dK e
def isB (n c:String):Bool:=n==c||(n== "bool" &&c== "int")
theorem BT {K:PySem.W.Frag}{H:Hp}{x:V}{n:String} (b:BTy K H x n) (c:String) (hc:c= "int" ∨c= "bool" ∨c= "str"):PySem.W.kitOne K (.type n) (.type c)=some (isB n c):=by
 cases b<;>rcases hc with rfl|rfl|rfl<;>kernel_rfl
end L2
namespace L2
open PySem PySem.Spec PyProof.Rows
section
variable {X:Cx}
theorem FM {x:V}(h:fT x=true):eqV x x=true:=by
 cases x<;>first|rfl|(simp[eqV];done)|exact absurd h Bool.false_ne_true
theorem lE (n:Nat):(List.range n).all (fun _=>true)=true:=by simp
end
structure FunV (K:PySem.W.Frag)(x qual:Str)(st:Stmt)(f:Addr)(fd:FuncData):Prop where
 ex:∃(oc:Value) (od:Option Addr) (dV kV doc pm:Value) (an:Option Addr) (cdv ct:Value) (osl:Array (Option Value)),
  fd=PySem.W.fnOf x qual (aM st) (aK st) (aB st) dV kV doc pm an cdv ct/\K.lookup f=some ⟨oc,od,.func fd,osl⟩/\PySem.W.codeIn K cdv qual=true
 kp:PySem.W.keepIn K (.ref f)=true
section
variable {P:Program}{w:World}{K:PySem.W.Frag}{mg:Str->Option Value}{base:Heap}
theorem FunV.ok {x qual:Str}{st:Stmt}{f:Addr}{fd:FuncData}{N ps:List Str}{k:Nat}{sp:Sp} (F:FunV K x qual st f fd) (S:aS N ps (aB st)) (len:∀vs H Q E,sp vs H Q E->vs.length=ps.length)
  (hbody:∀(cdv:Value) (A:Around) (outer:List Env) (s:Shared) (H:Hp) (vs:List V) (Q:VK) (E:XK),Room k (A.deeper (envOfC qual (aB st) s.heap.objs.size f cdv))->sp vs H Q E →
   ∃t,PSs (gM CX0 P w K mg base N qual (aB st) f cdv A outer s H E).nox (aK st) t/\t { nx:=fun _ H'=>Q .non H',rt:=Q } (fS N vs) H):aY P w K mg base CX0 (k+1) f fd ps sp:=by
 obtain⟨oc,od,dV,kV,doc,pm,an,cdv,ct,osl,rfl,lk,hcd⟩:=F.ex;refine IC lk hcd S len fun A outer s H vs Q E hr h=> ?_;obtain⟨t,h1,h2⟩:=hbody cdv A outer s H vs Q E hr h;exact⟨t,PSs.nox h1,h2⟩
theorem aU {x qual:Str}{st:Stmt}{f:Addr}{oc:Value}{od an:Option Addr}{osl:Array (Option Value)}{dV kV doc pm cdv ct:Value} (l:K.lookup f=some ⟨oc,od,.func (PySem.W.fnOf x qual (aM st) (aK st) (aB st) dV kV doc pm an cdv ct),osl⟩) (c:PySem.W.codeIn K cdv qual=true)
  (k:PySem.W.keepIn K (.ref f)=true):FunV K x qual st f (PySem.W.fnOf x qual (aM st) (aK st) (aB st) dV kV doc pm an cdv ct):=⟨⟨oc,od,dV,kV,doc,pm,an,cdv,ct,osl,rfl,l,c⟩,k⟩
structure Mc (P:Program)(w:World)(K:PySem.W.Frag)(mg:Str->Option Value)(base:Heap)(C:Addr)(nm:Str)(k:Nat)(sp:Sp):Prop where
 ex:∃f fd ps,Cls K C/\dZ K C nm f/\Binds K fd ps []/\aY P w K mg base CX0 k f fd ps sp
structure Kc (P:Program)(w:World)(K:PySem.W.Frag)(mg:Str->Option Value)(base:Heap)(x:Str)(C:Addr)(k:Nat)(dvs:List V)(sp:Sp):Prop where
 ex:∃f fd ps ds,mg x=some (.ref C)/\Mk K C f/\Vals dvs ds/\Binds K fd ps ds/\aY P w K mg base CX0 k f fd ps sp
end
section
variable {X:Cx}{k k':Nat}{sp:Sp}{x m:Str}{p pos apos:Pos}{e o:Expr}{es:List Expr}{ta:TE}{t:TA}{C:Addr}{dvs:List V}
def tMD (M:Addr->Sp->Prop)(m:Str)(ta:TE)(t:TA):TE:=fun σ H Q=>ta σ H fun x H1=>∃a C dx fs sp,x= .ref a/\H1 a=some (.ins C dx fs)/\fs.lookup m=none/\M C sp/\t σ H1 fun vs H2=>sp (x::vs) H2 Q E0
theorem lO (k:Nat){pl:Sem Bool}(hr:Room k' X.A)(ho:PE X o ta)(ha:PA X (e::es) t)(hk:k<=k':=by decide)
  (hst:starEach (e::es) X.env=(false,eval e X.env)::starEach es X.env:=by rfl)(hpl:(backTo pos (starEach es X.env)).any (·.1)=false:=by rfl)
  (ht:eval (.Call (.Attribute o m apos) (e::es) [] pos) X.env=(do
   let ov ←eval o X.env
   standAt apos.atName
   let (f,first) ←holding [ov] (getMethod ov m pl)
   callWith pos f first (backTo pos (starEach (e::es) X.env)) (backToKw pos (keywordEach [] X.env))):=by rfl) :
  PE X (.Call (.Attribute o m apos) (e::es) [] pos) (tMD (fun C sp=>Mc X.prog X.w X.K X.mg X.base C m k sp) m ta t):=by
 intro pins s σ H Q I h;refine PySem.W.methodCall_KW (pl:=pl) (thn (ho pins s σ H _ I h) fun u s1 ⟨x,H1,I1,rx,a,C,dx,fs,sp,ex,ea,l,M,q⟩=> ?_) ht;subst ex;obtain rfl:u=Value.ref a:=rx;obtain⟨f,fd,ps,c,hm,hb,F⟩:=M.ex;refine jB I1 ea c hm l ?_;refine PySem.W.callWith_K (first:=[.ref a]) (h₀:=X.base) I.ok.mod.kin hm.kp (thn (ha pos pins s1 σ H1 _ I1 q) fun us s2 ⟨vs,H2,I2,r,q2⟩=>⟨I2.kIn,?_⟩) hst hpl;exact rK (us:= .ref a::us) (vs:= .ref a::vs) (dvs:=[]) F (hr.mono hk) hb .nil wN I2 (.cons rfl r) (by rw[List.append_nil];exact q2)
theorem jK (k:Nat){pl:Sem Bool}(hr:Room k' X.A)(ho:PE X o ta)(hk:k<=k':=by decide)
  (ht:eval (.Call (.Attribute o m apos) [] [] pos) X.env=(do
   let ov ←eval o X.env
   standAt apos.atName
   let (f,first) ←holding [ov] (getMethod ov m pl)
   callWith pos f first (backTo pos (starEach [] X.env)) (backToKw pos (keywordEach [] X.env))):=by rfl) :
  PE X (.Call (.Attribute o m apos) [] [] pos) (tMD (fun C sp=>Mc X.prog X.w X.K X.mg X.base C m k sp) m ta F8):=by
 intro pins s σ H Q I h;refine PySem.W.methodCall_KW (pl:=pl) (thn (ho pins s σ H _ I h) fun u s1 ⟨x,H1,I1,rx,a,C,dx,fs,sp,ex,ea,l,M,q⟩=> ?_) ht;subst ex;obtain rfl:u=Value.ref a:=rx;obtain⟨f,fd,ps,c,hm,hb,F⟩:=M.ex;refine jB I1 ea c hm l ?_;exact PySem.W.callWith_K0 (first:=[.ref a]) I1.kIn hm.kp (rK (us:=[.ref a]) (vs:=[.ref a]) (dvs:=[]) F (hr.mono hk) hb .nil wN I1 (.cons rfl .nil) q)
theorem IG (F:Kc X.prog X.w X.K X.mg X.base x C k dvs sp)(hr:Room k' X.A)(ha:PA X (e::es) t)(hk:k+1<=k':=by decide)(hg:Gl X x:=by rfl)
  (hdb:(x==("__debug__" :Str))=false:=by decide)(he:starEach (e::es) X.env=(false,eval e X.env)::starEach es X.env:=by rfl)(hpl:(backTo pos (starEach es X.env)).any (·.1)=false:=by rfl) :
  PE X (.Call (.Name x p) (e::es) [] pos) (AT C sp dvs E0 t):=by
 obtain⟨f,fd,ps,ds,hm,M,hd,hb,G⟩:=F.ex;exact K6 M G (hr.mono hk) hg hm hb hd wN ha hdb he hpl
end
end L2
namespace L2
open PySem PySem.Spec PyProof.Rows
def IK:R2:=fun x y H Q=>∃i j,x= .str i/\y= .str j/\i.length+j.length<=sizeLine/\Q (.str (i++j)) H
def MS:R2:=fun x y H Q=>y= .non/\Q (.bl (decide (x= .non))) H
def AS:R2:=fun x y H Q=>y= .non/\Q (.bl (!decide (x= .non))) H
def Q7:R2:=fun x y H Q=>∃i j,x= .str i/\y= .str j/\Q (.bl (!decide (j.cps.toList<i.cps.toList))) H
def Q4 (K:PySem.W.Frag):List V->Hp->VK->Prop:=fun xs H Q=>∃x c t u b,xs=[x,c]/\eX K H x t/\RelV c u/\PySem.W.kitOne K t u=some b/\Q (.bl b) H
def QY (K:PySem.W.Frag):List V->Hp->VK->Prop:=fun xs H Q=>∃(p:Addr) (bs:List Bool),xs=[.ref p]/\SqL K H p (bs.map V.bl)/\Q (.bl (bs.all id)) H
def QB:List V->Hp->VK->Prop:=fun xs H Q=>∃z,xs=[.str z]/\z.length<=sizeLine/\Q (.int z.length) H
def HI (K:PySem.W.Frag):List V->Hp->VK->Prop:=fun xs H Q=>∃p ys,xs=[.ref p]/\(SqL K H p ys∨SqT K H p ys)/\Q (.int ys.length) H
section
variable {X:Cx}
theorem kS:OpR X (binaryOp .Add) IK:=A6
theorem OT:OpR X (compareOp .Is) MS:=OI
theorem KW:OpR X (compareOp .IsNot) AS:=LY
theorem C7:OpR X (compareOp .LtE) Q7:=CP
theorem qX:cX X (.builtin "isinstance") (Q4 X.K):=zD
theorem GL (hc:X.calm=true):cX X (.builtin "all") (QY X.K):=uF hc
theorem DS:cX X (.builtin "len") QB:=xR
theorem iF:cX X (.builtin "len") (HI X.K):=yG
theorem JB {i j:Int}(n:Int){k1 k2 p1 p2 pos}(h:i^j.toNat=n)(c:MN i j):PE X (.BinOp (.Constant (.int i) k1 p1) .Pow (.Constant (.int j) k2 p2) pos) (tC (.int n)):=by
 subst h;intro pins s σ H Q I q;exact a9 NG aJ aJ pins s σ H Q I ⟨i,j,rfl,rfl,c,q⟩
end
def oW (P:Bool->Hp->Prop):VK:=fun x H=>∃k,x= .bl k/\P k H
def MK (O:Option Int->Hp->Prop):VK:=fun x H=>∃i,x= .int i/\O (some i) H
def OV (Q:VK):List V->Hp->Prop:=fun xs H=>xs.length<=sizeLine/\∀p,H p=none->Q (.ref p) (upd H p (.lst xs))
def MY (Q:VK):List V->Hp->Prop:=fun xs H=>xs.length<=sizeLine/\∀p,H p=none->Q (.ref p) (upd H p (.tup xs))
def OM (Q:VK):List V->Hp->Prop:=fun ys H=>∀p,H p=none->Q (.ref p) (upd H p (.lst ys))
def N2 (K:PySem.W.Frag)(f:Str)(Q:VK):VK:=fun x H=>∃a C dx fs v,x= .ref a/\H a=some (.ins C dx fs)/\Cls K C/\NoAttr K C f/\fs.lookup f=some v/\Q v H
def HU (K:PySem.W.Frag)(f:Str)(y:V)(q:Hp->Prop):VK:=fun x H=>∃a C dx fs,x= .ref a/\H a=some (.ins C dx fs)/\Cls K C/\NoAttr K C f/\fs.length<1000/\q (upd H a (.ins C dx (b4 f y fs)))
def MdP (M:Addr->Sp->Prop)(m:Str)(t:TA)(σ:St)(Q:VK):VK:=fun x H=>∃a C dx fs sp,x= .ref a/\H a=some (.ins C dx fs)/\fs.lookup m=none/\M C sp/\t σ H fun vs H2=>sp (x::vs) H2 Q E0
def wM (C:Addr)(sp:Sp)(dvs:List V)(E:XK)(Q:VK):List V->Hp->Prop:=fun vs H1=>∀x dx,H1 x=none->H1 dx=none->dx≠x →
 sp (.ref x::(vs++dvs)) (upd (upd H1 dx (.own x)) x (.ins C dx [])) (fun v H2=>v= .non/\Q (.ref x) H2) E
def BmP (K:PySem.W.Frag)(T:String)(r:V->List V->Hp->VK->Prop)(t:TA)(σ:St)(Q:VK):VK:=fun x H1=>tyV K T x H1/\t σ H1 fun xs H2=>r x xs H2 Q
def MM (K:PySem.W.Frag)(R:It->Hp->Prop):VK:=fun x H1=>∃a,x= .ref a/\(∃xs,SqL K H1 a xs)/\R (Itl K a) H1
def NX (R:It->Hp->Prop):List V->Hp->Prop:=fun vs H1=>∃j:Int,vs=[.int j]/\ -(2^62)<=j/\j<2^62/\R (Itr 0 j.toNat) H1
def MT (R:It->Hp->Prop):List V->Hp->Prop:=fun vs H1=>∃i j:Int,vs=[.int i,.int j]/\(-(2^62)<=i/\i<2^62/\ -(2^62)<=j/\j<2^62)/\R (Itr i (j - i).toNat) H1
section
variable {nx bk ct:St->Hp->Prop}{rt:VK}{σ:St}{H:Hp}{Q:VK}{t u:TS}{te ta tb tc:TE}{g:TG}{c d:TT}{v:V}{K:PySem.W.Frag}{E:XK}
theorem NJ (h:t ⟨u ⟨nx,rt,bk,ct⟩,rt,bk,ct⟩ σ H):xS t u ⟨nx,rt,bk,ct⟩ σ H:=h
theorem jE (R:St->Hp->Prop)(h2:∀σ' H',R σ' H'->u ⟨nx,rt,bk,ct⟩ σ' H')(h1:∀nx':St->Hp->Prop,(∀σ' H',R σ' H'->nx' σ' H')->t ⟨nx',rt,bk,ct⟩ σ H):xS t u ⟨nx,rt,bk,ct⟩ σ H:=h1 _ h2
theorem GH {v:TS}(h:xS (xE c t u) v ⟨nx,rt,bk,ct⟩ σ H):xS (xE c t u) v ⟨nx,rt,bk,ct⟩ σ H:=h
theorem JL (h:nx σ H):IO ⟨nx,rt,bk,ct⟩ σ H:=h
theorem MZ (h:te σ H fun x H1=>g x σ H1 nx):GW te g ⟨nx,rt,bk,ct⟩ σ H:=h
theorem NC (h:te σ H rt):NP te ⟨nx,rt,bk,ct⟩ σ H:=h
theorem LO (h:te σ H fun _ H1=>nx σ H1):HF te ⟨nx,rt,bk,ct⟩ σ H:=h
theorem PV (h:c σ H fun b H1=>if b=true then t ⟨nx,rt,bk,ct⟩ σ H1 else u ⟨nx,rt,bk,ct⟩ σ H1):xE c t u ⟨nx,rt,bk,ct⟩ σ H:=h
def uL (J:It)(g:TG)(tb:TS)(D:dU)(σ:St)(H:Hp):Prop :=
 ∃W:Nat->Nat->St->Hp->Prop,(∃m,W 0 m σ H)/\∀i m σ H,W i m σ H →
  (J.stop i H/\D.nx σ H)∨(J.go i H/\∃N:St->Hp->Prop,(∀σ' H',N σ' H'->∃m',m'<m/\W (i+1) m' σ' H')/\∀x H',J.yld i H x H'->g x σ H' fun σ2 H2=>tb { D with nx:=N,ct:=N,bk:=D.nx } σ2 H2)
theorem N5 {wi:TI}{tb:TS} (h:wi σ H fun J H1=>uL J g tb ⟨nx,rt,bk,ct⟩ σ H1):NK wi g tb ⟨nx,rt,bk,ct⟩ σ H:=h
theorem QQ {l:St}(h:Q v H):fK 0 (some v::l) H Q:=⟨v,rfl,h⟩
theorem QM {a0}{l:St} (h:Q v H):fK 1 (a0::some v::l) H Q:=⟨v,rfl,h⟩
theorem PX {a0 a1}{l:St} (h:Q v H):fK 2 (a0::a1::some v::l) H Q:=⟨v,rfl,h⟩
theorem PJ {a0 a1 a2}{l:St} (h:Q v H):fK 3 (a0::a1::a2::some v::l) H Q:=⟨v,rfl,h⟩
theorem PR {a0 a1 a2 a3}{l:St} (h:Q v H):fK 4 (a0::a1::a2::a3::some v::l) H Q:=⟨v,rfl,h⟩
theorem P9 {a0 a1 a2 a3 a4}{l:St} (h:Q v H):fK 5 (a0::a1::a2::a3::a4::some v::l) H Q:=⟨v,rfl,h⟩
theorem P2 {a0 a1 a2 a3 a4 a5}{l:St} (h:Q v H):fK 6 (a0::a1::a2::a3::a4::a5::some v::l) H Q:=⟨v,rfl,h⟩
theorem PD {a0 a1 a2 a3 a4 a5 a6}{l:St} (h:Q v H):fK 7 (a0::a1::a2::a3::a4::a5::a6::some v::l) H Q:=⟨v,rfl,h⟩
theorem PM {a0 a1 a2 a3 a4 a5 a6 a7}{l:St} (h:Q v H):fK 8 (a0::a1::a2::a3::a4::a5::a6::a7::some v::l) H Q:=⟨v,rfl,h⟩
variable {q:St->Hp->Prop}
theorem QO {a0 a}{l:St} (h:q (a0::some v::l) H):cK 1 v (a0::a::l) H q:=h
theorem QF {a0 a1 a}{l:St} (h:q (a0::a1::some v::l) H):cK 2 v (a0::a1::a::l) H q:=h
theorem QH {a0 a1 a2 a}{l:St} (h:q (a0::a1::a2::some v::l) H):cK 3 v (a0::a1::a2::a::l) H q:=h
theorem P3 {a0 a1 a2 a3 a}{l:St} (h:q (a0::a1::a2::a3::some v::l) H):cK 4 v (a0::a1::a2::a3::a::l) H q:=h
theorem P6 {a0 a1 a2 a3 a4 a}{l:St} (h:q (a0::a1::a2::a3::a4::some v::l) H):cK 5 v (a0::a1::a2::a3::a4::a::l) H q:=h
theorem QI {a0 a1 a2 a3 a4 a5 a}{l:St} (h:q (a0::a1::a2::a3::a4::a5::some v::l) H):cK 6 v (a0::a1::a2::a3::a4::a5::a::l) H q:=h
theorem QN {a0 a1 a2 a3 a4 a5 a6 a}{l:St} (h:q (a0::a1::a2::a3::a4::a5::a6::some v::l) H):cK 7 v (a0::a1::a2::a3::a4::a5::a6::a::l) H q:=h
theorem QL {a0 a1 a2 a3 a4 a5 a6 a7 a}{l:St} (h:q (a0::a1::a2::a3::a4::a5::a6::a7::some v::l) H):cK 8 v (a0::a1::a2::a3::a4::a5::a6::a7::a::l) H q:=h
theorem QD {a0 a1 a2 a3 a4 a5 a6 a7 a8 a}{l:St} (h:q (a0::a1::a2::a3::a4::a5::a6::a7::a8::some v::l) H):cK 9 v (a0::a1::a2::a3::a4::a5::a6::a7::a8::a::l) H q:=h
theorem Q8 (h:Q v H):tC v σ H Q:=h
theorem PH {r:R2}(h:ta σ H fun x H1=>tb σ H1 fun y H2=>r x y H2 Q):tOp r ta tb σ H Q:=h
theorem P5 {r:V->Hp->VK->Prop}(h:ta σ H fun x H1=>r x H1 Q):tUn r ta σ H Q:=h
theorem QJ {f:Int->Int->V}{i j:Int} (h:Q (f i j) H):rI0 f (.int i) (.int j) H Q:=⟨i,j,rfl,rfl,h⟩
theorem Q0 {f:Int->V}{i:Int} (h:Q (f i) H):rU f (.int i) H Q:=⟨i,rfl,h⟩
theorem M5 {f:Int->Int->V}{i j:Int} (h0:0<j) (h1:j<1073741824) (h:Q (f i j) H):rI NV f (.int i) (.int j) H Q:=⟨i,j,rfl,rfl,⟨h0,h1⟩,h⟩
theorem NY {f:Int->Int->V}{i j:Int} (h0:0<j) (h:Q (f i j) H):rI (fun _ j=>0<j) f (.int i) (.int j) H Q:=⟨i,j,rfl,rfl,h0,h⟩
theorem QK {i j:Int}:decide (V.int i=V.int j)=decide (i=j):=by simp
theorem QA {i j:Str}:decide (V.str i=V.str j)=decide (i=j):=by simp
theorem OU {i j:Int}(h:Q (.bl (decide (i=j))) H):rEq (.int i) (.int j) H Q:=⟨rfl,by rw[QK];exact h⟩
theorem MJ {i j:Str}(h:Q (.bl (decide (i=j))) H):rEq (.str i) (.str j) H Q:=⟨rfl,by rw[QA];exact h⟩
theorem JD {i:Str}(h:Q (.bl false) H):rEq .non (.str i) H Q:=⟨rfl,by rw[decide_eq_false (fun z=>by cases z)];exact h⟩
theorem K7 (h:Q (.bl (decide (v= .non))) H):MS v .non H Q:=⟨rfl,h⟩
theorem J3 (h:Q (.bl false) H):AS .non .non H Q:=⟨rfl,h⟩
theorem J7 {i:Str}(h:Q (.bl true) H):AS (.str i) .non H Q:=⟨rfl,by rw[decide_eq_false (fun z=>by cases z)];exact h⟩
theorem KD {i j:Str}(hl:i.length+j.length<=sizeLine)(h:Q (.str (i++j)) H):IK (.str i) (.str j) H Q:=⟨i,j,rfl,rfl,hl,h⟩
theorem LF (h:ta σ H (oW fun c H1=>if c=true then tb σ H1 Q else Q (.bl false) H1)):ID ta tb σ H Q:=h
theorem NN (h:ta σ H (oW fun c H1=>if c=true then Q (.bl true) H1 else tb σ H1 Q)):NI ta tb σ H Q:=h
theorem IZ (h:ta σ H (oW fun c H1=>Q (.bl (!c)) H1)):HQ ta σ H Q:=h
theorem JT {sp:Sp}{t:TA} (h:t σ H fun vs H1=>sp vs H1 Q E):rJ sp [] E t σ H Q:=by
 unfold rJ;simp only[List.append_nil];exact h
theorem P0 {r:List V->Hp->VK->Prop}{t:TA} (h:t σ H fun vs H1=>r vs H1 Q):tCB r t σ H Q:=h
theorem NQ {t:TA}(h:t σ H (OV Q)):M2 t σ H Q:=h
theorem OO {t:TA}(h:t σ H (MY Q)):O3 t σ H Q:=h
theorem fE {o:HO}{R:V->Hp->Prop} (h:∀p H',H p=none->Same H H'->H' p=some o->R (.ref p) H'):∀p,H p=none->R (.ref p) (upd H p o) :=
 fun p hp=>h p _ hp (fun b u e=>by rw[aG (aO e hp)];exact e) aR
theorem IW {xs:List V}(hn:xs.length<=sizeLine)(h:∀p H',H p=none->Same H H'->H' p=some (.lst xs)->Q (.ref p) H'):OV Q xs H:=⟨hn,fE h⟩
theorem K0 {xs:List V}(hn:xs.length<=sizeLine)(h:∀p H',H p=none->Same H H'->H' p=some (.tup xs)->Q (.ref p) H'):MY Q xs H:=⟨hn,fE h⟩
theorem KN {xs:List V}(h:∀p H',H p=none->Same H H'->H' p=some (.lst xs)->Q (.ref p) H'):OM Q xs H:=fE h
theorem M4 {f:Str}(h:ta σ H (N2 K f Q)):FP K ta f σ H Q:=h
theorem LC {a C dx:Addr}{fs:List (Str×V)}{f:Str} (e:H a=some (.ins C dx fs)) (cl:Cls K C) (na:NoAttr K C f) (l:fs.lookup f=some v) (h:Q v H):N2 K f Q (.ref a) H:=⟨a,C,dx,fs,v,rfl,e,cl,na,l,h⟩
theorem LD {f:Str}(h:ta σ H fun y H1=>tb σ H1 (HU K f y (nx σ))):OC K tb ta f ⟨nx,rt,bk,ct⟩ σ H:=h
theorem FL {a C dx:Addr}{fs:List (Str×V)}{f:Str}{y:V}{w:Hp->Prop} (e:H a=some (.ins C dx fs)) (cl:Cls K C) (na:NoAttr K C f) (l:decide (fs.length<1000)=true)
  (h:∀H',(∀b o,H b=some o->b≠a->H' b=some o)->H' a=some (.ins C dx (b4 f y fs))->w H'):HU K f y w (.ref a) H :=
 ⟨a,C,dx,fs,rfl,e,cl,na,of_decide_eq_true l,h _ (fun b o q hb=>by rw[aG hb];exact q) aR⟩
theorem PN {M:Addr->Sp->Prop}{m:Str}{t:TA} (h:ta σ H (MdP M m t σ Q)):tMD M m ta t σ H Q:=h
theorem MF {M:Addr->Sp->Prop}{m:Str}{t:TA}{a C dx:Addr}{fs:List (Str×V)}{sp:Sp} (e:H a=some (.ins C dx fs)) (l:fs.lookup m=none) (F:M C sp) (h:t σ H fun vs H2=>sp (.ref a::vs) H2 Q E0):MdP M m t σ Q (.ref a) H :=
 ⟨a,C,dx,fs,sp,rfl,e,l,F,h⟩
theorem J2 {C:Addr}{sp:Sp}{dvs:List V}{t:TA} (h:t σ H (wM C sp dvs E Q)):AT C sp dvs E t σ H Q:=h
theorem FN {C:Addr}{sp:Sp}{dvs vs:List V}{fs:List (Str×V)}
  (hsp:∀p dx H0 (Q':VK),H0 p=some (.ins C dx [])->(∀H',(∀b o,H0 b=some o->b≠p->H' b=some o)->H' p=some (.ins C dx fs)->Q' .non H')->Same H H0->sp (.ref p::(vs++dvs)) H0 Q' E)
  (k:∀p dx H',H p=none->Same H H'->H' p=some (.ins C dx fs)->Q (.ref p) H'):wM C sp dvs E Q vs H:=by
 intro x dx nx nd ne;have s0:Same H (upd (upd H dx (.own x)) x (.ins C dx [])):=fun b o e=>by
  rw[aG (aO e nx),aG (aO e nd)];exact e
 exact hsp x dx _ _ aR (fun H' sb e=>⟨rfl,k x dx H' nx (fun b o q=>sb b o (s0 b o q) (aO q nx)) e⟩) s0
theorem JK {wi:TI}{nl:Nat}{ci:List Nat}{ti:TT} (h:wi σ H fun J H1=>eM J g ti te (bS nl ci σ) (OM Q) H1):AQ wi nl ci g ti te σ H Q:=h
theorem PY {r:V->Option Int->Option Int->Hp->VK->Prop}{tl th:TO} (h:te σ H fun x H1=>tl σ H1 fun l H2=>th σ H2 fun u H3=>r x l u H3 Q):tSl r te tl th σ H Q:=h
theorem OB {z:Str}{lo hi:Option Int} (hz:z.length<=sizeLine) (h:(Txt.slice z lo hi).length<=z.length->Q (.str (Txt.slice z lo hi)) H):NT (.str z) lo hi H Q:=⟨z,rfl,hz,h (Txt.slice_le _ _ _)⟩
theorem DD {a:Addr}{xs:List V}{lo hi:Option Int} (e:SqL K H a xs) (h:∀p H',H p=none->Same H H'->H' p=some (.lst (qG xs lo hi))->Q (.ref p) H'):GZ K (.ref a) lo hi H Q:=⟨a,xs,rfl,e,fE h⟩
def CD (ns:List Int)(lo hi:Option Int):List Int:=(ns.drop (HT.sIx ns.length 0 lo)).take (HT.sIx ns.length ns.length hi - HT.sIx ns.length 0 lo)
theorem EM (ns:List Int)(lo hi:Option Int):qG (ns.map V.int) lo hi=(CD ns lo hi).map V.int:=by
 unfold qG CD;rw[List.length_map,List.map_take,List.map_drop]
theorem O5 {a:Addr}{ns:List Int}{lo hi:Option Int} (e:SqL K H a (ns.map V.int)) (h:∀p H',H p=none->Same H H'->H' p=some (.lst ((CD ns lo hi).map V.int))->Q (.ref p) H'):GZ K (.ref a) lo hi H Q :=
 DD e (by rw[EM];exact h)
theorem JU {l b:Addr}{xs zs:List V} (e:H l=some (.lst xs)) (e2:H b=some (.lst zs)) (hn:xs.length+zs.length<=sizeLine) (h:∀p H',H p=none->Same H H'->H' p=some (.lst (xs++zs))->Q (.ref p) H'):OY (.ref l) (.ref b) H Q :=
 ⟨l,b,xs,zs,rfl,rfl,e,e2,hn,fE h⟩
theorem PU {T:String}{r:V->List V->Hp->VK->Prop}{to:TE}{t:TA} (h:to σ H (BmP K T r t σ Q)):tBM K T r to t σ H Q:=h
theorem OF {r:V->List V->Hp->VK->Prop}{t:TA}{p:Addr}{xs:List V} (e:SqL K H p xs) (h:t σ H fun xs H2=>r (.ref p) xs H2 Q):BmP K "list" r t σ Q (.ref p) H:=⟨.inl ⟨rfl,xs,e⟩,h⟩
structure ICls (K:PySem.W.Frag)(C:Addr):Prop where
 cl:Cls K C
 ha:PySem.W.findIn K (.ref C) "__class__" =some (some (.builtin "object.__class__"))
 hn:PySem.W.specialIn K (.builtin "object.__class__") "__get__" =some (some (.builtin "getset_descriptor.__get__"))
 tk:PySem.W.takesIn K (.builtin "object.__class__")=some true
 hm:PySem.W.mroIn K C (.type "object")=some true
theorem KM {p:Addr}{ys:List V} (e:SqL K H p ys) (h:Q (.int ys.length) H):HI K [.ref p] H Q:=⟨p,ys,rfl,.inl e,h⟩
variable {B:Bool->Hp->Prop}
theorem JA (h:te σ H (oW B)):IM te σ H B:=h
theorem QP (h:te σ H (oW B)):tB te σ H B:=h
theorem OR (h:c σ H fun k H1=>if k=true then d σ H1 B else B false H1):MW c d σ H B:=h
theorem P4 (h:c σ H fun k H1=>if k=true then B true H1 else d σ H1 B):tOr c d σ H B:=h
theorem OK (h:c σ H fun k H1=>B (!k) H1):OQ c σ H B:=h
theorem OA {b:Bool}{P:Bool->Hp->Prop} (h:P b H):oW P (.bl b) H:=⟨b,rfl,h⟩
theorem DV {A B:Prop}(h:A):if true=true then A else B:=by rw[if_pos rfl];exact h
theorem DC {A B:Prop}(h:B):if false=true then A else B:=by rw[if_neg Bool.false_ne_true];exact h
theorem IY {A B:Prop}(h:B):if (!true)=true then A else B:=DC h
theorem JX {A B:Prop}(h:A):if (!false)=true then A else B:=DV h
theorem O0 {p A B:Prop}[Decidable p](hp:p)(h:A):if decide p=true then A else B:=by rw[if_pos (decide_eq_true hp)];exact h
theorem M8 {p A B:Prop}[Decidable p](hp:¬p)(h:B):if decide p=true then A else B:=by rw[if_neg (by rw[decide_eq_false hp];exact Bool.false_ne_true)];exact h
theorem fQ {p A B:Prop}[Decidable p](h1:p->A)(h2:¬p->B):if decide p=true then A else B:=tG (fun h=>h1 (of_decide_eq_true h)) fun h=>h2 fun z=>h (decide_eq_true z)
variable {L:List V->Hp->Prop}{O:Option Int->Hp->Prop}{tr:TA}
theorem OS (h:L [] H):F8 σ H L:=h
theorem LS (h:te σ H fun x H1=>tr σ H1 fun xs H2=>L (x::xs) H2):HL te tr σ H L:=h
theorem DW (h:O none H):zX σ H O:=h
theorem JN (h:te σ H (MK O)):HN te σ H O:=h
theorem NZ {i:Int}(h:O (some i) H):MK O (.int i) H:=⟨i,rfl,h⟩
variable {vs:List V}{gs:TGs}
theorem J6 (h:q σ H):AY [] σ H q:=⟨rfl,h⟩
theorem GY (h:g v σ H fun σ' H'=>gs vs σ' H' q):oV g gs (v::vs) σ H q:=⟨v,vs,rfl,h⟩
theorem J5 {a:Addr}{n:Nat} (e:SqT K H a vs) (hl:vs.length=n) (h:gs vs σ H q):yA K n gs (.ref a) σ H q:=⟨a,vs,rfl,e,hl,h⟩
variable {R:It->Hp->Prop}
theorem GX (h:te σ H (MM K R)):HM K te σ H R:=h
theorem u4 {a:Addr}{xs:List V} (e:SqL K H a xs) (h:R (Itl K a) H):MM K R (.ref a) H:=⟨a,rfl,⟨xs,e⟩,h⟩
theorem FQ (h:tr σ H (NX R)):HW tr σ H R:=h
theorem EN {j:Int}(h0: -4611686018427387904<=j)(h1:j<4611686018427387904)(h:R (Itr 0 j.toNat) H):NX R [.int j] H:=⟨j,rfl,by lia,by lia,h⟩
theorem FY (h:tr σ H (MT R)):HV tr σ H R:=h
theorem E2 {i j:Int}(h0: -4611686018427387904<=i)(h1:i<4611686018427387904)(h2: -4611686018427387904<=j)(h3:j<4611686018427387904)(h:R (Itr i (j - i).toNat) H):MT R [.int i,.int j] H:=⟨i,j,rfl,⟨by lia,by lia,by lia,by lia⟩,h⟩
theorem jJ {a:Addr}{tb:TS} (xs:List V) (Pv:Nat->St->Hp->Prop) (h0:Pv 0 σ H) (hl:∀i σ H,i<=xs.length->Pv i σ H->SqL K H a xs)
  (hs:∀i x σ H,xs[i]? =some x->Pv i σ H->g x σ H fun σ2 H2=>tb ⟨Pv (i+1),rt,nx,Pv (i+1)⟩ σ2 H2)(hd:∀σ H,Pv xs.length σ H->nx σ H):uL (Itl K a) g tb ⟨nx,rt,bk,ct⟩ σ H :=
 F6 (D:=⟨nx,rt,bk,ct⟩) Pv h0 hl hs hd
theorem tV {lo:Int}{n:Nat}{tb:TS} (Pv:Nat->St->Hp->Prop) (h0:Pv 0 σ H)
  (hs:∀i σ H,i<n->Pv i σ H->g (.int (lo+i)) σ H fun σ2 H2=>tb ⟨Pv (i+1),rt,nx,Pv (i+1)⟩ σ2 H2)(hd:∀σ H,Pv n σ H->nx σ H):uL (Itr lo n) g tb ⟨nx,rt,bk,ct⟩ σ H :=
 DL (D:=⟨nx,rt,bk,ct⟩) Pv h0 hs hd
theorem GD {lo:Int}{n:Nat}{tb:TS} (S:St->Prop) (h0:S σ)
  (hs:∀(i:Nat) σ' H',i<n->Same H H'->S σ'->g (.int (lo+i)) σ' H' fun σ2 H2=>tb ⟨fun σ3 H3=>Same H H3/\S σ3,rt,nx,fun σ3 H3=>Same H H3/\S σ3⟩ σ2 H2)(hd:∀σ' H',Same H H'->S σ'->nx σ' H'):uL (Itr lo n) g tb ⟨nx,rt,bk,ct⟩ σ H :=
 tV (fun _ σ' H'=>Same H H'/\S σ') ⟨Same.refl _,h0⟩ (fun i σ' H' hi p=>hs i σ' H' hi p.1 p.2) fun σ' H' p=>hd σ' H' p.1 p.2
end
section
variable {K:PySem.W.Frag}{te:TE}{σ:St}{ci:List Nat}{rest:St}{fin:List V->Hp->Prop}{H:Hp}{a:Addr}
theorem xC (hr:ci.map (fun i=>(σ[i]?).join)=rest):bS 1 ci σ=none::rest:=by
 unfold bS;rw[hr];rfl
end
section
variable {K:PySem.W.Frag}{te:TE}{σ:St}{ci:List Nat}{rest:St}{fin:List V->Hp->Prop}{H:Hp}{a:Addr}
end
theorem Same.at {H H':Hp}{b:Addr}{o:HO} (s:Same H H') (h:H b=some o):H' b=some o:=s b o h
def SameBut (p:Addr)(H H':Hp):Prop:=∀b o,H b=some o->b≠p->H' b=some o
theorem SameBut.upd {p:Addr}{H:Hp}{o:HO}:SameBut p H (upd H p o):=fun b u e hb=>by rw[aG hb];exact e
theorem SameBut.trans {p:Addr}{H H1 H2:Hp} (a:SameBut p H H1) (b:SameBut p H1 H2):SameBut p H H2:=fun c o h hc=>b c o (a c o h hc) hc
theorem Same.but {p:Addr}{H H':Hp} (s:Same H H'):SameBut p H H':=fun b o e _=>s b o e
theorem SameBut.same {p:Addr}{H H0 H':Hp} (n:H0 p=none) (s:Same H0 H) (b:SameBut p H H'):Same H0 H':=fun c o e=>b c o (s c o e) (aO e n)
theorem aI {t:TS}{D:dU}{N:List Str}{vs:List V}{σ:St}{H:Hp} (e:fS N vs=σ) (h:t D σ H):t D (fS N vs) H:=e▸h
theorem SameBut.refl {p:Addr}{H:Hp}:SameBut p H H:=fun _ _ e _=>e
theorem SameBut.snoc {p:Addr}{H H1 H2:Hp} (b:∀c o,H1 c=some o->c≠p->H2 c=some o) (a:SameBut p H H1):SameBut p H H2:=fun c o h hc=>b c o (a c o h hc) hc
theorem SameBut.snocS {p:Addr}{H H1 H2:Hp} (b:Same H1 H2) (a:SameBut p H H1):SameBut p H H2:=fun c o h hc=>b c o (a c o h hc)
theorem Same.snoc {H H1 H2:Hp}(b:Same H1 H2)(a:Same H H1):Same H H2:=a.trans b
theorem KH {f:Str}{v:V}{fs:List (Str×V)}:(b4 f v fs).lookup f=some v:=by rw[g0,if_pos rfl]
theorem PQ {f g:Str}{v:V}{o:Option V}{fs:List (Str×V)} (h:decide (g=f)=false) (l:fs.lookup g=o):(b4 f v fs).lookup g=o:=by rw[g0,if_neg (of_decide_eq_false h)];exact l
theorem NW {f:Str}:([]:List (Str×V)).lookup f=none:=rfl
section
variable {K:PySem.W.Frag}{x qual:Str}{st:Stmt}{kV doc pm cdv ct:Value}{an:Option Addr}{ps:List Str}
theorem aX (h:∀us:List Value,us.length=ps.length->bindArgs (PySem.W.fnOf x qual (aM st) (aK st) (aB st) .none kV doc pm an cdv ct) ⟨us,[]⟩=pure (ps.zip us)) :
  Binds K (PySem.W.fnOf x qual (aM st) (aK st) (aB st) .none kV doc pm an cdv ct) ps []:= .all h
theorem kT (k:Nat){T:Addr}{ds:List Value}{oc:Value}{od:Option Addr}{sl:Array (Option Value)}{items:Array Value}{n:Nat} (lt:K.lookup T=some ⟨oc,od,.seq items n,sl⟩)
  (h:∀us:List Value,us.length=k->∃k,bindArgs (PySem.W.fnOf x qual (aM st) (aK st) (aB st) (.ref T) kV doc pm an cdv ct) ⟨us,[]⟩=seqItems? (.ref T) >>= k/\k (some items)=pure (ps.zip (us++ds)))(hk:k+ds.length=ps.length:=by rfl) :
  Binds K (PySem.W.fnOf x qual (aM st) (aK st) (aB st) (.ref T) kV doc pm an cdv ct) ps ds:=fun s us hK hl=>by
 obtain⟨k,h1,h2⟩:=h us (by rw[List.length_append]at hl;lia);exact .of_defaults (T:=T) (items:=items) (n:=n) rfl (hK T _ lt) rfl h1 h2
theorem xD {C:Addr}:PySem.W.kitOne K (.ref C) (.ref C)=some true:=by
 unfold PySem.W.kitOne;rw[if_pos (beq_self_eq_true _)]
theorem iJ {C D:Addr}{cd:ClassData}{b:Bool} (ne:(Value.ref C==Value.ref D)=false) (c:PySem.W.clsIn K D=some cd) (t:PySem.W.typeIn K (.ref D)=some (.type "type")) (s:PySem.W.subIn K (.ref C) (.ref D)=some b) :
  PySem.W.kitOne K (.ref C) (.ref D)=some b:=by
 unfold PySem.W.kitOne;rw[ne,if_neg Bool.false_ne_true];show (if ((PySem.W.clsIn K D).isSome&&PySem.W.typeIn K (.ref D)==some (.type "type"))=true then PySem.W.subIn K (.ref C) (.ref D) else none)=_;rw[c,t,if_pos (by rfl)];exact s
end
theorem bE (s:String):(Str.ofString s).length=s.length:=by
 rw[Str.ofString_eq_toList];show (s.toList.map Char.toNat).toArray.size=_;rw[List.size_toArray,List.length_map,String.length_toList]
def sgB (c:Nat):Bool:=decide (97<=c)&&decide (c<=122)
def fN (z:Str):Bool:=z.cps.toList.all sgB
def b1 (z:Str):Bool:=decide (1<=(z.length:Int))&&decide ((z.length:Int)<=8)&&fN z
theorem D0 {z:Str}(h:b1 z=true):z.length<=8:=by
 unfold b1 at h;simp only[Bool.and_eq_true,decide_eq_true_eq]at h
 lia
theorem FE {z:Str}(h0:1<=z.length)(h1:z.length<=8)(h2:fN z=true):b1 z=true:=by
 unfold b1;simp only[Bool.and_eq_true,decide_eq_true_eq];exact⟨⟨by lia,by lia⟩,h2⟩
theorem FB {c:Nat}{z:Str} (h:fN z=true) (hc:c∈z.cps.toList):fN ⟨#[c]⟩=true:=by
 unfold fN at h ⊢;rw[List.all_eq_true]at h;show [c].all sgB=true;rw[List.all_cons,h c hc];rfl
theorem kD (x y:Str):(x++y).cps.toList=x.cps.toList++y.cps.toList:=by
 show (x.cps++y.cps).toList=_;simp
theorem hV (x y:Str):(x++y).length=x.length+y.length:=by
 show (x.cps++y.cps).size=_;rw[Array.size_append];rfl
theorem tL (c:Nat):(⟨#[c]⟩:Str).length=1:=rfl
theorem GI {x y:Str}(h:fN x=true)(h':fN y=true):fN (x++y)=true:=by
 unfold fN at h h' ⊢;rw[kD,List.all_append,h,h'];rfl
theorem zW {x y:Str}(h:x.cps.toList=y.cps.toList):x=y:=by
 cases x;cases y;have:_=_:=Array.ext' h;cases this;rfl
end L2
namespace L2
open PySem PySem.Spec PyProof.Rows
section
variable {prog:Program}{w:World}{A:Around}{E:Value->Shared->Prop}{s:Shared}
end
section
variable {X:Cx}{pos:Pos}
end
section
variable {nx bk ct:St->Hp->Prop}{rt:VK}{σ:St}{H:Hp}{g:TG}{K:PySem.W.Frag}{a:Addr}{tb:TS}{xs:List V}
end
theorem JY {H:Hp}{Q:VK}{i j:Int} (h0:0<j) (h:0<=i%j->i%j<j->Q (.int (i%j)) H):rI (fun _ j=>0<j) (fun i j=> .int (i%j)) (.int i) (.int j) H Q:=⟨i,j,rfl,rfl,h0,h (Int.emod_nonneg _ (by lia)) (Int.emod_lt_of_pos _ h0)⟩
end L2
namespace L2
open PySem PySem.Spec PyProof.Rows PySem.W
structure dW (K:Frag)(C:Addr):Prop where
 ga:findIn K (.ref C) "__getattribute__" =some (some (.builtin "BaseException.__getattribute__"))
 gg:findIn K (.ref C) "__getattr__" =some none
 cl:findIn K (.ref C) "__class__" =some (some (.builtin "object.__class__"))
 so:subIn K (.ref C) (.type "object")=some true
 sb:subIn K (.ref C) (.type "BaseException")=some true
 cd:∃cd,clsIn K C=some cd
section
variable {prog:Program}{w:World}{A:Around}{E:Value->Shared->Prop}{h:Heap}{g:Array GenState}{d:Drawn}{t:Nat}{os:OsState}{a C:Addr}{o:Obj}{vs:Array Value}{K:Frag}
theorem dY {M:Model}(hx:h.get? a=some o)(hc:o.cls= .ref C)(hd:o.data= .fields vs):Looks M h (typeOf (.ref a)) (.ref C):=by
 have L:Looks M h (typeOf (.ref a)) o.cls:=by
  refine(Looks.ld hx).andThen ?_;exact .now
 rw[hc]at L;exact L
theorem vQ {R:Result->Shared->Prop}(X:K.In h)(k:dW K C)(hx:h.get? a=some o)(hc:o.cls= .ref C)(hd:o.data= .fields vs)(hq:R (.ok (.ret (.ref C))) ⟨h,g,d,t,os⟩) :
  codeAny (model prog w) A (.call (.builtin "getset_descriptor.__get__") ⟨[.builtin "object.__class__",.ref a,.ref C],[]⟩) R ⟨h,g,d,t,os⟩:=by
 have hT5:(⟨h,g,d,t,os⟩:Shared).TypeIs (.builtin "object.__class__") "getset_descriptor" :=F.typeOf_object_class;have L0:=dY (M:=model prog w) hx hc hd;have L1:Looks (model prog w) h (isSubtype (.ref C) (.type (".".intercalate ("object.__class__".cutAt '.').dropLast))) true:=by rw[F.owner_object_class];exact looks_subIn X k.so
 refine codeAny_call_builtin F.slot_gs_get.plain F.entry_gs_get (F.slot_gs_get.check _ _ _ _ _ _ _ _ hT5 (F.args_gs_get _ _ _) ?_)
 repeat (any_goals (first|assumption|(with_reducible refine L0.at ?_)|(with_reducible refine L1.at ?_)|wp_step))
 refine⟨Code.quiet_builtin _ (by decide +kernel),codeAny_builtin F.entry_object_class ?_⟩
 repeat (any_goals (first|assumption|(with_reducible refine L0.at ?_)|wp_step))
theorem sO {tk:Tok}{Q:Fin->Shared->Prop} (X:K.In h) (k:dW K C) (hx:h.get? a=some o) (hc:o.cls= .ref C) (hd:o.data= .fields vs) (hq:Q (.done (.ret (.ref C))) ⟨h,g,d,t,os⟩) :
  wpAny (model prog w) A (Builtin.«object.__getattribute__» ⟨[.ref a,.str "__class__" tk],[]⟩) Q E ⟨h,g,d,t,os⟩:=by
 have hT5:(⟨h,g,d,t,os⟩:Shared).TypeIs (.builtin "object.__class__") "getset_descriptor" :=F.typeOf_object_class;have L0:=dY (M:=model prog w) hx hc hd;have L1:=looks_findIn (M:=model prog w) X k.cl;have f5:=F.typeOf_object_class;have f6:=F.slot_gs_get.lookup;have f7:=F.slot_gs_set.lookup
 repeat (any_goals (first|assumption|(with_reducible refine L0.at ?_)|(with_reducible refine L1.at ?_)|wp_step))
 refine vQ X k hx hc hd ?_
 repeat (any_goals (first|assumption|wp_step))
theorem nI {M:Model}{nameV:Value}{Q:Unit->Shared->Prop} (X:K.In h) (k:dW K C) (hx:h.get? a=some o) (hc:o.cls= .ref C) (hd:o.data= .fields vs) (hq:Q () ⟨h,g,d,t,os⟩) :
  wpAny M A (checkBuiltinCall "BaseException.__getattribute__" ⟨[.ref a,nameV],[]⟩) Q E ⟨h,g,d,t,os⟩:=by
 have hk:builtinKind "BaseException.__getattribute__" =some .slot:=by decide +kernel
 have hsplit:splitId "BaseException.__getattribute__" =some ("BaseException","__getattribute__"):=by decide +kernel
 have ha:=F.args_bexc_ga (.ref a) nameV;have L0:=dY (M:=M) hx hc hd;have L1:=looks_subIn (M:=M) X k.sb;simp only[checkBuiltinCall,hk,hsplit];refine wpAny_bind ?_
 ·unfold isInstance
  repeat (first|(with_reducible refine L0.at ?_)|(with_reducible refine L1.at ?_)|wp_step)
  exact hq
theorem tQ {tk:Tok}{R:Result->Shared->Prop} (X:K.In h) (k:dW K C) (hx:h.get? a=some o) (hc:o.cls= .ref C) (hd:o.data= .fields vs) (hq:R (.ok (.ret (.ref C))) ⟨h,g,d,t,os⟩) :
  codeAny (model prog w) A (.call (.builtin "BaseException.__getattribute__") ⟨[.ref a,.str "__class__" tk],[]⟩) R ⟨h,g,d,t,os⟩ :=
 codeAny_call_builtin F.excAttr_ValueError.ga.plain F.entry_bexc_ga (nI X k hx hc hd (sO X k hx hc hd hq))
theorem xQ {tk:Tok}{fill expr:Bool}{Q:Value->Shared->Prop} (X:K.In h) (k:dW K C) (hx:h.get? a=some o) (hc:o.cls= .ref C) (hd:o.data= .fields vs) (hq:Q (.ref C) ⟨h,g,d,t,os⟩) :
  wpAny (model prog w) A (getAttrBy (.ref a) (.str "__class__" tk) fill expr) Q E ⟨h,g,d,t,os⟩:=by
 have L0:=dY (M:=model prog w) hx hc hd;have L1:=looks_findIn (M:=model prog w) X k.ga;have L2:=looks_findIn (M:=model prog w) X k.gg;have f3:=F.excAttr_ValueError.ga.bind (.ref a);have hx0:(expr&&onTheHeap (Value.builtin "BaseException.__getattribute__"))=false:=by cases expr<;>rfl
 have hx2:(Value.builtin "BaseException.__getattribute__" ==Value.builtin "object.__getattribute__")=false:=by decide +kernel
 have hx1:(onTheHeap (Value.ref C)&&Value.builtin "BaseException.__getattribute__" ==Value.builtin "object.__getattribute__")=false:=by rw[hx2];rfl
 repeat (any_goals (first|assumption|(with_reducible refine L0.at ?_)|(with_reducible refine L1.at ?_)|(with_reducible refine L2.at ?_)|wp_step))
 refine tQ X k hx hc hd ?_
 repeat (any_goals (first|assumption|wp_step))
theorem tX {Q:Option Value->Shared->Prop}(X:K.In h)(k:dW K C)(hx:h.get? a=some o)(hc:o.cls= .ref C)(hd:o.data= .fields vs)(hq:Q (some (.ref C)) ⟨h,g,d,t+1,os⟩) :
  wpAny (model prog w) A (getAttr? (.ref a) "__class__") Q E ⟨h,g,d,t,os⟩:=by
 unfold getAttr? getAttrBy?
 repeat (any_goals (first|assumption|with_reducible apply xQ X k hx hc hd|wp_step))
end
def wT (a C:Addr)(h:Heap):Prop:=∃o vs,h.get? a=some o/\o.cls= .ref C/\o.data= .fields vs
theorem yB {K:Frag}{a C:Addr} (k:dW K C):KitX K (.ref a) (.ref C) (wT a C) where
 ty:=fun M h X ⟨o,vs,hx,hc,hd⟩=>dY hx hc hd
 it:=fun _ _ X _=>by
  obtain⟨cd,hcD⟩:=k.cd;unfold clsIn at hcD
  split at hcD
  ·rename_i c' d' cd' sl' ho;intro A' Q' E' s' k q;unfold isType loadHead;exact wpAny_bind (wpAny_loadPart (k _ _ (X _ _ ho)) (wpAny_pure q))
  ·cases hcD
 ne:=fun h tp dd its n sl X htp=>by
  obtain⟨cd,hcD⟩:=k.cd;refine Bool.eq_false_iff.mpr fun q=> ?_;have e:C=tp:=Value.ref.inj (beq_iff_eq.mp q);subst e;unfold clsIn at hcD
  split at hcD
  ·rename_i c' d' cd' sl' ho;have z:=(X _ _ ho).symm.trans htp;cases z
  ·cases hcD
 ca:=fun {_ _ _ _ _ s} X ⟨o,vs,hx,hc,hd⟩ q=>by
  obtain⟨h,g,d,t,os⟩:=s;exact tX X k hx hc hd q
end L2
namespace L2
open PySem PySem.Spec PyProof.Rows PySem.W
def BS (h base:Heap)(ea:Addr)(cls:Value)(dd:Option Addr)(a0:Value):Prop :=
 ∃ob fv tb tbo tv,h.get? ea=some ob/\ob.cls=cls/\ob.dict=dd/\fv[0]? =some a0/\ob.data= .fields fv/\fv[1]? =some (.ref tb)/\base.get? tb=none/\tb≠ea/\h.get? tb=some tbo/\tbo.data= .fields tv/\tv[3]? =some .none
def AZ (base:Heap)(l:List Env)(ea:Addr)(cls:Value)(dd:Option Addr)(a0:Value)(h h':Heap):Prop :=
 base.StaysIn h'/\h'.FunFrames base l/\BS h' base ea cls dd a0/\h.UpToSlots h'
theorem vI (ob:Obj)(g):(ob.mapFields g).dict=ob.dict:=by
 obtain⟨c,d,dt,sl⟩:=ob;cases dt<;>rfl
section
variable {M:Model}{A:Around}{E:Value->Shared->Prop}{s:Shared}{base:Heap}{env:Env}{outer:List Env}{L ea:Addr}{Q:Unit->Shared->Prop}
theorem sN {ob:Obj}{fv:Array Value}{hd0 a0:Value}{nx:Bool} (hfr:A.frames=some (env::outer)) (ff:s.heap.FunFrames base (env::outer)) (hL:env.frame=some L) (go:s.heap.get? ea=some ob) (st:base.StaysIn s.heap)
  (nb:base.get? ea=none)(hdt:ob.data= .fields fv)(hz:1<fv.size)(h0:fv[0]? =some a0)(k:∀h',AZ base (env::outer) ea ob.cls ob.dict a0 s.heap h'->Q () { s with heap:=h' }) :
  wpAny M A (do let a ←frameOf env;let pl ←entryPlaceOf L nx;let b ←EntryCells.newEntry hd0 a .none (rawInt L) .none pl;setField (.ref ea) 1 b) (fun _ s'=>wpAny M A (setFlight (.ref ea) none) Q E s') E s:=by
 have nin:ea∉(env::outer).filterMap (·.frame):=fun hm=>by
  obtain⟨_,o,ho,hnf⟩:=ff.mem hm;rw[go]at ho;cases ho;exact hnf fv hdt
 refine wpAny_bind (wpAny_frameOf_fun hfr ff hL fun hA sA=>wpAny_bind (wpAny_entryPlaceOf fun pl hpl=> ?_));unfold EntryCells.newEntry newFields;refine wpAny_bind (wpAny_newObj_type ?_ (hpl.sizeOk5 _ _ _ _ _));have gA:hA.get? ea=some ob:=(sA.2.1 ea nin).trans go;have stA:base.StaysIn hA:=fun b o q=>(sA.2.1 b fun hm=>by rw[(ff.mem hm).1]at q;cases q).trans (st b o q);generalize hN:({ cls:= .type "traceback",dict:=none,data:= .fields ([hd0,.ref L,.none,rawInt L,.none]++(if pl.isEmpty then List.replicate 6 Value.none else pl)).toArray }:Obj)=nob;have hNd:∃tv,nob.data= .fields tv/\3<tv.size:=by
  rw[←hN];exact⟨_,rfl,by simp only[List.size_toArray,List.length_append,List.length_cons,List.length_nil];lia⟩
 obtain⟨tv,hNd,hNs⟩:=hNd;have gB:(hA.push nob).get? ea=some ob:=Heap.get?_push_of_some nob gA;refine wpAny_setField gB hdt hz ?_;have tne:hA.objs.size≠ea:=Nat.ne_of_gt (Heap.lt_size gA);have dC:=Obj.data_mapFields hdt (·.setIfInBounds 1 (Value.ref hA.objs.size));have gC:=Heap.get?_update_self (Obj.mapFields (·.setIfInBounds 1 (Value.ref hA.objs.size))) gB (Obj.isFreed_of_fields dC);have tC:((hA.push nob).update ea (Obj.mapFields (·.setIfInBounds 1 (Value.ref hA.objs.size)))).get? hA.objs.size=some nob:=(Heap.get?_update_other _ _ (Ne.symm tne)).trans (Heap.get?_push_size hA (Obj.isFreed_of_fields hNd));unfold setFlight;refine wpAny_bind (wpAny_field gC dC (x:= .ref hA.objs.size) (by simp[hz]) ?_);rw[if_pos (show (Value.ref hA.objs.size !=Value.none)=true from by simp)];refine wpAny_setField tC hNd hNs (k _ ?_);generalize hF:((hA.push nob).update ea (Obj.mapFields (·.setIfInBounds 1 (Value.ref hA.objs.size)))).update hA.objs.size _=hX;have keepF:∀b o,b≠ea->hA.get? b=some o->hX.get? b=some o:=fun b o hb q=>by
  rw[←hF,Heap.get?_update_other _ _ (Nat.ne_of_gt (Heap.lt_size q)),Heap.get?_update_other _ _ (Ne.symm hb)];exact Heap.get?_push_of_some _ q
 have norec:∀b o,s.heap.get? b=some o->(∀vs,o.data≠ .fields vs)->b≠ea:=fun b o q hnf z=>by
  rw[z,go]at q;cases q;exact hnf fv hdt
 refine⟨fun b o q=>keepF b o (fun z=>by rw[z,nb]at q;cases q) (stA b o q),ff.of_keeps fun b o q hnf=> ?_,?_,fun b o q hnf=> ?_⟩
 ·obtain⟨sl,hs⟩:=sA.2.2 b o q;exact⟨_,keepF b _ (norec b o q hnf) hs,rfl⟩
 ·refine⟨_,_,hA.objs.size,_,_,by rw[←hF,Heap.get?_update_other _ _ tne];exact gC,Obj.cls_mapFields _ _,vI _ _,by rw[Array.getElem?_setIfInBounds_ne (by decide)];exact h0,dC,by simp[hz],stA.fresh,tne,
   by rw[←hF];exact Heap.get?_update_self _ tC (Obj.isFreed_of_fields (Obj.data_mapFields hNd _)),Obj.data_mapFields hNd _,?_⟩
  simp[hNs]
 ·obtain⟨sl,hs⟩:=sA.2.2 b o q;exact⟨sl,keepF b _ (norec b o q hnf) hs⟩
theorem xY {ob:Obj}{fv:Array Value}{a0:Value} (hfr:A.frames=some (env::outer)) (ff:s.heap.FunFrames base (env::outer)) (hL:env.frame=some L) (go:s.heap.get? ea=some ob) (st:base.StaysIn s.heap) (nb:base.get? ea=none)
  (hdt:ob.data= .fields fv)(h1:fv[1]? =some .none)(h0:fv[0]? =some a0)(k:∀h',AZ base (env::outer) ea ob.cls ob.dict a0 s.heap h'->Q () { s with heap:=h' }):wpAny M A (leaving env (.ref ea)) Q E s:=by
 unfold leaving noteFrame;simp only[hL];refine wpAny_bind (wpAny_bind (wpAny_field go hdt h1 ?_));rw[if_neg (by decide)];exact sN hfr ff hL go st nb hdt (Array.getElem?_eq_some_iff.mp h1).1 h0 k
theorem yW {cls a0:Value}{dd:Option Addr} (hfr:A.frames=some (env::outer)) (ff:s.heap.FunFrames base (env::outer)) (hL:env.frame=some L) (tr:BS s.heap base ea cls dd a0) (st:base.StaysIn s.heap) (nb:base.get? ea=none)
  (k:∀h',AZ base (env::outer) ea cls dd a0 s.heap h'->Q () { s with heap:=h' }):wpAny M A (leaving env (.ref ea)) Q E s:=by
 obtain⟨ob,fv,tb,tbo,tv,go,ec,ed,h0,hdt,h1,nT,tne,gT,dT,h3⟩:=tr;subst ec ed;unfold leaving noteFrame;simp only[hL];refine wpAny_bind (wpAny_bind (wpAny_field go hdt h1 ?_));rw[if_pos (show (Value.ref tb !=Value.none)=true from by simp)];refine wpAny_bind (wpAny_field gT dT h3 ?_);rw[if_neg (show ¬((Value.none==rawInt L)=true) from by simp[rawInt])];refine wpAny_bind (wpAny_setField gT dT (Array.getElem?_eq_some_iff.mp h3).1 ?_);have oth:∀b,b≠tb->(s.heap.update tb (Obj.mapFields (·.setIfInBounds 3 Value.none))).get? b=s.heap.get? b:=fun b hb=>Heap.get?_update_other _ _ (Ne.symm hb);have norec:∀b o,s.heap.get? b=some o->(∀vs,o.data≠ .fields vs)->b≠tb:=fun b o q hnf z=>by
  rw[z,gT]at q;cases q;exact hnf tv dT
 refine sN hfr (ff.of_keeps fun b o q hnf=>⟨o,(oth b (norec b o q hnf)).trans q,rfl⟩) hL ((oth ea (Ne.symm tne)).trans go) (fun b o q=>(oth b fun z=>by rw[z,nT]at q;cases q).trans (st b o q)) nb hdt (Array.getElem?_eq_some_iff.mp h1).1 h0 fun h' ⟨x1,x2,x3,x4⟩=> ?_;exact k h' ⟨x1,x2,x3,fun b o q hnf=>x4 b o ((oth b (norec b o q hnf)).trans q) hnf⟩
def FlyD (base:Heap)(l:List Env)(ea:Addr)(cls:Value)(dd:Option Addr)(a0:Value)(h:Heap):Prop:=base.StaysIn h/\base.get? ea=none/\h.FunFrames base l/\BS h base ea cls dd a0
theorem FlyD.there {l:List Env}{cls a0:Value}{dd:Option Addr}{h:Heap} (x:FlyD base l ea cls dd a0 h):∃ob fv,h.get? ea=some ob/\ob.cls=cls/\ob.dict=dd/\ob.data= .fields fv:=by
 obtain⟨_,_,_,ob,fv,_,_,_,go,ec,ed,_,hdt,_⟩:=x;exact⟨ob,fv,go,ec,ed,hdt⟩
theorem CB {cls a0:Value}{dd:Option Addr} (hfr:A.frames=some (env::outer)) (hL:env.frame=some L) (fl:FlyD base (env::outer) ea cls dd a0 s.heap) (k:∀h',FlyD base outer ea cls dd a0 h'->s.heap.UpToSlots h'->Q () { s with heap:=h' }) :
  wpAny M A (leaving env (.ref ea)) Q E s:=by
 obtain⟨f1,f2,f3,f4⟩:=fl;refine yW hfr f3 hL f4 f1 f2 fun h' hl=> ?_;obtain⟨k1,⟨_,_,k2⟩,k3,k4⟩:=hl;exact k h' ⟨k1,f2,k2,k3⟩ k4
end
end L2
namespace L2
open PySem PySem.Spec PyProof.Rows PySem.W
section
variable {P:Program}{w:World}{H H':Hp}{h h':Heap}{a:Addr}{o:HO}
theorem ObjOk.there (x:ObjOk P w H h a o):∃ob,h.get? a=some ob:=by
 cases o with
 | lst xs=>obtain⟨_,_,_,_,e⟩:=x;exact⟨_,e⟩
 | tup xs=>obtain⟨_,_,_,ob,e,_⟩:=x;exact⟨_,e⟩
 | dK kvs=>obtain⟨_,_,_,_,o,_,_,e,_⟩:=x;exact⟨_,e⟩
 | dT kvs=>obtain⟨_,_,_,_,o,_,_,e,_⟩:=x;exact⟨_,e⟩
 | set S n=>obtain⟨o,_,_,_,e,_⟩:=x;exact⟨_,e⟩
 | ins C dx fs=>obtain⟨_,_,_,e,_⟩:=x;exact⟨_,e⟩
 | own y=>exact x
 | xd fs=>obtain⟨_,⟨_,_,_,e,_⟩,_⟩:=x;exact⟨_,e⟩
 | rng lo hi=>obtain⟨_,_,_,e⟩:=x;exact⟨_,e⟩
 | frz ob u=>obtain⟨e,_⟩:=x;exact⟨_,e⟩
 | tbl ps=>exact⟨_,(show h.get? a=some _ from x)⟩
 | met f y=>exact⟨_,(show h.get? a=some _ from x)⟩
 | ext φ=>obtain⟨_,e,_⟩:=x;exact e
end
def CXE (P:Program)(w:World):CXT:=fun outer H s E e s' =>
 ∃ea cls dd a0 H' B,e= .ref ea/\s'.os=s.os/\AllBare s'.gens/\Un (frs outer) [] H H' s.heap s'.heap/\HOk P w H' s'.heap/\H' ea=none/\s.heap.get? ea=none ∧
  FlyD B outer ea cls dd a0 s'.heap/\(∀b,(H' b≠none∨∃o,s.heap.get? b=some o)->b∉frs outer->∃o,B.get? b=some o)/\E cls dd H'
section
variable {X:Cx}{pins:List (Addr×Obj)}{σ:St}{H H1:Hp}{s s1:Shared}{h2 B:Heap}
theorem IQ (I:Inv X pins σ H s)(hex:X.ex=[])(st:B.StaysIn h2)(sb:B.StaysIn s.heap)(up:s.heap.UpToSlots h2)(cov:∀b,(H b≠none∨∃o,X.s₀.heap.get? b=some o)->b∉frs X.stack->∃o,B.get? b=some o)(hst:X.stack=X.env::X.outer)(hf:X.env.frame=some X.env.locals) :
  Un X.fs [] X.H₀ H X.s₀.heap h2/\HOk X.prog X.w H h2:=by
 have hfr:∀b,b∈frs X.stack->b=X.env.locals∨b∈X.fs:=fun b hb=>List.mem_cons.mp (I.stkSub b hb);have nloc:∀b o,X.s₀.heap.get? b=some o->b≠X.env.locals:=fun b o q z=>by
  have e1:=Nat.lt_of_lt_of_le (Heap.lt_size q) I.ok.above;rw[z]at e1;exact Nat.lt_irrefl _ e1
 have same:∀b o,(H b≠none∨∃o,X.s₀.heap.get? b=some o)->b∉frs X.stack->s.heap.get? b=some o->h2.get? b=some o:=fun b o hc hb q=>by
  obtain⟨o',e⟩:=cov b hc hb;have e1:=sb b o' e;rw[q]at e1;cases e1;exact st b _ e
 have ub:=I.base;rw[hex]at ub;refine⟨⟨fun b o q n hb _=> ?_,fun b o q n hb _=> ?_,fun b o q n _=>ub.free b o q n (by simp),fun b o q _=> ?_,ub.tups,ub.frzs,ub.tbls⟩,fun b u e=> ?_⟩
 ·have q1:=ub.keep b o q n hb (by simp);exact same b o (.inr ⟨o,q⟩) (fun z=>(hfr b z).elim (nloc b o q) hb) q1
 ·obtain⟨sl,q1⟩:=ub.slot b o q n hb (by simp);obtain⟨_,o',ho',hd⟩:=I.funs.mem hb;have hd1:∀vs,({ o with slots:=sl }:Obj).data≠ .fields vs:=fun vs z=>by
   rw[q1]at ho';cases ho';exact hd vs z
  obtain⟨sl2,q2⟩:=up b _ q1 hd1;exact⟨sl2,q2⟩
 ·obtain⟨o1,q1⟩:=ub.there b o q (by simp)
  by_cases hb:b∈frs X.stack
  ·obtain⟨_,o',ho',hd⟩:=I.stack.mem hb;rw[q1]at ho';cases ho';obtain⟨sl2,q2⟩:=up b _ q1 hd;exact⟨_,q2⟩
  ·exact⟨o1,same b o1 (.inr ⟨o,q⟩) hb q1⟩
 ·refine(I.hok b u e).stay (fun c v hc q=> ?_) (fun _ q=>q) fun _ _ q=>q;have hn:H c≠none:=by
   rcases hc with z|z
   ·rw[z,e];simp
   ·rw[z];simp
  exact same c v (.inl hn) (fun z=>hn (I.stkFree c z)) q
end
theorem oT {P:Program}{w:World}{K:PySem.W.Frag}{mg:Str->Option Value}{base:Heap}{N:List Str}{qual:Str}{scope:Scope}{f:Addr}{cd:Value}{A:Around}{outer:List Env}{s₀:Shared}{H₀:Hp}{E:XK} :
  iC (CXE P w) (gM (CXE P w) P w K mg base N qual scope f cd A outer s₀ H₀ E) E:=by
 intro pins σ H s e s' I h;obtain⟨ea,cls,dd,a0,H',B,rfl,os,bare,un,hok,hn,new,fl,cov,q⟩:=h;have I':=I.call' (ch:=[]) os un hok bare (fun b z=>absurd z (by simp));have there:∀b o,s₀.heap.get? b=some o->∃o',s.heap.get? b=some o':=fun b o e=>I.base.there b o e (fun z=>absurd (show b∈([]:List Addr) from z) (by simp));show wpAny _ _ (leaving _ _) _ _ s';refine CB (I.ok.frames) rfl fl fun h2 fl2 up=> ?_;obtain⟨un2,hok2⟩:=IQ (B:=B) (h2:=h2) I' rfl fl2.1 fl.1 up (fun b hb hs=>cov b (hb.imp id fun⟨o,e⟩=>there b o e) hs) rfl rfl;refine⟨ea,cls,dd,a0,H',B,rfl,I'.os,bare,un2,hok2,hn,?_,fl2,fun b hb hs=>cov b (hb.imp id fun⟨o,e⟩=>there b o e) fun z=> ?_,q⟩
 ·cases e:s₀.heap.get? ea with
  | none=>rfl
  | some o =>
   obtain⟨o',e'⟩:=there ea o e;rw[new]at e';cases e'
 ·rcases List.mem_cons.mp (I.stkSub b z) with e|hb'
  ·rcases hb with hb|⟨o,e2⟩
   ·exact hb (by rw[e];exact I'.free)
   ·have e1:=Nat.lt_of_lt_of_le (Heap.lt_size e2) I.ok.above;rw[e]at e1;exact Nat.lt_irrefl _ e1
  ·exact hs hb'
end L2
namespace L2
open PySem PySem.Spec PyProof.Rows PySem.W
abbrev bmV:List Value:=[.type "ValueError",.type "Exception",.type "BaseException",.type "object"]
section
variable {X:Cx}{E:XK}{x:Str}{C:Addr}{np cpos pos:Pos}{e:Expr}{es:List Expr}{t:TA}
end
structure FcE (P:Program)(w:World)(K:PySem.W.Frag)(mg:Str->Option Value)(base:Heap)(x:Str)(k:Nat)(ps:List Str)(sp:Sp):Prop where
 ex:∃f fd,mg x=some (.ref f)/\PySem.W.keepIn K (.ref f)=true/\Binds K fd ps []/\aY P w K mg base (CXE P w) k f fd ps sp
structure McE (P:Program)(w:World)(K:PySem.W.Frag)(mg:Str->Option Value)(base:Heap)(C:Addr)(nm:Str)(k:Nat)(sp:Sp):Prop where
 ex:∃f fd ps,Cls K C/\dZ K C nm f/\Binds K fd ps []/\aY P w K mg base (CXE P w) k f fd ps sp
section
variable {X:Cx}{k k':Nat}{sp:Sp}{x m:Str}{p pos apos:Pos}{e o:Expr}{es:List Expr}{ta:TE}{t:TA}{C:Addr}{dvs:List V}{E:XK}{ps:List Str}
theorem QC (F:FcE X.prog X.w X.K X.mg X.base x k ps sp)(hr:Room k' X.A)(hx:iC (CXE X.prog X.w) X E)(ha:PA X (e::es) t)(hk:k<=k':=by decide)(hg:Gl X x:=by rfl)
  (hdb:(x==("__debug__" :Str))=false:=by decide)(he:starEach (e::es) X.env=(false,eval e X.env)::starEach es X.env:=by rfl)(hpl:(backTo pos (starEach es X.env)).any (·.1)=false:=by rfl) :
  PE X (.Call (.Name x p) (e::es) [] pos) (rJ sp [] E t):=by
 obtain⟨f,fd,hm,kp,b,G⟩:=F.ex;exact AL G (hr.mono hk) hg hm kp b .nil hx ha hdb he hpl
def FO (M:Addr->Sp->Prop)(m:Str)(E:XK)(ta:TE)(t:TA):TE:=fun σ H Q=>ta σ H fun x H1=>∃a C dx fs sp,x= .ref a/\H1 a=some (.ins C dx fs)/\fs.lookup m=none/\M C sp/\t σ H1 fun vs H2=>sp (x::vs) H2 Q E
theorem m6 (k:Nat){pl:Sem Bool}(hr:Room k' X.A)(hx:iC (CXE X.prog X.w) X E)(ho:PE X o ta)(ha:PA X (e::es) t)(hk:k<=k':=by decide)
  (hst:starEach (e::es) X.env=(false,eval e X.env)::starEach es X.env:=by rfl)(hpl:(backTo pos (starEach es X.env)).any (·.1)=false:=by rfl)
  (ht:eval (.Call (.Attribute o m apos) (e::es) [] pos) X.env=(do
   let ov ←eval o X.env
   standAt apos.atName
   let (f,first) ←holding [ov] (getMethod ov m pl)
   callWith pos f first (backTo pos (starEach (e::es) X.env)) (backToKw pos (keywordEach [] X.env))):=by rfl) :
  PE X (.Call (.Attribute o m apos) (e::es) [] pos) (FO (fun C sp=>McE X.prog X.w X.K X.mg X.base C m k sp) m E ta t):=by
 intro pins s σ H Q I h;refine PySem.W.methodCall_KW (pl:=pl) (thn (ho pins s σ H _ I h) fun u s1 ⟨x,H1,I1,rx,a,C,dx,fs,sp,ex,ea,l,M,q⟩=> ?_) ht;subst ex;obtain rfl:u=Value.ref a:=rx;obtain⟨f,fd,ps,c,hm,hb,F⟩:=M.ex;refine jB I1 ea c hm l ?_;refine PySem.W.callWith_K (first:=[.ref a]) (h₀:=X.base) I.ok.mod.kin hm.kp (thn (ha pos pins s1 σ H1 _ I1 q) fun us s2 ⟨vs,H2,I2,r,q2⟩=>⟨I2.kIn,?_⟩) hst hpl;exact rK (us:= .ref a::us) (vs:= .ref a::vs) (dvs:=[]) F (hr.mono hk) hb .nil hx I2 (.cons rfl r) (by rw[List.append_nil];exact q2)
end
section
variable {P:Program}{w:World}{K:PySem.W.Frag}{mg:Str->Option Value}{base:Heap}
theorem FunV.okE {x qual:Str}{st:Stmt}{f:Addr}{fd:FuncData}{N ps:List Str}{k:Nat}{sp:Sp} (F:FunV K x qual st f fd) (S:aS N ps (aB st)) (len:∀vs H Q E,sp vs H Q E->vs.length=ps.length)
  (hbody:∀(cdv:Value) (A:Around) (outer:List Env) (s:Shared) (H:Hp) (vs:List V) (Q:VK) (E:XK),Room k (A.deeper (envOfC qual (aB st) s.heap.objs.size f cdv))->sp vs H Q E →
   ∃t,PSs (gM (CXE P w) P w K mg base N qual (aB st) f cdv A outer s H E) (aK st) t/\t { nx:=fun _ H'=>Q .non H',rt:=Q } (fS N vs) H):aY P w K mg base (CXE P w) (k+1) f fd ps sp:=by
 obtain⟨oc,od,dV,kV,doc,pm,an,cdv,ct,osl,rfl,lk,hcd⟩:=F.ex;exact IC lk hcd S len fun A outer s H vs Q E hr h=>hbody cdv A outer s H vs Q E hr h
end
end L2
namespace L2
open PySem PySem.Spec PyProof.Rows PySem.W
def IL (h base:Heap)(ea:Addr)(cls:Value)(dd:Option Addr)(a0 mk:Value):Prop :=
 ∃ob fv tb tbo tv,h.get? ea=some ob/\ob.cls=cls/\ob.dict=dd/\fv[0]? =some a0/\ob.data= .fields fv/\fv[1]? =some (.ref tb)/\base.get? tb=none/\tb≠ea/\h.get? tb=some tbo/\tbo.data= .fields tv/\tv[3]? =some mk
def IT (base:Heap)(l:List Env)(ea:Addr)(cls:Value)(dd:Option Addr)(a0 mk:Value)(h h':Heap):Prop :=
 base.StaysIn h'/\h'.FunFrames base l/\IL h' base ea cls dd a0 mk/\h.UpToSlots h'
section
variable {M:Model}{A:Around}{E:Value->Shared->Prop}{s:Shared}{base:Heap}{env:Env}{outer:List Env}{L ea:Addr}{Q:Unit->Shared->Prop}
theorem zG {ob:Obj}{fv:Array Value}{hd0 a0:Value}{nx:Bool} (hfr:A.frames=some (env::outer)) (ff:s.heap.FunFrames base (env::outer)) (hL:env.frame=some L) (go:s.heap.get? ea=some ob) (st:base.StaysIn s.heap)
  (nb:base.get? ea=none)(hdt:ob.data= .fields fv)(hz:1<fv.size)(h0:fv[0]? =some a0)(k:∀h',IT base (env::outer) ea ob.cls ob.dict a0 (rawInt L) s.heap h'->Q () { s with heap:=h' }) :
  wpAny M A (do let a ←frameOf env;let pl ←entryPlaceOf L nx;let b ←EntryCells.newEntry hd0 a .none (rawInt L) .none pl;setField (.ref ea) 1 b) Q E s:=by
 have nin:ea∉(env::outer).filterMap (·.frame):=fun hm=>by
  obtain⟨_,o,ho,hnf⟩:=ff.mem hm;rw[go]at ho;cases ho;exact hnf fv hdt
 refine wpAny_bind (wpAny_frameOf_fun hfr ff hL fun hA sA=>wpAny_bind (wpAny_entryPlaceOf fun pl hpl=> ?_));unfold EntryCells.newEntry newFields;refine wpAny_bind (wpAny_newObj_type ?_ (hpl.sizeOk5 _ _ _ _ _));have gA:hA.get? ea=some ob:=(sA.2.1 ea nin).trans go;have stA:base.StaysIn hA:=fun b o q=>(sA.2.1 b fun hm=>by rw[(ff.mem hm).1]at q;cases q).trans (st b o q);generalize hN:({ cls:= .type "traceback",dict:=none,data:= .fields ([hd0,.ref L,.none,rawInt L,.none]++(if pl.isEmpty then List.replicate 6 Value.none else pl)).toArray }:Obj)=nob;have hNd:∃tv,nob.data= .fields tv/\tv[3]? =some (rawInt L):=by
  rw[←hN];exact⟨_,rfl,by first|(simp;done)|(rcases hpl with rfl|⟨_,_,_,_,_,_,_,rfl⟩<;>simp)⟩
 obtain⟨tv,hNd,hN3⟩:=hNd;have gB:(hA.push nob).get? ea=some ob:=Heap.get?_push_of_some nob gA;refine wpAny_setField gB hdt hz (k _ ?_);have tne:hA.objs.size≠ea:=Nat.ne_of_gt (Heap.lt_size gA);have dC:=Obj.data_mapFields hdt (·.setIfInBounds 1 (Value.ref hA.objs.size));have gC:=Heap.get?_update_self (Obj.mapFields (·.setIfInBounds 1 (Value.ref hA.objs.size))) gB (Obj.isFreed_of_fields dC);have tC:((hA.push nob).update ea (Obj.mapFields (·.setIfInBounds 1 (Value.ref hA.objs.size)))).get? hA.objs.size=some nob:=(Heap.get?_update_other _ _ (Ne.symm tne)).trans (Heap.get?_push_size hA (Obj.isFreed_of_fields hNd));generalize hF:(hA.push nob).update ea (Obj.mapFields (·.setIfInBounds 1 (Value.ref hA.objs.size)))=hX at gC tC ⊢;have keepF:∀b o,b≠ea->hA.get? b=some o->hX.get? b=some o:=fun b o hb q=>by
  rw[←hF,Heap.get?_update_other _ _ (Ne.symm hb)];exact Heap.get?_push_of_some _ q
 have norec:∀b o,s.heap.get? b=some o->(∀vs,o.data≠ .fields vs)->b≠ea:=fun b o q hnf z=>by
  rw[z,go]at q;cases q;exact hnf fv hdt
 refine⟨fun b o q=>keepF b o (fun z=>by rw[z,nb]at q;cases q) (stA b o q),ff.of_keeps fun b o q hnf=> ?_,?_,fun b o q hnf=> ?_⟩
 ·obtain⟨sl,hs⟩:=sA.2.2 b o q;exact⟨_,keepF b _ (norec b o q hnf) hs,rfl⟩
 ·exact⟨_,_,hA.objs.size,_,_,gC,Obj.cls_mapFields _ _,vI _ _,by rw[Array.getElem?_setIfInBounds_ne (by decide)];exact h0,dC,by simp[hz],stA.fresh,tne,tC,hNd,hN3⟩
 ·obtain⟨sl,hs⟩:=sA.2.2 b o q;exact⟨sl,keepF b _ (norec b o q hnf) hs⟩
theorem E1 {cls a0:Value}{dd:Option Addr} (hfr:A.frames=some (env::outer)) (hL:env.frame=some L) (fl:FlyD base (env::outer) ea cls dd a0 s.heap)
  (k:∀h',IT base (env::outer) ea cls dd a0 (rawInt L) s.heap h'->Q () { s with heap:=h' }):wpAny M A (noteFrame (.ref ea) env) Q E s:=by
 obtain⟨st,nb,ff,ob,fv,tb,tbo,tv,go,ec,ed,h0,hdt,h1,nT,tne,gT,dT,h3⟩:=fl;subst ec ed;unfold noteFrame;simp only[hL];refine wpAny_bind (wpAny_field go hdt h1 ?_);rw[if_pos (show (Value.ref tb !=Value.none)=true from by simp)];refine wpAny_bind (wpAny_field gT dT h3 ?_);rw[if_neg (show ¬((Value.none==rawInt L)=true) from by simp[rawInt])];refine wpAny_bind (wpAny_setField gT dT (Array.getElem?_eq_some_iff.mp h3).1 ?_);have oth:∀b,b≠tb->(s.heap.update tb (Obj.mapFields (·.setIfInBounds 3 Value.none))).get? b=s.heap.get? b:=fun b hb=>Heap.get?_update_other _ _ (Ne.symm hb);have norec:∀b o,s.heap.get? b=some o->(∀vs,o.data≠ .fields vs)->b≠tb:=fun b o q hnf z=>by
  rw[z,gT]at q;cases q;exact hnf tv dT
 refine zG hfr (ff.of_keeps fun b o q hnf=>⟨o,(oth b (norec b o q hnf)).trans q,rfl⟩) hL ((oth ea (Ne.symm tne)).trans go) (fun b o q=>(oth b fun z=>by rw[z,nT]at q;cases q).trans (st b o q)) nb hdt (Array.getElem?_eq_some_iff.mp h1).1 h0 fun h' ⟨x1,x2,x3,x4⟩=> ?_;exact k h' ⟨x1,x2,x3,fun b o q hnf=>x4 b o ((oth b (norec b o q hnf)).trans q) hnf⟩
theorem ET {l:List Env}{cls a0 mk:Value}{dd:Option Addr} (st:base.StaysIn s.heap) (nb:base.get? ea=none) (ff:s.heap.FunFrames base l) (tr:IL s.heap base ea cls dd a0 mk)
  (k:∀h',FlyD base l ea cls dd a0 h'->s.heap.UpToSlots h'->Q () { s with heap:=h' }):wpAny M A (setFlight (.ref ea) none) Q E s:=by
 obtain⟨ob,fv,tb,tbo,tv,go,ec,ed,h0,hdt,h1,nT,tne,gT,dT,h3⟩:=tr;have oth:∀b,b≠tb->(s.heap.update tb (Obj.mapFields (·.setIfInBounds 3 ((none:Option Addr).elim Value.none fun f=>rawInt f)))).get? b=s.heap.get? b:=fun b hb=>Heap.get?_update_other _ _ (Ne.symm hb);have norec:∀b o,s.heap.get? b=some o->(∀vs,o.data≠ .fields vs)->b≠tb:=fun b o q hnf z=>by
  rw[z,gT]at q;cases q;exact hnf tv dT
 have z3:=(Array.getElem?_eq_some_iff.mp h3).1;unfold setFlight;refine wpAny_bind (wpAny_field go hdt h1 ?_);rw[if_pos (show (Value.ref tb !=Value.none)=true from by simp)];refine wpAny_setField gT dT z3 (k _ ⟨fun b o q=>(oth b fun z=>by rw[z,nT]at q;cases q).trans (st b o q),nb,ff.of_keeps fun b o q hnf=>⟨o,(oth b (norec b o q hnf)).trans q,rfl⟩,?_⟩ fun b o q hnf=>⟨o.slots,(oth b (norec b o q hnf)).trans q⟩);exact⟨ob,fv,tb,_,_,(oth ea (Ne.symm tne)).trans go,ec,ed,h0,hdt,h1,nT,tne,Heap.get?_update_self _ gT (Obj.isFreed_of_fields (Obj.data_mapFields dT _)),Obj.data_mapFields dT _,by simp[z3]⟩
end
end L2
namespace L2
open PySem PySem.Spec PyProof.Rows PySem.W
abbrev Cx.inx (X:Cx)(ea:Addr):Cx:={ X with A:=X.A.mark (some (.ref ea)),calm:=false,xe:=fun _ _=>False }
section
variable {X:Cx}{pins:List (Addr×Obj)}{σ:St}{H:Hp}{s:Shared}{ea:Addr}
theorem Cx.Ok.inx (ok:X.Ok)(ea:Addr):(X.inx ea).Ok :=
 ⟨ok.mod,ok.kind,ok.glob,ok.blt,ok.above,ok.inj,ok.has,ok.cab,(fun z=>by cases z),ok.frames,ok.stk,ok.exf,ok.bs,ok.bsz,ok.noex,ok.exfs,ok.funs,ok.frf⟩
theorem Inv.inx (I:Inv X pins σ H s)(ea:Addr):Inv (X.inx ea) pins σ H s:=⟨I.ok.inx ea,I.os,I.bare,I.base,I.loc,I.cell,I.free,I.freeC,I.pin,I.hok,I.len⟩
theorem Inv.outx (ok:X.Ok)(I:Inv (X.inx ea) pins σ H s):Inv X pins σ H s:=⟨ok,I.os,I.bare,I.base,I.loc,I.cell,I.free,I.freeC,I.pin,I.hok,I.len⟩
end
theorem JM {P:Program}{w:World}{fs:List Addr}{H1 H':Hp}{h1 h' h6 B:Heap} (un:Un fs [] H1 H' h1 h') (hok:HOk P w H' h') (cov:∀b,(H' b≠none∨∃o,h1.get? b=some o)->b∉fs->∃o,B.get? b=some o)
  (sb:B.StaysIn h')(st:B.StaysIn h6)(up:h'.UpToSlots h6)(hf:∀b∈fs,H' b=none/\∃o,h'.get? b=some o/\∀vs,o.data≠ .fields vs):Un fs [] H1 H' h1 h6/\HOk P w H' h6:=by
 have same:∀b o,(H' b≠none∨∃o,h1.get? b=some o)->b∉fs->h'.get? b=some o->h6.get? b=some o:=fun b o hc hb q=>by
  obtain⟨o',e⟩:=cov b hc hb;have e1:=sb b o' e;rw[q]at e1;cases e1;exact st b _ e
 have atf:∀b o,b∈fs->h'.get? b=some o->∃sl,h6.get? b=some { o with slots:=sl }:=fun b o hb q=>by
  obtain⟨_,o',e,d⟩:=hf b hb;rw[q]at e;cases e;exact up b _ q d
 refine⟨⟨fun b o q n hb hx=>same b o (.inr ⟨o,q⟩) hb (un.keep b o q n hb hx),fun b o q n hb hx=> ?_,un.free,fun b o q hx=> ?_,un.tups,un.frzs,un.tbls⟩,fun b u e=> ?_⟩
 ·obtain⟨sl,q1⟩:=un.slot b o q n hb hx;obtain⟨sl2,q2⟩:=atf b _ hb q1;exact⟨sl2,q2⟩
 ·obtain⟨o1,q1⟩:=un.there b o q hx
  by_cases hb:b∈fs
  ·obtain⟨sl,q2⟩:=atf b o1 hb q1;exact⟨_,q2⟩
  ·exact⟨o1,same b o1 (.inr ⟨o,q⟩) hb q1⟩
 ·refine(hok b u e).stay (fun c v hc q=> ?_) (fun _ q=>q) fun _ _ q=>q;have hn:H' c≠none:=by
   rcases hc with z|z
   ·rw[z,e];simp
   ·rw[z];simp
  exact same c v (.inl hn) (fun z=>hn (hf c z).1) q
def ExcDAt (a C dx:Addr)(h:Heap):Prop:=∃o vs,h.get? a=some o/\o.cls= .ref C/\o.dict=some dx/\o.data= .fields vs
theorem ExcDAt.at {a C dx:Addr}{h:Heap} (x:ExcDAt a C dx h):wT a C h:=let ⟨o,vs,e,c,_,d⟩:=x;⟨o,vs,e,c,d⟩
def wK (a C:Addr):Option Addr->HO
 | none=> .ext (wT a C)
 | some dx=> .ext (ExcDAt a C dx)
theorem D3 {P:Program}{w:World}{fs:List Addr}{H1 H':Hp}{h1 h6:Heap}{ea C:Addr}{φ:Heap->Prop} (un:Un fs [] H1 H' h1 h6) (hok:HOk P w H' h6) (new:h1.get? ea=none) (hn:H' ea=none) (x:φ h6) (tx:∃o,h6.get? ea=some o)
  (kx:∀g1 g2,φ g1->(∀o,g1.get? ea=some o->g2.get? ea=some o)->φ g2):Un fs [] H1 (upd H' ea (.ext φ)) h1 h6/\HOk P w (upd H' ea (.ext φ)) h6:=by
 have ne1:∀b o,h1.get? b=some o->b≠ea:=fun b o q z=>by rw[z,new]at q;cases q
 refine⟨⟨un.keep,un.slot,fun b o q n hx=>by rw[aG (ne1 b o q)];exact un.free b o q n hx,un.there,fun b xs q=> ?_,fun b o u q=> ?_,fun b ps q=> ?_⟩,fun b u e=> ?_⟩
 ·have z:=un.tups b xs q;rw[aG (aO z hn)];exact z
 ·have z:=un.frzs b o u q;rw[aG (aO z hn)];exact z
 ·obtain⟨m,z⟩:=un.tbls b ps q;exact⟨m,by rw[aG (aO z hn)];exact z⟩
 ·by_cases hb:b=ea
  ·subst hb;rw[aR]at e;cases e;exact⟨x,tx,kx⟩
  ·rw[aG hb]at e;exact(hok b u e).stay (fun _ _ _ q=>q) (fun c q=>by rw[aG (aO q hn)];exact q) fun c xs q=>by rw[aG (aO q hn)];exact q
theorem JC {P:Program}{w:World}{fs:List Addr}{H1 H':Hp}{h1 h6:Heap}{ea C:Addr}{dd:Option Addr}{ob:Obj}{vs:Array Value} (un:Un fs [] H1 H' h1 h6) (hok:HOk P w H' h6) (new:h1.get? ea=none) (hn:H' ea=none) (go:h6.get? ea=some ob) (hc:ob.cls= .ref C) (hd:ob.dict=dd) (hf:ob.data= .fields vs) :
  Un fs [] H1 (upd H' ea (wK ea C dd)) h1 h6/\HOk P w (upd H' ea (wK ea C dd)) h6:=by
 cases dd with
 | none=>exact D3 (C:=C) un hok new hn ⟨ob,vs,go,hc,hf⟩ ⟨_,go⟩ fun g1 g2 ⟨o',vs',q1,q2,q3⟩ k=>⟨o',vs',k _ q1,q2,q3⟩
 | some dx=>exact D3 (C:=C) un hok new hn ⟨ob,vs,go,hc,hd,hf⟩ ⟨_,go⟩ fun g1 g2 ⟨o',vs',q1,q2,q3⟩ k=>⟨o',vs',k _ q1,q2,q3⟩
def XW (X:Cx)(pins:List (Addr×Obj))(σ:St)(R:XK)(e:Value)(s':Shared):Prop:=∃H1 s1,Inv X pins σ H1 s1/\CXE X.prog X.w X.stack H1 s1 R e s'
def PEx (X:Cx)(e:Expr)(t:XK->TE):Prop :=
 ∀(R:XK) (pins:List (Addr×Obj)) (s:Shared) (σ:St) (H:Hp) (Q:VK),Inv X pins σ H s->t R σ H Q->wpAny (model X.prog X.w) X.A (eval e X.env) (EP X pins σ Q) (XW X pins σ R) s
theorem PA.noxx {X:Cx}{es:List Expr}{t:TA} (h:PA X.nox es t) {E:Value->Shared->Prop}:∀(pos:Pos) (pins:List (Addr×Obj)) (s:Shared) (σ:St) (H:Hp) (Q:List V->Hp->Prop),Inv X pins σ H s->t σ H Q->wpAny (model X.prog X.w) X.A (spliced (backTo pos (starEach es X.env))) (AP X pins σ Q) E s :=
 fun pos pins s σ H Q I q=>wpAny_mono (h pos pins s σ H Q (I.wish _) q) (fun _ _ ⟨vs,H',I',r,z⟩=>⟨vs,H',I'.unwish,r,z⟩) fun _ _ z=>False.elim z
theorem PE.noxx {X:Cx}{e:Expr}{t:TE} (h:PE X.nox e t) {E:Value->Shared->Prop}:∀(pins:List (Addr×Obj)) (s:Shared) (σ:St) (H:Hp) (Q:VK),Inv X pins σ H s->t σ H Q->wpAny (model X.prog X.w) X.A (eval e X.env) (EP X pins σ Q) E s :=
 fun pins s σ H Q I q=>wpAny_mono (h pins s σ H Q (I.wish _) q) (fun _ _ ⟨vs,H',I',r,z⟩=>⟨vs,H',I'.unwish,r,z⟩) fun _ _ z=>False.elim z
section
variable {X:Cx}{k k':Nat}{sp:Sp}{x m:Str}{p pos apos:Pos}{e o:Expr}{es:List Expr}{ta:TE}{t:TA}{C f:Addr}{dvs:List V}{ds:List Value}{R:XK}{ps:List Str}{fd:FuncData}
theorem ON {pins:List (Addr×Obj)}{σ:St}{H:Hp}{s:Shared}{Q:VK}{us:List Value}{vs:List V} (F:aY X.prog X.w X.K X.mg X.base (CXE X.prog X.w) k f fd ps sp) (hr:Room k X.A) (hb:Binds X.K fd ps ds) (hd:Vals dvs ds)
  (I:Inv X pins σ H s)(r:Vals vs us)(h:sp (vs++dvs) H Q R):wpAny (model X.prog X.w) X.A (call (.ref f) us) (EP X pins σ Q) (XW X pins σ R) s:=by
 have r2:Vals (vs++dvs) (us++ds):=r.append hd;have hl:(us++ds).length=ps.length:=by rw[←r2.length];exact F.len _ _ _ _ h
 refine wpAny_call (codeAny_mono (F.run X.A X.stack s H ⟨us,[]⟩ (us++ds) (vs++dvs) Q R hr I.env0 (hb s us I.kIn hl) r2 h) fun r s' hq=> ?_);cases r with
 | error e=>exact⟨H,s,I,hq⟩
 | ok fl =>
  cases fl with
  | ret u=>exact I.after hq
  | next=>exact False.elim hq
  | brk=>exact False.elim hq
  | cont=>exact False.elim hq
end
section
variable {X:Cx}{k k':Nat}{sp:Sp}{x m:Str}{p pos apos:Pos}{e o:Expr}{es:List Expr}{ta:TE}{t:TA}{C:Addr}{dvs:List V}{R:XK}
theorem kR (k:Nat){pl:Sem Bool}(hr:Room k' X.A)(ho:PE X.nox o ta)(ha:PA X.nox (e::es) t)(hk:k<=k':=by decide)
  (hst:starEach (e::es) X.env=(false,eval e X.env)::starEach es X.env:=by rfl)(hpl:(backTo pos (starEach es X.env)).any (·.1)=false:=by rfl)
  (ht:eval (.Call (.Attribute o m apos) (e::es) [] pos) X.env=(do
   let ov ←eval o X.env
   standAt apos.atName
   let (f,first) ←holding [ov] (getMethod ov m pl)
   callWith pos f first (backTo pos (starEach (e::es) X.env)) (backToKw pos (keywordEach [] X.env))):=by rfl) :
  PEx X (.Call (.Attribute o m apos) (e::es) [] pos) (fun R=>FO (fun C sp=>McE X.prog X.w X.K X.mg X.base C m k sp) m R ta t):=by
 intro R pins s σ H Q I h;refine PySem.W.methodCall_KW (pl:=pl) (thn (ho.noxx pins s σ H _ I h) fun u s1 ⟨x,H1,I1,rx,a,C,dx,fs,sp,ex,ea,l,M,q⟩=> ?_) ht;subst ex;obtain rfl:u=Value.ref a:=rx;obtain⟨f,fd,ps,c,hm,hb,F⟩:=M.ex;refine jB I1 ea c hm l ?_;refine PySem.W.callWith_K (first:=[.ref a]) (h₀:=X.base) I.ok.mod.kin hm.kp (thn (ha.noxx pos pins s1 σ H1 _ I1 q) fun us s2 ⟨vs,H2,I2,r,q2⟩=>⟨I2.kIn,?_⟩) hst hpl;exact ON (us:= .ref a::us) (vs:= .ref a::vs) (dvs:=[]) F (hr.mono hk) hb .nil I2 (.cons rfl r) (by rw[List.append_nil];exact q2)
end
theorem j4 {X:Cx}{pins:List (Addr×Obj)}{σ:St}{H:Hp}{s:Shared}{M:Model}{A:Around}{E:Value->Shared->Prop}{i:Nat}{n:Str}{pos:Pos}{Q:Unit->Shared->Prop} (I:Inv X pins σ H s) (hN:X.N.Nodup) (hi:X.N[i]? =some n) (hk:X.env.scope.names.lookup n=some .local)
  (h:∀s',Inv X pins (σ.set i none) H s'->Q () s'):wpAny M A (do bindName X.env n .none;unbindBehindTheSuite X.env n pos) Q E s:=by
 obtain⟨m,hn,hl⟩:=id I.loc;have hcls:(X.env.scope.kind== .class||(X.env.scope.kind== .module&&X.env.locals !=X.env.globals))=false:=by rw[I.ok.kind];rfl
 have cne:=I.cne;have tracked:∀{a:Addr}{h':Heap},(∃o,s.heap.get? a=some o/\H a=none)->Heap.SameBut a s.heap h'->HOk X.prog X.w H h':=fun {a h'} ha hs b ob e=>by
  obtain⟨_,_,hfree⟩:=ha;refine(I.hok b ob e).stay (fun c w' hc q=>(hs.2 c ?_).trans q) (fun _ q=>q) fun _ _ q=>q;rintro rfl;rcases hc with rfl|hc
  ·rw[hfree]at e;cases e
  ·rw[hfree]at hc;cases hc
 refine wpAny_nameGoes_keeps hk hn hcls fun h' v hn' hs=> ?_;obtain⟨oL,_,_,hoL,_⟩:=id hn;refine h _ ⟨I.ok,I.os,I.bare,⟨fun b o e n hb hx=> ?_,fun b o e n hb hx=> ?_,I.base.free,fun b o e hx=> ?_,I.base.tups,I.base.frzs,I.base.tbls⟩,⟨_,hn',fun j y v' e1 e2 e3=> ?_⟩,fun y c e=> ?_,I.free,I.freeC,fun p hp=> ?_,tracked ⟨oL,hoL,I.free⟩ hs,by simpa using I.len⟩
 ·exact(hs.2 b (Nat.ne_of_lt (Nat.lt_of_lt_of_le (Heap.lt_size e) I.ok.above))).trans (I.base.keep b o e n hb hx)
 ·obtain⟨sl,e1⟩:=I.base.slot b o e n hb hx;exact⟨sl,(hs.2 b (Nat.ne_of_lt (Nat.lt_of_lt_of_le (Heap.lt_size e) I.ok.above))).trans e1⟩
 ·obtain⟨o',e1⟩:=I.base.there b o e hx;exact⟨o',(hs.2 b (Nat.ne_of_lt (Nat.lt_of_lt_of_le (Heap.lt_size e) I.ok.above))).trans e1⟩
 ·by_cases hj:j=i
  ·subst hj;rw[List.getElem?_set]at e2;simp at e2
  ·rw[List.getElem?_set_ne (Ne.symm hj)]at e2;obtain⟨u',r',q⟩:=hl j y v' e1 e2 e3;refine⟨u',r',?_⟩;rcases q with⟨k,e⟩|⟨k,c,e,z⟩
   ·refine .inl ⟨k,?_⟩;have:y≠n:=fun e=>hj (qW hN e1 (e▸hi));simp[this,e]
   ·exact .inr ⟨k,c,e,z.sameBut hs (cne y c e)⟩
 ·obtain⟨w',z⟩:=I.cell y c e;exact⟨w',z.sameBut hs (cne y c e)⟩
 ·obtain⟨e,n,ne,nf,d⟩:=I.pin p hp;exact⟨(hs.2 p.1 ne).trans e,n,ne,nf,d⟩
section
variable {X:Cx}{i:Nat}{n x:Str}{T:Addr}{np hpos pos epos:Pos}{e:Expr}{tc:XK->TE}{b₀:Stmt}{suite:List Stmt}{ts:TS}
def IS (K:PySem.W.Frag)(T:Addr)(i:Nat)(ts:TS)(D:dU)(σ:St):XK:=fun cls dd H1=>∃C,cls= .ref C/\PySem.W.exmOne K (.ref C) (.ref T)=some true ∧
 ∀ea,H1 ea=none->ts { nx:=fun σ' H'=>D.nx (σ'.set i none) H',rt:=D.rt,bk:=fun σ' H'=>D.bk (σ'.set i none) H',ct:=fun σ' H'=>D.ct (σ'.set i none) H' } (σ.set i (some (.ref ea))) (upd H1 ea (wK ea C dd))
def PXs (X:Cx)(st:List Stmt)(t:XK->TS):Prop :=
 ∀(R:XK) (pins:List (Addr×Obj)) (s:Shared) (σ:St) (H:Hp) (D:dU),Inv X pins σ H s->t R D σ H->wpAny (model X.prog X.w) X.A (execs st X.env) (SP X pins D) (XW X pins σ R) s
def txE (tc:XK->TE):XK->TS:=fun R D σ H=>tc R σ H fun _ H1=>D.nx σ H1
def MO (tc:TT)(t u:XK->TS):XK->TS:=fun R D σ H=>tc σ H fun b H1=>if b=true then t R D σ H1 else u R D σ H1
theorem oH (he:PEx X e tc)(hsw:swapsWith e none epos.line X.env=pure false:=by rfl):PXs X [.Expr e epos] (txE tc):=by
 intro R pins s σ H D I h;refine wpAny_execs_cons (wpAny_Expr_any ?_ I.quiet hsw);exact wpAny_mono (he R pins s σ H _ I h) (fun v s1 ⟨v',H1,I1,r1,q1⟩=>wpAny_execs_nil ⟨σ,H1,I1,q1⟩) fun _ _ z=>z
theorem nD {c:Expr}{a b:List Stmt}{tt:TT}{t u:XK->TS} (hc:PT X.nox c tt) (ha:PXs X a t) (hb:PXs X b u):PXs X [.If c a b pos] (MO tt t u):=by
 intro R pins s σ H D I h;have one:wpAny (model X.prog X.w) X.A (exec (.If c a b pos) X.env) (SP X pins D) (XW X pins σ R) s:=by
  refine wpAny_If (wpAny_mono (hc pins s σ H _ (I.wish _) h) (fun d s1 ⟨H1,I1,q1⟩=> ?_) fun _ _ z=>False.elim z);cases d with
  | true=>exact ha R pins s1 σ H1 D I1.unwish q1
  | false=>exact hb R pins s1 σ H1 D I1.unwish q1
 refine wpAny_execs_cons (wpAny_mono one (fun f s1 q=> ?_) fun _ _ z=>z);cases f with
 | next=>exact wpAny_execs_nil q
 | ret v=>exact q
 | brk=>exact q
 | cont=>exact q
theorem L8 {body:List Stmt}{tb:XK->TS} (hN:X.N.Nodup) (hi:X.N[i]? =some n) (hk:X.env.scope.names.lookup n=some .local) (hst:X.stack=X.env::X.outer) (hfr:X.env.frame=some X.env.locals) (hm:X.mg x=some (.ref T)) (he:PXs X body tb) (hs:∀ea,PSs (X.inx ea) (b₀::suite) ts)
  (hg:Gl X x:=by rfl)(hdb:(x==("__debug__" :Str))=false:=by decide) :
  PS X (.Try body [.ExceptHandler (some (.Name x np)) (some n) (b₀::suite) hpos] [] [] pos) (fun D σ H=>tb (IS X.K T i ts D σ) D σ H):=by
 intro pins s σ H D I h;refine wpAny_Try_except ?_;refine wpAny_mono (he _ pins s σ H _ I h) (fun f s1 q=> ?_) fun ev s' hx=> ?_
 ·cases f with
  | next=>exact wpAny_execs_nil q
  | ret v=>exact q
  | brk=>exact q
  | cont=>exact q
 obtain⟨H1,s1,I1,ea,cls,dd,a0,H',B,rfl,os,bare,un,hok,hn,new,fl,cov,C,rfl,hex,hq⟩:=hx;have frms:∀b∈frs X.stack,H' b=none:=fun b hb=>by
  obtain⟨_,o,ho,_⟩:=I1.stack.mem hb;exact un.free b o ho (I1.stkFree b hb) (by simp)
 have fl0:=fl;rw[hst]at fl0;refine E1 (by rw[I.ok.frames,hst]) hfr fl0 fun h4 ⟨k1,k2,k3,up4⟩=> ?_;refine ET k1 fl.2.1 k2 k3 fun h5 hfl5 up5=> ?_;have step:∀h6,FlyD B (X.env::X.outer) ea (.ref C) dd a0 h6->s'.heap.UpToSlots h6->Inv X pins σ (upd H' ea (wK ea C dd)) { s' with heap:=h6 }:=fun h6 f6 up6=>by
  obtain⟨un2,hok2⟩:=JM un hok cov fl.1 f6.1 up6 fun b hb=>⟨frms b hb,(fl.2.2.1.mem hb).2⟩
  obtain⟨oe,vs,q1,q2,q3,q4⟩:=f6.there;obtain⟨un3,hok3⟩:=JC (C:=C) un2 hok2 new hn q1 q2 q3 q4;exact I1.call' (s':={ s' with heap:=h6 }) (ch:=[]) os un3 hok3 bare fun b z=>absurd z (by simp)
 have I5:=step h5 hfl5 (up4.trans up5);obtain⟨ob,_,hob,hobc,_⟩:=hfl5.there;have LT:Looks (model X.prog X.w) h5 (typeOf (.ref ea)) (.ref C):=by
  rw[←hobc];exact(Looks.ld hob).andThen .now
 refine wpAny_handleBy_cons (codeAny_handlers_test ?_) (by intro q;cases q);refine kQ (X:=X.inx ea) (I5.inx ea) hg hm ?_ hdb;refine(PySem.W.exm_one I5.kIn LT hex).here ?_;show codeAny _ _ _ _ _;refine codeAny_handlers_suite_as ?_;obtain⟨l1,l2,l3,l4⟩:=hfl5;refine ET l1 l2 l3 l4 fun h6 hfl6 up6=> ?_;have I6:=step h6 hfl6 ((up4.trans up5).trans up6);refine jU (X:=X.inx ea) (v:= .ref ea) (I6.inx ea) hN hi (.inl hk) rfl (fun s7 I7=> ?_) (.inr hk);refine wpAny_mono (hs ea pins s7 _ _ _ I7 (hq ea hn)) (fun f s8 hsp=> ?_) fun _ _ z=>False.elim z;cases f with
 | next =>
  obtain⟨σ',H8,I8,q8⟩:=hsp;exact j4 (I8.outx I.ok) hN hi hk fun s9 I9=>⟨_,H8,I9,q8⟩
 | brk =>
  obtain⟨σ',H8,I8,q8⟩:=hsp;exact j4 (I8.outx I.ok) hN hi hk fun s9 I9=>⟨_,H8,I9,q8⟩
 | cont =>
  obtain⟨σ',H8,I8,q8⟩:=hsp;exact j4 (I8.outx I.ok) hN hi hk fun s9 I9=>⟨_,H8,I9,q8⟩
 | ret u =>
  obtain⟨v,σ',H8,I8,r8,q8⟩:=hsp;exact j4 (I8.outx I.ok) hN hi hk fun s9 I9=>⟨v,_,H8,I9,r8,q8⟩
end
def IsX (H:Hp)(a C:Addr):Prop:=∃φ,H a=some (.ext φ)/\∀h,φ h->wT a C h
def F7 (K:PySem.W.Frag):List V->Hp->VK->Prop:=fun xs H Q=>∃a C c u b,xs=[.ref a,c]/\IsX H a C/\dW K C/\(c= .ref u/\PySem.W.kitOne K (.ref C) (.ref u)=some b)/\Q (.bl b) H
def A0 (K:PySem.W.Frag):List V->Hp->VK->Prop:=fun xs H Q=>∃a C n b,xs=[.ref a,.ty n]/\IsX H a C/\dW K C/\PySem.W.kitOne K (.ref C) (.type n)=some b/\Q (.bl b) H
theorem F4 {X:Cx}:cX X (.builtin "isinstance") (F7 X.K):=by
 intro pins s σ H xs us Q I r h;obtain⟨a,C,c,u,b,rfl,hs,k,⟨rfl,e⟩,q⟩:=h;obtain⟨v1,v2,rfl,r1,r2⟩:=BR r;obtain rfl:v1= .ref a:=r1;obtain rfl:v2= .ref u:=r2;obtain⟨φ,hs,hφ⟩:=hs;obtain⟨z,_⟩:=I.hok a _ hs;exact kia_one (yB k) I.kIn (hφ _ z) e (fun z=>by cases z) fun tk=>⟨.bl b,H,I.tok tk,rfl,q⟩
theorem C6 {X:Cx}:cX X (.builtin "isinstance") (A0 X.K):=by
 intro pins s σ H xs us Q I r h;obtain⟨a,C,n,b,rfl,hs,k,e,q⟩:=h;obtain⟨v1,v2,rfl,r1,r2⟩:=BR r;obtain rfl:v1= .ref a:=r1;obtain rfl:v2= .type n:=r2;obtain⟨φ,hs,hφ⟩:=hs;obtain⟨z,_⟩:=I.hok a _ hs;exact kia_one (yB k) I.kIn (hφ _ z) e (fun z=>by cases z) fun tk=>⟨.bl b,H,I.tok tk,rfl,q⟩
end L2
namespace L2
open PySem PySem.Spec PyProof.Rows PySem.W
section
variable {X:Cx}{x:Str}{j:Nat}{p pos:Pos}{e v1 v2:Expr}{es:List Expr}{te:TE}{t:TJ}
end
end L2
namespace L2
open PySem PySem.W
theorem v4:bootBuiltins "ValueError" =some (.type "ValueError"):=PyProof.Rows.Boot.«ValueError»
section
variable {K:Frag}{C D:Addr}{cd:ClassData}{b:Bool}
theorem D1 (c:clsIn K D=some cd)(t:typeIn K (.ref D)=some (.type "type"))(sb:subIn K (.ref D) (.type "BaseException")=some true)(s:subIn K (.ref C) (.ref D)=some b):exmOne K (.ref C) (.ref D)=some b:=by
 unfold exmOne;rw[if_pos (by rw[sb];rfl)];show (if ((clsIn K D).isSome&&typeIn K (.ref D)==some (.type "type"))=true then subIn K (.ref C) (.ref D) else none)=_;rw[c,t,if_pos (by rfl)];exact s
theorem CV {n:String}(hm:kitMeta n=true)(s:subIn K (.ref C) (.type n)=some b):kitOne K (.ref C) (.type n)=some b:=by
 unfold kitOne;rw[if_neg (by intro h;cases (beq_iff_eq.mp h))];show (if kitMeta n=true then subIn K (.ref C) (.type n) else none)=_;rw[if_pos hm];exact s
end
theorem iI:kitMeta "ValueError" =true:=by decide +kernel
variable {K:Frag}{H:Hp}{Q:VK}
theorem JV {a C D dx:Addr}{b:Bool} (e:H a=some (.ext (ExcDAt a C dx))) (k:dW K C) (i:kitOne K (.ref C) (.ref D)=some b) (h:Q (.bl b) H):F7 K [.ref a,.ref D] H Q:=⟨a,C,.ref D,D,b,rfl,⟨_,e,fun _ z=>z.at⟩,k,⟨rfl,i⟩,h⟩
theorem F2 {a C dx:Addr}{n:String}{b:Bool} (e:H a=some (.ext (ExcDAt a C dx))) (k:dW K C) (i:kitOne K (.ref C) (.type n)=some b) (h:Q (.bl b) H):A0 K [.ref a,.ty n] H Q:=⟨a,C,n,b,rfl,⟨_,e,fun _ z=>z.at⟩,k,i,h⟩
end L2
namespace L2
open PySem PySem.W
theorem iG {X:Cx}(K:Frag)(h:X.K=K):cX X (.builtin "isinstance") (F7 K):=by
 subst h;exact F4
theorem AO {X:Cx}(K:Frag)(h:X.K=K):cX X (.builtin "isinstance") (A0 K):=by
 subst h;exact C6
end L2
set_option maxHeartbeats 4000000
namespace L2
open PySem PySem.Spec PyProof.Rows
section
variable {X:Cx}{pins:List (Addr×Obj)}{σ:St}{H:Hp}{s:Shared}
end
section
variable {X:Cx}{CX:CXT}{k k':Nat}{sp:Sp}{E:XK}{x y:Str}{p pos:Pos}{e:Expr}{es:List Expr}{t:TA}{i:Nat}{c:Addr}
end
section
variable {P:Program}{w:World}{K:PySem.W.Frag}{mg:Str->Option Value}{base:Heap}
end
section
variable {X:Cx}{k k':Nat}{x:Str}{p pos:Pos}{e:Expr}{es:List Expr}{t:TA}
end
section
variable {X:Cx}{args:Arguments}{body:Expr}{lsc:Scope}{pos:Pos}{y:Str}{c cL PL:Addr}
end
end L2
namespace L2
open PySem PySem.Spec PyProof.Rows
section
variable {P:Program}{w:World}{K:PySem.W.Frag}{mg:Str->Option Value}{base:Heap}
end
section
variable {X:Cx}{o:Expr}{to:TE}{ap pos:Pos}
theorem yI:∀{xs:List V}{us:List Value},xs.length=us.length->(∀(i:Nat) x u,xs[i]? =some x->us[i]? =some u->RelV x u)->Vals xs us
 | [],[],_,_=> .nil
 | [],_::_,h,_=>by simp at h
 | _::_,[],h,_=>by simp at h
 | x::xs,u::us,h,k=> .cons (k 0 x u rfl rfl) (yI (by simpa using h) fun i y w e1 e2=>k (i+1) y w (by simpa using e1) (by simpa using e2))
end
section
variable {X:Cx}{k k':Nat}{sp:Sp}{x m:Str}{p pos apos:Pos}{e:Expr}{es:List Expr}{t:TA}{dvs:List V}
end
end L2
namespace L2
open PySem PySem.Spec PyProof.Rows
section
variable {P:Program}{w:World}
end
section
variable {P:Program}{w:World}{K:PySem.W.Frag}{mg:Str->Option Value}{base:Heap}
end
section
variable {X:Cx}{st:Stmt}{rest:List Stmt}{t:TS}{u:dU->(St->V->Hp->Prop)->St->Hp->Prop}{e:Expr}{te:TE}{pos:Pos}
end
section
variable {P:Program}{w:World}{K:PySem.W.Frag}{mg:Str->Option Value}{base:Heap}
end
def NL (M:Addr->Sp->Prop)(m:Str)(E:XK)(t:TA)(σ:St)(Q:VK):VK:=fun x H=>∃a C dx fs sp,x= .ref a/\H a=some (.ins C dx fs)/\fs.lookup m=none/\M C sp/\t σ H fun vs H2=>sp (x::vs) H2 Q E
theorem OE {M:Addr->Sp->Prop}{m:Str}{E:XK}{ta:TE}{t:TA}{σ:St}{H:Hp}{Q:VK} (h:ta σ H (NL M m E t σ Q)):FO M m E ta t σ H Q:=h
theorem LK {M:Addr->Sp->Prop}{m:Str}{E:XK}{t:TA}{σ:St}{H:Hp}{Q:VK}{a C dx:Addr}{fs:List (Str×V)}{sp:Sp} (e:H a=some (.ins C dx fs)) (l:fs.lookup m=none) (F:M C sp) (h:t σ H fun vs H2=>sp (.ref a::vs) H2 Q E):NL M m E t σ Q (.ref a) H :=
 ⟨a,C,dx,fs,sp,rfl,e,l,F,h⟩
section
open PySem.W
variable {X:Cx}{i j:Nat}{n x y:Str}{T:Addr}{np yp hpos pos epos:Pos}{e:Expr}{tc:XK->TE}{b₀:Stmt}{suite:List Stmt}{ts:TS}
end
end L2
namespace L2
open PySem PySem.Spec PyProof.Rows
end L2
namespace L2
open PySem PySem.Spec PyProof.Rows
section
variable {X:Cx}
def ND (K:PySem.W.Frag):R2:=fun x y H Q=>∃a b xs,x= .ref a/\y= .ref b/\SqL K H a xs/\SqL K H b []/\Q (.bl (!xs.isEmpty)) H
theorem N7 (hu:X.A.units<cLine):OpR X (compareOp .NotEq) (ND X.K):=by
 intro pins s σ H x y v u Q I rx ry h;obtain⟨a,b,xs,rfl,rfl,ha,hb,q⟩:=h;cases rx;cases ry;obtain⟨its,r,pl,hz⟩:=I.list ha;obtain⟨its2,r2,pl2,_⟩:=I.list hb;cases r2;cases xs with
 | nil =>
  cases r;refine SeqAt.RcNeAt.lists (e:=fun _=>true) pl.isList pl2.isList rfl hu (fun j h1=>absurd h1 (Nat.not_lt_zero _)) X.prog X.w X.xe _ ⟨.bl false,H,I,rfl,q⟩
 | cons x xs =>
  cases r with
  | cons r1 r2 =>
   exact SeqAt.RcNeAt.lists_lengths pl.isList pl2.isList (by simp) hu X.prog X.w X.xe _ ⟨.bl true,H,I,rfl,q⟩
theorem NH {K:PySem.W.Frag}{H:Hp}{Q:VK}{a b:Addr}{xs:List V} (ha:SqL K H a xs) (hb:SqL K H b []) (h:Q (.bl (!xs.isEmpty)) H):ND K (.ref a) (.ref b) H Q:=⟨a,b,xs,rfl,rfl,ha,hb,h⟩
end
end L2
namespace L2
open PySem PySem.Spec PyProof.Rows
section
variable {κ:Type}[DecidableEq κ]
def bJ (kvs:List (κ×V))(k:κ):Option V:=(kvs.find? fun kv=>decide (kv.1=k)).map (·.2)
def cM (kvs:List (κ×V))(k:κ)(v:V):List (κ×V) :=
 if (kvs.any fun kv=>decide (kv.1=k))=true then kvs.map (fun kv=>if kv.1=k then (kv.1,v) else kv) else kvs++[(k,v)]
theorem cG {p:κ×V}{r:List (κ×V)}{k:κ} (e:p.1=k):bJ (p::r) k=some p.2:=by simp[bJ,List.find?_cons,e]
theorem b7 {p:κ×V}{r:List (κ×V)}{k:κ} (e:¬p.1=k):bJ (p::r) k=bJ r k:=by simp[bJ,List.find?_cons,e]
theorem gN (k:κ):∀kvs:List (κ×V),(kvs.any fun kv=>decide (kv.1=k))=(bJ kvs k).isSome
 | []=>rfl
 | p::r=>by
  rw[List.any_cons]
  by_cases e:p.1=k
  ·simp only[cG e,decide_eq_true e,Bool.true_or,Option.isSome_some]
  ·rw[b7 e,decide_eq_false e,Bool.false_or];exact gN k r
theorem w5 (k j:κ)(y:V):∀kvs:List (κ×V),bJ (kvs.map fun kv=>if kv.1=k then (kv.1,y) else kv) j=(bJ kvs j).map fun x=>if j=k then y else x
 | []=>rfl
 | p::r=>by
  have ih:=w5 k j y r;rw[List.map_cons]
  by_cases h:p.1=k
  ·rw[if_pos h]
   by_cases e:p.1=j
   ·rw[cG (p:=(p.1,y)) e,cG e,Option.map_some,if_pos (e.symm.trans h)]
   ·rw[b7 (p:=(p.1,y)) e,b7 e,ih]
  ·rw[if_neg h]
   by_cases e:p.1=j
   ·rw[cG (p:=p) e,cG e,Option.map_some,if_neg (fun z=>h (e.trans z))]
   ·rw[b7 (p:=p) e,b7 e,ih]
theorem u6 (k j:κ)(y:V):∀kvs:List (κ×V),bJ kvs k=none->bJ (kvs++[(k,y)]) j=if j=k then some y else bJ kvs j
 | [],_=>by
  by_cases e:k=j
  ·rw[if_pos e.symm];exact cG (p:=(k,y)) e
  ·rw[if_neg (fun z=>e z.symm)];exact b7 (p:=(k,y)) e
 | p::r,hn=>by
  rw[List.cons_append];have hk:¬p.1=k:=fun z=>by rw[cG z]at hn;cases hn
  rw[b7 hk]at hn;have ih:=u6 k j y r hn
  by_cases e:p.1=j
  ·rw[cG e,cG e,if_neg (fun z=>hk (e.trans z))]
  ·rw[b7 e,b7 e,ih]
theorem yD (kvs:List (κ×V))(k j:κ)(y:V):bJ (cM kvs k y) j=if j=k then some y else bJ kvs j:=by
 unfold cM
 by_cases a:(kvs.any fun kv=>decide (kv.1=k))=true
 ·rw[if_pos a,w5];rw[gN]at a
  by_cases e:j=k
  ·obtain⟨x,hx⟩:=Option.isSome_iff_exists.mp a;rw[if_pos e,e,hx,Option.map_some,if_pos rfl]
  ·rw[if_neg e];cases bJ kvs j with
   | none=>rfl
   | some x=>rw[Option.map_some,if_neg e]
 ·rw[if_neg a];refine u6 k j y kvs ?_;rw[gN]at a;cases q:bJ kvs k with
  | none=>rfl
  | some x=>rw[q]at a;exact(a rfl).elim
theorem hJ (kvs:List (κ×V))(k:κ)(v:V):(cM kvs k v).length<=kvs.length+1:=by
 unfold cM
 split
 ·rw[List.length_map];lia
 ·rw[List.length_append,List.length_cons,List.length_nil];lia
theorem pX {kvs:List (κ×V)}{k:κ} (v:V) (h:bJ kvs k=none):cM kvs k v=kvs++[(k,v)]:=by
 unfold cM;rw[gN,h];exact if_neg (by decide)
theorem RelO.isSome_eq {o:Option V}{u:Option Value} (r:RelO o u):o.isSome=u.isSome:=by
 cases o with
 | none=>cases u with
  | none=>rfl
  | some _=>exact(show False from r).elim
 | some _=>cases u with
  | none=>exact(show False from r).elim
  | some _=>rfl
theorem KV.val {kvs:List (κ×V)}{vs:List (κ×Value)} (r:KV kvs vs) (k:κ):RelO (bJ kvs k) (valueAt vs k):=by
 unfold KV at r
 induction r with
 | nil=>exact True.intro
 | @cons p q ps qs h t ih =>
  obtain⟨h1,h2⟩:=h
  by_cases e:p.1=k
  ·have e':q.1=k:=h1.symm.trans e;have b:valueAt (q::qs) k=some q.2:=by simp[valueAt,List.find?_cons,e']
   rw[cG e,b];exact h2
  ·have e':¬q.1=k:=fun z=>e (h1.trans z);have b:valueAt (q::qs) k=valueAt qs k:=by simp[valueAt,List.find?_cons,e']
   rw[b7 e,b];exact ih
theorem KV.any {kvs:List (κ×V)}{vs:List (κ×Value)} (r:KV kvs vs) (k:κ):(kvs.any fun kv=>decide (kv.1=k))=vs.any fun kv=>decide (kv.1=k):=by
 unfold KV at r
 induction r with
 | nil=>rfl
 | cons h t ih=>rw[List.any_cons,List.any_cons,ih,h.1]
theorem KV.repl {kvs:List (κ×V)}{vs:List (κ×Value)} (r:KV kvs vs) (k:κ) {y:V}{u:Value} (ry:RelV y u) :
  KV (kvs.map fun kv=>if kv.1=k then (kv.1,y) else kv) (vs.map fun kv=>if kv.1=k then (kv.1,u) else kv):=by
 unfold KV at r ⊢
 induction r with
 | nil=>exact .nil
 | @cons p q ps qs h t ih =>
  rw[List.map_cons,List.map_cons];refine .cons ?_ ih;obtain⟨h1,h2⟩:=h
  by_cases e:p.1=k
  ·rw[if_pos e,if_pos (h1.symm.trans e)];exact⟨h1,ry⟩
  ·rw[if_neg e,if_neg (fun z=>e (h1.trans z))];exact⟨h1,h2⟩
theorem KV.put {kvs:List (κ×V)}{vs:List (κ×Value)} (r:KV kvs vs) (k:κ) {y:V}{u:Value} (ry:RelV y u):KV (cM kvs k y) (stored vs k u):=by
 unfold cM stored;rw[r.any k]
 by_cases e:(vs.any fun kv=>decide (kv.1=k))=true
 ·rw[if_pos e,if_pos e];exact r.repl k ry
 ·rw[if_neg e,if_neg e];exact Paired.snoc r ⟨rfl,ry⟩
theorem KV.length {kvs:List (κ×V)}{vs:List (κ×Value)} (r:KV kvs vs):kvs.length=vs.length:=Paired.length r
end
theorem oX {P:Program}{w:World}{k:Key}{u:Value} (r:RelV (kV k) u):(bH P w).is k u=true:=by
 cases k with
 | inl i=>obtain⟨t,e⟩:=(show ∃t,u=Value.int i t from r);subst e;exact y4 P w i t
 | inr x=>obtain⟨t,e⟩:=(show ∃t,u=Value.str x t from r);subst e;exact y9 P w x t
theorem u0 {P:Program}{w:World}:∀{ks:List Key}{us:List Value},Vals (ks.map kV) us->ItemsAre (bH P w) ks us
 | [],_,r=>by rw[List.map_nil]at r;cases r;exact .nil
 | k::ks,_,r=>by
  rw[List.map_cons]at r;cases r with
  | cons h t=>exact .cons (oX h) (u0 t)
abbrev KT (H:Hp):List (List Key×V)->List (List Key×Addr×Value)->Prop:=Paired fun p q=>p.1=q.1/\H q.2.1=some (.tup (p.1.map kV))/\RelV p.2 q.2.2
theorem KT.val {H:Hp}{kvs:List (List Key×V)}{xs:List (List Key×Addr×Value)} (r:KT H kvs xs) (k:List Key):RelO (bJ kvs k) ((atKey xs k).map (·.2)):=by
 induction r with
 | nil=>exact True.intro
 | @cons p q ps qs h t ih =>
  obtain⟨h1,_,h2⟩:=h
  by_cases e:p.1=k
  ·have e':q.1=k:=h1.symm.trans e;have b:atKey (q::qs) k=some q.2:=by simp[atKey,List.find?_cons,e']
   rw[cG e,b];exact h2
  ·have e':¬q.1=k:=fun z=>e (h1.trans z);have b:atKey (q::qs) k=atKey qs k:=by simp[atKey,List.find?_cons,e']
   rw[b7 e,b];exact ih
theorem KT.repl {H:Hp}{kvs:List (List Key×V)}{xs:List (List Key×Addr×Value)} (r:KT H kvs xs) (k:List Key) {y:V}{u:Value} (ry:RelV y u) :
  KT H (kvs.map fun kv=>if kv.1=k then (kv.1,y) else kv) (xs.map (putAt k u)):=by
 induction r with
 | nil=>exact .nil
 | @cons p q ps qs h t ih =>
  rw[List.map_cons,List.map_cons];refine .cons ?_ ih;obtain⟨h1,h2,h3⟩:=h;unfold putAt
  by_cases e:p.1=k
  ·rw[if_pos e,if_pos (h1.symm.trans e)];exact⟨h1,h2,ry⟩
  ·rw[if_neg e,if_neg (fun z=>e (h1.trans z))];exact⟨h1,h2,h3⟩
theorem KT.put {H:Hp}{kvs:List (List Key×V)}{xs:List (List Key×Addr×Value)} (r:KT H kvs xs) (k:List Key) {b:Addr}{y:V}{u:Value} (hb:H b=some (.tup (k.map kV))) (ry:RelV y u) :
  KT H (cM kvs k y) (storedH xs k b u):=by
 have e:(kvs.any fun kv=>decide (kv.1=k))=(atKey xs k).isSome:=by
  rw[gN,(r.val k).isSome_eq,Option.isSome_map]
 unfold cM storedH;rw[e]
 by_cases q:(atKey xs k).isSome=true
 ·rw[if_pos q,if_pos q];exact r.repl k ry
 ·rw[if_neg q,if_neg q];exact Paired.snoc r ⟨rfl,hb,ry⟩
theorem KT.keeps {H H':Hp}{kvs:List (List Key×V)}{xs:List (List Key×Addr×Value)} (r:KT H kvs xs) (ht:∀b ys,H b=some (.tup ys)->H' b=some (.tup ys)):KT H' kvs xs :=
 Paired.mapP r fun _ _ z=>⟨z.1,ht _ _ z.2.1,z.2.2⟩
section
variable {P:Program}{w:World}{H:Hp}{h:Heap}{a:Addr}
theorem HG {u:HO}(ok:HOk P w H h)(e:Rd H a u):ObjOk P w H h a u:=e.ok ok
theorem i8 {kvs:List (Key×V)}(ok:HOk P w H h)(e:Rd H a (.dK kvs)):kvs.length<=sizeLine/\(a==sysModules)=false/\∃vs,KV kvs vs/\h.DictOf (bH P w) a vs :=
 show ObjOk P w H h a (.dK kvs) from HG ok e
theorem PK {kvs:List (Key×V)}(ok:HOk P w H h)(e:H a=some (.dK kvs)):kvs.length<=sizeLine/\(a==sysModules)=false/\∃vs,KV kvs vs/\h.DictOf (bH P w) a vs:=i8 ok (.inl e)
theorem mW {ks:List Key}(ok:HOk P w H h)(e:H a=some (.tup (ks.map kV))):(tupleKind (bH P w)).is h ks a:=by
 obtain⟨_,its,r,o,h1,h2,n,h3⟩:=(show ObjOk P w H h a (.tup (ks.map kV)) from ok a _ e)
 exact⟨o,its.toArray,n,h1,h2,h3,by simpa using u0 r⟩
theorem oR {kvs:List (List Key×V)}(ok:HOk P w H h)(e:Rd H a (.dT kvs)):kvs.length<=sizeLine/\(a==sysModules)=false ∧
  ∃xs,KT H kvs xs/\h.DictOfH (tupleKind (bH P w)) a xs:=by
 obtain⟨z,y,xs,r,o,es,ep,h1,h2,h3,h4,h5⟩:=(show ObjOk P w H h a (.dT kvs) from HG ok e)
 refine⟨z,y,xs,r,o,es,ep,h1,h2,h3,h4,fun x hx=> ?_,h5⟩;have all:∀{l:List (List Key×V)}{m:List (List Key×Addr×Value)},KT H l m->∀x∈m,(tupleKind (bH P w)).is h x.1 x.2.1:=by
  intro l m q
  induction q with
  | nil=>intro x hx;exact nomatch hx
  | @cons p q ps qs hq t ih =>
   intro x hx;rcases List.mem_cons.mp hx with e|hx
   ·subst e;exact mW ok (by rw[←hq.1];exact hq.2.1)
   ·exact ih x hx
 exact all r x hx
theorem QG {kvs:List (List Key×V)}(ok:HOk P w H h)(e:H a=some (.dT kvs)):kvs.length<=sizeLine/\(a==sysModules)=false ∧
  ∃xs,KT H kvs xs/\h.DictOfH (tupleKind (bH P w)) a xs:=oR ok (.inl e)
end
def iO (H:Hp)(a:Addr)(y:V)(r:Option V):Prop :=
 (∃kvs k,Rd H a (.dK kvs)/\y=kV k/\r=bJ kvs k)∨∃kvs k b,Rd H a (.dT kvs)/\y= .ref b/\H b=some (.tup (k.map kV))/\r=bJ kvs k
def DPut (H:Hp)(a:Addr)(y v:V)(H':Hp):Prop :=
 (∃kvs k,H a=some (.dK kvs)/\y=kV k/\kvs.length<sizeLine/\H'=upd H a (.dK (cM kvs k v))) ∨
 ∃kvs k b,H a=some (.dT kvs)/\y= .ref b/\H b=some (.tup (k.map kV))/\kvs.length<sizeLine/\H'=upd H a (.dT (cM kvs k v))
theorem DPut.k {H:Hp}{a:Addr}{kvs:List (Key×V)}{k:Key}{v:V} (e:H a=some (.dK kvs)) (hl:kvs.length<sizeLine):DPut H a (kV k) v (upd H a (.dK (cM kvs k v))):= .inl ⟨kvs,k,e,rfl,hl,rfl⟩
section
variable {X:Cx}{pins:List (Addr×Obj)}{σ:St}{H:Hp}{s:Shared}{a:Addr}{y v:V}{u r:Value}{o:Option V}{A:Around}{E:Value->Shared->Prop}
theorem Inv.big (I:Inv X pins σ H s):sysModules<s.heap.objs.size:=by
 have h:mainGlobals<s.heap.objs.size:=(I.mod.glob.keeps I.bk).lt;exact Nat.lt_trans (by decide) h
theorem vM {Q:Value->Shared->Prop}(hu:A.units+1<cLine)(I:Inv X pins σ H s)(g:iO H a y (some v))(ry:RelV y u)(h:∀w' s',Inv X pins σ H s'->RelV v w'->Q w' s') :
  wpAny (model X.prog X.w) A (getItem (.ref a) u) Q E s:=by
 rcases g with⟨kvs,k,e,ey,l⟩|⟨kvs,k,b,e,ey,eb,l⟩
 ·subst ey;obtain⟨z,hd,vs,rel,dd⟩:=i8 I.hok e;obtain⟨w',hw,rw'⟩:=RelO.some_of (v:=v) (o:=valueAt vs k) (by rw[l];exact rel.val k);exact wpAny_getItem_of (oX ry) dd.mapOf hw (h w' _ (I.tok _) rw')
 ·subst ey;cases (show u=Value.ref b from ry);obtain⟨z,hd,xs,rel,dd⟩:=oR I.hok e;obtain⟨w',hw,rw'⟩:=RelO.some_of (v:=v) (o:=(atKey xs k).map (·.2)) (by rw[l];exact rel.val k);obtain⟨p,hp,hp2⟩:=Option.map_eq_some_iff.mp hw;refine wpAny_getItem_heap (tupleKind_room_in1 hu) (mW I.hok eb) dd hp ?_;rw[hp2];exact h w' _ (I.tok _) rw'
theorem QX {Q:Value->Shared->Prop}(hu:A.units+1<cLine)(I:Inv X pins σ H s)(g:iO H a y o)(ry:RelV y u)(h:∀s',Inv X pins σ H s'->Q (.bool o.isSome) s') :
  wpAny (model X.prog X.w) A (compareOp .In u (.ref a)) Q E s:=by
 rcases g with⟨kvs,k,e,ey,l⟩|⟨kvs,k,b,e,ey,eb,l⟩
 ·subst ey;obtain⟨z,hd,vs,rel,dd⟩:=i8 I.hok e;refine wpAny_in_of (oX ry) hd dd.mapOf ?_;rw[←(rel.val k).isSome_eq,←l];exact h _ (I.tok _)
 ·subst ey;cases (show u=Value.ref b from ry);obtain⟨z,hd,xs,rel,dd⟩:=oR I.hok e;refine wpAny_in_heap (tupleKind_room_in1 hu) (mW I.hok eb) hd dd ?_;have q:=(rel.val k).isSome_eq;rw[Option.isSome_map]at q;rw[←q,←l];exact h _ (I.tok _)
theorem JF {Q:Value->Shared->Prop}(hu:A.units+1<cLine)(I:Inv X pins σ H s)(g:iO H a y o)(ry:RelV y u)(h:∀s',Inv X pins σ H s'->Q (.bool (!o.isSome)) s') :
  wpAny (model X.prog X.w) A (compareOp .NotIn u (.ref a)) Q E s:=by
 rcases g with⟨kvs,k,e,ey,l⟩|⟨kvs,k,b,e,ey,eb,l⟩
 ·subst ey;obtain⟨z,hd,vs,rel,dd⟩:=i8 I.hok e;refine wpAny_notIn_of (oX ry) hd dd.mapOf ?_;rw[←(rel.val k).isSome_eq,←l];exact h _ (I.tok _)
 ·subst ey;cases (show u=Value.ref b from ry);obtain⟨z,hd,xs,rel,dd⟩:=oR I.hok e;refine wpAny_notIn_heap (tupleKind_room_in1 hu) (mW I.hok eb) hd dd ?_;have q:=(rel.val k).isSome_eq;rw[Option.isSome_map]at q;rw[←q,←l];exact h _ (I.tok _)
theorem zU {h':Heap}{t':Nat}{ob:HO} (I:Inv X pins σ H s) (mu:Mut (H a)) (hs:Heap.SameBut a s.heap h') (he:∃q,h'.get? a=some q) (new:ObjOk X.prog X.w (upd H a ob) h' a ob) :
  Inv X pins σ (upd H a ob) { s with heap:=h',toks:=t' } :=
 I.write (x:=a) (e:=a) mu (.inl rfl) (fun b q hb z=>(hs.2 b hb).trans z) he new
theorem C8 {P:Program}{w:World}{H':Hp}{h':Heap}{kvs:List (Key×V)}{vs:List (Key×Value)} (z:kvs.length<=sizeLine) (hd:(a==sysModules)=false) (rel:KV kvs vs) (dd:h'.DictOf (bH P w) a vs) :
  ObjOk P w H' h' a (.dK kvs):=⟨z,hd,vs,rel,dd⟩
theorem vE {H':Hp}{Q:Unit->Shared->Prop} (hu:A.units+1<cLine) (I:Inv X pins σ H s) (g:DPut H a y v H') (ry:RelV y u) (rv:RelV v r) (h:∀s',Inv X pins σ H' s'->Q () s') :
  wpAny (model X.prog X.w) A (setItem (.ref a) u r) Q E s:=by
 rcases g with⟨kvs,k,e,ey,l,eH⟩|⟨kvs,k,b,e,ey,eb,l,eH⟩
 ·subst ey eH;obtain⟨z,hd,vs,rel,dd⟩:=PK I.hok e;have hz:vs.length<=sizeLine:=by rw[←rel.length];exact z
  have hl:(cM kvs k v).length<=sizeLine:=by have:=hJ kvs k v;lia
  refine wpAny_setItem_pairs (hsz:=hz) (oX ry) dd fun h' dd' hs=>h _ ?_;have he:∃q,h'.get? a=some q:=let ⟨q,_,_,hq,_⟩:=dd';⟨q,hq⟩;exact zU I (by rw[e];exact True.intro) hs he (C8 hl hd (rel.put k rv) dd')
 ·subst ey eH;cases (show u=Value.ref b from ry);obtain⟨z,hd,xs,rel,dd⟩:=QG I.hok e;have hz:xs.length<=sizeLine:=by rw[←Paired.length rel];exact z
  have hl:(cM kvs k v).length<=sizeLine:=by have:=hJ kvs k v;lia
  refine wpAny_setItem_heap (hsz:=hz) (tupleKind_room_in1 hu) (mW I.hok eb) dd fun h' dd' hs=>h _ ?_;obtain⟨q,es,ep,hq,h2,h3,h4,_,h5⟩:=dd';refine zU I (by rw[e];exact True.intro) hs ⟨q,hq⟩ ⟨hl,hd,_,(rel.put k eb rv).keeps fun c ys ec=> ?_,q,es,ep,hq,h2,h3,h4,h5⟩;rw[aG (P7 ec e (fun z=>nomatch z))];exact ec
end
section
variable {X:Cx}{pins:List (Addr×Obj)}{σ:St}{H:Hp}{s:Shared}{a:Addr}{kvs:List (Key×V)}{k:Key}{u:Value}{A:Around}{E:Value->Shared->Prop}
end
def OL (i:Expr):Prop:=∀ov iv,subscripted i false ov iv=operate [ov,iv] (getItem ov iv)
theorem KQ {prog:Program}{w:World}{A:Around}{E:Value->Shared->Prop}{s:Shared}{env:Env}{value slice:Expr}{pos:Pos}{T id:String}{Q:Value->Shared->Prop}
  (hl:typeLookup (.type T) "__getitem__" =pure (some (.builtin id)))(hs:OL slice)
  (h:wpAny (model prog w) A (eval value env) (fun o s₁=>wpAny (model prog w) A (eval slice env) (fun i s₂=>s₂.TypeIs o T/\wpAny (model prog w) A (getItem o i) Q E s₂) E s₁) E s) :
  wpAny (model prog w) A (eval (.Subscript value slice pos) env) Q E s:=by
 refine Subscript_ (wpAny_mono h (fun o s₁ h₁=>wpAny_mono h₁ (fun i s₂ h₂=> ?_) fun _ _ x=>x) fun _ _ x=>x);obtain⟨hT,h₂⟩:=h₂;unfold subscriptTail;refine wpAny_bind ?_;rw[getitemInPython_of_ne hT.not_modules];refine wpAny_bind (wpAny_specialOf hT hl ?_);have fin:wpAny (model prog w) A (subscripted slice false o i) (fun r s₃=>wpAny (model prog w) A (letTemporaryGo value o r >>= fun _=>pure r) Q E s₃) E s₂:=by
  rw[hs o i];exact wpAny_operating (wpAny_mono h₂ (fun r s₃ h₃=>wpAny_bind (wpAny_letTemporaryGo (wpAny_pure h₃))) fun _ _ x=>x)
 first
  | exact wpAny_pure (wpAny_bind fin)
  | exact wpAny_bind (wpAny_pure (wpAny_bind fin))
  | exact wpAny_bind fin
theorem zC {X:Cx}{pins:List (Addr×Obj)}{σ:St}{H:Hp}{s:Shared}{a:Addr}{y:V}{o:Option V} (I:Inv X pins σ H s) (g:iO H a y o):s.TypeIs (.ref a) "dict" :=by
 rcases g with⟨kvs,k,e,_,_⟩|⟨kvs,k,b,e,_,_,_⟩
 ·obtain⟨_,_,vs,_,dd⟩:=i8 I.hok e;exact dd.typeIs
 ·obtain⟨_,_,xs,_,dd⟩:=oR I.hok e;exact dd.typeIs
def HH (td ty:TE):TE:=fun σ H Q=>td σ H fun x H1=>ty σ H1 fun y H2=>∃a v,x= .ref a/\iO H2 a y (some v)/\Q v H2
def N3 (ty td:TE):TE:=fun σ H Q=>ty σ H fun y H1=>td σ H1 fun x H2=>∃a o,x= .ref a/\iO H2 a y o/\Q (.bl o.isSome) H2
def z6 (ty td:TE):TE:=fun σ H Q=>ty σ H fun y H1=>td σ H1 fun x H2=>∃a o,x= .ref a/\iO H2 a y o/\Q (.bl (!o.isSome)) H2
def IA (td ty tv:TE):TS:=fun D σ H=>tv σ H fun v H1=>td σ H1 fun x H2=>ty σ H2 fun y H3=>∃a H4,x= .ref a/\DPut H3 a y v H4/\D.nx σ H4
def HE (td ty tv:TE)(rd:V->V->Hp->VK->Prop):TS:=fun D σ H=>td σ H fun x H1=>ty σ H1 fun y H2=>∃a v,x= .ref a/\iO H2 a y (some v) ∧
 tv σ H2 fun y2 H3=>rd v y2 H3 fun z H4=>∃H5,DPut H4 a y z H5/\D.nx σ H5
section
variable {X:Cx}{o i e value:Expr}{pos pos' tpos:Pos}{td ty tv:TE}
theorem fD (hu:X.A.units+1<cLine)(ho:PE X o td)(hi:PE X i ty)(hs:OL i):PE X (.Subscript o i pos) (HH td ty):=by
 intro pins s σ H Q I h;refine KQ PySem.F.slot_dict_getitem.lookup hs (thn (ho pins s σ H _ I h) fun u s1 ⟨x,H1,I1,rx,q1⟩=>thn (hi pins s1 σ H1 _ I1 q1) fun iv s2 ⟨y,H2,I2,ry,a,v,ex,g,q2⟩=> ?_);subst ex;obtain rfl:u=Value.ref a:=rx;exact⟨zC I2 g,vM hu I2 g ry fun w' s3 I3 rw'=>⟨v,H2,I3,rw',q2⟩⟩
theorem OD (hu:X.A.units+1<cLine)(hi:PE X i ty)(ho:PE X o td):PC X .In i o (N3 ty td):=by
 intro pins s σ H Q I h;refine thn (hi pins s σ H _ I h) fun iv s1 ⟨y,H1,I1,ry,q1⟩=>thn (ho pins s1 σ H1 _ I1 q1) fun u s2 ⟨x,H2,I2,rx,a,ov,ex,g,q2⟩=> ?_;subst ex;obtain rfl:u=Value.ref a:=rx;exact QX hu I2 g ry fun s3 I3=>⟨.bl ov.isSome,H2,I3,rfl,q2⟩
theorem j9 (hu:X.A.units+1<cLine)(hi:PE X i ty)(ho:PE X o td):PC X .NotIn i o (z6 ty td):=by
 intro pins s σ H Q I h;refine thn (hi pins s σ H _ I h) fun iv s1 ⟨y,H1,I1,ry,q1⟩=>thn (ho pins s1 σ H1 _ I1 q1) fun u s2 ⟨x,H2,I2,rx,a,ov,ex,g,q2⟩=> ?_;subst ex;obtain rfl:u=Value.ref a:=rx;exact JF hu I2 g ry fun s3 I3=>⟨.bl (!ov.isSome),H2,I3,rfl,q2⟩
theorem tH (hu:X.A.units+1<cLine)(ho:PE X o td)(hi:PE X i ty)(hv:PE X value tv)(hs:swapsWith value (some (.Subscript o i pos')) pos.line X.env=pure false) :
  PS X (.Assign [.Subscript o i pos'] value pos) (IA td ty tv):=by
 intro pins s σ H D I h;refine wpAny_Assign_Subscript (thn (hv pins s σ H _ I h) fun r s1 ⟨v,H1,I1,rv,q1⟩=>thn (ho pins s1 σ H1 _ I1 q1) fun u s2 ⟨x,H2,I2,rx,q2⟩=>thn (hi pins s2 σ H2 _ I2 q2) fun iv s3 ⟨y,H3,I3,ry,a,H4,ex,g,q3⟩=> ?_) hs;subst ex;obtain rfl:u=Value.ref a:=rx;exact vE hu I3 g ry rv fun s4 I4=>⟨σ,H4,I4,q3⟩
theorem LX {op:Operator}{rd:V->V->Hp->VK->Prop} (hu:X.A.units+1<cLine) (ho:PE X o td) (hi:PE X i ty) (hv:PE X value tv) (hop:N8 X op rd)
  (ha:∀ov iv new,augStore i ov iv new=(do holding [new,ov,iv] (setItem ov iv new);release [new,ov,iv] [];pure .next)):PS X (.AugAssign (.Subscript o i tpos) op value pos) (HE td ty tv rd):=by
 intro pins s σ H D I h;refine wpAny_AugAssign_SubscriptAny (thn (ho pins s σ H _ I h) fun u s1 ⟨x,H1,I1,rx,q1⟩=>thn (hi pins s1 σ H1 _ I1 q1) fun iv s2 ⟨y,H2,I2,ry,a,v,ex,g,q2⟩=> ?_) ha;subst ex;obtain rfl:u=Value.ref a:=rx;refine vM hu I2 g ry fun w' s3 I3 rw'=>thn (hv pins s3 σ H2 _ I3 q2) fun w2 s4 ⟨y2,H3,I4,ry2,q3⟩=>thn (hop pins s4 σ H3 v y2 w' w2 _ I4 rw' ry2 q3) fun w3 s5 ⟨z,H4,I5,rz,H5,g5,q4⟩=> ?_;exact vE hu I5 g5 ry rz fun s6 I6=>⟨σ,H5,I6,q4⟩
end
theorem GK {P:Program}{w:World}{H:Hp} (h:Heap) (hb:sysModules<h.objs.size):ObjOk P w H (h.push { cls:= .type "dict",data:= .dict #[] }) h.objs.size (.dK []) :=
 ⟨Nat.zero_le _,beq_eq_false_iff_ne.mpr (Ne.symm (Nat.ne_of_lt hb)),[],.nil,Heap.DictOf.new h⟩
def CZ:TE:=fun _ H Q=>∀p,H p=none->Q (.ref p) (upd H p (.dK []))
section
variable {X:Cx}{pos:Pos}
theorem pY:PE X (.Dict [] [] pos) CZ:=fun pins s σ H Q I h =>
 wpAny_Dict_empty ⟨.ref s.heap.objs.size,_,I.laid (a:=s.heap.objs.size) (o:= .dK []) (t':=s.toks) (fun _ _ q=>Heap.get?_push_of_some _ q) (Nat.le_refl _) (GK s.heap I.big),rfl,h _ (I.hok.fresh (Nat.le_refl _))⟩
end
def fI (kvs more:List (Key×V)):List (Key×V):=more.foldl (fun acc kv=>cM acc kv.1 kv.2) kvs
theorem KV.merge:∀{more:List (Key×V)}{rs:List (Key×Value)}{kvs:List (Key×V)}{vs:List (Key×Value)},KV more rs->KV kvs vs->KV (fI kvs more) (merged vs rs):=by
 intro more rs kvs vs r;unfold KV at r
 induction r generalizing kvs vs with
 | nil=>intro q;exact q
 | @cons p q ps qs h t ih =>
  intro r0;have e:KV (cM kvs p.1 p.2) (stored vs q.1 q.2):=by
   have:=r0.put p.1 h.2;rw[←h.1];exact this
  exact ih e
theorem lZ:∀(more kvs:List (Key×V)),(fI kvs more).length<=kvs.length+more.length
 | [],kvs=>by show kvs.length<=kvs.length+0;lia
 | p::r,kvs=>by
  have h1:=lZ r (cM kvs p.1 p.2);have h2:=hJ kvs p.1 p.2;show (fI (cM kvs p.1 p.2) r).length<=_;rw[List.length_cons];lia
def IsD (H:Hp)(a:Addr):Prop:=(∃kvs,Rd H a (.dK kvs))∨∃kvs,Rd H a (.dT kvs)
theorem EK {X:Cx}{pins:List (Addr×Obj)}{σ:St}{H:Hp}{s:Shared}{a:Addr} (I:Inv X pins σ H s) (d:IsD H a) :
  s.TypeIs (.ref a) "dict" /\(∀b,Value.ref a= .ref b->∃ob,s.heap.get? b=some ob/\ob.dict=none)/\(a==sysModules)=false:=by
 rcases d with⟨kvs,e⟩|⟨kvs,e⟩
 ·obtain⟨_,hd,vs,_,dd⟩:=i8 I.hok e;refine⟨dd.typeIs,fun b q=> ?_,hd⟩;cases q;obtain⟨ob,_,_,h1,h2,_⟩:=dd;exact⟨ob,h1,h2.2.1⟩
 ·obtain⟨_,hd,xs,_,dd⟩:=oR I.hok e;refine⟨dd.typeIs,fun b q=> ?_,hd⟩;cases q;obtain⟨ob,_,_,h1,h2,_⟩:=dd;exact⟨ob,h1,h2.2.1⟩
section
variable {X:Cx}{pins:List (Addr×Obj)}{σ:St}{H:Hp}{s:Shared}{a:Addr}{y d:V}{u r:Value}{o:Option V}{A:Around}{E:Value->Shared->Prop}
end
section
variable {X:Cx}{o e f:Expr}{apos cpos:Pos}{td ty tx:TE}
end
section
variable {X:Cx}{pins:List (Addr×Obj)}{σ:St}{H:Hp}{s:Shared}{a:Addr}{kvs:List (Key×V)}{A:Around}{E:Value->Shared->Prop}
end
section
variable {X:Cx}{pins:List (Addr×Obj)}{σ:St}{H:Hp}{s:Shared}{a:Addr}{y:V}{u:Value}{A:Around}{E:Value->Shared->Prop}
end
end L2
namespace L2
open PySem PySem.Spec PyProof.Rows
section
variable {κ:Type}[DecidableEq κ]
end
end L2
namespace L2
open PySem PySem.W PyProof.Rows
end L2
namespace L2
open PySem PySem.W PyProof.Rows PySem.Calls
section
variable {prog:Program}{w:World}{A:Around}{E:Value->Shared->Prop}{s:Shared}
end
end L2
namespace L2
open PySem PySem.W PyProof.Rows
section
variable {prog:Program}{w:World}{A:Around}{s:Shared}
end
section
variable {X:Cx}{pins:List (Addr×Obj)}{σ:St}{H:Hp}{s:Shared}
end
end L2
namespace L2
open PySem PySem.W PyProof.Rows
section
variable {prog:Program}{w:World}{A:Around}{E:Value->Shared->Prop}{s:Shared}{d it:Addr}{o:Obj}{es:Array DictEntry}{ep i:Nat}
theorem x9 {Q:Value->Shared->Prop}(hd:(d==sysModules)=false)(ho:s.heap.get? d=some o)(hc:o.ExactDict)(hq:o.data= .dict es ep)
  (k:Q (.ref s.heap.objs.size) { s with heap:=s.heap.push { cls:= .type "dict_keyiterator",data:= .fields #[.ref d,.int 0 0,.int es.size 0,.int ep 0] } }):wpAny (model prog w) A (pyIter (.ref d)) Q E s:=by
 have T:s.TypeIs (.ref d) "dict" :=⟨o,ho,hc.1⟩
 refine wpAny_pyIter_slot T F.slot_dict_iter (wpAny_call_entry F.slot_dict_iter T F.entry_dict_iter ?_ (F.args_dict_iter_1 _));unfold Builtin.«dict.__iter__» Builtin.Dict.dictSlotNone;refine wpAny_bind (wpAny_bind (wpAny_notOrdered_dict T (wpAny_pure ?_)));show wpAny _ A.in1 (Builtin.Dict.showsAll d >>= _) _ _ s;unfold Builtin.Dict.showsAll;rw[if_neg (fun z=>by rw[hd]at z;cases z)];refine wpAny_bind (wpAny_pure (wpAny_bind (wpAny_dictEntries ho hq (wpAny_bind (wpAny_dictEpoch ho hq ?_)))));exact wpAny_bind (wpAny_newObj_type (wpAny_pure ⟨_,rfl,"dict_keyiterator",_,⟨_,Heap.get?_push_size _ rfl,rfl⟩,F.slot_dict_keyiterator_next.lookup,k⟩))
theorem FZ {Q:Option Value->Shared->Prop}{e:DictEntry} (hit:s.heap.IsKeyIter it d i es.size ep) (ho:s.heap.get? d=some o) (hq:o.data= .dict es ep) (hx:es[i]? =some e)
  (k:∀h',h'.IsKeyIter it d (i+1) es.size ep->Heap.SameBut it s.heap h'->Q (some e.key) { s with heap:=h' }):wpAny (model prog w) A (pyNext (.ref it)) Q E s:=by
 obtain⟨oi,hi,ci,di⟩:=id hit;have T:=hit.typeIs;unfold pyNext;refine wpAny_bind (wpAny_attempt (wpAny_callSpecial?_slot (name:=Str.ofString "__next__") T F.slot_dict_keyiterator_next (wpAny_call_entry F.slot_dict_keyiterator_next T F.entry_dict_keyiterator_next ?_ (F.args_dict_keyiterator_next_1 _))));refine wpAny_bind (wpAny_pure (wpAny_bind (wpAny_bind ?_)))
 first|refine wpAny_bind (wpAny_typeNameOfWhole_keyiter T (wpAny_pure (wpAny_bind (wpAny_fieldsOf hi di ?_))))|refine wpAny_bind (wpAny_typeNameOf_keyiter T (wpAny_pure (wpAny_bind (wpAny_fieldsOf hi di ?_))))
 simp only[show Builtin.Dict_items.ownsTuple "dict_keyiterator" =false by decide,Bool.false_eq_true,if_false];show wpAny _ A.in1 (if (Value.ref d==Value.none)=true then _ else _) _ _ s;rw[if_neg (show ¬(Value.ref d==Value.none)=true from Bool.false_ne_true)];refine wpAny_bind (wpAny_pure (wpAny_bind (wpAny_dictEntries ho hq ?_)));rw[if_neg (by simp)];refine wpAny_bind (wpAny_pure (wpAny_bind (wpAny_dictEpoch ho hq ?_)));rw[if_neg (by simp)];refine wpAny_pure ?_;simp only[show ¬((i:Int)<0) from by lia,if_false,Int.toNat_natCast,hx];refine wpAny_bind ?_
 first|refine wpAny_bind (wpAny_typeNameOfWhole_keyiter T (wpAny_pure (wpAny_bind (wpAny_isOneOf_keyiter T ?_))))|refine wpAny_bind (wpAny_typeNameOf_keyiter T (wpAny_pure (wpAny_bind (wpAny_isOneOf_keyiter T ?_))))
 show wpAny _ A.in1 (setField (.ref it) 1 (rawInt ((i:Int)+1)) >>= _) _ _ s;refine wpAny_bind (wpAny_setField hi di (by simp) ?_);have H2:(s.heap.update it (Obj.mapFields (·.setIfInBounds 1 (rawInt ((i:Int)+1))))).IsKeyIter it d (i+1) es.size ep :=
  ⟨_,Heap.get?_update_self _ hi (Obj.isFreed_of_fields (Obj.data_mapFields di _)),(Obj.cls_mapFields ..).trans ci,(Obj.data_mapFields di _).trans (by simp[rawInt])⟩
 refine wpAny_bind (wpAny_holding (wpAny_bind (wpAny_isOneOf_keyiter (s:={ s with heap:=s.heap.update it (Obj.mapFields (·.setIfInBounds 1 (rawInt ((i:Int)+1)))) }) H2.typeIs ?_)));show wpAny _ A.in1 (pure e.key) _ _ _;exact wpAny_pure (wpAny_pure ⟨_,rfl,wpAny_pure (k _ H2 (Heap.SameBut.update ..))⟩)
theorem KC {Q:Option Value->Shared->Prop}(hh:A.handled=none)(hit:s.heap.IsKeyIter it d i es.size ep)(ho:s.heap.get? d=some o)(hq:o.data= .dict es ep)(hx:es.size<=i)
  (k:∀h',Heap.ExtBut it s.heap h'->Q none { s with heap:=h' }):wpAny (model prog w) A (pyNext (.ref it)) Q E s:=by
 obtain⟨oi,hi,ci,di⟩:=id hit;have T:=hit.typeIs;unfold pyNext;refine wpAny_bind (wpAny_attempt (wpAny_callSpecial?_slot (name:=Str.ofString "__next__") T F.slot_dict_keyiterator_next (wpAny_call_entry F.slot_dict_keyiterator_next T F.entry_dict_keyiterator_next ?_ (F.args_dict_keyiterator_next_1 _))));refine wpAny_bind (wpAny_pure (wpAny_bind (wpAny_bind ?_)))
 first|refine wpAny_bind (wpAny_typeNameOfWhole_keyiter T (wpAny_pure (wpAny_bind (wpAny_fieldsOf hi di ?_))))|refine wpAny_bind (wpAny_typeNameOf_keyiter T (wpAny_pure (wpAny_bind (wpAny_fieldsOf hi di ?_))))
 simp only[show Builtin.Dict_items.ownsTuple "dict_keyiterator" =false by decide,Bool.false_eq_true,if_false];show wpAny _ A.in1 (if (Value.ref d==Value.none)=true then _ else _) _ _ s;rw[if_neg (show ¬(Value.ref d==Value.none)=true from Bool.false_ne_true)];refine wpAny_bind (wpAny_pure (wpAny_bind (wpAny_dictEntries ho hq ?_)));rw[if_neg (by simp)];refine wpAny_bind (wpAny_pure (wpAny_bind (wpAny_dictEpoch ho hq ?_)));rw[if_neg (by simp)];refine wpAny_pure ?_;simp only[show ¬((i:Int)<0) from by lia,if_false,Int.toNat_natCast,Array.getElem?_eq_none hx];refine wpAny_bind ?_
 first|refine wpAny_bind (wpAny_typeNameOfWhole_keyiter T (wpAny_pure ?_))|refine wpAny_bind (wpAny_typeNameOf_keyiter T (wpAny_pure ?_))
 show wpAny _ A.in1 (setField (.ref it) 0 .none >>= _) _ _ s;refine wpAny_bind (wpAny_setField hi di (by simp) ?_);show wpAny _ A.in1 (newExc (.type "StopIteration") [] >>= _) _ _ _;refine wpAny_bind ?_;simp only[newExc,newTuple];refine wpAny_bind (wpAny_newObj_type (wpAny_bind (m:=firstArgMember _ _) (wpAny_of_eq (a:=Value.none) (by first|rfl|(simp only[firstArgMember];rfl)) (wpAny_newObj_type ?_ (by size_fits)))) (by size_fits));simp only[raiseNew];refine wpAny_bind (wpAny_handled ?_);rw[show A.in1.handled=none from hh];refine wpAny_bind (wpAny_pure (wpAny_throw ?_));refine wpAny_bind (wpAny_isInstance (b:=true) (T:= "StopIteration") ⟨_,Heap.get?_push_size _ rfl,rfl⟩ isSubtype_stop ?_);exact wpAny_pure (k _ (((Heap.SameBut.update ..).extBut.push _).push _))
end
end L2
namespace L2
open PySem PySem.W PyProof.Rows
def Itk (a:Addr)(o:Obj)(kvs:List (Key×V)):It :=
 ⟨fun i H=>H a=some (.frz o (.dK kvs))/\i<kvs.length,fun i H x H'=>H'=H/\∃k v,kvs[i]? =some (k,v)/\x=kV k,fun i H=>H a=some (.frz o (.dK kvs))/\kvs.length<=i⟩
section
variable {X:Cx}{tg:Expr}
theorem Inv.freeze {pins:List (Addr×Obj)}{σ:St}{H:Hp}{s:Shared}{a:Addr}{u:HO}{o:Obj} (I:Inv X pins σ H s) (mu:Mut (some u)) (e:H a=some u) (ho:s.heap.get? a=some o) (new:ObjOk X.prog X.w (upd H a (.frz o u)) s.heap a (.frz o u)):Inv X pins σ (upd H a (.frz o u)) s :=
 I.write (t':=s.toks) (h':=s.heap) (by rw[e];exact mu) (.inl rfl) (fun b u _ z=>z) ⟨_,ho⟩ new
end
end L2
namespace L2
open PySem PySem.W PyProof.Rows
section
variable {X:Cx}{e c:Expr}{te:TE}{lo hi:Option Expr}{tl th ts:TO}{pos p2:Pos}
end
def oN:V->Bool
 | .ref _=>true
 | x=>fT x
section
variable {X:Cx}
end
section
variable {X:Cx}{pins:List (Addr×Obj)}{σ:St}{H:Hp}{s:Shared}
end
section
variable {X:Cx}
end
end L2
namespace L2
open PySem PySem.W PyProof.Rows
section
variable {K:PySem.W.Frag}{ti:TT}{te:TE}{σ:St}{ci:List Nat}{rest:St}{fin:List V->Hp->Prop}{H:Hp}{a:Addr}
end
end L2
namespace L2
open PySem PySem.W PyProof.Rows
theorem Room.units1 {k:Nat}{A:Around} (r:Room k A):A.units+1<cLine:=by have:=r.un;lia
section
variable {K:PySem.W.Frag}{H:Hp}{Q:VK}
end
section
variable {H:Hp}{Q:VK}{σ:St}
end
end L2
namespace L2
open PySem PySem.W PyProof.Rows
section
variable {X:Cx}{K:PySem.W.Frag}
theorem jF {es:List Expr}{k:Nat}{t:TGs}{n:Nat}{pos:Pos} (hc:X.calm=true) (h:PGs X es t) (hK:X.K=K:=by rfl)
  (hn:(assignEach es X.env).length=n:=by rfl)(hst:(assignEach es X.env).findIdx? (·.1)=none:=by rfl):PG X (.Tuple es k pos) (yA K n t):=by
 subst hK;exact yE hc h hn hst
end
def IF (nx:St->Hp->Prop)(σ:St)(x v:V):VK:=fun y H3=>∃a H4,x= .ref a/\DPut H3 a y v H4/\nx σ H4
def HX (Q:VK)(x:V):VK:=fun y H2=>∃a v,x= .ref a/\iO H2 a y (some v)/\Q v H2
section
variable {K:PySem.W.Frag}{H:Hp}{Q:VK}{σ:St}{nx rt bk ct:St->Hp->Prop}
theorem KP {td ty tv:TE}{nx:St->Hp->Prop}{rt:VK}{bk ct:St->Hp->Prop} (h:tv σ H fun v H1=>td σ H1 fun x H2=>ty σ H2 (IF nx σ x v)):IA td ty tv ⟨nx,rt,bk,ct⟩ σ H:=h
theorem LN {td ty:TE}(h:td σ H fun x H1=>ty σ H1 (HX Q x)):HH td ty σ H Q:=h
theorem m7 {p:Addr}{xs:List V}{i:Int} (e:SqL K H p xs) (h0:0<=i) (h1:i<xs.length) (h:∀v∈xs,Q v H):GT K (.ref p) (.int i) H Q:=by
 have hl:i.toNat<xs.length:=by lia
 have e1:=oO (xs:=xs) (j:=i.toNat) (v:=xs[i.toNat]) (List.getElem?_eq_getElem hl);rw[show ((i.toNat:Nat):Int)=i by lia]at e1;exact⟨p,xs,i,_,rfl,rfl,e,e1,h _ (List.getElem_mem hl)⟩
end
end L2
namespace L2
open PySem PySem.W PyProof.Rows
theorem mI:entryFor table "dict_itemiterator.__iter__" =some Builtin.«dict_keyiterator.__iter__»:=entryFor_alias (id':= "dict_keyiterator.__iter__") (by kernel_rfl) rfl (by decide +kernel) (by kernel_rfl)
theorem t7 {P:Program}{w:World}{k:Key}{u:Value} (h:(bH P w).is k u=true):RelV (kV k) u:=by
 rcases b3 h with⟨i,t,rfl,rfl⟩|⟨x,t,rfl,rfl⟩
 ·exact⟨t,rfl⟩
 ·exact⟨t,rfl⟩
theorem sI {κ:Type}{kvs:List (κ×V)}{vs:List (κ×Value)}{i:Nat} (h:KV kvs vs) (hi:i<kvs.length):∃k v u,kvs[i]? =some (k,v)/\vs[i]? =some (k,u)/\RelV v u:=by
 induction h generalizing i with
 | nil=>exact absurd hi (Nat.not_lt_zero _)
 | @cons x y l m h t ih =>
  cases i with
  | zero=>exact⟨x.1,x.2,y.2,rfl,by rw[h.1];rfl,h.2⟩
  | succ i=>exact ih (Nat.lt_of_succ_lt_succ hi)
theorem vC {P:Program}{w:World}{κ:Type} [DecidableEq κ] {knd:KeyKind P w κ}:∀{es:List DictEntry}{kvs:List (κ×Value)}{i:Nat}{k:κ}{u:Value},Pairs knd es kvs->kvs[i]? =some (k,u)->∃e,es[i]? =some e/\knd.is k e.key=true/\e.val=u
 | _,_,0,_,_,.cons h1 h2 _,z=>by cases z;exact⟨_,rfl,h1,h2⟩
 | _,_,i+1,_,_,.cons _ _ t,z=>by
  obtain⟨e,e1,e2⟩:=vC (i:=i) t (by simpa using z);exact⟨e,by simpa using e1,e2⟩
 | _,_,_,_,_,.nil,z=>by simp at z
theorem CF {P:Program}{w:World}{K:PySem.W.Frag}{tg:Expr} (a it:Addr) {o:Obj}{es:Array DictEntry}{ep:Nat} (kvs:List (Key×V)) (hd:o.data= .dict es ep) (hz:es.size=kvs.length) :
  nG P w K tg (Itk a o kvs) [it] it (fun i h=>h.IsKeyIter it a i es.size ep) where
 mem:=by simp
 obj:=fun i h st b hb=>by
  have e:b=it:=by simpa using hb
  subst e;obtain⟨ob,e,c,d⟩:=st;exact⟨ob,e,fun v z=>by rw[d]at z;cases z⟩
 keep:=fun i h h' st k=>st.at fun ob e=>k it (by simp) ob e
 item:=by
  intro X hP hw hK hc i pins s σ H E I hf st hg;subst hP hw hK;obtain⟨ha,hi⟩:=hg;obtain⟨ho,z,y,vs,r,o',es',ep',h1,h2,h3,h4,h5,h6⟩:=(show ObjOk X.prog X.w H s.heap a (.frz o (.dK kvs)) from I.hok a _ ha)
  rw[ho]at h1;cases h1;rw[hd]at h3;cases h3;obtain⟨k,v,u,e1,e2,e3⟩:=sI r hi;obtain⟨e,f6,f7,f8⟩:=vC h5 e2;obtain⟨f0,f1,f2,f3,f4,f5⟩:=hf it (by simp);refine FZ st ho hd (e:=e) (by simpa using f6) fun h' st' sb=> ?_;have I1:Inv X pins σ H { s with heap:=h' }:=I.turned (t':=s.toks) (fun b o hb e=>(sb.2 b hb).trans e) f0 f1 f3 f4 f5;exact⟨_,rfl,letGo_keyiter (s':={ s with heap:=h' }) st' ⟨kV k,H,I1,t7 f7,⟨rfl,k,v,e1,rfl⟩,st',fun b hb=>(hf b hb).1⟩⟩
 done:=by
  intro X hP hw hK hc i pins s σ H E I hf st hg;subst hP hw hK;obtain⟨ha,hi⟩:=hg;obtain⟨ho,hok⟩:=(show ObjOk X.prog X.w H s.heap a (.frz o (.dK kvs)) from I.hok a _ ha)
  obtain⟨f0,f1,f2,f3,f4,f5⟩:=hf it (by simp);exact KC (I.ok.hd hc) st ho hd (by lia) fun h' eb=>⟨rfl,I.turned (t':=s.toks) (fun b o hb e=>eb b o hb e) f0 f1 f3 f4 f5⟩
 self:=fun _ _ _ _ _ st h=>wpAny_pyIter_keyiter st h
def ES (td:TE):TI:=fun σ H R=>td σ H fun x H1=>∃a kvs,x= .ref a/\H1 a=some (.dK kvs)/\∀o,R (Itk a o kvs) (upd H1 a (.frz o (.dK kvs)))
section
variable {X:Cx}{tg:Expr}
theorem qF {l:Expr}{td:TE} (hl:PE X l td):PI X tg l (ES td):=by
 intro pins s σ H R I h;refine thn (hl pins s σ H _ I h) fun v s1 ⟨x,H1,I1,r1,q1⟩=> ?_;obtain⟨a,kvs,rfl,hq,q⟩:=q1;cases r1;obtain⟨z,y,vs,r,o,es,ep,h1,h2,h3,h4,h5,h6⟩:=(show ObjOk X.prog X.w H1 s1.heap a (.dK kvs) from I1.hok a _ hq)
 have hz:es.size=kvs.length:=by rw[r.length,←h5.length];simp
 have new:ObjOk X.prog X.w (upd H1 a (.frz o (.dK kvs))) s1.heap a (.frz o (.dK kvs)):=⟨h1,z,y,vs,r,o,es,ep,h1,h2,h3,h4,h5,h6⟩
 have I2:Inv X pins σ (upd H1 a (.frz o (.dK kvs))) s1:=I1.freeze trivial hq h1 new;refine x9 y h1 h2 h3 ?_;refine⟨s1.heap.objs.size,[s1.heap.objs.size],_,_,upd H1 a (.frz o (.dK kvs)),rfl,I2.kept (t':=s1.toks) fun b o e=>Heap.get?_push_of_some _ e,CF a _ kvs h3 hz,⟨_,Heap.get?_push_size _ rfl,rfl,rfl⟩,fun b hb=> ?_,q o⟩;have e:b=s1.heap.objs.size:=by simpa using hb
 subst e;exact I2.fpOk (Nat.le_refl _) (I2.hok.fresh (Nat.le_refl _))
end
def Iti (a:Addr)(o:Obj)(kvs:List (Key×V)):It :=
 ⟨fun i H=>H a=some (.frz o (.dK kvs))/\i<kvs.length,fun i H x H'=>∃k v q,kvs[i]? =some (k,v)/\x= .ref q/\H q=none/\H'=upd H q (.tup [kV k,v]),fun i H=>H a=some (.frz o (.dK kvs))/\kvs.length<=i⟩
theorem zF {P:Program}{w:World}{K:PySem.W.Frag}{elts:List Expr}{x1:Nat}{tpos:Pos} (a it:Addr) {o:Obj}{es:Array DictEntry}{ep:Nat} (kvs:List (Key×V)) (hd:o.data= .dict es ep) :
  nG P w K (.Tuple elts x1 tpos) (Iti a o kvs) [it] it (fun i h=>∃ok ov,IsItemIter h it a i kvs.length ep ok ov) where
 mem:=by simp
 obj:=fun i h st b hb=>by
  have e:b=it:=by simpa using hb
  subst e;obtain⟨ok,ov,e⟩:=st;exact⟨_,e,fun v z=>by cases z⟩
 keep:=fun i h h' st k=>let ⟨ok,ov,e⟩:=st;⟨ok,ov,k it (by simp) _ e⟩
 item:=by
  intro X hP hw hK hc i pins s σ H E I hf st hg;subst hP hw hK;obtain⟨ha,hi⟩:=hg;obtain⟨ok,ov,st⟩:=st;obtain⟨ho,z,y,vs,r,o',es',ep',h1,h2,h3,h4,h5,h6⟩:=(show ObjOk X.prog X.w H s.heap a (.frz o (.dK kvs)) from I.hok a _ ha)
  rw[ho]at h1;cases h1;rw[hd]at h3;cases h3;obtain⟨k,v,u,e1,e2,e3⟩:=sI r hi;obtain⟨f0,f1,f2,f3,f4,f5⟩:=hf it (by simp);have hl:=r.length;refine wpAny_pyNext_items_item (knd:=bH X.prog X.w) (kvs:=vs) (by rw[←hl];exact st) ⟨o,es,ho,h2,hd,h4,h5,h6⟩ e2 fun key h' kk st' ht hs kp=> ?_;refine⟨_,rfl,?_⟩;refine wpAny_letOwnedTupleGo_items (s:={ s with heap:=h' }) st' fun h'' st'' sb=> ?_;have hq:H s.heap.objs.size=none:=I.hok.fresh (Nat.le_refl _);have hne:s.heap.objs.size≠it:=fun z=>by
   have:=Heap.lt_size (show s.heap.get? it=some _ from st);rw[z]at this;exact Nat.lt_irrefl _ this
  have tup:Vals [kV k,v] [key,u]:= .cons (t7 kk) (.cons e3 .nil);have I1:Inv X pins σ (upd H s.heap.objs.size (.tup [kV k,v])) { s with heap:=s.heap.push { cls:= .type "tuple",data:= .seq #[key,u] } } :=
   I.laid (t':=s.toks) (fun b u e=>Heap.get?_push_of_some _ e) (Nat.le_refl _) ⟨(show 2<=sizeLine by rw[sizeLine_eq];decide),[key,u],tup,⟨_,Heap.get?_push_size _ rfl,rfl,0,rfl⟩⟩
  have n0:upd H s.heap.objs.size (.tup [kV k,v]) it=none:=by rw[aG (Ne.symm hne)];exact f0
  have I2:Inv X pins σ (upd H s.heap.objs.size (.tup [kV k,v])) { s with heap:=h'' }:=Inv.turned (s:={ s with heap:=s.heap.push { cls:= .type "tuple",data:= .seq #[key,u] } }) (h':=h'') (t':=s.toks) (it:=it) I1 (fun b o hb e=>by
   rcases Heap.get?_push_cases e with⟨rfl,rfl⟩|e
   ·exact(sb.2 _ hb).trans ht
   ·exact(sb.2 b hb).trans (kp b o hb e)) n0 f1 f3 f4 f5
  exact⟨.ref s.heap.objs.size,_,I2,rfl,⟨k,v,_,e1,rfl,hq,rfl⟩,⟨key,u,by rw[hl];exact st''⟩,fun b hb=>by
   have e:b=it:=by simpa using hb
   rw[e];exact n0⟩
 done:=by
  intro X hP hw hK hc i pins s σ H E I hf st hg;subst hP hw hK;obtain⟨ha,hi⟩:=hg;obtain⟨ok,ov,st⟩:=st;obtain⟨ho,z,y,vs,r,o',es',ep',h1,h2,h3,h4,h5,h6⟩:=(show ObjOk X.prog X.w H s.heap a (.frz o (.dK kvs)) from I.hok a _ ha)
  rw[ho]at h1;cases h1;rw[hd]at h3;cases h3;have hl:=r.length;obtain⟨f0,f1,f2,f3,f4,f5⟩:=hf it (by simp);exact wpAny_pyNext_items_end (knd:=bH X.prog X.w) (kvs:=vs) (I.ok.hd hc) (by rw[←hl];exact st) ⟨o,es,ho,h2,hd,h4,h5,h6⟩ (List.getElem?_eq_none (by lia)) fun h' eb=>⟨rfl,I.turned (t':=s.toks) (fun b o hb e=>eb b o hb e) f0 f1 f3 f4 f5⟩
 self:=fun A i s Q E st h=>by
  obtain⟨ok,ov,st⟩:=st;have T:s.TypeIs (.ref it) "dict_itemiterator" :=⟨_,st,rfl⟩
  refine wpAny_pyIter_slot T F.slot_dict_itemiterator_iter (wpAny_call_entry F.slot_dict_itemiterator_iter T mI ?_ (F.args_dict_itemiterator_iter_1 _));show wpAny _ _ (ret (.ref it)) _ _ s;exact wpAny_pure ⟨_,rfl,"dict_itemiterator",_,T,F.slot_dict_itemiterator_next.lookup,h⟩
def AJ (td:TE):TI:=fun σ H R=>td σ H fun x H1=>∃a kvs,x= .ref a/\H1 a=some (.dK kvs)/\∀o,R (Iti a o kvs) (upd H1 a (.frz o (.dK kvs)))
section
variable {X:Cx}
theorem nJ {l:Expr}{td:TE}{elts:List Expr}{x1:Nat}{tpos apos cpos:Pos} (hl:PE X l td) (hbase:attributeBase l "items" X.env (eval l X.env)=eval l X.env:=by rfl) (hline:(apos.endLine==cpos.line)=true:=by rfl) :
  PI X (.Tuple elts x1 tpos) (.Call (.Attribute l "items" apos) [] [] cpos) (AJ td):=by
 intro pins s σ H R I h;refine wpAny_Call_method0_late hbase hline (thn (hl pins s σ H _ I h) fun v s1 ⟨x,H1,I1,r1,q1⟩=> ?_);obtain⟨a,kvs,rfl,hq,q⟩:=q1;cases r1;obtain⟨t1,t2,_⟩:=EK I1 (.inl ⟨kvs,.inl hq⟩);refine⟨"dict","dict.items",F.plainAttrs_dict,F.slot_dict_items,F.type_dict_items,t1,t2,Calls.callWith_builtin rfl (PySem.evalArgs_none ?_)⟩;obtain⟨z,y,vs,r,o,es,ep,h1,h2,h3,h4,h5,h6⟩:=(show ObjOk X.prog X.w H1 s1.heap a (.dK kvs) from I1.hok a _ hq)
 have hL:=r.length;refine call_meetsIn F.slot_dict_items t1 F.entry_dict_items (F.args_dict_items_1 _) (meets_dict_items (bH X.prog X.w) a y) ⟨⟨vs,o,es,ep,h1,h2,h3,h4,h5,h6⟩,?_⟩;have new:ObjOk X.prog X.w (upd H1 a (.frz o (.dK kvs))) s1.heap a (.frz o (.dK kvs)):=⟨h1,z,y,vs,r,o,es,ep,h1,h2,h3,h4,h5,h6⟩
 have I2:Inv X pins σ (upd H1 a (.frz o (.dK kvs))) s1:=I1.freeze trivial hq h1 new;have I3:Inv X pins σ (upd H1 a (.frz o (.dK kvs))) { s1 with heap:=s1.heap.push { cls:= .type "dict_items",data:= .fields #[.ref a] } }:=I2.kept (t':=s1.toks) fun b o e=>Heap.get?_push_of_some _ e;refine wpAny_pyIter_items (knd:=bH X.prog X.w) (kvs:=vs) (ep:=ep) ⟨_,Heap.get?_push_size _ rfl,rfl,rfl⟩ ⟨o,es,Heap.get?_push_of_some _ h1,h2,h3,h4,h5,h6⟩ ?_;refine⟨_,[_],_,_,upd H1 a (.frz o (.dK kvs)),rfl,I3.kept (t':=s1.toks) fun b o e=>Heap.get?_push_of_some _ e,zF a _ kvs h3,⟨.none,.none,by rw[hL];exact Heap.get?_push_size _ rfl⟩,fun b hb=> ?_,q o⟩;obtain rfl:=List.mem_singleton.mp hb;exact I3.fpOk (Nat.le_refl _) (I3.hok.fresh (Nat.le_refl _))
end
end L2
namespace L2
open PySem PySem.W PyProof.Rows
section
variable {X:Cx}{pins:List (Addr×Obj)}{σ:St}{H:Hp}{s:Shared}{a:Addr}{o:Obj}{u:HO}
theorem Inv.thaw (I:Inv X pins σ H s)(h0:∀o u,X.H₀ a≠some (.frz o u))(e:H a=some (.frz o u)):Inv X pins σ (upd H a u) s:=by
 have nn:∀b,H b=none->b≠a:=fun b n z=>by rw[z,e]at n;cases n
 have no:∀b c,H b=some (.own c)->b≠a:=fun b c n z=>by rw[z,e]at n;cases n
 have nt:∀b xs,H b=some (.tup xs)->b≠a:=fun b c n z=>by rw[z,e]at n;cases n
 refine⟨I.ok,I.os,I.bare,⟨I.base.keep,I.base.slot,fun b ob q n hx=> ?_,I.base.there,fun b xs q=> ?_,fun b ob xs q=> ?_,fun b ps q=> ?_⟩,I.loc,I.cell,?_,fun x c ec=> ?_,fun p hp=> ?_,fun b v q=> ?_,I.len⟩
 ·have z:=I.base.free b ob q n hx;rw[aG (nn b z)];exact z
 ·have z:=I.base.tups b xs q;rw[aG (nt b xs z)];exact z
 ·have z:=I.base.frzs b ob xs q;have hb:b≠a:=fun y=>h0 ob xs (by rw[←y];exact q);rw[aG hb];exact z
 ·obtain⟨more,z⟩:=I.base.tbls b ps q;refine⟨more,?_⟩;rw[aG (fun y=>by rw[y,e]at z;cases z)];exact z
 ·rw[aG (nn _ I.free)];exact I.free
 ·rw[aG (nn _ (I.freeC x c ec))];exact I.freeC x c ec
 ·obtain⟨p1,p2,p3⟩:=I.pin p hp;exact⟨p1,by rw[aG (nn _ p2)];exact p2,p3⟩
 ·have so:∀b c,H b=some (.own c)->upd H a u b=some (.own c):=fun b c z=>by rw[aG (no b c z)];exact z
  have st:∀b xs,H b=some (.tup xs)->upd H a u b=some (.tup xs):=fun b c z=>by rw[aG (nt b c z)];exact z
  by_cases hb:b=a
  ·subst hb;rw[aR]at q;cases q;obtain⟨_,z⟩:=(show ObjOk X.prog X.w H s.heap b (.frz o u) from I.hok b _ e)
   exact z.stay (fun _ _ _ q=>q) (fun c z=>so c b z) st
  ·rw[aG hb]at q;exact(I.hok b v q).stay (fun _ _ _ q=>q) (fun c z=>so c b z) st
theorem Inv.wasFree (I:Inv X pins σ H s)(h:∀o u,H a≠some (.frz o u)):∀o u,X.H₀ a≠some (.frz o u):=fun o u z=>h o u (I.base.frzs a o u z)
end
def d3 (a:Addr)(R:Hp->Prop):Hp->Prop:=fun H=>∃o u,H a=some (.frz o u)/\R (upd H a u)
def HP (te:TE):TE:=fun σ H Q=>∃a,(∀o u,H a≠some (.frz o u))/\te σ H fun x=>d3 a (Q x)
def IJ (ts:TS):TS:=fun D σ H=>∃a,(∀o u,H a≠some (.frz o u))/\ts ⟨fun σ'=>d3 a (D.nx σ'),fun v=>d3 a (D.rt v),fun σ'=>d3 a (D.bk σ'),fun σ'=>d3 a (D.ct σ')⟩ σ H
section
variable {X:Cx}
theorem kU {e:Expr}{te:TE} (he:PE X e te):PE X e (HP te):=by
 intro pins s σ H Q I h;obtain⟨a,h0,h⟩:=h;refine thn (he pins s σ H _ I h) fun v s1 ⟨x,H1,I1,r1,o,u,e,q⟩=> ?_;exact⟨x,_,I1.thaw (I.wasFree h0) e,r1,q⟩
theorem LU {st:Stmt}{ts:TS} (he:PS X st ts):PS X st (IJ ts):=by
 intro pins s σ H D I h;obtain⟨a,h0,h⟩:=h;refine thn (he pins s σ H _ I h) fun f s1 z=> ?_;cases f with
 | next=>obtain⟨σ1,H1,I1,o,u,e,q⟩:=z;exact⟨σ1,_,I1.thaw (I.wasFree h0) e,q⟩
 | brk=>obtain⟨σ1,H1,I1,o,u,e,q⟩:=z;exact⟨σ1,_,I1.thaw (I.wasFree h0) e,q⟩
 | cont=>obtain⟨σ1,H1,I1,o,u,e,q⟩:=z;exact⟨σ1,_,I1.thaw (I.wasFree h0) e,q⟩
 | ret v=>obtain⟨x,σ1,H1,I1,r,o,u,e,q⟩:=z;exact⟨x,σ1,_,I1.thaw (I.wasFree h0) e,r,q⟩
end
end L2
namespace L2
open PySem PySem.W PyProof.Rows
theorem xO:∀bs:List Bool,((List.range bs.length).any fun i=>bs.getD i false)=bs.any id
 | []=>rfl
 | b::bs=>by
  rw[List.length_cons,List.range_succ_eq_map,List.any_cons,List.any_map,List.any_cons,←xO bs];rfl
section
variable {X:Cx}
def O1 (K:PySem.W.Frag):List V->Hp->VK->Prop:=fun xs H Q=>∃(p:Addr) (bs:List Bool),xs=[.ref p]/\SqL K H p (bs.map V.bl)/\Q (.bl (bs.any id)) H
theorem vH (hc:X.calm=true):cX X (.builtin "any") (O1 X.K):=by
 intro pins s σ H xs us Q I r h;obtain⟨p,bs,rfl,hq,q⟩:=h;obtain⟨u,rfl,rx⟩:=j6 r;cases rx;obtain⟨its,r',pl,hz⟩:=I.list hq;have hl:=pl.isList;have hlt:p<s.heap.objs.size:=by obtain⟨_,e,_⟩:=hl;exact Heap.lt_size e
 have hlen:bs.length=its.length:=by have:=r'.length;rw[List.length_map]at this;exact this
 refine call_any_walk (wpAny_pyIter_list hl ?_);refine⟨s.heap.objs.size,_,_,its.toArray.size,_,_,fun i=>bs.getD i false,rfl,Walks.list (show X.A.in1.handled=none from I.ok.hd hc) s.heap.objs.size p (Nat.ne_of_lt hlt) its.toArray,⟨⟨_,Heap.get?_push_size _ rfl,rfl,rfl⟩,hl.push _⟩,?_,?_⟩
 ·intro i v s' Q' E' hi hQ;have hi':its[i]? =some v:=by simpa using hi
  have hib:i<bs.length:=by rw[hlen];exact(List.getElem?_eq_some_iff.mp hi').1
  obtain⟨u,hu,ru⟩:=r'.get (i:=i) (x:=V.bl bs[i]) (by rw[List.getElem?_map,List.getElem?_eq_getElem hib];rfl);rw[hi']at hu;cases hu;have:v=Value.bool bs[i]:=ru;subst this;refine wpAny_truthy_bool ?_;have eb:bs.getD i false=bs[i]:=by rw[List.getD_eq_getElem?_getD,List.getElem?_eq_getElem hib];rfl
  have hQ':Q' (bs.getD i false) s':=hQ;rw[eb]at hQ';exact hQ'
 ·intro h' tk hk;have eany:(List.range its.toArray.size).any (fun i=>bs.getD i false)=bs.any id:=by
   rw[List.size_toArray,←hlen];exact xO bs
  rw[eany];refine⟨.bl (bs.any id),H,?_,rfl,q⟩;have I1:Inv X pins σ H { s with heap:=s.heap.push { cls:= .type "list_iterator",data:= .fields #[.ref p,.int 0 0] },toks:=s.toks }:=I.kept fun b u e=>Heap.get?_push_of_some _ e;obtain⟨f0,f1,f2,f3,f4,f5⟩:=I.fpOk (Nat.le_refl _) (I.hok.fresh (Nat.le_refl _));exact I1.turned (fun b o hb e=>hk b o (by simpa using hb) e) f0 f1 f3 f4 f5
end
section
variable {K:PySem.W.Frag}{H:Hp}{Q:VK}
theorem EW {p:Addr}{bs:List Bool} (e:SqL K H p (bs.map V.bl)) (h:Q (.bl (bs.any id)) H):O1 K [.ref p] H Q:=⟨p,bs,rfl,e,h⟩
end
theorem CS:bootBuiltins "any" =some (.builtin "any"):=by decide +kernel
theorem NB:bootBuiltins "sum" =some (.builtin "sum"):=by decide +kernel
end L2
namespace L2
open PySem PySem.W PyProof.Rows
theorem JJ:typeLookup (.type "list") "keys" =pure none:=by rw[typeLookup_type,builtinLookup_eq_fast];kernel_rfl
theorem K5:typeLookup (.type "list") "__getattr__" =pure none:=by rw[typeLookup_type,builtinLookup_eq_fast];kernel_rfl
theorem xV:isSubtype (.type "AttributeError") (.type "AttributeError")=pure true:=by rw[isSubtype_type];kernel_rfl
theorem FU:((Manifest.find? "AttributeError").elim false fun t=>t.mro.contains "StopIteration" ||t.mro.contains "SystemExit")=false:=by decide +kernel
section
variable {prog:Program}{w:World}{A:Around}{E:Value->Shared->Prop}{s:Shared}
theorem FX {α:Type}{v:Value}{a:Addr}{Q:α->Shared->Prop} (hh:A.handled=none)
  (k:∀e h' tk' o,h'.get? e=some o->o.cls= .type "AttributeError" ->(∀b o,s.heap.get? b=some o->h'.get? b=some o)->E (.ref e) { s with heap:=h',toks:=tk' }) :
  wpAny (model prog w) A (do
   let e ←newExc (.type "AttributeError") [v];let l ←mkText "keys"
   noteAttr e (.ref a) l
   raiseNew e) Q E s:=by
 unfold newExc newTuple;refine wpAny_bind (wpAny_bind (wpAny_newObj_type (wpAny_bind (m:=firstArgMember _ _) (wpAny_of_eq (a:=Value.none) (by simp only[firstArgMember,FU];rfl) (wpAny_newObj_type ?_ (by size_fits)))) (by size_fits)));refine wpAny_bind (wpAny_mkText ?_);refine wpAny_bind ?_;unfold noteAttr;refine wpAny_bind ?_;unfold lacksNameAndObj;have e1:(#[Value.ref s.heap.objs.size,.none,.none,.none,.bool false,.none]++ownMembersOf (.type "AttributeError") [v]:Array Value)= #[Value.ref s.heap.objs.size,.none,.none,.none,.bool false,.none,unsetMember,unsetMember]:=rfl;rw[e1];generalize hs:s.heap.push { cls:=Value.type "tuple",data:=Data.seq #[v] }=h1;have ho:(h1.push { cls:= .type "AttributeError",data:= .fields #[Value.ref s.heap.objs.size,.none,.none,.none,.bool false,.none,unsetMember,unsetMember] }).get? h1.objs.size=some { cls:= .type "AttributeError",data:= .fields #[Value.ref s.heap.objs.size,.none,.none,.none,.bool false,.none,unsetMember,unsetMember] }:=Heap.get?_push_size _ rfl;refine wpAny_bind (wpAny_isInstance (b:=true) (T:= "AttributeError") ⟨_,ho,rfl⟩ xV ?_);refine wpAny_bind (wpAny_load ho ?_);refine wpAny_pure ?_;refine wpAny_bind (wpAny_rule ?_);refine wpAny_bind (wpAny_typeOf (T:= "AttributeError") ⟨_,ho,rfl⟩ ?_);unfold layMembers;refine wpAny_bind (wpAny_load ho ?_);refine wpAny_update ho ?_;simp only[raiseNew];refine wpAny_bind (wpAny_handled ?_);rw[hh];refine wpAny_bind (wpAny_pure (wpAny_throw ?_));refine k h1.objs.size _ _ _ (Heap.get?_update_self _ ho (Obj.isFreed_of_fields (Obj.data_mapFields rfl _))) (Obj.cls_mapFields ..) fun b o e=> ?_;have hb:b≠h1.objs.size:=fun z=>by
  have h2:h1.objs.size=s.heap.objs.size+1:=by rw[←hs];simp[Heap.push]
  have h3:=Heap.lt_size e;rw[z,h2]at h3;exact absurd h3 (Nat.not_lt.mpr (Nat.le_succ _))
 exact(Heap.get?_update_other _ _ (Ne.symm hb)).trans (Heap.get?_push_of_some _ (by rw[←hs];exact Heap.get?_push_of_some _ e))
theorem BY {a:Addr}{its:Array Value}{n:Nat}{tk:Tok}{Q:Fin->Shared->Prop} (hh:A.handled=none) (hx:s.heap.get? a=some { cls:= .type "list",data:= .seq its n })
  (k:∀e h' tk' o,h'.get? e=some o->o.cls= .type "AttributeError" ->(∀b o,s.heap.get? b=some o->h'.get? b=some o)->E (.ref e) { s with heap:=h',toks:=tk' }) :
  wpAny (model prog w) A (Builtin.«object.__getattribute__» ⟨[.ref a,.str "keys" tk],[]⟩) Q E s:=by
 obtain⟨h,g,d,t,os⟩:=s;have hT:(⟨h,g,d,t,os⟩:Shared).TypeIs (.ref a) "list" :=⟨_,hx,rfl⟩
 have f4:=JJ
 repeat (any_goals (first|assumption|wp_step))
 refine wpAny_bind (wpAny_mkStr ?_ (by rw[sizeLine_eq];decide +kernel));exact FX hh fun e h' tk' o e1 e2 e3=>k e h' tk' o e1 e2 e3
theorem D5 {a:Addr}{its:Array Value}{n:Nat}{tk:Tok}{R:Result->Shared->Prop} (hh:A.handled=none) (hx:s.heap.get? a=some { cls:= .type "list",data:= .seq its n })
  (k:∀e h' tk' o,h'.get? e=some o->o.cls= .type "AttributeError" ->(∀b o,s.heap.get? b=some o->h'.get? b=some o)->R (.error (.ref e)) { s with heap:=h',toks:=tk' }) :
  codeAny (model prog w) A (.call (.builtin "list.__getattribute__") ⟨[.ref a,.str "keys" tk],[]⟩) R s:=by
 obtain⟨h,g,d,t,os⟩:=s;exact codeAny_call_builtin F.slot_list_getattribute.plain F.entry_list_ga (F.slot_list_getattribute.check _ _ _ _ _ _ _ _ (show (⟨h,g,d,t,os⟩:Shared).TypeIs (.ref a) "list" from⟨_,hx,rfl⟩) (F.args_list_getattribute_2 _ _) (BY hh hx k))
theorem JE {a:Addr}{its:Array Value}{n:Nat}{Q:Option Value->Shared->Prop} (hh:A.handled=none) (hx:s.heap.get? a=some { cls:= .type "list",data:= .seq its n })
  (k:∀h' tk',(∀b o,s.heap.get? b=some o->h'.get? b=some o)->Q none { s with heap:=h',toks:=tk' }):wpAny (model prog w) A (getAttr? (.ref a) "keys") Q E s:=by
 obtain⟨h,g,d,t,os⟩:=s;have hT:(⟨h,g,d,t,os⟩:Shared).TypeIs (.ref a) "list" :=⟨_,hx,rfl⟩
 have f2:=F.slot_list_getattribute.lookup;have f3:=F.slot_list_getattribute.bind (.ref a);unfold getAttr? getAttrBy?
 repeat (any_goals (first|assumption|wp_step))
 refine D5 hh hx fun e h' tk' o e1 e2 e3=> ?_;have hE:(⟨h',g,d,tk',os⟩:Shared).TypeIs (.ref e) "AttributeError" :=⟨_,e1,e2⟩
 show wpAny (model prog w) A (getattributeRaised (Value.ref a) (Value.str (Str.ofString "keys") t) (.type "list") (.ref e) none false false) _ _ (⟨h',g,d,tk',os⟩:Shared);unfold getattributeRaised;refine wpAny_bind (wpAny_isInstance (b:=true) hE xV ?_);show wpAny (model prog w) A (typeLookup (.type "list") "__getattr__" >>= fun x=>hookOrError (Value.ref a) (Value.str (Str.ofString "keys") t) (.ref e) false false x) _ _ (⟨h',g,d,tk',os⟩:Shared);rw[K5];refine wpAny_bind (wpAny_pure ?_);refine wpAny_throw ?_;refine wpAny_bind (wpAny_isInstance (b:=true) hE xV ?_);exact wpAny_pure (k h' tk' e3)
end
end L2
namespace L2
open PySem PySem.W PyProof.Rows
theorem kW:entryFor table "dict.update.loop" =some Builtin.«dict.update.loop»:=entryFor_of_tree (by kernel_rfl)
theorem d8:plainId "dict.update.loop" =true:=by decide +kernel
def EE {κ:Type}[DecidableEq κ](kvs ps:List (κ×Value)):List (κ×Value):=ps.foldl (fun acc p=>stored acc p.1 p.2) kvs
theorem BJ {κ:Type}[DecidableEq κ](kvs:List (κ×Value))(k:κ)(v:Value):(stored kvs k v).length<=kvs.length+1:=by
 unfold stored
 split
 ·rw[List.length_map];exact Nat.le_succ _
 ·rw[List.length_append];exact Nat.le_refl _
section
variable {prog:Program}{w:World}{A:Around}{E:Value->Shared->Prop}{κ:Type} [DecidableEq κ] {knd:KeyKind prog w κ}{I d:Addr}{fp wr:List Addr}{n:Nat}{P:Nat->Value->Prop}{St:Nat->Heap->Prop}{R:Result->Shared->Prop}
def P8 (knd:KeyKind prog w κ)(d:Addr)(wr:List Addr)(P:Nat->Value->Prop)(ps:List (κ×Value))(h:Heap):Prop :=
 ∀i v,P i v->∃(q:Addr) (o:Obj) (key:Value) (k:κ) (u:Value) (c:Nat),v= .ref q/\q∉wr/\q≠d/\h.get? q=some o/\o.cls= .type "tuple" /\o.data= .seq #[key,u] c/\knd.is k key=true/\ps[i]? =some (k,u)
theorem F9 (W:Walks prog w A.in1 I fp wr n P St)(hdf:d∉fp)(ps:List (κ×Value))(hn:ps.length=n)(hsz:n<=sizeLine) :
  ∀(k i:Nat) (s:Shared) (kvs:List (κ×Value)),n - i=k->i<=n->St i s.heap->kvs.length<=i->s.heap.DictOf knd d kvs->P8 knd d wr P ps s.heap →
  (∀h' tk,h'.DictOf knd d (EE kvs (ps.drop i))->(∀b o,b∉wr->b≠d->s.heap.get? b=some o->h'.get? b=some o)->R (.ok (.ret .none)) { s with heap:=h',toks:=tk }) →
  codeAny (model prog w) A (.builtin "dict.update.loop" ⟨[.ref d,.ref I,rawInt i,.none],[]⟩) R s:=by
 have hdw:d∉wr:=fun h=>hdf (W.sub _ h);intro k
 induction k with
 | zero =>
  intro i s kvs hk hi hst hl hd hrow hR;have hin:i=n:=by lia
  subst hin;refine codeAny_builtin kW ?_;rw[Around.under_plainId d8 _];show wpAny _ A.in1 (pyNext (.ref I) >>= _) _ _ s;refine wpAny_bind (W.done s _ _ hst fun h' tk hk'=> ?_);show wpAny _ _ (Builtin.Dict.addKeywords d [] >>= _) _ _ _;refine wpAny_bind (wpAny_pure (wpAny_pure (hR h' tk ?_ fun b o hb _ e=>hk' b o hb e)));rw[List.drop_of_length_le (by lia)];exact hd.at fun o e=>hk' d o hdw e
 | succ k ih =>
  intro i s kvs hk hi hst hl hd hrow hR;have hlt:i<n:=by lia
  refine codeAny_builtin kW ?_;rw[Around.under_plainId d8 _];show wpAny _ A.in1 (pyNext (.ref I) >>= _) _ _ s;refine wpAny_bind (W.item i s _ _ hlt hst fun v h' tk hP hst' hk'=> ?_);obtain⟨q,o,key,kk,u,c,rfl,hqw,hqd,ho,hc,hdt,his,hps⟩:=hrow i v hP;have ho':=hk' q o hqw ho;refine wpAny_bind (wpAny_holding (wpAny_bind (wpAny_tryCatch ?_)));unfold Builtin.Dict.pairItems;refine wpAny_bind (wpAny_typeOf (T:= "tuple") ⟨o,ho',hc⟩ ?_);rw[if_pos (by rfl)];refine wpAny_bind (wpAny_seqItems ho' hdt (wpAny_pure ?_));have hd':h'.DictOf knd d kvs:=hd.at fun o e=>hk' d o hdw e;refine wpAny_holding (wpAny_dictSet_pairs his hd' (fun h2 hd2 sb=> ?_) (by lia));have keep:∀b o,b∉wr->b≠d->s.heap.get? b=some o->h2.get? b=some o:=fun b o hb hbd e=>(sb.2 b hbd).trans (hk' b o hb e);refine wpAny_pure ⟨plainId_quiet d8 _,ih (i+1) _ (stored kvs kk u) (by lia) hlt (W.frame _ _ _ hst' fun b hb o e=>(sb.2 b (fun z=>hdf (z▸hb))).trans e) (Nat.le_trans (BJ ..) (by lia)) hd2 (fun j v hj=> ?_) fun h3 tk3 hd3 hk3=> ?_⟩
  ·obtain⟨q,o,key,kk,u,c,e1,e2,e3,e4,e5⟩:=hrow j v hj;exact⟨q,o,key,kk,u,c,e1,e2,e3,keep q o e2 e3 e4,e5⟩
  ·refine hR h3 tk3 ?_ fun b o hb hbd e=>hk3 b o hb hbd (keep b o hb hbd e);have ed:ps.drop i=(kk,u)::ps.drop (i+1):=by
    have hi2:i<ps.length:=by lia
    rw[List.drop_eq_getElem_cons hi2];have:=(List.getElem?_eq_some_iff.mp hps).2;rw[this]
   rw[ed];exact hd3
end
end L2
namespace L2
open PySem PySem.W PyProof.Rows
section
variable {prog:Program}{w:World}{A:Around}{E:Value->Shared->Prop}{κ:Type} [DecidableEq κ] {knd:KeyKind prog w κ}{s:Shared}{l:Addr}{its:Array Value}{c:Nat}
theorem CW {ps:List (κ×Value)}{Q:Value->Shared->Prop} (hh:A.handled=none) (hl:s.heap.get? l=some { cls:= .type "list",data:= .seq its c }) (hsz:its.size<=sizeLine) (hlen:ps.length=its.size)
  (hrow:∀(i:Nat) (v:Value),its[i]? =some v->∃(q:Addr) (o:Obj) (key:Value) (k:κ) (u:Value) (c:Nat),v= .ref q/\s.heap.get? q=some o/\o.cls= .type "tuple" /\o.data= .seq #[key,u] c/\knd.is k key=true/\ps[i]? =some (k,u))
  (h:∀h' tk,h'.DictOf knd s.heap.objs.size (EE [] ps)->(∀b o,s.heap.get? b=some o->h'.get? b=some o)->Q (.ref s.heap.objs.size) { s with heap:=h',toks:=tk }) :
  wpAny (model prog w) A (call (.type "dict") [.ref l]) Q E s:=by
 refine callType_codes (Q₁:=fun obj s₁=>obj= .ref s.heap.objs.size/\s₁={ s with heap:=s.heap.push { cls:= .type "dict",data:= .dict #[] } }) F.kt_called_dict (F.kt_typeCall_dict_1 _) F.entry_dict_init (kt_code_dict_new _ ⟨rfl,rfl⟩) ?_;rintro obj s₁ ⟨rfl,rfl⟩;have hnew:(s.heap.push { cls:= .type "dict",data:= .dict #[] }).DictOf knd s.heap.objs.size []:=Heap.DictOf.new s.heap;have hl':(s.heap.push { cls:= .type "dict",data:= .dict #[] }).get? l=some { cls:= .type "list",data:= .seq its c }:=Heap.get?_push_of_some _ hl;refine⟨hnew.typeIs,F.args_dict_init_2 _ _,?_⟩;unfold Builtin.«dict.__init__»;refine wpAny_bind ?_;unfold Builtin.Dict.selfAndRest;refine wpAny_bind (wpAny_notOrdered_dict hnew.typeIs ?_);show wpAny _ _ (pure (s.heap.objs.size,[Value.ref l])) _ _ _;refine wpAny_pure ?_;show wpAny _ _ (Builtin.Dict.updateFrom "dict.__init__" s.heap.objs.size (.ref l) [] .none) _ _ _;unfold Builtin.Dict.updateFrom;refine wpAny_bind (wpAny_typeOf (T:= "list") ⟨_,hl',rfl⟩ ?_);rw[if_pos (by decide)];refine wpAny_bind (JE hh hl' fun h1 t1 kp1=> ?_);rw[if_pos (show (none:Option Value).isNone=true from rfl)];refine wpAny_bind (wpAny_rule ?_);have hl1:=kp1 _ _ hl';have isl:h1.IsList l its:=⟨_,hl1,rfl,_,rfl⟩
 have lt1:∀b o,s.heap.get? b=some o->b≠h1.objs.size:=fun b o e z=>by
  have:=Heap.lt_size (kp1 b o (Heap.get?_push_of_some _ e));rw[z]at this;exact Nat.lt_irrefl _ this
 have hdI:s.heap.objs.size≠h1.objs.size:=fun z=>by
  have:=Heap.lt_size (kp1 _ _ (Heap.get?_push_size s.heap (o:={ cls:= .type "dict",data:= .dict #[] }) rfl));rw[z]at this;exact Nat.lt_irrefl _ this
 have hdl:∀b o,s.heap.get? b=some o->b≠s.heap.objs.size:=fun b o e z=>by
  have:=Heap.lt_size e;rw[z]at this;exact Nat.lt_irrefl _ this
 refine wpAny_bind (wpAny_pyIter_list isl ?_);refine wpAny_pure ⟨plainId_quiet d8 _,?_⟩;have W:=Walks.list (prog:=prog) (w:=w) (A:=A.in1.in1) hh h1.objs.size l (lt1 _ _ hl) its;refine F9 (knd:=knd) W (by simp only[List.mem_cons,List.not_mem_nil,or_false,not_or];exact⟨hdI,Ne.symm (hdl _ _ hl)⟩) ps hlen hsz its.size 0 _ [] (Nat.sub_zero _) (Nat.zero_le _) ⟨⟨_,Heap.get?_push_size _ rfl,rfl,rfl⟩,isl.push _⟩ (Nat.le_refl _) ((hnew.at fun o e=>kp1 _ o e).push _) (fun i v hi=> ?_) fun h' tk hd hk=> ?_
 ·obtain⟨q,o,key,k,u,c',e1,e2,e3,e4,e5,e6⟩:=hrow i v hi;refine⟨q,o,key,k,u,c',e1,?_,hdl _ _ e2,Heap.get?_push_of_some _ (kp1 _ _ (Heap.get?_push_of_some _ e2)),e3,e4,e5,e6⟩;simp only[List.mem_cons,List.not_mem_nil,or_false];exact lt1 _ _ e2
 ·refine⟨rfl,h h' tk hd fun b o e=>hk b o ?_ (hdl _ _ e) (Heap.get?_push_of_some _ (kp1 _ _ (Heap.get?_push_of_some _ e)))⟩;simp only[List.mem_cons,List.not_mem_nil,or_false];exact lt1 _ _ e
end
end L2
namespace L2
open PySem PySem.W PyProof.Rows
abbrev wS (H:Hp):List V->List (Key×V)->Prop:=Paired fun v p=>∃q,v= .ref q/\H q=some (.tup [kV p.1,p.2])
section
variable {X:Cx}{pins:List (Addr×Obj)}{σ:St}{H:Hp}{s:Shared}
theorem GO (I:Inv X pins σ H s){q:Addr}{k:Key}{x:V} (e:H q=some (.tup [kV k,x])):∃(o:Obj) (key u:Value) (n:Nat),s.heap.get? q=some o/\o.cls= .type "tuple" /\o.data= .seq #[key,u] n/\(bH X.prog X.w).is k key=true/\RelV x u:=by
 obtain⟨_,us,r,o,h1,h2,n,h3⟩:=(show ObjOk X.prog X.w H s.heap q (.tup [kV k,x]) from I.hok q _ e)
 cases r with
 | @cons _ key _ _ r1 r =>
  cases r with
  | @cons _ u _ _ r2 r =>
   cases r;exact⟨o,key,u,n,h1,h2,h3,oX r1,r2⟩
theorem sM (I:Inv X pins σ H s):∀{vs:List V}{ps:List (Key×V)}{us:List Value},wS H vs ps->Vals vs us →
  ∃rs:List (Key×Value),KV ps rs/\rs.length=us.length/\∀(i:Nat) (v:Value),us[i]? =some v->∃(q:Addr) (o:Obj) (key:Value) (k:Key) (u:Value) (c:Nat),v= .ref q/\s.heap.get? q=some o/\o.cls= .type "tuple" /\o.data= .seq #[key,u] c/\(bH X.prog X.w).is k key=true/\rs[i]? =some (k,u)
 | _,_,_,.nil,.nil=>⟨[],.nil,rfl,fun i v z=>by simp at z⟩
 | _::_,(k,x)::_,_::us,.cons ⟨q,e,hq⟩ t,.cons r rt=>by
  obtain⟨rs,h1,h2,h3⟩:=sM I t rt;obtain⟨o,key,u,n,o1,o2,o3,o4,o5⟩:=GO I hq;subst e;cases r;refine⟨(k,u)::rs,.cons ⟨rfl,o5⟩ h1,by simp[h2],fun i v z=> ?_⟩;cases i with
  | zero=>cases z;exact⟨q,o,key,k,u,n,rfl,o1,o2,o3,o4,rfl⟩
  | succ i =>
   obtain⟨q,o,key,k,u,c,w1⟩:=h3 i v (by simpa using z);exact⟨q,o,key,k,u,c,by simpa using w1⟩
def EB:List V->Hp->VK->Prop:=fun xs H Q=>∃p vs ps,xs=[.ref p]/\Rd H p (.lst vs)/\wS H vs ps/\∀l,H l=none->Q (.ref l) (upd H l (.dK (fI [] ps)))
theorem BP (hc:X.calm=true):cX X (.type "dict") EB:=by
 intro pins s σ H xs us Q I r h;obtain⟨p,vs,ps,rfl,hq,pr,q⟩:=h;obtain⟨u,rfl,rx⟩:=j6 r;cases rx;obtain⟨z,its,n,rv,e⟩:=(show ObjOk X.prog X.w H s.heap p (.lst vs) from hq.ok I.hok)
 obtain⟨rs,h1,h2,h3⟩:=sM I pr rv;have hl:=rv.length;have hlp:=h1.length;refine CW (knd:=bH X.prog X.w) (ps:=rs) (I.ok.hd hc) e (by rw[List.size_toArray];lia) (by rw[List.size_toArray];exact h2) (fun i v hv=>h3 i v (by simpa using hv)) fun h' tk hd kp=> ?_;have lm:(fI [] ps).length<=sizeLine:=Nat.le_trans (lZ ps []) (by simp;lia);have nm:(s.heap.objs.size==sysModules)=false:=by
  have:=I.big;simp only[beq_eq_false_iff_ne];exact fun z=>by rw[z]at this;exact Nat.lt_irrefl _ this
 exact⟨.ref _,_,I.laid (t':=tk) kp (Nat.le_refl _) (C8 lm nm (KV.merge h1 .nil) hd),rfl,q _ (I.hok.fresh (Nat.le_refl _))⟩
end
end L2
namespace L2
open PySem PySem.W PyProof.Rows
section
variable {prog:Program}{w:World}{A:Around}{E:Value->Shared->Prop}{s:Shared}{d it:Addr}{o:Obj}{es:Array DictEntry}{ep i:Nat}{k0 v0:Value}
end
end L2
namespace L2
open PySem PySem.W PyProof.Rows
section
variable {prog:Program}{w:World}{A:Around}{E:Value->Shared->Prop}{s:Shared}{d it:Addr}{o:Obj}{es:Array DictEntry}{ep i:Nat}
end
section
variable {X:Cx}
end
end L2
namespace L2
open PySem PySem.W PyProof.Rows
section
variable (r:Nat->Int)
variable {r}{p:Array Nat}
end
end L2
namespace L2
open PySem PySem.W PyProof.Rows
section
variable {r:Nat->Int}{p:Array Nat}
end
end L2
namespace L2
open PySem PySem.W PyProof.Rows
section
variable {α:Type}{lt:α->α->Bool}{l:List α}{d:α}
end
end L2
namespace L2
open PySem PySem.W PyProof.Rows
section
variable {X:Cx}
end
end L2
namespace L2
open PySem PySem.W PyProof.Rows
section
variable {X:Cx}{pins:List (Addr×Obj)}{σ:St}{H:Hp}{s:Shared}
end
end L2
namespace L2
open PySem PySem.W PyProof.Rows
section
variable {X:Cx}
end
end L2
namespace L2
open PySem PySem.W PyProof.Rows
theorem Paired.snoc {α β:Type}{F:α->β->Prop}:∀{l:List α}{m:List β}{a:α}{b:β},Paired F l m->F a b->Paired F (l++[a]) (m++[b])
 | _,_,_,_,.nil,h=> .cons h .nil
 | _,_,_,_,.cons r t,h=> .cons r (Paired.snoc t h)
theorem Paired.at2 {α β:Type}{F:α->β->Prop}:∀{l:List α}{m:List β}{i:Nat}{a:α}{b:β},Paired F l m->l[i]? =some a->m[i]? =some b->F a b
 | _,_,0,_,_,.cons r _,h1,h2=>by cases h1;cases h2;exact r
 | _,_,i+1,_,_,.cons _ t,h1,h2=>Paired.at2 (i:=i) t (by simpa using h1) (by simpa using h2)
 | _,_,_,_,_,.nil,h1,_=>by simp at h1
theorem jL {α:Type}{J:It}{g:TG}{ti:TT}{te:TE}{σ0:St}{fin:List V->Hp->Prop}{H:Hp} (xs:List α) (c:α->Bool) (P:α->V->Hp->Prop) (hm:∀x y H1 H2,P x y H1->Same H1 H2->P x y H2) (hn:xs.length<=sizeLine)
  (hgo:∀i H1,Same H H1->i<xs.length->J.go i H1)(hst:∀H1,Same H H1->J.stop xs.length H1)
  (hb:∀i x H1,xs[i]? =some x->Same H H1->∀v H',J.yld i H1 v H'->Same H1 H'/\∃σ2:St,σ2.length=σ0.length/\(∀(j:Nat) v,σ0[j]? =some (some v)->σ2[j]? =some (some v))/\(∀R:St->Hp->Prop,R σ2 H'->g v σ0 H' R) ∧
   (∀R:Bool->Hp->Prop,(∀H2,Same H' H2->R (c x) H2)->ti σ2 H' R)/\(c x=true->∀H2,Same H' H2->∀R:VK,(∀y H3,P x y H3->Same H2 H3->R y H3)->te σ2 H2 R))
  (hf:∀ys H1,Same H H1->Paired (fun x y=>P x y H1) (xs.filter c) ys->fin ys H1):eM J g ti te σ0 fin H:=by
 refine⟨fun i m ys H1=>i+m=xs.length/\Same H H1/\Paired (fun x y=>P x y H1) ((xs.take i).filter c) ys,⟨xs.length,by lia,Same.refl _,.nil⟩,?_⟩;rintro i m ys H1 ⟨e1,s1,pr⟩;cases m with
 | zero =>
  have ei:i=xs.length:=by lia
  subst ei;rw[List.take_length]at pr;exact .inl ⟨hst H1 s1,hf ys H1 s1 pr⟩
 | succ m =>
  have hi:i<xs.length:=by lia
  refine .inr ⟨hgo i H1 s1 hi,fun v H' y=> ?_⟩;have ex:xs[i]? =some xs[i]:=List.getElem?_eq_getElem hi;have etake:xs.take (i+1)=xs.take i++[xs[i]]:=by rw[List.take_succ,ex];rfl
  have hlen:ys.length<=i:=by
   rw[←Paired.length pr];exact Nat.le_trans (List.length_filter_le _ _) (by rw[List.length_take];lia)
  obtain⟨s2,σ2,l2,c2,hg,ht,he⟩:=hb i xs[i] H1 ex s1 v H' y;refine hg _ ⟨⟨l2,c2⟩,ht _ fun H2 s3=> ?_⟩;cases hc:c xs[i] with
  | true =>
   show te σ2 H2 _;refine he hc H2 s3 _ fun y H3 py s4=>⟨by lia,m,by lia,by lia,((s1.trans s2).trans s3).trans s4,?_⟩
   rw[etake,List.filter_append,List.filter_cons_of_pos hc];exact Paired.snoc (Paired.imp' (fun a b h=>hm a b _ _ h ((s2.trans s3).trans s4)) pr) py
  | false =>
   show ∃m',_;refine⟨m,by lia,by lia,(s1.trans s2).trans s3,?_⟩;rw[etake,List.filter_append,List.filter_cons_of_neg (by rw[hc];exact Bool.false_ne_true),List.filter_nil,List.append_nil];exact Paired.imp' (fun a b h=>hm a b _ _ h (s2.trans s3)) pr
section
variable {K:PySem.W.Frag}{ti:TT}{te:TE}{σ:St}{ci:List Nat}{rest:St}{fin:List V->Hp->Prop}{H:Hp}{a:Addr}
theorem M1 {n:Nat}(hr:ci.map (fun i=>(σ[i]?).join)=rest):bS n ci σ=List.replicate n none++rest:=by unfold bS;rw[hr]
theorem uD {α:Type}{vs:List V}{xs:List α} (f1 f2:α->V) (c:α->Bool) (P:α->V->Hp->Prop) (hm:∀x y H1 H2,P x y H1->Same H1 H2->P x y H2) (hn:xs.length<=sizeLine) (hr:ci.map (fun i=>(σ[i]?).join)=rest) (hl:SqL K H a vs)
  (hv:Paired (fun v x=>∃q,v= .ref q/\H q=some (.tup [f1 x,f2 x])) vs xs)
  (ht:∀x H1,x∈xs->Same H H1->∀R:Bool->Hp->Prop,(∀H2,Same H1 H2->R (c x) H2)->ti (some (f1 x)::some (f2 x)::rest) H1 R)
  (he:∀x H1,x∈xs->c x=true->Same H H1->∀R:VK,(∀y H2,P x y H2->Same H1 H2->R y H2)->te (some (f1 x)::some (f2 x)::rest) H1 R)
  (hf:∀ys H1,Same H H1->Paired (fun x y=>P x y H1) (xs.filter c) ys->fin ys H1):eM (Itl K a) (yA K 2 (oV (cK 0) (oV (cK 1) AY))) ti te (bS 2 ci σ) fin H:=by
 have e0:bS 2 ci σ=none::none::rest:=M1 hr;rw[e0];have hlen:vs.length=xs.length:=Paired.length hv;refine jL xs c P hm hn (fun i H1 s hi=>⟨vs,vs[i],s.seq hl,List.getElem?_eq_getElem (by lia)⟩) (fun H1 s=>⟨vs,s.seq hl,by lia⟩) (fun i x H1 hx s1 v H' y=> ?_) hf;obtain⟨rfl,e2⟩:=y;have ev:=e2 vs (s1.seq hl);obtain⟨q,rfl,hq⟩:∃q,v= .ref q/\H q=some (.tup [f1 x,f2 x]):=Paired.at2 hv ev hx;have hmem:=List.mem_of_getElem? hx;refine⟨Same.refl _,some (f1 x)::some (f2 x)::rest,rfl,fun j v hv=> ?_,fun R h=>⟨q,[f1 x,f2 x],rfl,.inl (.inl (s1 _ _ hq)),rfl,f1 x,[f2 x],rfl,f2 x,[],rfl,rfl,h⟩,fun R h=>ht x _ hmem s1 R h,fun hc H2 s2 R h=>he x H2 hmem hc (s1.trans s2) R h⟩
 match j,hv with
 | 0,hv=>cases hv
 | 1,hv=>cases hv
 | j+2,hv=>exact hv
end
end L2
namespace L2
open PySem PySem.W PyProof.Rows
section
variable {K:PySem.W.Frag}{ti:TT}{te:TE}{σ:St}{ci:List Nat}{rest:St}{fin:List V->Hp->Prop}{H:Hp}{a:Addr}
theorem qA {H:Hp}{q:Addr}{o:HO} (h:H q=none):Same H (upd H q o):=fun b u e=>by
 have:b≠q:=fun z=>by rw[z,h]at e;cases e
 rw[aG this];exact e
theorem DR {kvs:List (Key×V)}{o:Obj} (c:Key×V->Bool) (P:Key×V->V->Hp->Prop) (hm:∀x y H1 H2,P x y H1->Same H1 H2->P x y H2) (hn:kvs.length<=sizeLine) (hr:ci.map (fun i=>(σ[i]?).join)=rest) (h0:H a=some (.frz o (.dK kvs)))
  (ht:∀x H1,x∈kvs->Same H H1->∀R:Bool->Hp->Prop,(∀H2,Same H1 H2->R (c x) H2)->ti (some (kV x.1)::rest) H1 R)
  (he:∀x H1,x∈kvs->c x=true->Same H H1->∀R:VK,(∀y H2,P x y H2->Same H1 H2->R y H2)->te (some (kV x.1)::rest) H1 R)
  (hf:∀ys H1,Same H H1->Paired (fun x y=>P x y H1) (kvs.filter c) ys->fin ys H1):eM (Itk a o kvs) (cK 0) ti te (bS 1 ci σ) fin H:=by
 rw[xC hr];refine jL kvs c P hm hn (fun i H1 s hi=>⟨s _ _ h0,hi⟩) (fun H1 s=>⟨s _ _ h0,Nat.le_refl _⟩) (fun i x H1 hx s1 v H' y=> ?_) hf;obtain⟨rfl,k,u,e2,rfl⟩:=y;rw[hx]at e2;cases e2;have hmem:=List.mem_of_getElem? hx;refine⟨Same.refl _,some (kV k)::rest,rfl,fun j v hv=> ?_,fun R h=>h,fun R h=>ht _ _ hmem s1 R h,fun hc H2 s2 R h=>he _ H2 hmem hc (s1.trans s2) R h⟩;cases j with
 | zero=>cases hv
 | succ j=>exact hv
end
section
variable {σ:St}{H:Hp}{g:TG}{tb:TS}{nx bk ct:St->Hp->Prop}{rt:VK}
theorem FV {p:Addr}{o:Obj} (kvs:List (Key×V)) (Pv:Nat->St->Hp->Prop) (h0:Pv 0 σ H) (hl:∀i σ H,Pv i σ H->H p=some (.frz o (.dK kvs)))
  (hs:∀i k v σ H,kvs[i]? =some (k,v)->Pv i σ H->g (kV k) σ H fun σ2 H2=>tb ⟨Pv (i+1),rt,nx,Pv (i+1)⟩ σ2 H2)(hd:∀σ H,Pv kvs.length σ H->nx σ H):uL (Itk p o kvs) g tb ⟨nx,rt,bk,ct⟩ σ H:=by
 refine⟨fun i m σ H=>m=kvs.length - i/\i<=kvs.length/\Pv i σ H,⟨kvs.length,by simp,Nat.zero_le _,h0⟩,?_⟩;rintro i m σ H ⟨rfl,hi,q⟩
 by_cases hlt:i<kvs.length
 ·refine .inr ⟨⟨hl i σ H q,hlt⟩,Pv (i+1),fun σ' H' p'=>⟨kvs.length - (i+1),by lia,rfl,hlt,p'⟩,fun x H' y=> ?_⟩;obtain⟨rfl,k,v,e,rfl⟩:=y;exact hs i k v σ _ e q
 ·have e:i=kvs.length:=by lia
  subst e;exact .inl ⟨⟨hl _ σ H q,Nat.le_refl _⟩,hd σ H q⟩
end
def D6 (R:It->Hp->Prop):VK:=fun x H1=>∃a kvs,x= .ref a/\H1 a=some (.dK kvs)/\∀o,R (Itk a o kvs) (upd H1 a (.frz o (.dK kvs)))
def AE (R:It->Hp->Prop):VK:=fun x H1=>∃a kvs,x= .ref a/\H1 a=some (.dK kvs)/\∀o,R (Iti a o kvs) (upd H1 a (.frz o (.dK kvs)))
def NA (Q:VK)(y:V):VK:=fun x H2=>∃a o,x= .ref a/\iO H2 a y o/\Q (.bl o.isSome) H2
def zT (Q:VK)(y:V):VK:=fun x H2=>∃a o,x= .ref a/\iO H2 a y o/\Q (.bl (!o.isSome)) H2
section
variable {K:PySem.W.Frag}{H:Hp}{Q:VK}{σ:St}{nx:St->Hp->Prop}{R:It->Hp->Prop}{td ty tx:TE}
theorem EJ (h:td σ H (D6 R)):ES td σ H R:=h
theorem CA (h:td σ H (AE R)):AJ td σ H R:=h
theorem qM {p:Addr}{kvs:List (Key×V)} (e:H p=some (.dK kvs)) (h:∀o H',SameBut p H H'->H' p=some (.frz o (.dK kvs))->R (Itk p o kvs) H'):D6 R (.ref p) H:=⟨p,kvs,rfl,e,fun o=>h o _ SameBut.upd aR⟩
theorem EI {p:Addr}{kvs:List (Key×V)} (e:H p=some (.dK kvs)) (h:∀o H',SameBut p H H'->H' p=some (.frz o (.dK kvs))->R (Iti p o kvs) H'):AE R (.ref p) H:=⟨p,kvs,rfl,e,fun o=>h o _ SameBut.upd aR⟩
theorem MH (h:ty σ H fun y H1=>td σ H1 (NA Q y)):N3 ty td σ H Q:=h
theorem DF (h:ty σ H fun y H1=>td σ H1 (zT Q y)):z6 ty td σ H Q:=h
theorem KO {p:Addr}{z:Str}{kvs:List (Key×V)} (e:Rd H p (.dK kvs)) (h:Q (.bl (bJ kvs (.inr z)).isSome) H):NA Q (.str z) (.ref p) H:=⟨p,_,rfl,.inl ⟨kvs,.inr z,e,rfl,rfl⟩,h⟩
theorem i9 {p:Addr}{z:Str}{kvs:List (Key×V)} (e:Rd H p (.dK kvs)) (h:Q (.bl (!(bJ kvs (.inr z)).isSome)) H):zT Q (.str z) (.ref p) H:=⟨p,_,rfl,.inl ⟨kvs,.inr z,e,rfl,rfl⟩,h⟩
theorem qU {p:Addr}{v:V}{z:Str}{kvs:List (Key×V)} (e:H p=some (.dK kvs)) (hl:kvs.length<sizeLine) (h:∀H',SameBut p H H'->H' p=some (.dK (cM kvs (.inr z) v))->nx σ H'):IF nx σ (.ref p) v (.str z) H :=
 ⟨p,_,rfl,DPut.k (k:= .inr z) e hl,h _ SameBut.upd aR⟩
theorem jM {p:Addr}{v:V}{z:Str}{kvs:List (Key×V)} (e:Rd H p (.dK kvs)) (hv:bJ kvs (.inr z)=some v) (h:Q v H):HX Q (.ref p) (.str z) H:=⟨p,v,rfl,.inl ⟨kvs,.inr z,e,rfl,hv.symm⟩,h⟩
theorem GB (h:∀p H',H p=none->Same H H'->H' p=some (.dK [])->Q (.ref p) H'):CZ σ H Q:=fE h
theorem GG {p:Addr}{vs:List V}{ps:List (Key×V)} (e:H p=some (.lst vs)) (r:wS H vs ps) (h:∀l H',H l=none->Same H H'->H' l=some (.dK (fI [] ps))->Q (.ref l) H'):EB [.ref p] H Q:=⟨p,vs,ps,rfl,.inl e,r,fE h⟩
theorem qO {te:TE}{p:Addr}{u:HO} (e:H p=some u) (nf:∀o x,u≠ .frz o x) (h:te σ H fun x=>d3 p (Q x)):HP te σ H Q:=⟨p,fun o x z=>nf o x (by rw[e]at z;exact Option.some.inj z),h⟩
theorem GU {ts:TS}{bk ct:St->Hp->Prop}{rt:VK}{p:Addr}{u:HO} (e:H p=some u) (nf:∀o x,u≠ .frz o x) (h:ts ⟨fun σ'=>d3 p (nx σ'),fun v=>d3 p (rt v),fun σ'=>d3 p (bk σ'),fun σ'=>d3 p (ct σ')⟩ σ H):IJ ts ⟨nx,rt,bk,ct⟩ σ H :=
 ⟨p,fun o x z=>nf o x (by rw[e]at z;exact Option.some.inj z),h⟩
theorem kB {p:Addr}{o:Obj}{u:HO}{R:Hp->Prop} (e:H p=some (.frz o u)) (h:∀H',SameBut p H H'->H' p=some u->R H'):d3 p R H:=⟨o,u,e,h _ SameBut.upd aR⟩
theorem mY {H Hf H1 H2:Hp}{p:Addr}{u:HO} (e:H p=some u) (a:SameBut p H Hf) (b:SameBut p Hf H1) (c:SameBut p H1 H2) (e2:H2 p=some u):Same H H2:=fun x o z=>by
 by_cases hx:x=p
 ·subst hx;rw[e]at z;cases z;exact e2
 ·exact c x o (b x o (a x o z hx) hx) hx
end
section
variable {X:Cx}{K:PySem.W.Frag}
theorem jI {e:Expr}{ta:TE}{f:Str}{pos:Pos} (he:PE X e ta) (hb:attributeBase e f X.env (eval e X.env)=eval e X.env) (hK:X.K=K:=by rfl):PE X (.Attribute e f pos) (FP K ta f):=by
 subst hK;exact bI he hb
end
end L2
namespace L2
open PySem PySem.W PyProof.Rows
section
variable {K:PySem.W.Frag}{ti:TT}{te:TE}{σ:St}{ci:List Nat}{rest:St}{fin:List V->Hp->Prop}{H:Hp}{a:Addr}{α:Type}
theorem uK {vs:List V}{xs:List α} (F:V->α->Prop) (c:α->Bool) (P:α->V->Hp->Prop) (hm:∀x y H1 H2,P x y H1->Same H1 H2->P x y H2) (hn:xs.length<=sizeLine) (hr:ci.map (fun i=>(σ[i]?).join)=rest) (hl:SqL K H a vs) (hv:Paired F vs xs)
  (ht:∀v x H1,F v x->x∈xs->Same H H1->∀R:Bool->Hp->Prop,(∀H2,Same H1 H2->R (c x) H2)->ti (some v::rest) H1 R)
  (he:∀v x H1,F v x->x∈xs->c x=true->Same H H1->∀R:VK,(∀y H2,P x y H2->Same H1 H2->R y H2)->te (some v::rest) H1 R)
  (hf:∀ys H1,Same H H1->Paired (fun x y=>P x y H1) (xs.filter c) ys->fin ys H1):eM (Itl K a) (cK 0) ti te (bS 1 ci σ) fin H:=by
 rw[xC hr];have hlen:vs.length=xs.length:=Paired.length hv;refine jL xs c P hm hn (fun i H1 s hi=>⟨vs,vs[i],s.seq hl,List.getElem?_eq_getElem (by lia)⟩) (fun H1 s=>⟨vs,s.seq hl,by lia⟩) (fun i x H1 hx s1 v H' y=> ?_) hf;obtain⟨rfl,e2⟩:=y;have ev:=e2 vs (s1.seq hl);have hF:=Paired.at2 hv ev hx;have hmem:=List.mem_of_getElem? hx;refine⟨Same.refl _,some v::rest,rfl,fun j v hv=> ?_,fun R h=>h,fun R h=>ht v x _ hF hmem s1 R h,fun hc H2 s2 R h=>he v x H2 hF hmem hc (s1.trans s2) R h⟩;cases j with
 | zero=>cases hv
 | succ j=>exact hv
theorem KL {kvs:List (Key×V)}{o:Obj}{xs:List α} (F:Key×V->α->Prop) (c:α->Bool) (P:α->V->Hp->Prop) (hm:∀x y H1 H2,P x y H1->Same H1 H2->P x y H2) (hn:xs.length<=sizeLine) (hr:ci.map (fun i=>(σ[i]?).join)=rest) (h0:H a=some (.frz o (.dK kvs))) (hv:Paired F kvs xs)
  (ht:∀e x H1,F e x->x∈xs->Same H H1->∀R:Bool->Hp->Prop,(∀H2,Same H1 H2->R (c x) H2)->ti (some (kV e.1)::some e.2::rest) H1 R)
  (he:∀e x H1,F e x->x∈xs->c x=true->Same H H1->∀R:VK,(∀y H2,P x y H2->Same H1 H2->R y H2)->te (some (kV e.1)::some e.2::rest) H1 R)
  (hf:∀ys H1,Same H H1->Paired (fun x y=>P x y H1) (xs.filter c) ys->fin ys H1):eM (Iti a o kvs) (yA K 2 (oV (cK 0) (oV (cK 1) AY))) ti te (bS 2 ci σ) fin H:=by
 have e0:bS 2 ci σ=none::none::rest:=M1 hr;rw[e0];have hlen:kvs.length=xs.length:=Paired.length hv;refine jL xs c P hm hn (fun i H1 s hi=>⟨s _ _ h0,by lia⟩) (fun H1 s=>⟨s _ _ h0,by lia⟩) (fun i x H1 hx s1 v H' y=> ?_) hf;obtain⟨k,u,q,e2,rfl,hq,rfl⟩:=y;have hF:=Paired.at2 hv e2 hx;have hmem:=List.mem_of_getElem? hx;have sq:Same H1 (upd H1 q (.tup [kV k,u])):=qA hq;refine⟨sq,some (kV k)::some u::rest,rfl,fun j v hv=> ?_,fun R h=>⟨q,[kV k,u],rfl,.inl (.inl aR),rfl,kV k,[u],rfl,u,[],rfl,rfl,h⟩,fun R h=>ht _ x _ hF hmem (s1.trans sq) R h,fun hc H2 s2 R h=>he _ x H2 hF hmem hc ((s1.trans sq).trans s2) R h⟩
 match j,hv with
 | 0,hv=>cases hv
 | 1,hv=>cases hv
 | j+2,hv=>exact hv
end
theorem iH {α:Type}{f:α->V}:∀{l:List α}{ys:List V},Paired (fun x y=>y=f x) l ys->ys=l.map f
 | _,_,.nil=>rfl
 | _,_,.cons h t=>by rw[h,iH t];rfl
theorem dJ {α:Type}(l:List α):l.filter (fun _=>true)=l:=by simp
theorem MV {K:PySem.W.Frag}{H:Hp}{Q:VK}{p:Addr}{z:Str}{ss:List Str} (e:SqL K H p (ss.map V.str)) (h:Q (.bl (decide (z∈ss))) H):rIn K false (.str z) (.ref p) H Q:=by
 refine⟨p,_,rfl,.inl e,rfl,?_,?_⟩
 ·rw[List.all_eq_true];intro x hx;obtain⟨y,_,rfl⟩:=List.mem_map.mp hx;rfl
 ·have e2:inV (.str z) (ss.map V.str)=decide (z∈ss):=by
   rw[Bool.eq_iff_iff,decide_eq_true_eq];unfold inV;rw[List.any_eq_true]
   constructor
   ·rintro ⟨x,hx,h⟩;obtain⟨y,hy,rfl⟩:=List.mem_map.mp hx;have:y=z:=by simpa [eqV] using h
    rw[←this];exact hy
   ·intro h;exact⟨.str z,List.mem_map.mpr ⟨z,h,rfl⟩,by simp[eqV]⟩
  show Q (.bl (inV (.str z) (ss.map V.str))) H;rw[e2];exact h
end L2
namespace L2
open PySem PySem.W PyProof.Rows
theorem kZ {κ:Type}[DecidableEq κ]:∀{kvs:List (κ×V)}{e:κ×V},(kvs.map (·.1)).Nodup->e∈kvs->bJ kvs e.1=some e.2
 | a::l,e,nd,h=>by
  have nd':=List.pairwise_cons.mp nd;rcases List.mem_cons.mp h with rfl|h
  ·exact cG rfl
  ·rw[b7 (nd'.1 e.1 (List.mem_map.mpr ⟨e,h,rfl⟩))];exact kZ nd'.2 h
end L2
namespace L2
open PySem PySem.W PyProof.Rows
theorem LG:typeLookup (.type "dict") "__len__" =pure (some (.builtin "dict.__len__")):=by rw[typeLookup_type,builtinLookup_eq_fast];kernel_rfl
section
variable {prog:Program}{w:World}{A:Around}{E:Value->Shared->Prop}{s:Shared}{d:Addr}{κ:Type} [DecidableEq κ] {knd:KeyKind prog w κ}{ps:List (κ×Value)}{ep:Nat}
theorem ED (T:s.TypeIs (.ref d) "dict"){Q:Bool->Shared->Prop}(h:Q false s):wpAny (model prog w) A (Builtin.List.listLengthHint (.ref d)) Q E s:=by
 unfold Builtin.List.listLengthHint;refine wpAny_bind (wpAny_specialOf T LG ?_);generalize q:("dict.__len__" :String)=i0
 wp_delta
 rw[show splitId i0=some ("dict","__len__") from by subst q;decide +kernel];subst q;refine wpAny_bind (wpAny_isInstance (T:= "dict") (b:=true) T (by rw[isSubtype_type];kernel_rfl) (wpAny_ite_split (fun z=>absurd z (by decide)) (fun _=>wpAny_ite_split (fun _=> ?_) (fun z=>absurd (by decide +kernel) z))));exact wpAny_bind (wpAny_typeOf T (wpAny_pure h))
theorem y7 {R:Result->Shared->Prop}(hh:A.handled=none)(hm:s.heap.DictAt knd d ps ep)(hd0:(d==sysModules)=false)(S:Addr)(hSd:S≠d)(c0:Nat)(hS:s.heap.get? S=some { cls:= .type "list",data:= .seq #[] c0 })(hn:ps.length<=sizeLine)
  (k:∀h' tk acc c,(∀b o,b≠S->s.heap.get? b=some o->h'.get? b=some o)->h'.get? S=some { cls:= .type "list",dict:=none,data:= .seq acc c,slots:= #[] }->ItemsOf (fun i v=>∃k x,ps[i]? =some (k,x)/\knd.is k v=true) acc ps.length->R (.ok (.ret .none)) { s with heap:=h',toks:=tk }) :
  wpAny (model prog w) A.in1 (Builtin.List.listExtendWith (.ref S) (.ref d) .none) (fun fin s'=>match fin with| .done f=>R (.ok f) s'| .again c'=>c'.quiet=true/\codeAny (model prog w) A c' R s') (fun e s'=>R (.error e) s') s:=by
 obtain⟨o,es,ho,hc,hq,hk,hp,hnd⟩:=id hm;have T:s.TypeIs (.ref d) "dict" :=⟨o,ho,hc.1⟩
 have lS:S<s.heap.objs.size:=Heap.lt_size hS;have ld:d<s.heap.objs.size:=Heap.lt_size ho;have hsz:es.size=ps.length:=by rw[←hp.length];simp
 have W:=(Walks.dictKeys (prog:=prog) (w:=w) (knd:=knd) (A:=A.in1) hh s.heap.objs.size d (Nat.ne_of_lt ld) ps ep).toS;have run:∀(h:Heap) (c1 tk:Nat),h.IsKeyIter s.heap.objs.size d 0 ps.length ep->(∀b u,b≠S->s.heap.get? b=some u->h.get? b=some u)->h.get? S=some { cls:= .type "list",data:= .seq #[] c1 } →
   codeAny (model prog w) A (.builtin "list.extend.loop" ⟨[.ref S,.ref s.heap.objs.size,.none],[]⟩) R { s with heap:=h,toks:=tk }:=by
  intro h c1 tk hit kp hS1;refine codeAny_extend_loopS W hn S (by simp only[List.mem_cons,List.not_mem_nil,or_false,not_or];exact⟨Nat.ne_of_lt lS,hSd⟩) .none ps.length 0 _ #[] c1 rfl (Nat.zero_le _) ⟨hit,o,es,kp d o (Ne.symm hSd) ho,hc,hq,hk,hp,hnd⟩ hS1 (ItemsOf.nil _) fun s' acc c' mv hS2 hacc=> ?_;rw[Moved.eq_with mv];refine k s'.heap s'.toks acc c' (fun b u hb e=>mv.heap b u (fun z=> ?_) (kp b u hb e)) hS2 hacc;rcases List.mem_cons.mp z with z|z
  ·exact hb z
  ·have:=Heap.lt_size e;rw[List.mem_singleton.mp z]at this;exact Nat.lt_irrefl _ this
 unfold Builtin.List.listExtendWith;refine wpAny_bind (wpAny_typeOf (T:= "dict") T ?_);simp only[show Builtin.List.listSameRef (.ref S) (.ref d)=false by simp[Builtin.List.listSameRef,hSd],show (Value.type "dict" ==Value.type "list")=false by decide,show (Value.type "dict" ==Value.type "tuple")=false by decide,Bool.or_false,Bool.false_eq_true,if_false];refine wpAny_bind (x9 hd0 ho hc hq ?_);have hS1:=Heap.get?_push_of_some { cls:= .type "dict_keyiterator",data:= .fields #[.ref d,.int 0 0,.int es.size 0,.int ep 0] } hS;refine wpAny_bind (wpAny_holding (ED ⟨o,Heap.get?_push_of_some _ ho,hc.1⟩ ?_));have hit:(s.heap.push { cls:= .type "dict_keyiterator",data:= .fields #[.ref d,.int 0 0,.int es.size 0,.int ep 0] }).IsKeyIter s.heap.objs.size d 0 ps.length ep:=⟨_,Heap.get?_push_size _ rfl,rfl,by rw[hsz];rfl⟩
 refine wpAny_ite_split (fun z=> ?_) (fun _=>wpAny_pure ⟨plainId_quiet F.plain_extend_loop _,run _ c0 _ hit (fun b u _ e=>Heap.get?_push_of_some _ e) hS1⟩);refine wpAny_bind (wpAny_rule (wpAny_bind ?_));show wpAny _ A.in1 (updateSeq S (·.push .none) >>= fun _=>updateSeq S (·.pop)) _ _ _;have u1:=Heap.get?_update_self (Obj.mapSeq (·.push Value.none)) hS1 rfl;have u2:=Heap.get?_update_self (Obj.mapSeq (·.pop)) u1 rfl;refine wpAny_bind (wpAny_updateSeq hS1 rfl (wpAny_updateSeq (hz:=by seq_fits) u1 rfl (wpAny_pure ⟨plainId_quiet F.plain_extend_loop _,run _ _ _ ?_ (fun b u hb e=> ?_) u2⟩)))
 ·exact hit.at fun u e=>(Heap.get?_update_other _ _ (Nat.ne_of_lt lS)).trans ((Heap.get?_update_other _ _ (Nat.ne_of_lt lS)).trans e)
 ·exact(Heap.get?_update_other _ _ (Ne.symm hb)).trans ((Heap.get?_update_other _ _ (Ne.symm hb)).trans (Heap.get?_push_of_some _ e))
theorem EY {Q:Value->Shared->Prop}(hh:A.handled=none)(hm:s.heap.DictAt knd d ps ep)(hd0:(d==sysModules)=false)(hn:ps.length<=sizeLine)
  (k:∀h' tk acc c,(∀b o,s.heap.get? b=some o->h'.get? b=some o)->h'.get? s.heap.objs.size=some { cls:= .type "list",dict:=none,data:= .seq acc c,slots:= #[] }->ItemsOf (fun i v=>∃k x,ps[i]? =some (k,x)/\knd.is k v=true) acc ps.length->Q (.ref s.heap.objs.size) { s with heap:=h',toks:=tk }) :
  wpAny (model prog w) A (call (.type "list") [.ref d]) Q E s:=by
 refine callType_codes (Q₁:=fun x s1=>x= .ref s.heap.objs.size/\s1={ s with heap:=s.heap.push { cls:= .type "list",data:= .seq #[] } }) F.called_list (F.typeCall_list_1 _) F.entry_list_init (code_list_new _ ⟨rfl,rfl⟩) ?_;rintro x s1 ⟨rfl,rfl⟩;have hS:(s.heap.push { cls:= .type "list",data:= .seq #[] }).get? s.heap.objs.size=some { cls:= .type "list",data:= .seq #[] }:=Heap.get?_push_size _ rfl;have hm1:(s.heap.push { cls:= .type "list",data:= .seq #[] }).DictAt knd d ps ep:=hm.at' fun o e=>Heap.get?_push_of_some _ e;have hdS:s.heap.objs.size≠d:=fun z=>by
  obtain⟨o,_,ho,_⟩:=hm;have:=Heap.lt_size ho;rw[←z]at this;exact Nat.lt_irrefl _ this
 refine⟨⟨_,hS,rfl⟩,F.args_list_init_2 _ _,?_⟩;show wpAny _ A.in1.in1 (Builtin.List.listItems (.ref s.heap.objs.size) >>= fun old=>Builtin.List.listUpdate (.ref s.heap.objs.size) (fun _=> #[]) >>= fun _=>letGo old.toList.reverse >>= fun _=>Builtin.List.listExtendWith (.ref s.heap.objs.size) (.ref d) .none) _ _ _;refine wpAny_bind ?_;unfold Builtin.List.listItems;refine wpAny_bind (wpAny_seqItems hS rfl (wpAny_pure ?_));show wpAny _ A.in1.in1 (updateSeq s.heap.objs.size (fun _=> #[]) >>= fun _=>letGo (#[]:Array Value).toList.reverse >>= fun _=>Builtin.List.listExtendWith (.ref s.heap.objs.size) (.ref d) .none) _ _ _;have u1:=Heap.get?_update_self (Obj.mapSeq (fun _=>(#[]:Array Value))) hS rfl;have kp:∀b o,b≠s.heap.objs.size->(s.heap.push { cls:= .type "list",data:= .seq #[] }).get? b=some o->((s.heap.push { cls:= .type "list",data:= .seq #[] }).update s.heap.objs.size (Obj.mapSeq (fun _=>(#[]:Array Value)))).get? b=some o:=fun b o hb e=>(Heap.get?_update_other _ _ (Ne.symm hb)).trans e;refine wpAny_bind (wpAny_updateSeq hS rfl (wpAny_bind (wpAny_letGo ?_)));refine y7 (A:=A.in1) hh (hm1.at' fun o e=>kp d o (Ne.symm hdS) e) hd0 _ hdS _ u1 hn fun h' tk acc c kk hS' hacc=> ?_;exact⟨rfl,k h' tk acc c (fun b o e=>kk b o (Nat.ne_of_lt (Heap.lt_size e)) (kp b o (Nat.ne_of_lt (Heap.lt_size e)) (Heap.get?_push_of_some _ e))) hS' hacc⟩
end
section
variable {X:Cx}
def DN:List V->Hp->VK->Prop:=fun xs H Q=>∃p kvs,xs=[.ref p]/\Rd H p (.dK kvs)/\∀l,H l=none->Q (.ref l) (upd H l (.lst (kvs.map fun e=>kV e.1)))
theorem vV {P:Program}{w:World}{kvs:List (Key×V)}{rs:List (Key×Value)} (r:KV kvs rs) {acc:Array Value} (h:ItemsOf (fun i v=>∃k x,rs[i]? =some (k,x)/\(bH P w).is k v=true) acc rs.length):Vals (kvs.map fun e=>kV e.1) acc.toList:=by
 have e0:acc.toList.length=rs.length:=by rw[Array.length_toList];exact h.1
 refine yI (by rw[List.length_map,e0];exact r.length) fun i x u h1 h2=> ?_;obtain⟨k,y,e1,e2⟩:=h.2 i u (by simpa using h2);rw[List.getElem?_map]at h1;obtain⟨e,he,rfl⟩:=Option.map_eq_some_iff.mp h1;have hi:i<kvs.length:=(List.getElem?_eq_some_iff.mp he).1;obtain⟨k',v',u',f1,f2,f3⟩:=sI r hi;rw[he]at f1;cases f1;rw[e1]at f2;cases f2;exact t7 e2
theorem rH (hc:X.calm=true):cX X (.type "list") DN:=by
 intro pins s σ H xs us Q I r h;obtain⟨p,kvs,rfl,hq,q⟩:=h;obtain⟨u,rfl,rx⟩:=j6 r;cases rx;obtain⟨z,y,rs,kv,o,es,ep,h1,h2,h3,h4,h5,h6⟩:=i8 I.hok hq;have hl:=kv.length;refine EY (knd:=bH X.prog X.w) (ps:=rs) (ep:=ep) (I.ok.hd hc) ⟨o,es,h1,h2,h3,h4,h5,h6⟩ y (by lia) fun h' tk acc c kp hS hacc=> ?_;exact⟨.ref _,_,I.laid (t':=tk) kp (Nat.le_refl _) (show ObjOk X.prog X.w _ h' _ (.lst (kvs.map fun e=>kV e.1)) from⟨by rw[List.length_map];exact z,acc.toList,c,vV kv hacc,by rw[Array.toArray_toList];exact hS⟩),rfl,q _ (I.hok.fresh (Nat.le_refl _))⟩
end
end L2
namespace L2
open PySem PySem.W PyProof.Rows
def oM (v d:Addr):HO:= .ext fun h=>h.IsValuesView v d
def A4 (Q:VK):VK:=fun x H1=>∃a kvs,x= .ref a/\Rd H1 a (.dK kvs)/\∀v,H1 v=none->Q (.ref v) (upd H1 v (oM v a))
def IN (td:TE):TE:=fun σ H Q=>td σ H (A4 Q)
section
variable {X:Cx}
theorem BQ {l:Expr}{td:TE}{apos cpos:Pos} (hl:PE X l td) (hbase:attributeBase l "values" X.env (eval l X.env)=eval l X.env:=by rfl) (hline:(apos.endLine==cpos.line)=true:=by rfl) :
  PE X (.Call (.Attribute l "values" apos) [] [] cpos) (IN td):=by
 intro pins s σ H Q I h;refine wpAny_Call_method0_late hbase hline (thn (hl pins s σ H _ I h) fun v s1 ⟨x,H1,I1,r1,q1⟩=> ?_);obtain⟨a,kvs,rfl,hq,q⟩:=q1;cases r1;obtain⟨t1,t2,_⟩:=EK I1 (.inl ⟨kvs,hq⟩);refine⟨"dict","dict.values",F.plainAttrs_dict,F.slot_dict_values,F.type_dict_values,t1,t2,Calls.callWith_builtin rfl (PySem.evalArgs_none ?_)⟩;obtain⟨z,y,vs,r,o,es,ep,h1,h2,h3,h4,h5,h6⟩:=i8 I1.hok hq;refine call_meetsIn F.slot_dict_values t1 F.entry_dict_values (F.args_dict_values_1 _) (meets_dict_values (bH X.prog X.w) a y) ⟨⟨vs,o,es,ep,h1,h2,h3,h4,h5,h6⟩,?_⟩;have hv:(s1.heap.push { cls:= .type "dict_values",data:= .fields #[.ref a] }).IsValuesView s1.heap.objs.size a:=⟨_,Heap.get?_push_size _ rfl,rfl,rfl⟩
 refine⟨.ref s1.heap.objs.size,_,I1.laid (t':=s1.toks) (fun b u e=>Heap.get?_push_of_some _ e) (Nat.le_refl _) (show ObjOk X.prog X.w _ _ _ (oM s1.heap.objs.size a) from⟨hv,⟨_,Heap.get?_push_size _ rfl⟩,fun g1 g2 p k=> ?_⟩),rfl,q _ (I1.hok.fresh (Nat.le_refl _))⟩;obtain⟨o,e,c⟩:=p;exact⟨o,k o e,c⟩
theorem xM (ns:List Int):∀j,j<=ns.length->preSum (fun i=>ns.getD i 0) j=(ns.take j).sum
 | 0,_=>by simp[preSum]
 | j+1,h=>by
  rw[preSum,xM ns j (by lia),List.take_succ,List.getElem?_eq_getElem (by lia),List.sum_append];rw[List.getD_eq_getElem?_getD,List.getElem?_eq_getElem (by lia)];simp
theorem L9 (ns:List Int):preSum (fun i=>ns.getD i 0) ns.length=ns.sum:=by rw[xM ns _ (Nat.le_refl _),List.take_length]
def IB:List V->Hp->VK->Prop:=fun xs H Q=>∃(v d:Addr) (kvs:List (Key×V)) (ns:List Int),xs=[.ref v]/\H v=some (oM v d)/\Rd H d (.dK kvs)/\kvs.map (·.2)=ns.map V.int/\Q (.int ns.sum) H
theorem DX (hc:X.calm=true):cX X (.builtin "sum") IB:=by
 intro pins s σ H xs us Q I r h;obtain⟨v,d,kvs,ns,rfl,hv,hq,hns,q⟩:=h;obtain⟨u,rfl,rx⟩:=j6 r;cases rx;obtain⟨hview,_,_⟩:=(show ObjOk X.prog X.w H s.heap v (oM v d) from I.hok v _ hv)
 have hview:s.heap.IsValuesView v d:=hview;obtain⟨z,y,rs,kv,o,es,ep,h1,h2,h3,h4,h5,h6⟩:=i8 I.hok hq;have hl:=kv.length;have hln:kvs.length=ns.length:=by have:=congrArg List.length hns;rwa [List.length_map,List.length_map]at this
 have ld:d<s.heap.objs.size:=Heap.lt_size h1;have hm:s.heap.DictAt (bH X.prog X.w) d rs ep:=⟨o,es,h1,h2,h3,h4,h5,h6⟩
 refine call_sum_walkG (wpAny_pyIter_values hview hm ?_);refine⟨s.heap.objs.size,_,_,rs.length,_,_,fun i=>ns.getD i 0,rfl,Walks.dictValues (knd:=bH X.prog X.w) (show X.A.in1.handled=none from I.ok.hd hc) s.heap.objs.size d (Nat.ne_of_lt ld) rs ep,⟨⟨_,Heap.get?_push_size _ rfl,rfl,rfl⟩,hm.at' fun o e=>Heap.get?_push_of_some _ e⟩,?_,?_,?_⟩
 ·intro b hb;simp only[List.mem_cons,List.not_mem_nil,or_false]at hb;have hsz:(s.heap.push { cls:= .type "dict_valueiterator",data:= .fields #[.ref d,.int 0 0,.int rs.length 0,.int ep 0] }).objs.size=s.heap.objs.size+1:=by simp[Heap.push]
  rcases hb with rfl|rfl
  ·show s.heap.objs.size<_;rw[hsz];exact Nat.lt_succ_self _
  ·show b<_;rw[hsz];exact Nat.lt_succ_of_lt ld
 ·rintro i u ⟨kk,hk⟩;have hi:i<kvs.length:=by rw[hl];exact(List.getElem?_eq_some_iff.mp hk).1
  obtain⟨k',v',u',f1,f2,f3⟩:=sI kv hi;rw[hk]at f2;cases f2;have e1:(kvs.map (·.2))[i]? =some v':=by rw[List.getElem?_map,f1];rfl
  rw[hns,List.getElem?_map]at e1;obtain⟨n,hn,rfl⟩:=Option.map_eq_some_iff.mp e1;obtain⟨t,rfl⟩:=f3;refine⟨t,?_⟩;show Value.int n t=Value.int (ns.getD i 0) t;rw[List.getD_eq_getElem?_getD,hn];rfl
 ·intro h' tk t' hk;have e2:preSum (fun i=>ns.getD i 0) rs.length=ns.sum:=by
   rw[←hl,hln];exact L9 ns
  rw[e2];have I1:Inv X pins σ H { s with heap:=s.heap.push { cls:= .type "dict_valueiterator",data:= .fields #[.ref d,.int 0 0,.int rs.length 0,.int ep 0] },toks:=s.toks }:=I.kept fun b u e=>Heap.get?_push_of_some _ e;obtain⟨f0,f1,f2,f3,f4,f5⟩:=I.fpOk (Nat.le_refl _) (I.hok.fresh (Nat.le_refl _));exact⟨.int ns.sum,H,I1.turned (fun b o hb e=>hk b o (by simpa using hb) e) f0 f1 f3 f4 f5,⟨t',rfl⟩,q⟩
end
end L2
namespace L2
open PySem PySem.W PyProof.Rows
section
variable {X:Cx}{pins:List (Addr×Obj)}{σ:St}{H:Hp}{s:Shared}{h':Heap}
theorem Inv.turns {t':Nat}{ch:List Addr} (I:Inv X pins σ H s) (k:∀b o,b∉ch->s.heap.get? b=some o->h'.get? b=some o) (hf:∀b∈ch,gL X pins H b):Inv X pins σ H { s with heap:=h',toks:=t' }:=by
 have nit:∀b u,H b=some u->b∉ch:=fun b u e z=>by have:=(hf b z).1;rw[e]at this;cases this
 refine I.step (g':=s.gens) (d':=s.drawn) (ch:=ch) (fun b hb=> ?_) (fun b o _ _ hc e _=>k b o hc e) (fun b o _ _ hc e _=>⟨o.slots,k b o hc e⟩) (fun _ _ _ _ n=>n) (fun b o hc e=>⟨o,k b o hc e⟩) (fun _ _ e=>e) (fun _ _ _ e=>e) (fun b ps e=>⟨#[],by rw[e];simp⟩) (fun m hm=> ?_) (fun b u e=> ?_) I.bare
 ·obtain⟨f0,f1,f2,f3,f4,f5⟩:=hf b hb;exact⟨f3,f1,f4,f5⟩
 ·obtain⟨o,es,ep,ho,r⟩:=hm;exact⟨o,es,ep,k _ o (fun z=>(hf _ z).2.1 rfl) ho,r⟩
 ·refine(I.hok b u e).stay (fun c v hc q=>k c v ?_ q) (fun _ q=>q) fun _ _ q=>q;rcases hc with z|z
  ·rw[z];exact nit b u e
  ·exact nit c _ z
end
def Ite (K:PySem.W.Frag)(a:Addr):It :=
 ⟨fun i H=>∃xs x,SqL K H a xs/\xs[i]? =some x,fun i H x H'=>∃q,x= .ref q/\H q=none/\∀xs,SqL K H a xs->∃y,xs[i]? =some y/\H'=upd H q (.tup [.int i,y]),fun i H=>∃xs,SqL K H a xs/\xs.length<=i⟩
theorem D8 {P:Program}{w:World}{K:PySem.W.Frag}{elts:List Expr}{x1:Nat}{tpos:Pos} (a e it:Addr) (hne:e≠it) :
  nG P w K (.Tuple elts x1 tpos) (Ite K a) [e,it] e (fun i h=>(∃old,IsEnum h e it i old)/\h.IsListIter it a i) where
 mem:=by simp
 obj:=fun i h st b hb=>by
  obtain⟨⟨old,e1⟩,o2,e2,c2,d2⟩:=st;simp only[List.mem_cons,List.not_mem_nil,or_false]at hb;rcases hb with rfl|rfl
  ·exact⟨_,e1,fun v z=>by cases z⟩
  ·exact⟨o2,e2,fun v z=>by rw[d2]at z;cases z⟩
 keep:=fun i h h' st k=>⟨let ⟨old,e1⟩:=st.1;⟨old,k e (by simp) _ e1⟩,st.2.at fun o q=>k it (by simp) o q⟩
 item:=by
  intro X hP hw hK hc i pins s σ H E I hf st hg;subst hP hw hK;obtain⟨xs,x,hq,hx⟩:=hg;obtain⟨⟨old,st1⟩,st2⟩:=st;obtain⟨its,rv,p,hz⟩:=I.list hq;obtain⟨u,hu,ru⟩:=rv.get hx;refine wpAny_pyNext_enum_item st1 st2 p.isList (x:=u) (by simpa using hu) hne fun h1 heo hit1 ht1 hz1 hk1=> ?_;refine⟨_,rfl,?_⟩;refine wpAny_letOwnedTupleGo_enum (s:={ s with heap:=h1,toks:=s.toks+1 }) heo fun h2 he2 sb2=> ?_;have hq0:H s.heap.objs.size=none:=I.hok.fresh (Nat.le_refl _);have le1:e<s.heap.objs.size:=Heap.lt_size st1;have li1:it<s.heap.objs.size:=by obtain⟨o,q,_⟩:=st2;exact Heap.lt_size q
  have I1:Inv X pins σ (upd H s.heap.objs.size (.tup [.int i,x])) { s with heap:=s.heap.push { cls:= .type "tuple",data:= .seq #[.int i s.toks,u] } } :=
   I.laid (t':=s.toks) (fun b u e=>Heap.get?_push_of_some _ e) (Nat.le_refl _) ⟨(show 2<=sizeLine by rw[sizeLine_eq];decide),[.int i s.toks,u],.cons ⟨_,rfl⟩ (.cons ru .nil),⟨_,Heap.get?_push_size _ rfl,rfl,0,rfl⟩⟩
  have hf':∀b∈[e,it],gL X pins (upd H s.heap.objs.size (.tup [.int i,x])) b:=fun b hb=>by
   obtain⟨f0,f1⟩:=hf b hb;refine⟨?_,f1⟩;simp only[List.mem_cons,List.not_mem_nil,or_false]at hb;rcases hb with rfl|rfl
   ·rw[aG (Nat.ne_of_lt le1)];exact f0
   ·rw[aG (Nat.ne_of_lt li1)];exact f0
  have I2:Inv X pins σ (upd H s.heap.objs.size (.tup [.int i,x])) { s with heap:=h2,toks:=s.toks+1 }:=Inv.turns (s:={ s with heap:=s.heap.push { cls:= .type "tuple",data:= .seq #[.int i s.toks,u] } }) (h':=h2) (t':=s.toks+1) I1 (fun c o hb q=>by
   simp only[List.mem_cons,List.not_mem_nil,or_false,not_or]at hb;rcases Heap.get?_push_cases q with⟨rfl,rfl⟩|q
   ·exact(sb2.2 _ hb.1).trans ht1
   ·exact(sb2.2 c hb.1).trans (hk1 c o hb.1 hb.2 q)) hf'
  refine⟨.ref s.heap.objs.size,_,I2,rfl,⟨_,rfl,hq0,fun ys hy=>⟨x,by rw[I.list_inj hy hq];exact hx,rfl⟩⟩,⟨⟨u,?_⟩,hit1.at fun o q=>(sb2.2 it (Ne.symm hne)).trans q⟩,fun b hb=>(hf' b hb).1⟩;rw[show ((i+1:Nat):Int)=(i:Int)+1 by lia];exact he2
 done:=by
  intro X hP hw hK hc i pins s σ H E I hf st hg;subst hP hw hK;obtain⟨xs,hq,hx⟩:=hg;obtain⟨⟨old,st1⟩,st2⟩:=st;obtain⟨its,rv,p,hz⟩:=I.list hq;have hl:=rv.length;obtain⟨f0,f1,f2,f3,f4,f5⟩:=hf it (by simp);exact wpAny_pyNext_enum_end (I.ok.hd hc) st1 st2 p.isList (by simp;lia) fun h' eb=>⟨rfl,I.turned (t':=s.toks) (fun b o hb q=>eb b o hb q) f0 f1 f3 f4 f5⟩
 self:=fun A i s Q E st h=>by
  obtain⟨⟨old,st1⟩,_⟩:=st;exact wpAny_pyIter_enum st1 h
theorem xT:bootBuiltins "enumerate" =some (.type "enumerate"):=by decide +kernel
def HY (K:PySem.W.Frag)(ta:TA):TI:=fun σ H R=>ta σ H fun vs H1=>∃b xs,vs=[.ref b]/\SqL K H1 b xs/\R (Ite K b) H1
section
variable {X:Cx}
theorem LP {a:Expr}{ta:TA}{p pos:Pos}{elts:List Expr}{x1:Nat}{tpos:Pos} (hg:Gl X "enumerate") (hm:X.mg "enumerate" =none) (ha:PA X [a] ta) (hs:starEach [a] X.env=[(false,eval a X.env)]:=by rfl):PI X (.Tuple elts x1 tpos) (.Call (.Name "enumerate" p) [a] [] pos) (HY X.K ta):=by
 intro pins s σ H R I h;refine Call_ (k7 I hg hm xT (PyProof.Rows.callWith_type1 (thn (ha pos pins s σ H _ I h) fun us s1 ⟨vs,H1,I1,r1,q1⟩=> ?_) hs rfl));obtain⟨b,xs,rfl,hq,q⟩:=q1;obtain⟨u,rfl,rx⟩:=j6 r1;cases rx;obtain⟨its,rv,pl,hz⟩:=I1.list hq;refine call_enumerate_list pl.isList fun h' he hit hsz kp=> ?_;refine wpAny_pyIter_enum (s:={ s1 with heap:=h' }) he ?_;have I2:Inv X pins σ H1 { s1 with heap:=h' }:=I1.kept (t':=s1.toks) kp;refine⟨s1.heap.objs.size+1,[s1.heap.objs.size+1,s1.heap.objs.size],_,_,H1,rfl,I2,D8 b _ _ (Nat.succ_ne_self _),⟨⟨.none,he⟩,hit⟩,fun c hc=> ?_,q⟩;simp only[List.mem_cons,List.not_mem_nil,or_false]at hc;rcases hc with rfl|rfl
 ·exact I1.fpOk (Nat.le_succ _) (I1.hok.fresh (Nat.le_succ _))
 ·exact I1.fpOk (Nat.le_refl _) (I1.hok.fresh (Nat.le_refl _))
end
end L2
namespace L2
open PySem PySem.W PyProof.Rows
def OG (σ:St)(tv:TE)(rd:V->V->Hp->VK->Prop)(nx:St->Hp->Prop)(x:V):VK:=fun y H2=>∃a v,x= .ref a/\iO H2 a y (some v)/\tv σ H2 fun y2 H3=>rd v y2 H3 fun z H4=>∃H5,DPut H4 a y z H5/\nx σ H5
def M9 (σ:St)(p:Addr)(k:V)(nx:St->Hp->Prop):VK:=fun z H4=>∃H5,DPut H4 p k z H5/\nx σ H5
section
variable {K:PySem.W.Frag}{H:Hp}{Q:VK}{σ:St}{nx:St->Hp->Prop}{td ty tv:TE}{rd:V->V->Hp->VK->Prop}{rt:VK}{bk ct:St->Hp->Prop}{R:It->Hp->Prop}
theorem K4 (h:td σ H fun x H1=>ty σ H1 (OG σ tv rd nx x)):HE td ty tv rd ⟨nx,rt,bk,ct⟩ σ H:=h
theorem GQ {p:Addr}{z:Str}{kvs:List (Key×V)}{v:V} (e:Rd H p (.dK kvs)) (hv:bJ kvs (.inr z)=some v) (h:tv σ H fun y2 H3=>rd v y2 H3 (M9 σ p (.str z) nx)):OG σ tv rd nx (.ref p) (.str z) H:=⟨p,v,rfl,.inl ⟨kvs,.inr z,e,rfl,hv.symm⟩,h⟩
theorem JI {p:Addr}{z:Str}{kvs:List (Key×V)}{v:V} (e:H p=some (.dK kvs)) (hl:kvs.length<sizeLine) (h:∀H',SameBut p H H'->H' p=some (.dK (cM kvs (.inr z) v))->nx σ H'):M9 σ p (.str z) nx v H:=⟨_,DPut.k (k:= .inr z) e hl,h _ SameBut.upd aR⟩
theorem w9 {p:Addr}{kvs:List (Key×V)} (e:Rd H p (.dK kvs)) (h:∀l H',H l=none->Same H H'->H' l=some (.lst (kvs.map fun e=>kV e.1))->Q (.ref l) H'):DN [.ref p] H Q:=⟨p,kvs,rfl,e,fE h⟩
def IE (K:PySem.W.Frag)(R:It->Hp->Prop):List V->Hp->Prop:=fun vs H1=>∃b xs,vs=[.ref b]/\SqL K H1 b xs/\R (Ite K b) H1
theorem G4 {ta:TA}(h:ta σ H (IE K R)):HY K ta σ H R:=h
theorem EA {b:Addr}{xs:List V} (e:SqL K H b xs) (h:R (Ite K b) H):IE K R [.ref b] H:=⟨b,xs,rfl,e,h⟩
theorem DO {l b:Addr}{xs zs:List V} (e:H l=some (.lst xs)) (e2:H b=some (.lst zs)) (hz:xs.length+zs.length<=sizeLine) (h:∀H',SameBut l H H'->H' l=some (.lst (xs++zs))->Q .non H'):zS (.ref l) [.ref b] H Q:=⟨l,b,xs,zs,rfl,rfl,e,e2,hz,h _ SameBut.upd aR⟩
theorem JS (h:td σ H (A4 Q)):IN td σ H Q:=h
theorem GF {a:Addr}{kvs:List (Key×V)} (e:Rd H a (.dK kvs)) (h:∀v H',H v=none->Same H H'->H' v=some (oM v a)->Q (.ref v) H'):A4 Q (.ref a) H :=
 ⟨a,kvs,rfl,e,fun v hv=>h v _ hv (qA hv) aR⟩
theorem LA {v d:Addr}{kvs:List (Key×V)}{ns:List Int} (e:H v=some (oM v d)) (e2:Rd H d (.dK kvs)) (hn:kvs.map (·.2)=ns.map V.int) (h:Q (.int ns.sum) H):IB [.ref v] H Q:=⟨v,d,kvs,ns,rfl,e,e2,hn,h⟩
theorem LV {g:TG}{tb:TS}{a:Addr} (xs:List V) (Pv:Nat->St->Hp->Prop) (h0:Pv 0 σ H) (hl:∀i σ H,Pv i σ H->SqL K H a xs)
  (hs:∀i x σ H q H',xs[i]? =some x->Pv i σ H->H q=none->Same H H'->H' q=some (.tup [.int i,x])->g (.ref q) σ H' fun σ2 H2=>tb ⟨Pv (i+1),rt,nx,Pv (i+1)⟩ σ2 H2)(hd:∀σ H,Pv xs.length σ H->nx σ H):uL (Ite K a) g tb ⟨nx,rt,bk,ct⟩ σ H:=by
 refine⟨fun i m σ H=>m=xs.length - i/\i<=xs.length/\Pv i σ H,⟨xs.length,by simp,Nat.zero_le _,h0⟩,?_⟩;rintro i m σ H ⟨rfl,hi,p⟩;have q:=hl i σ H p
 by_cases hlt:i<xs.length
 ·refine .inr ⟨⟨xs,xs[i],q,by simp[hlt]⟩,Pv (i+1),fun σ' H' p'=>⟨xs.length - (i+1),by lia,rfl,hlt,p'⟩,fun x H' y=> ?_⟩;obtain⟨r,rfl,hr,hy⟩:=y;obtain⟨y,e1,rfl⟩:=hy xs q;exact hs i y σ H r _ e1 p hr (qA hr) aR
 ·have e:i=xs.length:=by lia
  subst e;exact .inl ⟨⟨xs,q,Nat.le_refl _⟩,hd σ H p⟩
end
def gO (ps:List (Str×Int))(z:Str):Int:=((ps.filter fun p=>decide (p.1=z)).map (·.2)).sum
theorem EU (ps:List (Str×Int))(p:Str×Int)(z:Str):gO (ps++[p]) z=gO ps z+if p.1=z then p.2 else 0:=by
 unfold gO;rw[List.filter_append,List.map_append,List.sum_append]
 congr 1
 by_cases h:p.1=z
 ·rw[if_pos h];simp[h]
 ·rw[if_neg h];simp[h]
end L2
namespace L2
open PySem PySem.W PyProof.Rows
theorem O4 {te:TE}{σ:St}{ci:List Nat}{rest:St}{fin:List V->Hp->Prop}{H:Hp}{lo:Int}{n:Nat} (P:Nat->V->Hp->Prop) (hm:∀x y H1 H2,P x y H1->Same H1 H2->P x y H2) (hn:n<=sizeLine) (hr:ci.map (fun i=>(σ[i]?).join)=rest)
  (he:∀(i:Nat) H1,i<n->Same H H1->∀R:VK,(∀y H2,P i y H2->Same H1 H2->R y H2)->te (some (.int (lo+i))::rest) H1 R)
  (hf:∀ys H1,Same H H1->Paired (fun x y=>P x y H1) (List.range n) ys->fin ys H1):eM (Itr lo n) (cK 0) MU te (bS 1 ci σ) fin H:=by
 rw[xC hr];refine jL (List.range n) (fun _=>true) P hm (by rw[List.length_range];exact hn) (fun i H1 s hi=>by rw[List.length_range]at hi;exact hi) (fun H1 s=>by rw[List.length_range];exact Nat.le_refl _) (fun i x H1 hx s1 v H' y=> ?_) (fun ys H1 s1 h=>hf ys H1 s1 (by rw[dJ]at h;exact h));obtain⟨rfl,rfl⟩:=y;obtain⟨hi,e⟩:=List.getElem?_eq_some_iff.mp hx;rw[List.length_range]at hi;rw[List.getElem_range]at e;subst e;refine⟨Same.refl _,some (.int (lo+(i:Nat)))::rest,rfl,fun j v hv=> ?_,fun R h=>h,fun R h=>h _ (Same.refl _),fun hc H2 s2 R h=>he i H2 hi (s1.trans s2) R h⟩;cases j with
 | zero=>cases hv
 | succ j=>exact hv
end L2
namespace L2
open PySem PySem.W PyProof.Rows PySem.Calls
section
variable {prog:Program}{w:World}{A:Around}{E:Value->Shared->Prop}{s:Shared}{d v:Addr}{o:Obj}{es:Array DictEntry}{ep:Nat}
end
section
variable {X:Cx}
end
section
variable {K:PySem.W.Frag}{H:Hp}{Q:VK}{σ:St}{td:TE}
end
end L2
namespace L2
open PySem PySem.W PyProof.Rows
def dR (z:Str)(n:Nat):Str:=⟨(List.replicate n z.cps).foldl (·++·) #[]⟩
theorem wW:∀(l:List (Array Nat)) (a:Array Nat),(l.foldl (·++·) a).toList=a.toList++(l.map Array.toList).flatten
 | [],a=>by simp
 | x::l,a=>by rw[List.foldl_cons,wW l];simp
theorem mP (z:Str)(n:Nat):(dR z n).cps.toList=(List.replicate n z.cps.toList).flatten:=by
 unfold dR;rw[wW];simp
theorem yM (c n:Nat):(dR ⟨#[c]⟩ n).cps.toList=List.replicate n c:=by
 rw[mP]
 induction n with
 | zero=>rfl
 | succ n ih=>rw[List.replicate_succ,List.flatten_cons,ih,List.replicate_succ];rfl
theorem mR (c n:Nat):(dR ⟨#[c]⟩ n).length=n:=by
 show (dR ⟨#[c]⟩ n).cps.size=n;rw[←Array.length_toList,yM,List.length_replicate]
def II:R2:=fun x y H Q=>∃z n,x= .str z/\y= .int n/\0<=n/\n<=1000/\z.length<=1000/\Q (.str (dR z n.toNat)) H
section
variable {X:Cx}
theorem LR:OpR X (binaryOp .Mult) II:=by
 intro pins s σ H x y v u Q I rx ry h;obtain⟨z,n,rfl,rfl,h0,h1,h2,q⟩:=h;obtain⟨t,rfl⟩:=rx;obtain⟨t',rfl⟩:=ry;have hl:z.length * n.toNat<=1000 * 1000:=Nat.mul_le_mul h2 (by lia);refine P.mul_str ?_ (fun h3 _=> ?_) (fun _ _=> ?_) ?_
 ·rw[decide_eq_false (by lia),decide_eq_false (by lia)];rfl
 ·have h4:(1000:Int)<=(2^63 - 1)/n:=Int.le_ediv_of_mul_le (by lia) (by lia)
  lia
 ·exact decide_eq_false (by rw[sizeLine_eq];lia)
 ·by_cases h3:n<1
  ·rw[if_pos h3];have e:dR z n.toNat=Str.empty:=by rw[show n.toNat=0 by lia];rfl
   rw[e]at q;exact⟨by decide,⟨.str Str.empty,H,I.tok _,⟨_,rfl⟩,q⟩⟩
  ·rw[if_neg h3]
   by_cases h4:(n==1||z.length==0)=true
   ·rw[if_pos h4];have e:dR z n.toNat=z:=by
     apply zW
     rw[mP];rcases (Bool.or_eq_true _ _).mp h4 with h5|h5
     ·rw[show n.toNat=1 by have:=eq_of_beq h5;lia];simp
     ·have h6:z.cps.toList=[]:=by
       have:z.length=0:=eq_of_beq h5;exact List.length_eq_zero_iff.mp (by rw[Array.length_toList];exact this)
      rw[h6];simp
    rw[e]at q;exact⟨.str z,H,I,⟨_,rfl⟩,q⟩
   ·rw[if_neg h4];exact⟨(by
     show (dR z n.toNat).cps.size<=sizeLine;rw[←Array.length_toList,mP,List.length_flatten,List.map_replicate,List.sum_replicate_nat,Array.length_toList,sizeLine_eq];have hl':n.toNat * z.cps.size<=1000 * 1000:=by rw[Nat.mul_comm];exact hl
     lia),⟨.str (dR z n.toNat),H,I.tok _,⟨_,rfl⟩,q⟩⟩
end
section
variable {X:Cx}{P:Program}{w:World}{K:PySem.W.Frag}{mg:Str->Option Value}{base:Heap}{k':Nat}{o e:Expr}{es:List Expr}{m:Str}{ta:TE}{t:TA}{apos pos:Pos}
theorem mM (k:Nat){pl:Sem Bool}(hr:Room k' X.A)(ho:PE X o ta)(ha:PA X (e::es) t)(hk:k<=k':=by decide)(hst:starEach (e::es) X.env=(false,eval e X.env)::starEach es X.env:=by rfl)(hpl:(backTo pos (starEach es X.env)).any (·.1)=false:=by rfl)
  (ht:eval (.Call (.Attribute o m apos) (e::es) [] pos) X.env=(do let ov ←eval o X.env;standAt apos.atName;let (f,first) ←holding [ov] (getMethod ov m pl);callWith pos f first (backTo pos (starEach (e::es) X.env)) (backToKw pos (keywordEach [] X.env))):=by rfl)
  (h1:X.prog=P:=by rfl)(h2:X.w=w:=by rfl)(h3:X.K=K:=by rfl)(h4:X.mg=mg:=by rfl)(h5:X.base=base:=by rfl):PE X (.Call (.Attribute o m apos) (e::es) [] pos) (tMD (fun C sp=>Mc P w K mg base C m k sp) m ta t):=by
 subst h1 h2 h3 h4 h5;exact lO k hr ho ha hk hst hpl ht
end
theorem J8 {H:Hp}{Q:VK}{z:Str}{n:Int} (h0:0<=n) (h1:n<=1000) (h2:z.length<=1000) (h:Q (.str (dR z n.toNat)) H):II (.str z) (.int n) H Q:=⟨z,n,rfl,rfl,h0,h1,h2,h⟩
end L2
namespace L2
open PySem PySem.W PyProof.Rows
theorem Room.units9 {k:Nat}{A:Around} (r:Room k A):A.units+9<cLine:=by have:=r.un;have:cLine=9900:=rfl;lia
def DeepEq (K:PySem.W.Frag)(H:Hp):Nat->V->V->Prop
 | 0,x,y=>x=y/\oN x=true
 | n+1,x,y=>(x=y/\oN x=true)∨(∃a b xs ys,x= .ref a/\y= .ref b/\SqL K H a xs/\SqL K H b ys/\Paired (DeepEq K H n) xs ys)∨(∃a b xs ys,x= .ref a/\y= .ref b/\H a=some (.tup xs)/\H b=some (.tup ys)/\Paired (DeepEq K H n) xs ys)
theorem u9 {A:Around}{s:Shared}{x:V}{u v:Value} (h:oN x=true) (ru:RelV x u) (rv:RelV x v):SeqAt.EqAt A s u v true:=by
 have base:fT x=true->SeqAt.EqAt A s u v true:=fun hx=>by
  have:=DP (A:=A) (s:=s) ru rv hx hx;rw[FM hx]at this;exact this
 cases x<;>first|(cases ru;cases rv;exact SeqAt.EqAt.same _)|exact base h
theorem jN {A:Around}{s:Shared}{F:V->V->Prop} (hF:∀x y u v,F x y->RelV x u->RelV y v->SeqAt.EqAt A s u v true):∀{xs ys:List V}{us ws:List Value},Paired F xs ys->Vals xs us->Vals ys ws->∀j (h1:j<us.length) (h2:j<ws.length),SeqAt.EqAt A s us[j] ws[j] true
 | _,_,_,_,.nil,.nil,.nil,j,h1,_=>absurd h1 (Nat.not_lt_zero _)
 | _,_,_,_,.cons h _,.cons r1 _,.cons r2 _,0,_,_=>hF _ _ _ _ h r1 r2
 | _,_,_,_,.cons _ t,.cons _ t1,.cons _ t2,j+1,h1,h2=>jN hF t t1 t2 j (Nat.lt_of_succ_lt_succ h1) (Nat.lt_of_succ_lt_succ h2)
section
variable {X:Cx}{pins:List (Addr×Obj)}{σ:St}{H:Hp}{s:Shared}
theorem oU (I:Inv X pins σ H s):∀(n:Nat) (A:Around),A.units+n<cLine->∀x y u v,DeepEq X.K H n x y->RelV x u->RelV y v->SeqAt.EqAt A s u v true
 | 0,A,hu,x,y,u,v,h,ru,rv=>by obtain⟨rfl,h⟩:=h;exact u9 h ru rv
 | n+1,A,hu,x,y,u,v,h,ru,rv=>by
  rcases h with⟨rfl,h⟩|⟨a,b,xs,ys,rfl,rfl,ha,hb,pr⟩|⟨a,b,xs,ys,rfl,rfl,ha,hb,pr⟩
  ·exact u9 h ru rv
  ·cases ru;cases rv
   by_cases hab:a=b
   ·subst hab;exact SeqAt.EqAt.same _
   ·obtain⟨its,r,pl,hz⟩:=I.list ha;obtain⟨its2,r2,pl2,_⟩:=I.list hb;have hl:its.length=its2.length:=by rw[←r.length,←r2.length];exact Paired.length pr
    have:=SeqAt.EqAt.of_refs hab (SeqAt.RcAt.lists (A:=A) (e:=fun _=>true) pl.isList pl2.isList (by simpa using hl) (by lia) fun j h1 h2=>by
     have h1':j<its.length:=by simpa using h1
     have h2':j<its2.length:=by simpa using h2
     have:=jN (A:=A.in1) (oU I n A.in1 (by show A.units+1+n<cLine;lia)) pr r r2 j h1' h2'
     simpa using this)
    rw[lE]at this;exact this
  ·cases ru;cases rv
   by_cases hab:a=b
   ·subst hab;exact SeqAt.EqAt.same _
   ·obtain⟨_,its,r,o1,g1,c1,n1,d1⟩:=(show ObjOk X.prog X.w H s.heap a (.tup xs) from I.hok a _ ha)
    obtain⟨_,its2,r2,o2,g2,c2,n2,d2⟩:=(show ObjOk X.prog X.w H s.heap b (.tup ys) from I.hok b _ hb)
    have hl:its.length=its2.length:=by rw[←r.length,←r2.length];exact Paired.length pr
    have:=SeqAt.EqAt.of_refs hab (SeqAt.RcAt.tuples (A:=A) (e:=fun _=>true) ⟨o1,g1,c1,n1,d1⟩ ⟨o2,g2,c2,n2,d2⟩ (by lia) fun j h1 h2=>by
     have h1':j<its.length:=by simpa using h1
     have h2':j<its2.length:=by simpa using h2
     have:=jN (A:=A.in1) (oU I n A.in1 (by show A.units+1+n<cLine;lia)) pr r r2 j h1' h2'
     simpa using this)
    simpa [lE,hl] using this
end
section
variable {X:Cx}
def wU (K:PySem.W.Frag)(r:Bool):R2:=fun x y H Q=>∃a b xs ys,x= .ref a/\y= .ref b/\SqL K H a xs/\SqL K H b ys/\Paired (DeepEq K H 4) xs ys/\Q (.bl r) H
theorem DE (hu:X.A.units+9<cLine):OpR X (compareOp .Eq) (wU X.K true):=by
 intro pins s σ H x y v u Q I rx ry h;obtain⟨a,b,xs,ys,rfl,rfl,ha,hb,pr,q⟩:=h;cases rx;cases ry;obtain⟨its,r,pl,hz⟩:=I.list ha;obtain⟨its2,r2,pl2,_⟩:=I.list hb;have hl:its.length=its2.length:=by rw[←r.length,←r2.length];exact Paired.length pr
 refine SeqAt.eq_listAt (e:=fun _=>true) pl.isList pl2.isList (by simpa using hl) (by lia) (fun j h1 h2=> ?_) ⟨.bl true,H,I,by rw[lE];rfl,q⟩;have:=jN (A:=X.A.in1) (oU I 4 X.A.in1 (by show X.A.units+1+4<cLine;lia)) pr r r2 j (by simpa using h1) (by simpa using h2)
 simpa using this
theorem OW (hu:X.A.units+9<cLine):OpR X (compareOp .NotEq) (wU X.K false):=by
 intro pins s σ H x y v u Q I rx ry h;obtain⟨a,b,xs,ys,rfl,rfl,ha,hb,pr,q⟩:=h;cases rx;cases ry;obtain⟨its,r,pl,hz⟩:=I.list ha;obtain⟨its2,r2,pl2,_⟩:=I.list hb;have hl:its.length=its2.length:=by rw[←r.length,←r2.length];exact Paired.length pr
 refine SeqAt.RcNeAt.lists (e:=fun _=>true) pl.isList pl2.isList (by simpa using hl) (by lia) (fun j h1 h2=> ?_) X.prog X.w X.xe _ ⟨.bl false,H,I,by rw[lE];rfl,q⟩;have:=jN (A:=X.A.in1) (oU I 4 X.A.in1 (by show X.A.units+1+4<cLine;lia)) pr r r2 j (by simpa using h1) (by simpa using h2)
 simpa using this
end
section
variable {K:PySem.W.Frag}{H H':Hp}{Q:VK}
theorem jR {a b:Addr}{xs ys:List V}{r:Bool} (ha:SqL K H a xs) (hb:SqL K H b ys) (pr:Paired (DeepEq K H 4) xs ys) (h:Q (.bl r) H):wU K r (.ref a) (.ref b) H Q:=⟨a,b,xs,ys,rfl,rfl,ha,hb,pr,h⟩
theorem DeepEq.self {n:Nat}{x:V} (h:oN x=true):DeepEq K H n x x:=by cases n with|zero=>exact⟨rfl,h⟩|succ n=>exact .inl ⟨rfl,h⟩
theorem DeepEq.lst {n:Nat}{a b:Addr}{xs ys:List V} (ha:SqL K H a xs) (hb:SqL K H b ys) (pr:Paired (DeepEq K H n) xs ys):DeepEq K H (n+1) (.ref a) (.ref b):= .inr (.inl ⟨a,b,xs,ys,rfl,rfl,ha,hb,pr⟩)
theorem DeepEq.tup {n:Nat}{a b:Addr}{xs ys:List V} (ha:H a=some (.tup xs)) (hb:H b=some (.tup ys)) (pr:Paired (DeepEq K H n) xs ys):DeepEq K H (n+1) (.ref a) (.ref b):= .inr (.inr ⟨a,b,xs,ys,rfl,rfl,ha,hb,pr⟩)
theorem fP {n:Nat}:∀{xs:List V},xs.all oN=true->Paired (DeepEq K H n) xs xs
 | [],_=> .nil
 | x::xs,h=>by
  rw[List.all_cons,Bool.and_eq_true]at h;exact .cons (DeepEq.self h.1) (fP h.2)
end
section
variable {H:Hp}{Q:VK}{σ:St}{ty tx:TE}
end
end L2
namespace L2
open PySem PySem.Spec PyProof.Rows PySem.W
section
variable {P:Program}{w:World}{A:Around}{E:Value->Shared->Prop}{h:Heap}{gs:Array GenState}{dr:Drawn}{tk:Nat}{os:OsState}
variable {nm qn:Str}{C N:Addr}{bs bm bmB:List Value}{hd:Bool}{sn:List Str}{sub:List Value}{ab:Bool}{col:Option Bool}{dd:Option Addr}{k0 k1 k2 k3 k5:Option Value}{B newId initId:String}
abbrev g9 (h:Heap)(C:Addr)(us:List Value):Heap:=(h.push { cls:= .type "tuple",data:= .seq us.toArray }).push { cls:= .ref C,data:= .fields #[.ref h.objs.size,.none,.none,.none,.bool false,.none] }
theorem fL {us:List Value}{b:Addr}{o:Obj} (q:h.get? b=some o):(g9 h C us).get? b=some o:=Heap.get?_push_of_some _ (Heap.get?_push_of_some _ q)
theorem v7 (Fx:ExcBaseFacts B newId initId bmB)(T:OwnTail h bmB bm){mN:Str->Option Value}{us:List Value}{fi:Addr}{ob:Obj}{Q:Fin->Shared->Prop}
  (hC:h.get? C=some (excClassObj nm qn C N bs bm hd sn sub ab col dd k0 k1 k2 k3 k5 newId))(hn:h.Ns N mN)(hi:mN "__init__" =some (.ref fi))(hf:h.get? fi=some ob)(hfc:ob.cls= .type "function")
  (k:wpAny (model P w) A (call (.ref fi) (.ref (h.objs.size+1)::us)) (fun r s'=>r= .none/\Q (.done (.ret (.ref (h.objs.size+1)))) s') E ⟨g9 h C us,gs,dr,tk,os⟩)(hl:us.length<=sizeLine) :
  wpAny (model P w) A (Builtin.«type.__call__» ⟨.ref C::us,[]⟩) Q E ⟨h,gs,dr,tk,os⟩:=by
 repeat (first|with_reducible refine wpAny_loadPart_at hC ?_|with_reducible refine wpAny_madeBy_exc hC ?_|wp_step)
 refine codeAny_call_builtin_code (Code.quiet_builtin _ Fx.quiet) (wpAny_check_new_subT Fx T hC (codeAny_exc_new_subT Fx T hC ?_ hl));show wpAny _ _ _ _ _ _;have c1:(g9 h C us).get? C=_:=fL hC;have f1:(g9 h C us).get? fi=_:=fL hf;have n1:(g9 h C us).Ns N mN:=hn.keeps fun b o q=>fL q;have t1:OwnTail (g9 h C us) bmB bm:=T.keeps fun b o q=>fL q;have g1:(g9 h C us).get? (h.objs.size+1)=some { cls:= .ref C,data:= .fields #[.ref h.objs.size,.none,.none,.none,.bool false,.none] }:=by heap_get
 have hcc:(Value.ref C::bm).contains (.ref C)=true:=by simp
 unfold isInstance
 repeat (first|with_reducible refine wpAny_loadPart_at g1 ?_|(with_reducible refine wpAny_isSubtype_exc c1 ?_;rw[hcc])|wp_step)
 show wpAny _ _ (typeLookup (.ref C) _) _ _ _;refine wpAny_typeLookup_tail c1 n1 t1 Fx.mroIs Fx.init.lookup ?_;rw[hi];refine wpAny_holding (wpAny_bind ?_);unfold bindSpecial;refine wpAny_bind (wpAny_typeOf (T:= "function") ⟨_,f1,hfc⟩ ?_);rw[if_pos (by decide)];refine wpAny_pure (wpAny_bind (wpAny_mono k (fun r s' ⟨hr,hQ⟩=> ?_) fun _ _ y=>y));subst hr
 wp_walk
 exact hQ
theorem GM (Fx:ExcBaseFacts B newId initId bmB)(T:OwnTail h bmB bm){mN:Str->Option Value}{us:List Value}{fi:Addr}{ob:Obj}{Q:Value->Shared->Prop}
  (hC:h.get? C=some (excClassObj nm qn C N bs bm hd sn sub ab col dd k0 k1 k2 k3 k5 newId))(hn:h.Ns N mN)(hi:mN "__init__" =some (.ref fi))(hf:h.get? fi=some ob)(hfc:ob.cls= .type "function")
  (k:wpAny (model P w) (A.under (.builtin "type.__call__" ⟨.ref C::us,[]⟩)) (call (.ref fi) (.ref (h.objs.size+1)::us)) (fun r s'=>r= .none/\Q (.ref (h.objs.size+1)) s') E ⟨g9 h C us,gs,dr,tk,os⟩)(hl:us.length<=sizeLine) :
  wpAny (model P w) A (call (.ref C) us) Q E ⟨h,gs,dr,tk,os⟩:=by
 have x1:=tc_lookup;have x2:=tc_bind (.ref C);have hT:(⟨h,gs,dr,tk,os⟩:Shared).TypeIs (.ref C) "type" :=⟨_,hC,rfl⟩
 refine wpAny_call (codeAny_of_tree ?_);show wpAny _ _ (callAny (.ref C) _) _ _ _
 repeat (any_goals (first|assumption|with_reducible refine wpAny_loadPart_at hC ?_|wp_step))
 exact⟨rfl,codeAny_call_builtin_at (Code.quiet_builtin _ (by decide +kernel)) entry_typeCall (wpAny_check_type_call_sub hC (v7 Fx T hC hn hi hf hfc k hl))⟩
end
end L2
namespace L2
open PySem PySem.Spec PyProof.Rows PySem.W
section
variable {P:Program}{w:World}{A:Around}{E:Value->Shared->Prop}{h:Heap}{g:Array GenState}{d:Drawn}{t:Nat}{os:OsState}{K:Frag}
abbrev oY (h:Heap)(e:Addr):Heap:=(h.push { cls:= .type "dict",data:= .dict #[] }).update e fun o=>{ o with dict:=some h.objs.size }
abbrev iD (w:World)(h:Heap)(e:Addr)(nm:Str)(tk:Tok)(v:Value):Heap:=(oY h e).update h.objs.size (Obj.putName nm (PyData.keyHash w.params nm) (.str nm tk) v)
theorem DK {e C:Addr}{vs:Array Value}{nm:Str}{tk:Tok}{v:Value}{b:Bool}{cd:ClassData}{Q:Fin->Shared->Prop} (X:K.In h) (hc:clsIn K C=some cd) (hdd:cd.hasDict=true) (hx:h.get? e=some { cls:= .ref C,data:= .fields vs })
  (hq:Q (.done (.ret .none)) ⟨iD w h e nm t v,g,d,t+1,os⟩):wpAny (model P w) A (Builtin.ObjectAttr.storeInOwnDict (.ref e) (.ref C) (.str nm tk) nm v b) Q E ⟨h,g,d,t,os⟩:=by
 unfold Builtin.ObjectAttr.storeInOwnDict;have L1:=looks_clsIn (M:=model P w) X hc
 repeat (any_goals (first|assumption|(with_reducible refine wpAny_loadPart_at hx ?_)|(with_reducible refine L1.at ?_)|wp_step))
 have ne:e≠h.objs.size:=Nat.ne_of_lt (Heap.lt_size hx);have hd1:(oY h e).get? h.objs.size=some { cls:= .type "dict",data:= .dict #[] }:=by
  rw[Heap.get?_update_other _ _ ne];exact Heap.get?_push_at rfl rfl
 have hq':Q (.done (.ret .none)) ⟨(oY h e).update h.objs.size (Obj.putName nm (PyData.keyHash w.params nm) (.str nm t) v),g,d,t+1,os⟩:=hq;show wpAny _ _ ask _ _ ⟨oY h e,g,d,t,os⟩;generalize oY h e=h1 at hd1 hq' ⊢;refine wpAny_askSetting ?_
 repeat (any_goals (first|assumption|(with_reducible refine wpAny_loadPart_at hd1 ?_)|(with_reducible refine wpAny_updatePart' hd1 ?_)|wp_step))
end
end L2
namespace L2
open PySem PySem.Spec PyProof.Rows PySem.W Builtin Builtin.ObjectAttr
def wL:List Value->Bool
 | .ref _::r=>wL r
 | l=>l==bmV
theorem CH (self:Value):refuseLoop self "__setattr__" bmV=pure ():=by kernel_rfl
theorem nE (self:Value):∀{l:List Value},wL l=true->refuseLoop self "__setattr__" l=pure ()
 | .ref c::r,e=>by rw[refuseLoop_ref];exact nE self (l:=r) e
 | [],e=>by cases e
 | .none::r,e=>by cases e
 | .type n::r,e=>by
  have e:(Value.type n::r)=bmV:=beq_iff_eq.mp e;rw[e];exact CH self
theorem vF:∀{l:List Value},wL l=true->l.contains (.type "object")=true
 | .ref c::r,e=>by rw[List.contains_cons,vF (l:=r) e,Bool.or_true]
 | [],e=>by cases e
 | .none::r,e=>by cases e
 | .type n::r,e=>by
  have e:(Value.type n::r)=bmV:=beq_iff_eq.mp e;rw[e];decide
def dH (K:Frag)(C:Addr):Bool:=(clsIn K C).any fun cd=>wL cd.mro&&cd.hasDict
section
variable {P:Program}{w:World}{A:Around}{E:Value->Shared->Prop}{h:Heap}{g:Array GenState}{d:Drawn}{t:Nat}{os:OsState}{K:Frag}
theorem L4 {e C:Addr}{vs:Array Value}{nm:Str}{tk:Tok}{v:Value}{R:Result->Shared->Prop} (X:K.In h) (hf:dH K C=true) (hn:findIn K (.ref C) nm=some none) (hx:h.get? e=some { cls:= .ref C,data:= .fields vs })
  (hq:R (.ok (.ret .none)) ⟨iD w h e nm t v,g,d,t+1,os⟩) :
  codeAny (model P w) A (.call (.builtin "object.__setattr__") ⟨[.ref e,.str nm tk,v],[]⟩) R ⟨h,g,d,t,os⟩:=by
 have SF:=PySem.F.store_object;obtain⟨cd,hc,ho⟩:=any_some hf;obtain⟨h1,h2⟩:=(Bool.and_eq_true _ _).mp ho;have hne:cd.mro.isEmpty=false:=by
  cases q:cd.mro with
  | nil=>rw[q]at h1;cases h1
  | cons _ _=>rfl
 have ty:=dY (M:=model P w) hx rfl rfl;have obj:Looks (model P w) h (isInstance (.ref e) (.type "object")) true:=ty.andThen (looks_mroIn X (by unfold mroIn;rw[hc,Option.bind_some,if_neg (by rw[hne];decide),vF h1]));refine codeAny_call_builtin SF.slot.plain SF.entry (@check_slot (model P w) _ _ ⟨h,g,d,t,os⟩ "object.__setattr__" "object" "__setattr__" (.ref e) [.str nm tk,v] [] _ SF.kind SF.split obj (SF.args (.ref e) (.str nm tk) v) ?_);have mr:Looks (model P w) h (mroOf (.ref C)) cd.mro:=(looks_clsIn X hc).andThen .now;rw[osa_eq,refuse_eq];refine wpAny_bind (wpAny_bind (ty.here (wpAny_bind (mr.here ?_))));rw[nE _ h1];refine wpAny_pure (wpAny_bind (ty.here (wpAny_bind ((looks_findIn X hn).here (wpAny_bind ?_)))));exact wpAny_pure (DK X hc h2 hx hq)
theorem G3 {e C:Addr}{vs:Array Value}{nm:Str}{v:Value}{Q:Unit->Shared->Prop} (X:K.In h) (hf:dH K C=true) (hn:findIn K (.ref C) nm=some none) (hs:findIn K (.ref C) "__setattr__" =some (some (.builtin "object.__setattr__")))
  (hx:h.get? e=some { cls:= .ref C,data:= .fields vs })(hq:Q () ⟨iD w h e nm (t+1) v,g,d,t+2,os⟩):wpAny (model P w) A (setAttr (.ref e) nm v) Q E ⟨h,g,d,t,os⟩ :=
 set_plain (s:=⟨h,g,d,t,os⟩) X (⟨hx,rfl,rfl,trivial⟩:InstAt h e { cls:= .ref C,data:= .fields vs } C none) hs (L4 X hf hn hx hq)
end
end L2
namespace L2
open PySem PySem.Spec PyProof.Rows PySem.W Builtin Builtin.ObjectAttr
section
variable {P:Program}{w:World}{A:Around}{E:Value->Shared->Prop}{h:Heap}{g:Array GenState}{d:Drawn}{t:Nat}{os:OsState}{K:Frag}{a C dx:Addr}{o:Obj}{vs:Array Value}{nm:Str}{u:Value}{mA:Str->Option Value}
theorem zE {tk:Tok}{Q:Fin->Shared->Prop} (X:K.In h) (k:dW K C) (hf:dH K C=true) (hn:findIn K (.ref C) nm=some none) (hx:h.get? a=some o) (hc:o.cls= .ref C) (hd:o.data= .fields vs) (hdx:o.dict=some dx) (hns:h.Ns dx mA) (hm:mA nm=some u) (hq:Q (.done (.ret u)) ⟨h,g,d,t,os⟩) :
  wpAny (model P w) A (Builtin.«object.__getattribute__» ⟨[.ref a,.str nm tk],[]⟩) Q E ⟨h,g,d,t,os⟩:=by
 obtain⟨cd,hcd,ho⟩:=any_some hf;obtain⟨_,hdd⟩:=(Bool.and_eq_true _ _).mp ho;have L3:=looks_clsIn (M:=model P w) X hcd;have L0:=dY (M:=model P w) hx hc hd;have L1:=looks_findIn (M:=model P w) X hn;obtain⟨oc,od,oda,osl⟩:=o
 dsimp only at hc hd hdx
 subst hc hd hdx;have L2:Looks (model P w) h (inDict nm (some dx)) (some u):=by
  intro A' Q' E' s' kp q;show wpAny _ _ (nsGet dx nm) _ _ _;have hns':s'.heap.Ns dx mA:=hns.keeps kp;obtain⟨hh,g',d',t',os'⟩:=s';refine wpAny_nsGet hns' ?_;rw[hm];exact q
 repeat (any_goals (first|assumption|(with_reducible refine L0.at ?_)|(with_reducible refine L1.at ?_)|(with_reducible refine L2.at ?_)|(with_reducible refine L3.at ?_)|(with_reducible refine wpAny_loadPart_at hx ?_)|wp_step))
theorem BF {tk:Tok}{R:Result->Shared->Prop} (X:K.In h) (k:dW K C) (hf:dH K C=true) (hn:findIn K (.ref C) nm=some none) (hx:h.get? a=some o) (hc:o.cls= .ref C) (hd:o.data= .fields vs) (hdx:o.dict=some dx) (hns:h.Ns dx mA) (hm:mA nm=some u) (hq:R (.ok (.ret u)) ⟨h,g,d,t,os⟩) :
  codeAny (model P w) A (.call (.builtin "BaseException.__getattribute__") ⟨[.ref a,.str nm tk],[]⟩) R ⟨h,g,d,t,os⟩ :=
 codeAny_call_builtin F.excAttr_ValueError.ga.plain F.entry_bexc_ga (nI X k hx hc hd (zE X k hf hn hx hc hd hdx hns hm hq))
theorem FK {tk:Tok}{fill expr:Bool}{Q:Value->Shared->Prop} (hu:∀id,u≠ .builtin id) (X:K.In h) (k:dW K C) (hf:dH K C=true) (hn:findIn K (.ref C) nm=some none) (hx:h.get? a=some o) (hc:o.cls= .ref C) (hd:o.data= .fields vs) (hdx:o.dict=some dx) (hns:h.Ns dx mA) (hm:mA nm=some u) (hq:Q u ⟨h,g,d,t,os⟩) :
  wpAny (model P w) A (getAttrBy (.ref a) (.str nm tk) fill expr) Q E ⟨h,g,d,t,os⟩:=by
 have y0:=dY (M:=model P w) hx hc hd;have y1:=looks_findIn (M:=model P w) X k.ga;have y2:=looks_findIn (M:=model P w) X k.gg;have y3:=F.excAttr_ValueError.ga.bind (.ref a);have z0:(expr&&onTheHeap (Value.builtin "BaseException.__getattribute__"))=false:=by cases expr<;>rfl
 have z2:(Value.builtin "BaseException.__getattribute__" ==Value.builtin "object.__getattribute__")=false:=by decide +kernel
 have z1:(onTheHeap (Value.ref C)&&Value.builtin "BaseException.__getattribute__" ==Value.builtin "object.__getattribute__")=false:=by rw[z2];rfl
 repeat (any_goals (first|assumption|(with_reducible refine y0.at ?_)|(with_reducible refine y1.at ?_)|(with_reducible refine y2.at ?_)|wp_step))
 refine BF X k hf hn hx hc hd hdx hns hm ?_
 repeat (any_goals (first|assumption|wp_step))
 cases u with
 | builtin id=>exact absurd rfl (hu id)
 | _=>exact wpAny_pure hq
theorem DY {b:Bool}{Q:Value->Shared->Prop} (hu:∀id,u≠ .builtin id) (X:K.In h) (k:dW K C) (hf:dH K C=true) (hn:findIn K (.ref C) nm=some none) (hx:h.get? a=some o) (hc:o.cls= .ref C) (hd:o.data= .fields vs) (hdx:o.dict=some dx) (hns:h.Ns dx mA) (hm:mA nm=some u) (hq:Q u ⟨h,g,d,t+1,os⟩) :
  wpAny (model P w) A (getAttr (.ref a) nm b) Q E ⟨h,g,d,t,os⟩:=by
 unfold getAttr
 repeat (any_goals (first|assumption|with_reducible apply FK hu X k hf hn hx hc hd hdx hns hm|wp_step))
end
end L2
namespace L2
open PySem PySem.Spec PyProof.Rows PySem.W
section
variable {w:World}{h:Heap}{e C:Addr}{vs:Array Value}{nm:Str}{tk:Tok}{v:Value}
theorem AX {b:Addr}(hb:b≠e)(hb':b≠h.objs.size){o:Obj}(q:h.get? b=some o):(iD w h e nm tk v).get? b=some o:=by
 rw[Heap.get?_update_other _ _ (Ne.symm hb'),Heap.get?_update_other _ _ (Ne.symm hb)];exact Heap.get?_push_of_some _ q
theorem BB (hx:h.get? e=some { cls:= .ref C,data:= .fields vs }):(iD w h e nm tk v).get? e=some { cls:= .ref C,dict:=some h.objs.size,data:= .fields vs }:=by
 rw[Heap.get?_update_other _ _ (Ne.symm (Nat.ne_of_lt (Heap.lt_size hx)))];exact Heap.get?_update_self _ (Heap.get?_push_of_some _ hx) rfl
theorem DQ (hx:h.get? e=some { cls:= .ref C,data:= .fields vs }):(iD w h e nm tk v).Ns1 h.objs.size fun x=>if x=nm then some v else none:=by
 have hd1:(oY h e).get? h.objs.size=some (dictOf [] 0):=by
  rw[Heap.get?_update_other _ _ (Nat.ne_of_lt (Heap.lt_size hx))];exact Heap.get?_push_at rfl rfl
 have hp:=putName_dict nm (PyData.keyHash w.params nm) (.str nm tk) v [] 0;have hg:(iD w h e nm tk v).get? h.objs.size=some (dictOf [⟨PyData.keyHash w.params nm,.str nm tk,v⟩] 1):=by
  rw[Heap.get?_update_self _ hd1 (by rw[hp];rfl),hp];rfl
 refine⟨_,_,_,hg,rfl,fun b hb=> ?_,List.pairwise_singleton _ _,fun x=> ?_⟩
 ·have hb:b=⟨PyData.keyHash w.params nm,.str nm tk,v⟩:=by simpa using hb
  subst hb;exact⟨nm,tk,rfl⟩
 ·unfold nsFind findBy
  by_cases hxn:x=nm
  ·subst hxn;simp[Value.isStr]
  ·simp[Value.isStr,hxn,Ne.symm hxn]
end
abbrev lH (e C:Addr)(vs:Array Value):Heap->Prop:=fun h=>h.get? e=some { cls:= .ref C,data:= .fields vs }
abbrev j8 (e C dx:Addr)(vs:Array Value):Heap->Prop:=fun h=>h.get? e=some { cls:= .ref C,dict:=some dx,data:= .fields vs }
section
variable {X:Cx}{pins:List (Addr×Obj)}{σ:St}{H:Hp}{s:Shared}{A:Around}{E:Value->Shared->Prop}{e C:Addr}{vs:Array Value}{nm:Str}{y:V}{u:Value}
theorem JG {Q:Unit->Shared->Prop}(I:Inv X pins σ H s)(he:H e=some (.ext (lH e C vs)))(hf:dH X.K C=true)(hn:NoAttr X.K C nm)(hs:findIn X.K (.ref C) "__setattr__" =some (some (.builtin "object.__setattr__")))(ry:RelV y u)
  (k:∀dx s',H dx=none->dx≠e->Inv X pins σ (upd (upd H e (.ext (j8 e C dx vs))) dx (.xd [(nm,y)])) s'->Q () s'):wpAny (model X.prog X.w) A (setAttr (.ref e) nm u) Q E s:=by
 obtain⟨hx,_,_⟩:=I.hok e _ he;obtain⟨hh,g,d,t,os⟩:=s;have hx:hh.get? e=some { cls:= .ref C,data:= .fields vs }:=hx;have ne:hh.objs.size≠e:=Ne.symm (Nat.ne_of_lt (Heap.lt_size hx));refine G3 I.kIn hf hn hs hx (k hh.objs.size _ (I.hok.fresh (Nat.le_refl _)) ne ?_);have hself:(hh.update e fun o=>{ o with dict:=some hh.objs.size }).get? e=some { cls:= .ref C,dict:=some hh.objs.size,data:= .fields vs }:=Heap.get?_update_self _ hx rfl;have I1:=I.write (x:=e) (e:=e) (o:= .ext (j8 e C hh.objs.size vs)) (h':=hh.update e fun o=>{ o with dict:=some hh.objs.size }) (t':=t) (by rw[he];trivial) (.inl rfl) (fun b o hb q=>by rw[Heap.get?_update_other _ _ (Ne.symm hb)];exact q) ⟨_,hself⟩
  ⟨hself,⟨_,hself⟩,fun h1 h2 q1 q2=>q2 _ q1⟩
 refine I1.laid (a:=hh.objs.size) (o:= .xd [(nm,y)]) (h':=iD X.w hh e nm (t+1) u) (t':=t+2) (fun b o q=> ?_) (by rw[Heap.size_update];exact Nat.le_refl _) ⟨_,DQ hx,fun f=> ?_⟩
 ·by_cases hb:b=e
  ·subst hb;rw[hself]at q;cases q;exact BB hx
  ·rw[Heap.get?_update_other _ _ (Ne.symm hb)]at q;exact AX hb (Nat.ne_of_lt (Heap.lt_size q)) q
 ·show RelO (List.lookup f [(nm,y)]) (if f=nm then some u else none)
  by_cases hfn:f=nm
  ·rw[if_pos hfn,hfn,List.lookup_cons,beq_self_eq_true];exact ry
  ·rw[if_neg hfn,List.lookup_cons,beq_false_of_ne hfn];exact True.intro
theorem RelV.noB {y:V}{u:Value} (r:RelV y u) (id:String):u≠ .builtin id:=fun z=>by
 subst z;cases y with
 | int i=>obtain⟨_,r⟩:=r;cases r
 | str x=>obtain⟨_,r⟩:=r;cases r
 | byt b=>obtain⟨_,r⟩:=r;cases r
 | flt b=>obtain⟨_,r⟩:=r;cases r
 | _=>cases (show _=_ from r)
theorem J9 {b:Bool}{dx:Addr}{fs:List (Str×V)}{Q:Value->Shared->Prop} (I:Inv X pins σ H s) (he:H e=some (.ext (ExcDAt e C dx))) (hd:H dx=some (.xd fs)) (kx:dW X.K C) (hf:dH X.K C=true) (hn:NoAttr X.K C nm) (l:fs.lookup nm=some y)
  (k:∀u s',Inv X pins σ H s'->RelV y u->Q u s'):wpAny (model X.prog X.w) A (getAttr (.ref e) nm b) Q E s:=by
 obtain⟨⟨ob,vs,hx,x1,x2,x3⟩,_,_⟩:=I.hok e _ he;obtain⟨mA,hns,r⟩:=I.hok dx _ hd;obtain⟨u,hu,ru⟩:=RelO.some_of (v:=y) (o:=mA nm) (by rw[←l];exact r nm);obtain⟨hh,g,d,t,os⟩:=s;exact DY ru.noB I.kIn kx hf hn hx x1 x3 x2 hns.ns hu (k u _ (I.tok _) ru)
end
end L2
namespace L2
open PySem PySem.Spec PyProof.Rows PySem.W
structure mQ (K:Frag)(C:Addr):Prop where
 k:dW K C
 fi:dH K C=true
 sa:findIn K (.ref C) "__setattr__" =some (some (.builtin "object.__setattr__"))
section
variable {X:Cx}{o e value:Expr}{f:Str}{pos pos':Pos}{ta tv:TE}
def IH (K:Frag)(ta tv:TE)(f:Str):TS:=fun D σ H=>tv σ H fun y H1=>ta σ H1 fun x H2=>∃a C vs,x= .ref a/\H2 a=some (.ext (lH a C vs))/\mQ K C/\NoAttr K C f ∧
 ∀dx,H2 dx=none->dx≠a->D.nx σ (upd (upd H2 a (.ext (j8 a C dx vs))) dx (.xd [(f,y)]))
theorem zZ (ha:PE X o ta)(hv:PE X value tv)(hs:swapsWith value (some (.Attribute o f pos')) pos.line X.env=pure false):PS X (.Assign [.Attribute o f pos'] value pos) (IH X.K ta tv f):=by
 intro pins s σ H D I h;refine plainObj_wpAny_Assign_Attribute (thn (hv pins s σ H _ I h) fun u s1 ⟨y,H1,I1,ry,q⟩=>thn (ha pins s1 σ H1 _ I1 q) fun ov s2 ⟨x,H2,I2,rx,q2⟩=> ?_) hs;obtain⟨a,C,vs,ex,ea,c,n,q2⟩:=q2;subst ex;obtain rfl:ov=Value.ref a:=rx;exact JG I2 ea c.fi n c.sa ry fun dx s3 n1 n2 I3=>⟨σ,_,I3,q2 dx n1 n2⟩
def B0 (K:Frag)(ta:TE)(f:Str):TE:=fun σ H Q=>ta σ H fun x H1=>∃a C dx fs v,x= .ref a/\H1 a=some (.ext (ExcDAt a C dx))/\H1 dx=some (.xd fs)/\mQ K C/\NoAttr K C f/\fs.lookup f=some v/\Q v H1
theorem L7 (he:PE X e ta)(hb:attributeBase e f X.env (eval e X.env)=eval e X.env):PE X (.Attribute e f pos) (B0 X.K ta f):=by
 intro pins s σ H Q I h;refine zV hb (thn (he pins s σ H _ I h) fun u s1 ⟨x,H1,I1,rx,q⟩=> ?_);obtain⟨a,C,dx,fs,v,ex,ea,ed,c,n,l,q⟩:=q;subst ex;obtain rfl:u=Value.ref a:=rx;exact J9 I1 ea ed c.k c.fi n l fun u' s2 I2 ru=>⟨v,H1,I2,ru,q⟩
theorem KG {K:Frag}{f:Str}{i:Nat}{σ:St}{H:Hp}{Q:VK}{a C dx:Addr}{fs:List (Str×V)}{v:V} (ei:σ[i]? =some (some (.ref a))) (ea:H a=some (.ext (ExcDAt a C dx))) (ed:H dx=some (.xd fs)) (c:mQ K C) (n:NoAttr K C f) (l:fs.lookup f=some v) (h:Q v H):B0 K (fK i) f σ H Q:=⟨_,ei,a,C,dx,fs,v,rfl,ea,ed,c,n,l,h⟩
theorem AF {K:Frag}{f:Str}{i j:Nat}{D:dU}{σ:St}{H:Hp}{a C:Addr}{vs:Array Value}{y:V} (ei:σ[i]? =some (some (.ref a))) (ej:σ[j]? =some (some y)) (ea:H a=some (.ext (lH a C vs))) (c:mQ K C) (n:NoAttr K C f) (h:∀dx,H dx=none->dx≠a->D.nx σ (upd (upd H a (.ext (j8 a C dx vs))) dx (.xd [(f,y)]))):IH K (fK i) (fK j) f D σ H:=⟨_,ej,_,ei,a,C,vs,rfl,ea,c,n,h⟩
end
end L2
namespace L2
open PySem PySem.Spec PyProof.Rows PySem.W
def qD (K:Frag)(C fi:Addr):Bool:=match K.lookup C with
 | some ⟨.type "type",_,.cls cd,sl⟩=>(match cd.mro,sl.toList with
  | .ref C'::bm,[_,_,_,_,some (.builtin n),_]=>C'==C&&(n== "ValueError.__new__" &&(!cd.hasDel&&(tailIn K bmV bm&&(nsOkIn K cd.ns&&(nsIn K cd.ns "__init__" ==some (some (.ref fi))&&typeIn K (.ref fi)==some (.type "function"))))))
  | _,_=>false)
 | _=>false
theorem NR {K:Frag}{h:Heap}{N:Addr}{m:Str->Option Value}{n:Str}{v:Value} (X:K.In h) (G:h.Ns N m) (e:nsIn K N n=some (some v)):m n=some v:=by
 obtain⟨o,es,ep,ho,hd,_,hf⟩:=G;rw[←hf];unfold nsIn at e
 split at e
 ·rename_i q;have z:=X _ _ q;rw[ho]at z;injection z with z;subst z;injection hd with hd1 hd2;subst hd1
  split at e
  ·rename_i en he;injection e with e;injection e with e;subst e;unfold nsFind findBy;rw[←Array.find?_toList,he];rfl
  ·first|cases e|(split at e<;>cases e)
 ·cases e
theorem KY {K:Frag}{h₀:Heap}{C fi:Addr} (X:K.In h₀) (q:qD K C fi=true) :
  ∃bm N nm q bs hdct sn sub ab col dd k0 k1 k2 k3 k5 mN ob,h₀.get? C=some (excClassObj nm q C N bs bm hdct sn sub ab col dd k0 k1 k2 k3 k5 "ValueError.__new__")/\h₀.Ns N mN/\mN "__init__" =some (.ref fi)/\OwnTail h₀ bmV bm/\h₀.get? fi=some ob/\ob.cls= .type "function" :=by
 unfold qD at q
 split at q
 ·rename_i dd cd sl ho
  split at q
  ·rename_i C' bm k0 k1 k2 k3 n k5 hm hs;simp only[Bool.and_eq_true,beq_iff_eq,Bool.not_eq_true']at q;obtain⟨rfl,rfl,hdel,ht,hok,hni,hty⟩:=q;obtain⟨nm,bs,mro,ns,qn,hd,sn,sub,ab,col,del⟩:=cd
   dsimp only at hm hdel hok hni
   subst hm hdel;have hsl:sl= #[k0,k1,k2,k3,some (.builtin "ValueError.__new__"),k5]:=by
    obtain⟨l⟩:=sl;simp only at hs;rw[hs]
   subst hsl;have hty:(K.lookup fi).map (·.cls)=some (.type "function"):=hty;obtain⟨ob,ho2,hc2⟩:=Option.map_eq_some_iff.mp hty;have N0:h₀.Ns ns (h₀.nsMap ns):= .of_isNs (isNs_of_in X hok);exact⟨bm,ns,nm,qn,bs,hd,sn,sub,ab,col,dd,k0,k1,k2,k3,k5,_,ob,X _ _ ho,N0,NR X N0 hni,tail_of_in X ht,X _ _ ho2,hc2⟩
  ·cases q
 ·cases q
theorem AU {M:Model}{A:Around}{E:Value->Shared->Prop}{env:Env}{s:Shared}{x:Sem Value}{Q:Flow->Shared->Prop}{nm q:Str}{C N:Addr}{bs bm:List Value}{hdct:Bool}{sn:List Str}{sub:List Value}{ab:Bool}{col:Option Bool}{dd:Option Addr}{k0 k1 k2 k3 k5:Option Value}{newId:String}
  (hb:bm.contains (.type "BaseException")=true)(hh:A.handled=none)
  (h:wpAny M A x (fun v s₁=>∃e ob vs,v= .ref e/\s₁.heap.get? C=some (excClassObj nm q C N bs bm hdct sn sub ab col dd k0 k1 k2 k3 k5 newId)/\s₁.heap.get? e=some ob/\ob.cls= .ref C/\ob.data= .fields vs/\vs[1]? =some .none/\E (.ref e) s₁) E s):wpAny M A (raiseStmt env (some x) none) Q E s:=by
 have hcB:(Value.ref C::bm).contains (.type "BaseException")=true:=by rw[List.contains_cons,hb,Bool.or_true]
 unfold raiseStmt;refine wpAny_bind (wpAny_mono h (fun v s₁ ⟨e,ob,vs,ev,hC,he,ec,ed,v1,hE⟩=> ?_) fun _ _ x=>x);subst ev;obtain⟨hp,g,d,tk,os⟩:=s₁;obtain⟨oc,od,odt,osl⟩:=ob
 dsimp only at ec ed
 subst ec ed
 repeat (first|with_reducible refine wpAny_loadPart_at he ?_|with_reducible refine wpAny_loadPart_at hC ?_|(with_reducible refine wpAny_isSubtype_exc hC ?_;rw[hcB])|wp_step)
 rw[v1]
 repeat (first|with_reducible exact wpAny_raiseNew_none hh hE|wp_step)
section
variable {P:Program}{w:World}
def lets0 (H:Hp)(c:Addr):Hp:=fun b=>if b=c then none else H b
theorem iZ {H:Hp}{c:Addr}:lets0 H c c=none:=by unfold lets0;rw[if_pos rfl]
theorem qR {H:Hp}{c b:Addr} (h:b≠c):lets0 H c b=H b:=by unfold lets0;rw[if_neg h]
theorem jC {H:Hp}{c b:Addr} (h:H b=none):lets0 H c b=none:=by unfold lets0;split<;>first|rfl|exact h
theorem Inv.lets0 {X:Cx}{pins:List (Addr×Obj)}{σ:St}{H:Hp}{s:Shared}{e:Addr}{φ:Heap->Prop} (I:Inv X pins σ H s) (he:H e=some (.ext φ)):Inv X pins σ (L2.lets0 H e) s:=by
 have out:∀b u,H b=some u->(∀ψ,u≠ .ext ψ)->L2.lets0 H e b=some u:=fun b u q n=>by
  rw[qR];exact q;rintro rfl;rw[he]at q;cases q;exact n _ rfl
 refine⟨I.ok,I.os,I.bare,⟨I.base.keep,I.base.slot,fun b o q n hx=>jC (I.base.free b o q n hx),I.base.there,fun b xs q=>out _ _ (I.base.tups b xs q) (by intro ψ z;cases z),fun b o u q=> ?_,fun b ps q=> ?_⟩,I.loc,I.cell,jC I.free,fun x c q=>jC (I.freeC x c q),fun p hp=> ?_,fun b u q=> ?_,I.len⟩
 ·exact out _ _ (I.base.frzs b o u q) (by intro ψ z;cases z)
 ·obtain⟨m,z⟩:=I.base.tbls b ps q;exact⟨m,out _ _ z (by intro ψ z;cases z)⟩
 ·obtain⟨a1,a2,a3,a4,a5⟩:=I.pin p hp;exact⟨a1,jC a2,a3,a4,a5⟩
 ·have hb:b≠e:=by rintro rfl;rw[iZ]at q;cases q
  rw[qR hb]at q;exact(I.hok b u q).stay (fun _ _ _ z=>z) (fun c z=>out _ _ z (by intro ψ z;cases z)) fun c xs z=>out _ _ z (by intro ψ z;cases z)
end
def z7 (X:Cx)(E:XK):Prop:=∀(pins:List (Addr×Obj)) (σ:St) (H:Hp) (s:Shared) (e C dx:Addr) (vs:Array Value) (a0:Value),Inv X pins σ H s->H e=some (.ext (j8 e C dx vs))->X.s₀.heap.get? e=none->vs[0]? =some a0->vs[1]? =some .none->E (.ref C) (some dx) (lets0 H e)->X.xe (.ref e) s
theorem C1 {P:Program}{w:World}{K:PySem.W.Frag}{mg:Str->Option Value}{base:Heap}{N:List Str}{qual:Str}{scope:Scope}{f:Addr}{cd:Value}{A:Around}{outer:List Env}{s₀:Shared}{H₀:Hp}{E:XK} :
  z7 (gM (CXE P w) P w K mg base N qual scope f cd A outer s₀ H₀ E) E:=by
 intro pins σ H s e C dx vs a0 I0 he new v0 v1 q;have I:=I0.lets0 he;obtain⟨go,_,_⟩:=I0.hok e _ he;have go:s.heap.get? e=some { cls:= .ref C,dict:=some dx,data:= .fields vs }:=go;generalize hX:gM (CXE P w) P w K mg base N qual scope f cd A outer s₀ H₀ E=X at I I0 new ⊢;have there:∀b o,X.s₀.heap.get? b=some o->∃o',s.heap.get? b=some o':=fun b o e=>I.base.there b o e (fun z=>absurd (show b∈([]:List Addr) from by rw[←hX]at z;exact z) (by simp));have hin:∀env∈X.stack,∀b,env.frame=some b->b∈e::frs X.stack:=fun env he b hb=>List.mem_cons_of_mem _ (List.mem_filterMap.mpr ⟨env,he,hb⟩);have hk:(hideAll s.heap (e::frs X.stack)).StaysIn s.heap:=fun b o e=>of_hideAll _ e;have cov:∀b,(lets0 H e b≠none∨∃o,X.s₀.heap.get? b=some o)->b∉frs X.stack->∃o,(hideAll s.heap (e::frs X.stack)).get? b=some o:=fun b hb hs=>by
  have hbe:b≠e:=by
   rintro rfl;rcases hb with hb|⟨o,q⟩
   ·exact hb iZ
   ·rw[new]at q;cases q
  have:∃o,s.heap.get? b=some o:=by
   rcases hb with hb|⟨o,q⟩
   ·cases e1:lets0 H e b with
    | none=>exact absurd e1 hb
    | some u=>exact(I.hok b u e1).there
   ·exact there b o q
  obtain⟨o,q⟩:=this;exact⟨o,hideAll_get _ q fun z=>(List.mem_cons.mp z).elim hbe hs⟩
 have ff:=funFrames_hide I.stack hin;have nb:(hideAll s.heap (e::frs X.stack)).get? e=none:=hideAll_none _ (List.mem_cons_self ..);subst hX;show wpAny _ _ (leaving _ _) _ _ _;refine xY (L:=_) (a0:=a0) I.ok.frames ff rfl go hk nb rfl v1 v0 fun h2 hl=> ?_;obtain⟨x1,⟨_,_,x2⟩,x3,x4⟩:=hl;obtain⟨un2,hok2⟩:=IQ (h2:=h2) I rfl x1 hk x4 cov rfl rfl;refine⟨e,.ref C,some dx,a0,lets0 H e,_,rfl,I.os,I.bare,un2,hok2,iZ,new,⟨x1,nb,x2,x3⟩,fun b hb hs=>cov b hb fun z=> ?_,q⟩;rcases List.mem_cons.mp (I.stkSub b z) with e1|hb'
 ·rcases hb with hb|⟨o,e2⟩
  ·exact hb (by rw[e1];exact I.free)
  ·have e3:=Nat.lt_of_lt_of_le (Heap.lt_size e2) I.ok.above;rw[e1]at e3;exact Nat.lt_irrefl _ e3
 ·exact hs hb'
theorem KJ {P:Program}{w:World}{K:PySem.W.Frag}{mg:Str->Option Value}{base:Heap}{N:List Str}{qual:Str}{scope:Scope}{f:Addr}{cd:Value}{A:Around}{outer:List Env}{s₀:Shared}{H₀:Hp}{E:XK} :
  PassesOwn (model P w) (gM (CXE P w) P w K mg base N qual scope f cd A outer s₀ H₀ E).A (gM (CXE P w) P w K mg base N qual scope f cd A outer s₀ H₀ E).env (gM (CXE P w) P w K mg base N qual scope f cd A outer s₀ H₀ E).xe :=
 fun e s' h=>wpAny_leaving_again (SameStack.refl _) h
theorem FC {X:Cx}{e:Expr}{f:Str}{pos:Pos}{ta:TE} (K:Frag) (hK:X.K=K) (he:PE X e ta) (hb:attributeBase e f X.env (eval e X.env)=eval e X.env):PE X (.Attribute e f pos) (B0 K ta f):=by
 subst hK;exact L7 he hb
def spX (K:Frag)(C:Addr)(nm:Str):Sp:=fun vs H Q _=>∃e y fv,vs=[.ref e,y]/\H e=some (.ext (lH e C fv))/\mQ K C/\NoAttr K C nm/\∀dx,H dx=none->dx≠e->Q .non (upd (upd H e (.ext (j8 e C dx fv))) dx (.xd [(nm,y)]))
structure XcE (P:Program)(w:World)(K:PySem.W.Frag)(mg:Str->Option Value)(base:Heap)(x:Str)(C:Addr)(nm:Str):Prop where
 ex:∃f fd ps,mg x=some (.ref C)/\qD K C f=true/\mQ K C/\NoAttr K C nm/\Binds K fd ps []/\aY P w K mg base CX0 1 f fd ps (spX K C nm)
def z4 (C:Addr)(nm:Str)(E:XK)(t:TE):TS:=fun _ σ H=>t σ H fun y H1=>∀dx,H1 dx=none->E (.ref C) (some dx) (upd H1 dx (.xd [(nm,y)]))
theorem u7 {C:Addr}{nm:Str}{E:XK}{t:TE}{D:dU}{σ:St}{H:Hp} (h:t σ H fun y H1=>∀dx,H1 dx=none->E (.ref C) (some dx) (upd H1 dx (.xd [(nm,y)]))):z4 C nm E t D σ H:=h
section
variable {X:Cx}{E:XK}{x nm:Str}{C:Addr}{np cpos pos:Pos}{e:Expr}{t:TE}{k':Nat}
theorem vL (F:XcE X.prog X.w X.K X.mg X.base x C nm)(hr:Room k' X.A)(hx:z7 X E)(ha:PE X e t)(hex:X.ex=[])(cm:X.calm=true:=by rfl)(hk:2<=k':=by decide)(hg:Gl X x:=by rfl)(hdb:(x==("__debug__" :Str))=false:=by decide)
  (he:starEach [e] X.env=[(false,eval e X.env)]:=by rfl) :
  PS X (.Raise (some (.Call (.Name x np) [e] [] cpos)) none pos) (z4 C nm E t):=by
 intro pins s σ H D I h;obtain⟨fi,fd,ps,hm,hc,xf,na,hb,G⟩:=F.ex;obtain⟨tl,N,cn,q,bs,hdct,sn,sub,ab,col,dd,k0,k1,k2,k3,k5,mN,fo,hC,hN,hni,T,hf,hfc⟩:=KY I.ok.mod.kin hc;have hbase:tl.contains (.type "BaseException")=true:=T.hasType PySem.F.excBase_ValueError.hasBase;rw[arm_exec_Raise];refine wpAny_bind (wpAny_standAt (AU (C:=C) (nm:=cn) (q:=q) (N:=N) (bs:=bs) (bm:=tl) (hdct:=hdct) (sn:=sn) (sub:=sub) (ab:=ab) (col:=col) (dd:=dd) (k0:=k0) (k1:=k1) (k2:=k2) (k3:=k3) (k5:=k5) (newId:= "ValueError.__new__") hbase (I.ok.hd cm) ?_));refine wpAny_bind (wpAny_mono (wpAny_Call_ofName (kQ I hg hm ?_ hdb)) (fun v s3 h3=>wpAny_bind (wpAny_standAt (wpAny_pure h3))) fun _ _ z=>z);unfold callWith;rw[he];have one:wpAny (model X.prog X.w) X.A (spliced (backTo cpos [(false,eval e X.env)])) (fun us s1=>∃u y H1,us=[u]/\RelV y u/\Inv X pins σ H1 s1/\∀dx,H1 dx=none->E (.ref C) (some dx) (upd H1 dx (.xd [(nm,y)]))) X.xe s:=by
  show wpAny _ _ (spliced ((false,eval e X.env)::backTo cpos [])) _ _ s;refine Calls.spliced_cons (thn (ha pins s σ H _ I h) fun u s1 ⟨y,H1,I1,ru,q1⟩=> ?_);exact Calls.spliced_nil ⟨u,y,H1,rfl,ru,I1,q1⟩
 refine wpAny_bind (wpAny_holding (Calls.evalArgs_plain (wpAny_mono one (fun us s2 ⟨u,y,H1,eu,ru,I1,q1⟩=>wpAny_bind (wpAny_standAt ?_)) fun _ _ z=>z)));subst eu;have kb:∀b o,X.base.get? b=some o->s2.heap.get? b=some o:=I1.bk;have hC2:=I1.bk _ _ hC;have new0:s2.heap.get? (s2.heap.objs.size+1)=none:=Heap.get?_none_of_le (Nat.le_succ _);have there:∀b o,X.s₀.heap.get? b=some o->∃o',s2.heap.get? b=some o':=fun b o q=>I1.base.there b o q (by rw[hex];simp);have newS:X.s₀.heap.get? (s2.heap.objs.size+1)=none:=by
  cases q:X.s₀.heap.get? (s2.heap.objs.size+1) with
  | none=>rfl
  | some o=>obtain⟨o',q'⟩:=there _ o q;rw[new0]at q';cases q'
 have J:Inv X pins σ (upd H1 (s2.heap.objs.size+1) (.ext (lH (s2.heap.objs.size+1) C #[.ref s2.heap.objs.size,.none,.none,.none,.bool false,.none]))) { s2 with heap:=g9 s2.heap C [u] }:=by
  have hg:(g9 s2.heap C [u]).get? (s2.heap.objs.size+1)=some { cls:= .ref C,data:= .fields #[.ref s2.heap.objs.size,.none,.none,.none,.bool false,.none] }:=by heap_get
  exact I1.laid (t':=s2.toks) (fun b o q=>fL q) (Nat.le_succ _) ⟨hg,⟨_,hg⟩,fun g1 g2 q1 q2=>q2 _ q1⟩
 obtain⟨hp,g,d,tk,os⟩:=s2;refine wpAny_bind (wpAny_keeperOf_exc hC2 ?_);refine wpAny_bind (GM PySem.F.excBase_ValueError (T.keeps I1.bk) hC2 (hN.keeps I1.bk) hni (I1.bk _ _ hf) hfc ?_ (by show 1<=sizeLine;decide));have want:spX X.K C nm [.ref (hp.objs.size+1),y] (upd H1 (hp.objs.size+1) (.ext (lH (hp.objs.size+1) C #[.ref hp.objs.size,.none,.none,.none,.bool false,.none]))) (fun v H2=>v= .non/\∃dx,H1 dx=none/\dx≠hp.objs.size+1/\H2=upd (upd (upd H1 (hp.objs.size+1) (.ext (lH (hp.objs.size+1) C #[.ref hp.objs.size,.none,.none,.none,.bool false,.none]))) (hp.objs.size+1) (.ext (j8 (hp.objs.size+1) C dx #[.ref hp.objs.size,.none,.none,.none,.bool false,.none]))) dx (.xd [(nm,y)])) E0 :=
  ⟨_,_,_,rfl,aR,xf,na,fun dx n1 n2=>⟨rfl,dx,by rw[aG n2]at n1;exact n1,n2,rfl⟩⟩
 have rr:Vals [V.ref (hp.objs.size+1),y] [Value.ref (hp.objs.size+1),u]:= .cons rfl (.cons ru .nil);have ln:[Value.ref (hp.objs.size+1),u].length=ps.length:=rr.length.symm.trans (G.len _ _ _ _ want);have go:=G.run _ X.stack _ _ ⟨[Value.ref (hp.objs.size+1),u],[]⟩ [Value.ref (hp.objs.size+1),u] _ _ E0 ((hr.mono hk).make C [u] []) (J.env0.make C [u] []) (by have z:=hb _ [Value.ref (hp.objs.size+1),u] J.kIn (by rw[List.append_nil];exact ln);rw[List.append_nil]at z;exact z) rr want;refine wpAny_call (codeAny_mono go fun res s' hq=> ?_)
 match res,hq with
 | .error e,hq=>exact False.elim hq
 | .ok .next,hq=>exact False.elim hq
 | .ok .brk,hq=>exact False.elim hq
 | .ok .cont,hq=>exact False.elim hq
 | .ok (.ret w'),hq =>
  obtain⟨v,H',I3,rv',ev,dx,n1,n2,eH⟩:=J.after hq;subst ev;refine⟨rv',?_⟩;refine wpAny_bind (wpAny_holding (wpAny_point (wpAny_pure ?_)));have hE:H' (hp.objs.size+1)=some (.ext (j8 (hp.objs.size+1) C dx #[.ref hp.objs.size,.none,.none,.none,.bool false,.none])):=by
   rw[eH,aG (Ne.symm n2),aR]
  have eL:lets0 H' (hp.objs.size+1)=upd H1 dx (.xd [(nm,y)]):=by
   funext b
   by_cases hb':b=hp.objs.size+1
   ·subst hb';rw[iZ,aG (Ne.symm n2)];exact(I1.hok.fresh (Nat.le_succ _)).symm
   ·rw[qR hb',eH]
    by_cases hd':b=dx
    ·subst hd';rw[aR,aR]
    ·rw[aG hd',aG hb',aG hb',aG hd']
  obtain⟨gx,_,_⟩:=I3.hok _ _ hE;exact⟨_,_,_,rfl,I3.bk _ _ hC,gx,rfl,rfl,rfl,hx pins σ H' _ _ C dx _ _ I3 hE newS rfl rfl (by rw[eL];exact q1 dx n1)⟩
end
end L2
namespace L2
def NM {α:Type}:Nat->(List α->Prop)->Prop
 | 0,p=>p []
 | n+1,p=>∀a,NM n (fun l=>p (a::l))
theorem aP {α:Type}:∀(n:Nat) (p:List α->Prop),NM n p->∀us:List α,us.length=n->p us
 | 0,_,h,[],_=>h
 | n+1,_,h,a::us,e=>aP n _ (h a) us (by simpa using e)
 | 0,_,_,_::_,e=>by simp at e
 | _+1,_,_,[],e=>by simp at e
end L2
namespace Prf
open PySem L2
set_option hygiene false
local macro_rules| `(tactic| walk_at"fs")=> `(tactic| exact⟨rfl,rfl,rfl,by decide +kernel,rfl,by decide +kernel,by decide +kernel⟩)
local macro_rules| `(tactic| walk_at"hu")=> `(tactic| (have hu0:=Room.units0 hr;have hu1:=Room.units1 hr;have hu9:=Room.units9 hr))
set_option hygiene true
def top (i:Nat):Stmt:=PySem.Challenge.pw_firstout_k13_strange_names.main.body.getD i (.Pass ⟨0,0,0,0⟩)
abbrev jG:Stmt:=top 0
abbrev bV:Stmt:=bZ (top 7) 0
theorem sc_NoRoom___init__:aS ["self","name"] ["self","name"] (aB bV):=by walk_at"fs"
abbrev bQ:Stmt:=bZ (top 8) 0
theorem sc_Unknown___init__:aS ["self","name"] ["self","name"] (aB bQ):=by walk_at"fs"
abbrev cV:Stmt:=top 10
theorem sc_need_turns:aS ["first","last"] ["first","last"] (aB cV):=by walk_at"fs"
abbrev b2:Stmt:=top 11
theorem sc_need_each_once:aS ["names","seen","name"] ["names"] (aB b2):=by walk_at"fs"
abbrev bU:Stmt:=top 12
theorem sc_rooms_spoken_of:aS ["doors","people","names","door"] ["doors","people"] (aB bU):=by walk_at"fs"
abbrev cS:Stmt:=top 13
theorem sc_need_rooms:aS ["names","sizes","name"] ["names","sizes"] (aB cS):=by walk_at"fs"
abbrev b9:Stmt:=top 14
theorem sc_added_people:aS ["sizes","people","inside","room","number"] ["sizes","people"] (aB b9):=by walk_at"fs"
abbrev cO:Stmt:=top 15
theorem sc_need_space:aS ["sizes","people","inside"] ["sizes","people"] (aB cO):=by walk_at"fs"
abbrev bR:Stmt:=bZ (top 16) 0
theorem sc_House___init__:aS ["self","rooms","doors","people","last","first","sizes","door"] ["self","rooms","doors","people","last","first"] (aB bR):=by walk_at"fs"
abbrev cD:Stmt:=bZ (top 16) 1
theorem sc_House_rooms:aS ["self"] ["self"] (aB cD):=by walk_at"fs"
abbrev cH:Stmt:=bZ (top 16) 2
theorem sc_House_doors:aS ["self"] ["self"] (aB cH):=by walk_at"fs"
abbrev bX:Stmt:=bZ (top 16) 3
theorem sc_House_need_room:aS ["self","room"] ["self","room"] (aB bX):=by walk_at"fs"
abbrev cE:Stmt:=bZ (top 16) 4
theorem sc_House_holds:aS ["self","room"] ["self","room"] (aB cE):=by walk_at"fs"
abbrev cF:Stmt:=bZ (top 16) 5
theorem sc_House_found:aS ["self","room"] ["self","room"] (aB cF):=by walk_at"fs"
abbrev cQ:Stmt:=bZ (top 16) 6
theorem sc_House_into:aS ["self","room"] ["self","room"] (aB cQ):=by walk_at"fs"
abbrev bW:Stmt:=bZ (top 16) 7
theorem sc_House_from_room:aS ["self","room"] ["self","room"] (aB bW):=by walk_at"fs"
abbrev cR:Stmt:=bZ (top 16) 8
theorem sc_House_door:aS ["self","name"] ["self","name"] (aB cR):=by walk_at"fs"
abbrev cU:Stmt:=bZ (top 16) 9
theorem sc_House_lets:aS ["self","name","turn","door"] ["self","name","turn"] (aB cU):=by walk_at"fs"
abbrev cI:Stmt:=bZ (top 16) 10
theorem sc_House_total:aS ["self"] ["self"] (aB cI):=by walk_at"fs"
abbrev cJ:Stmt:=bZ (top 16) 11
theorem sc_House_pairs:aS ["self","pairs","turn"] ["self"] (aB cJ):=by walk_at"fs"
abbrev dL:Stmt:=top 18
theorem sc_is_whole:aS ["thing"] ["thing"] (aB dL):=by walk_at"fs"
abbrev d0:Stmt:=top 21
theorem sc_is_name:aS ["thing"] ["thing"] (aB d0):=by walk_at"fs"
abbrev c6:Stmt:=top 22
theorem sc_need_name:aS ["part","thing"] ["part","thing"] (aB c6):=by walk_at"fs"
abbrev cT:Stmt:=top 23
theorem sc_need_whole:aS ["part","thing","least"] ["part","thing","least"] (aB cT):=by walk_at"fs"
abbrev bO:Stmt:=bZ (top 24) 0
theorem sc_Door___init__:aS ["self","name","start","end","wide"] ["self","name","start","end","wide"] (aB bO):=by walk_at"fs"
abbrev c9:Stmt:=bZ (top 24) 1
theorem sc_Door_lets:aS ["self","turn"] ["self","turn"] (aB c9):=by walk_at"fs"
abbrev b8:Stmt:=bZ (top 24) 2
theorem sc_Door_is_exit:aS ["self"] ["self"] (aB b8):=by walk_at"fs"
abbrev dG:Stmt:=bZ (top 24) 3
abbrev b6:Stmt:=top 26
theorem sc__law_cell_at:aS ["_law_script","_law_k"] ["_law_script","_law_k"] (aB b6):=by walk_at"fs"
abbrev dA:Stmt:=top 27
theorem sc__law_made:aS ["_law_script","_law_cell","_law_some","_law_stem","_law_rooms","_law_doors","_law_k","_law_end","_law_first"] ["_law_script"] (aB dA):=by walk_at"fs"
abbrev cA:Stmt:=top 28
theorem sc__law_refused:aS ["_law_house","_law_word","_law_name_here","_law_turn","_law_kinds","_law_found","e","_law_a_door"] ["_law_house","_law_word","_law_name_here","_law_turn"] (aB cA):=by walk_at"fs"
abbrev c8:Stmt:=top 29
theorem sc__law_told:aS ["_law_house","_law_rows","_law_ways"] ["_law_house"] (aB c8):=by walk_at"fs"
abbrev c7:Stmt:=top 30
theorem sc__law_name:aS ["_law_known","_law_others","_law_cell","_law_way","_law_some","_law_one"] ["_law_known","_law_others","_law_cell"] (aB c7):=by walk_at"fs"
abbrev g8:Stmt:=top 31
theorem sc_law:aS ["_law_script","_law_house","_law_held","_law_k","_law_cell","_law_word","_law_known","_law_others","_law_name_here","_law_again"] ["_law_script"] (aB g8):=by walk_at"fs"
theorem GR:("abcdefghijklmnopqrstuvwxyz" :Str).length=26:=by rw[bE];rfl
theorem FR:("r" :Str).length=1:=by rw[bE];rfl
theorem FA:("zzz" :Str).length=3:=by rw[bE];rfl
theorem FW:("the first turn is below 0" :Str).length=25:=by rw[bE];rfl
theorem GC:("the last turn is below the first one" :Str).length=36:=by rw[bE];rfl
theorem FT:("a row of people is below 0" :Str).length=26:=by rw[bE];rfl
theorem G7:("more are in a room than it holds" :Str).length=32:=by rw[bE];rfl
theorem F5:("name" :Str).length=4:=by rw[bE];rfl
theorem FD:("start" :Str).length=5:=by rw[bE];rfl
theorem F0:("wide" :Str).length=4:=by rw[bE];rfl
theorem BE:("holds" :Str).length=5:=by rw[bE];rfl
theorem BZ:("door" :Str).length=4:=by rw[bE];rfl
theorem A7:("lets" :Str).length=4:=by rw[bE];rfl
theorem BU:("q" :Str).length=1:=by rw[bE];rfl
theorem A2:("z" :Str).length=1:=by rw[bE];rfl
theorem AV:("y" :Str).length=1:=by rw[bE];rfl
theorem B4:("xw" :Str).length=2:=by rw[bE];rfl
theorem BM:(" is no name" :Str).length=11:=by rw[bE];rfl
theorem AR:(" is no whole number from " :Str).length=25:=by rw[bE];rfl
theorem CC:(" on" :Str).length=3:=by rw[bE];rfl
theorem BN:("end" :Str).length=3:=by rw[bE];rfl
theorem BV:("found" :Str).length=5:=by rw[bE];rfl
theorem A1:("into" :Str).length=4:=by rw[bE];rfl
theorem A5:("from" :Str).length=4:=by rw[bE];rfl
theorem A3:("a" :Str).length=1:=by rw[bE];rfl
structure DCls (K:W.Frag)(C:Addr):Prop where
 ic:ICls K C
 n_first:NoAttr K C "first"
 n_last:NoAttr K C "last"
 n_sizes:NoAttr K C "sizes"
 n_people:NoAttr K C "people"
 n_named_doors:NoAttr K C "named_doors"
 n_name:NoAttr K C "name"
 n_start:NoAttr K C "start"
 n_end:NoAttr K C "end"
 n_wide:NoAttr K C "wide"
set_option genInjectivity false in
set_option genSizeOfSpec false in
structure M (K:W.Frag)(mg:Str->Option Value) where
 AN:Addr
 AM:FuncData
 RC:FunV K "_wall" "_wall" jG AN AM
 RE:Binds K AM ["k"] []
 jW:Addr
 jZ:FuncData
 fV:FunV K "need_turns" "need_turns" cV jW jZ
 yS:Binds K jZ ["first","last"] []
 eZ:Addr
 eY:FuncData
 cW:FunV K "need_each_once" "need_each_once" b2 eZ eY
 rE:Binds K eY ["names"] []
 eJ:Addr
 eK:FuncData
 dE:FunV K "rooms_spoken_of" "rooms_spoken_of" bU eJ eK
 pC:Binds K eK ["doors","people"] []
 fY:Addr
 gJ:FuncData
 cC:FunV K "need_rooms" "need_rooms" cS fY gJ
 nQ:Binds K gJ ["names","sizes"] []
 gP:Addr
 gX:FuncData
 cN:FunV K "added_people" "added_people" b9 gP gX
 uV:Binds K gX ["sizes","people"] []
 j0:Addr
 jX:FuncData
 fZ:FunV K "need_space" "need_space" cO j0 jX
 yT:Binds K jX ["sizes","people"] []
 lV:Addr
 lU:FuncData
 jD:FunV K "is_whole" "is_whole" dL lV lU
 CL:Binds K lU ["thing"] []
 nN:Addr
 nL:FuncData
 kC:FunV K "is_name" "is_name" d0 nN nL
 E9:Binds K nL ["thing"] []
 kO:Addr
 kP:FuncData
 dP:FunV K "need_name" "need_name" c6 kO kP
 zL:Binds K kP ["part","thing"] []
 jV:Addr
 jY:FuncData
 gG:FunV K "need_whole" "need_whole" cT jV jY
 yO:Binds K jY ["part","thing","least"] []
 gZ:Addr
 gU:FuncData
 eA:FunV K "_law_cell_at" "_law_cell_at" b6 gZ gU
 uW:Binds K gU ["_law_script","_law_k"] []
 kJ:Addr
 kF:FuncData
 iA:FunV K "_law_made" "_law_made" dA kJ kF
 zN:Binds K kF ["_law_script"] []
 gQ:Addr
 gW:FuncData
 d9:FunV K "_law_refused" "_law_refused" cA gQ gW
 uR:Binds K gW ["_law_house","_law_word","_law_name_here","_law_turn"] []
 kM:Addr
 kG:FuncData
 dQ:FunV K "_law_told" "_law_told" c8 kM kG
 zM:Binds K kG ["_law_house"] []
 kI:Addr
 kK:FuncData
 hZ:FunV K "_law_name" "_law_name" c7 kI kK
 zK:Binds K kK ["_law_known","_law_others","_law_cell"] []
 CJ:Addr
 CN:FuncData
 QT:FunV K "law" "law" g8 CJ CN
 RG:Binds K CN ["_law_script"] []
 eG:Addr
 eB:FuncData
 pD:FunV K "__init__" "NoRoom.__init__" bV eG eB
 pI:Binds K eB ["self","name"] []
 d5:Addr
 d6:FuncData
 nS:FunV K "__init__" "Unknown.__init__" bQ d5 d6
 nW:Binds K d6 ["self","name"] []
 fA:Addr
 dM:FuncData
 qY:FunV K "__init__" "House.__init__" bR fA dM
 qZ:Binds K dM ["self","rooms","doors","people","last","first"] []
 iW:Addr
 iS:FuncData
 wH:FunV K "rooms" "House.rooms" cD iW iS
 wD:Binds K iS ["self"] []
 iR:Addr
 iQ:FuncData
 wI:FunV K "doors" "House.doors" cH iR iQ
 wC:Binds K iQ ["self"] []
 dF:Addr
 dD:FuncData
 iX:FunV K "need_room" "House.need_room" bX dF dD
 iY:Binds K dD ["self","room"] []
 eT:Addr
 eU:FuncData
 l8:FunV K "holds" "House.holds" cE eT eU
 mE:Binds K eU ["self","room"] []
 eV:Addr
 eR:FuncData
 l7:FunV K "found" "House.found" cF eV eR
 mD:Binds K eR ["self","room"] []
 fX:Addr
 fW:FuncData
 nR:FunV K "into" "House.into" cQ fX fW
 oF:Binds K fW ["self","room"] []
 eF:Addr
 eI:FuncData
 pJ:FunV K "from_room" "House.from_room" bW eF eI
 o9:Binds K eI ["self","room"] []
 gF:Addr
 gI:FuncData
 nO:FunV K "door" "House.door" cR gF gI
 nP:Binds K gI ["self","name"] []
 gE:Addr
 gD:FuncData
 nZ:FunV K "lets" "House.lets" cU gE gD
 nY:Binds K gD ["self","name","turn"] []
 iU:Addr
 iT:FuncData
 wB:FunV K "total" "House.total" cI iU iT
 wE:Binds K iT ["self"] []
 iV:Addr
 iP:FuncData
 wF:FunV K "pairs" "House.pairs" cJ iV iP
 wG:Binds K iP ["self"] []
 gH:Addr
 c5:FuncData
 sU:FunV K "__init__" "Door.__init__" bO gH c5
 sZ:Binds K c5 ["self","name","start","end","wide"] []
 kN:Addr
 kH:FuncData
 zR:FunV K "lets" "Door.lets" c9 kN kH
 zJ:Binds K kH ["self","turn"] []
 gY:Addr
 gS:FuncData
 uP:FunV K "is_exit" "Door.is_exit" b8 gY gS
 uS:Binds K gS ["self"] []
 nM:Addr
 nV:FuncData
 O7:FunV K "words" "Door.words" dG nM nV
 PB:Binds K nV ["self"] []
 RD:mg "_wall" =some (.ref AN)
 yV:mg "need_turns" =some (.ref jW)
 rD:mg "need_each_once" =some (.ref eZ)
 pB:mg "rooms_spoken_of" =some (.ref eJ)
 oE:mg "need_rooms" =some (.ref fY)
 uU:mg "added_people" =some (.ref gP)
 yQ:mg "need_space" =some (.ref j0)
 CM:mg "is_whole" =some (.ref lV)
 E8:mg "is_name" =some (.ref nN)
 zQ:mg "need_name" =some (.ref kO)
 yP:mg "need_whole" =some (.ref jV)
 uQ:mg "_law_cell_at" =some (.ref gZ)
 zI:mg "_law_made" =some (.ref kJ)
 uY:mg "_law_refused" =some (.ref gQ)
 zH:mg "_law_told" =some (.ref kM)
 zO:mg "_law_name" =some (.ref kI)
 RF:mg "law" =some (.ref CJ)
 CO:∃ds,Vals [.int 0] ds/\Binds K dM ["self","rooms","doors","people","last","first"] ds
 E5:∃ds,Vals [.int 1] ds/\Binds K c5 ["self","name","start","end","wide"] ds
 E7:∃ds,Vals [.non,.int 1] ds/\Binds K c5 ["self","name","start","end","wide"] ds
 aF:Addr
 MD:mg "House" =some (.ref aF)
 eP:Addr
 O9:mg "Door" =some (.ref eP)
 lR:Addr
 CK:mg "OutError" =some (.ref lR)
 HC:Addr
 RB:mg "NoDoor" =some (.ref HC)
 oA:Addr
 E6:mg "NoHouse" =some (.ref oA)
 q9:Addr
 HD:mg "NoTurn" =some (.ref q9)
 uX:Addr
 MB:mg "Twice" =some (.ref uX)
 aQ:Addr
 yR:mg "NoRoom" =some (.ref aQ)
 aV:Addr
 vO:mg "Unknown" =some (.ref aV)
 aL:DCls K aF
 HB:Mk K aF fA
 uN:dZ K aF "rooms" iW
 uM:dZ K aF "doors" iR
 iL:dZ K aF "need_room" dF
 lB:dZ K aF "holds" eT
 lD:dZ K aF "found" eV
 mB:dZ K aF "into" fX
 nX:dZ K aF "from_room" eF
 l6:dZ K aF "door" gF
 l9:dZ K aF "lets" gE
 uO:dZ K aF "total" iU
 uT:dZ K aF "pairs" iV
 lA:DCls K eP
 MC:Mk K eP gH
 yU:dZ K eP "lets" kN
 sV:dZ K eP "is_exit" gY
 ME:dZ K eP "words" nM
 E3:qD K aQ eG=true
 oG:mQ K aQ
 vP:NoAttr K aQ "name"
 CI:qD K aV d5=true
 lW:mQ K aV
 sY:NoAttr K aV "name"
 nK:W.exmOne K (.ref aQ) (.ref lR)=some true
 mK:W.exmOne K (.ref aV) (.ref lR)=some true
 rA:W.kitOne K (.ref aQ) (.ref aQ)=some true
 pF:W.kitOne K (.ref aQ) (.ref aV)=some false
 sW:W.kitOne K (.ref aQ) (.ref uX)=some false
 pA:W.kitOne K (.ref aQ) (.ref oA)=some false
 q0:W.kitOne K (.ref aQ) (.ref q9)=some false
 lT:W.kitOne K (.ref aQ) (.type "ValueError")=some true
 pH:W.kitOne K (.ref aV) (.ref aQ)=some false
 nU:W.kitOne K (.ref aV) (.ref aV)=some true
 rB:W.kitOne K (.ref aV) (.ref uX)=some false
 oB:W.kitOne K (.ref aV) (.ref oA)=some false
 pG:W.kitOne K (.ref aV) (.ref q9)=some false
 lC:W.kitOne K (.ref aV) (.type "ValueError")=some true
 yN:mg "ValueError" =none
 IU:mg "any" =none
 o0:mg "range" =none
 zP:mg "enumerate" =none
 O6:mg "dict" =none
 E4:mg "list" =none
 QU:mg "sum" =none
 b5:mg "isinstance" =none
 QV:mg "int" =none
 QR:mg "str" =none
 QS:mg "all" =none
 oZ:mg "len" =none
 O8:mg "bool" =none
 gR:∃t:Tok,mg "LONGEST_NAME" =some (.int 8 t)
local macro_rules| `(tactic| walk_at"hp")=> `(tactic| first|assumption|(refine' Same.at ?s ?h;(case s=>assumption);(case h=>walk_at"hp"))|(refine' SqL.of ?h;(case h=>walk_at"hp"))|(refine' SqT.of ?h;(case h=>walk_at"hp"))|(refine' Same.seq ?s ?h;(case s=>assumption);(case h=>walk_at"hp"))|(refine' Same.sqT ?s ?h;(case s=>assumption);(case h=>walk_at"hp")))
local macro_rules| `(tactic| walk_at"sm")=> `(tactic| first|assumption|exact Same.refl _|(refine' Same.snoc ?s ?h;(case s=>assumption);(case h=>walk_at"sm")))
local macro_rules| `(tactic| walk_at"sb")=> `(tactic| first|assumption|exact SameBut.refl|(refine' SameBut.snoc ?s ?h;(case s=>assumption);(case h=>walk_at"sb"))|(refine' SameBut.snocS ?s ?h;(case s=>assumption);(case h=>walk_at"sb")))
local macro_rules| `(tactic| walk_at"lk")=> `(tactic| first|assumption|exact NW|(with_reducible exact KH)|(refine' PQ ?d ?h;(case d=>decide +kernel);(case h=>walk_at"lk")))
local macro_rules| `(tactic| walk_at"sz")=> `(tactic| first|with_reducible assumption|lia|omega|(simp only[hV,tL,GR,FR,FA,FW,GC,FT,G7,F5,FD,F0,BE,BZ,A7,BU,A2,AV,B4,BM,AR,CC,BN,BV,A1,A5,A3,sizeLine_eq,List.length_cons,List.length_nil,List.length_append,List.length_map];done)|(simp only[hV,tL,GR,FR,FA,FW,GC,FT,G7,F5,FD,F0,BE,BZ,A7,BU,A2,AV,B4,BM,AR,CC,BN,BV,A1,A5,A3,sizeLine_eq,List.length_cons,List.length_nil,List.length_append,List.length_map];omega)|(simp only[hV,tL,GR,FR,FA,FW,GC,FT,G7,F5,FD,F0,BE,BZ,A7,BU,A2,AV,B4,BM,AR,CC,BN,BV,A1,A5,A3,sizeLine_eq,List.length_cons,List.length_nil,List.length_append,List.length_map]at *;omega))
local macro_rules| `(tactic| walk_at"sd")=> `(tactic| first|with_reducible assumption|lia|omega|decide)
local macro_rules| `(tactic| walk_at"dc")=> `(tactic| first|((with_reducible refine ICls.cl (DCls.ic ?_));assumption)|((with_reducible refine DCls.ic ?_);assumption)|((with_reducible refine DCls.n_first ?_);assumption)|((with_reducible refine DCls.n_last ?_);assumption)|((with_reducible refine DCls.n_sizes ?_);assumption)|((with_reducible refine DCls.n_people ?_);assumption)|((with_reducible refine DCls.n_named_doors ?_);assumption)|((with_reducible refine DCls.n_name ?_);assumption)|((with_reducible refine DCls.n_start ?_);assumption)|((with_reducible refine DCls.n_end ?_);assumption)|((with_reducible refine DCls.n_wide ?_);assumption))
local macro_rules| `(tactic| walk_at"rd1")=> `(tactic| first|(with_reducible first|refine NJ ?_|refine MZ ?_|refine Q8 ?_|refine PH ?_|refine QQ ?_|refine QM ?_|refine PX ?_|refine PJ ?_|refine PR ?_|refine P9 ?_|refine P2 ?_|refine PD ?_|refine PM ?_|refine rd_v9 ?_|refine rd_v10 ?_|refine rd_v11 ?_|refine rd_v12 ?_|refine LS ?_|refine OS ?_|refine QJ ?_|refine PV ?_|refine JA ?_|refine QP ?_|refine OA ?_|refine JT ?_|refine P0 ?_|refine M4 ?_|refine PN ?_|refine DV ?_|refine DC ?_|refine IY ?_|refine JX ?_|refine rd_s0 ?_|refine QO ?_|refine QF ?_|refine QH ?_|refine P3 ?_|refine P6 ?_|refine QI ?_|refine QN ?_|refine QL ?_|refine QD ?_|refine rd_s10 ?_|refine rd_s11 ?_|refine rd_s12 ?_|refine NC ?_|refine JL ?_|refine LO ?_|refine rd_retN ?_|refine OK ?_|refine OR ?_|refine P4 ?_|refine LF ?_|refine NN ?_|refine IZ ?_|refine rd_ifE ?_|refine rd_chain ?_|refine P5 ?_|refine Q0 ?_|refine OU ?_|refine rd_eqB ?_|refine MJ ?_|refine rd_eqSN ?_|refine JD ?_|refine rd_eqNN ?_|refine rd_neI ?_|refine rd_neB ?_|refine rd_neS ?_|refine rd_neNN ?_|refine rd_isNN ?_|refine rd_isNS ?_|refine rd_isNI ?_|refine rd_isNR ?_|refine J3 ?_|refine J7 ?_|refine rd_ntNI ?_|refine rd_ntNR ?_|refine K7 ?_|refine rd_ntNV ?_|refine NQ ?_|refine OO ?_|refine LD ?_|refine J2 ?_|refine JK ?_|refine PY ?_|refine PU ?_|refine rd_bm0 ?_|refine rd_bmS ?_|refine rd_bm0I ?_|refine rd_isiII ?_|refine rd_isiIB ?_|refine rd_isiBB ?_|refine rd_isiBI ?_|refine rd_isiSS ?_|refine rd_isiNS ?_|refine rd_max2 ?_|refine rd_min2 ?_|refine rd_intB ?_|refine rd_intI ?_|refine DW ?_|refine JN ?_|refine NZ ?_|refine rd_gsub ?_|refine J6 ?_|refine GY ?_|refine N5 ?_|refine GX ?_|refine rd_iTup ?_|refine FQ ?_|refine FY ?_|refine rd_iStr ?_|refine rd_iStrV ?_|refine rd_break ?_|refine rd_cont ?_|refine rd_aug ?_)|((with_reducible refine' NY ?s ?_);(case s=>decide))|((with_reducible refine' JY ?s ?_);(case s=>walk_at"sd");intro h0' h1')|((with_reducible refine' rd_repL ?e ?a ?b ?s ?_);(case e=>walk_at"hp");(case a=>decide);(case b=>decide);(case s=>first|(simp;done)|(simp[sizeLine_eq];done)|walk_at"sz");intro p' H' n' S' e')|((with_reducible refine' M5 ?s ?r ?_);(case s=>walk_at"sd");(case r=>walk_at"sd"))|((with_reducible refine' rd_mulL ?s ?r ?_);(case s=>walk_at"sd");(case r=>walk_at"sd"))|((with_reducible refine' rd_mulR ?s ?r ?_);(case s=>walk_at"sd");(case r=>walk_at"sd"))|((with_reducible refine' IW ?s ?_);(case s=>walk_at"sz");intro p' H' n' S' e')|((with_reducible refine' K0 ?s ?_);(case s=>walk_at"sz");intro p' H' n' S' e')|((with_reducible refine KN ?_);intro p' H' n' S' e')|((with_reducible refine' LC ?e ?c ?n ?l ?_);(case e=>walk_at"hp");(case c=>walk_at"dc");(case n=>walk_at"dc");(case l=>walk_at"lk"))|((with_reducible refine' FL ?e ?c ?n ?l ?_);(case e=>walk_at"hp");(case c=>walk_at"dc");(case n=>walk_at"dc");(case l=>kernel_rfl);intro H' B' e')|((with_reducible refine' MF ?e ?l ?F ?_);(case e=>walk_at"hp");(case l=>walk_at"lk");(case F=>assumption))|((with_reducible refine' rd_isiC ?e ?i ?k ?_);(case e=>walk_at"hp");(case i=>walk_at"dc");(case k=>assumption))|((with_reducible refine' rd_ixL ?e ?l ?_);(case e=>walk_at"hp");(case l=>rfl))|((with_reducible refine' rd_ix2i ?e ?s ?r ?_);(case e=>walk_at"hp");(case s=>walk_at"sd");(case r=>walk_at"sd");intro v' hv')|((with_reducible refine' rd_ix3i ?e ?s ?r ?_);(case e=>walk_at"hp");(case s=>walk_at"sd");(case r=>walk_at"sd");intro v' hv')|((with_reducible refine' rd_setLm ?e ?l ?_);(case e=>walk_at"hp");(case l=>rfl);intro H' B' e')|((with_reducible refine' KM ?e ?_);(case e=>walk_at"hp"))|((with_reducible refine' rd_lenS ?e ?_);(case e=>walk_at"sz"))|((with_reducible refine' KD ?e ?_);(case e=>walk_at"sz"))|((with_reducible refine' OB ?e ?_);(case e=>walk_at"sz");intro hl')|((with_reducible refine' O5 ?e ?_);(case e=>walk_at"hp");intro p' H' n' S' e')|((with_reducible refine' DD ?e ?_);(case e=>walk_at"hp");intro p' H' n' S' e')|((with_reducible refine' JU ?e ?f ?s ?_);(case e=>walk_at"hp");(case f=>walk_at"hp");(case s=>walk_at"sz");intro p' H' n' S' e')|((with_reducible refine' rd_listOf ?e ?_);(case e=>walk_at"hp");intro p' H' n' S' e')|((with_reducible refine' OF ?e ?_);(case e=>walk_at"hp"))|((with_reducible refine' u4 ?e ?_);(case e=>walk_at"hp"))|((with_reducible refine' EN ?s ?r ?_);(case s=>walk_at"sd");(case r=>walk_at"sd"))|((with_reducible refine' E2 ?s ?r ?t ?u ?_);(case s=>walk_at"sd");(case r=>walk_at"sd");(case t=>walk_at"sd");(case u=>walk_at"sd"))|((with_reducible refine' rd_str ?s ?r ?_);(case s=>walk_at"sd");(case r=>walk_at"sd");intro hl')|((with_reducible refine' rd_gtupL ?e ?l ?_);(case e=>walk_at"hp");(case l=>rfl))|((with_reducible refine' J5 ?e ?l ?_);(case e=>walk_at"hp");(case l=>rfl))|((with_reducible refine' O0 ?s ?_);(case s=>walk_at"sd"))|((with_reducible refine' M8 ?s ?_);(case s=>walk_at"sd"))|((with_reducible refine' rd_ifnP ?s ?_);(case s=>walk_at"sd"))|((with_reducible refine' rd_ifnN ?s ?_);(case s=>walk_at"sd")))
local macro_rules| `(tactic| walk_at"go")=> `(tactic| repeat walk_at"rd1")
local macro_rules| `(tactic| walk_at"gs")=> `(tactic| repeat ((fail_if_success (with_reducible refine GH ?_));walk_at"rd1"))
local macro_rules| `(tactic| walk_at"nn")=> `(tactic| repeat first|exact nn_nil|refine nn_app ?_ ?_|refine nn_cons (by omega) ?_|exact nn_map (fun n=>by omega))
section
variable {P:Program}{w:World}{K:W.Frag}{mg:Str->Option Value}{base:Heap}
def NS:V->Bool
 | .int _=>true
 | _=>false
def qJ (K:W.Frag):Sp:=fun vs H Q _=>∃x n,vs=[x]/\BTy K H x n/\Q (.bl (NS x)) H
theorem FJ {H:Hp}{Q:VK}{E:XK}{i:Int} (h:Q (.bl true) H):qJ K [.int i] H Q E:=⟨_,_,rfl,.int i,h⟩
theorem y6 (m:M K mg):aY P w K mg base CX0 1 m.lV m.lU ["thing"] (qJ K):=by
 refine m.jD.ok sc_is_whole (fun vs H Q E h=> ?_) (fun cdv A outer s H vs Q E hr h=> ?_)
 ·obtain⟨x,n,rfl,b,k⟩:=h;rfl
 ·obtain⟨x,n,rfl,b,k⟩:=h;have nd:=sc_is_whole.nd;walk_at"hu";refine⟨_,(aE (bA (xJ (bN qX rfl m.b5 b0 (aA (pv 0) (aA (wO rfl m.QV MG) aD))) (rF (DM (bN qX rfl m.b5 b0 (aA (pv 0) (aA (wO rfl m.O8 LM) aD)))))))),?_⟩;refine aI (σ:=[some (x)]) rfl ?_;refine⟨_,rfl,_,_,_,_,_,rfl,b.ty,rfl,BT b "int" (.inl rfl),_,rfl,?_⟩;refine tG (fun h1=>⟨_,rfl,_,_,_,_,_,rfl,b.ty,rfl,BT b "bool" (.inr (.inl rfl)),_,rfl,?_⟩) (fun h1=> ?_)
  ·cases b<;>first|exact k|exact absurd h1 (by decide)
  ·cases b<;>first|exact k|exact absurd (by decide) h1
theorem y8 (m:M K mg):Fc P w K mg base "is_whole" 1 ["thing"] (qJ K):=⟨_,_,m.CM,m.jD.kp,m.CL,y6 m⟩
def nmB:V->Bool
 | .str z=>b1 z
 | _=>false
def uE (K:W.Frag):Sp:=fun vs H Q _=>∃x n,vs=[x]/\BTy K H x n/\(∀z,x= .str z->z.length<=1000)/\∀H',Same H H'->Q (.bl (nmB x)) H'
theorem LW {H:Hp}{Q:VK}{E:XK}{z:Str} (hz:b1 z=true) (h:∀H',Same H H'->Q (.bl true) H'):uE K [.str z] H Q E :=
 ⟨_,_,rfl,.str z,fun y e=>by cases e;exact Nat.le_trans (D0 hz) (by decide),fun H' s=>by rw[show nmB (.str z)=true from hz];exact h H' s⟩
theorem le1 (a c:Nat):(!decide ([c]<[a]))=decide (a<=c):=by
 have:([c]<[a])↔c<a:=by
  constructor
  ·intro h;cases h with
   | rel h=>exact h
   | cons h=>cases h
  ·exact fun h=> .rel h
 by_cases h:c<a
 ·rw[decide_eq_true (this.mpr h),decide_eq_false (by lia)];rfl
 ·rw[decide_eq_false (fun z=>h (this.mp z)),decide_eq_true (by lia)];rfl
theorem PZ:("a" :Str).cps.toList=[97]:=by decide +kernel
theorem QE:("z" :Str).cps.toList=[122]:=by decide +kernel
theorem u8 {α:Type}(p:α->Bool)(d:α):∀l:List α,((List.range l.length).map fun i=>p (l.getD i d)).all id=l.all p
 | []=>rfl
 | a::l=>by
  rw[List.length_cons,List.range_succ_eq_map,List.map_cons,List.all_cons,List.map_map,List.all_cons,←u8 p d l];rfl
theorem qT {H:Hp}{p:Addr}{o:HO} (h:H p=none):Same H (upd H p o):=fun b u e=>by rw[aG (aO e h)];exact e
theorem CG (m:M K mg):aY P w K mg base CX0 1 m.nN m.nL ["thing"] (uE K):=by
 refine m.kC.ok sc_is_name (fun vs H Q E h=> ?_) (fun cdv A outer s H vs Q E hr h=> ?_)
 ·obtain⟨x,n,rfl,b,hz,k⟩:=h;rfl
 ·obtain⟨x,n,rfl,b,hz,k⟩:=h;have nd:=sc_is_name.nd;walk_at"hu";obtain⟨tok_LONGEST_NAME,gR⟩:=m.gR;refine⟨_,(aC (bY (mO (jS (bN qX rfl m.b5 b0 (aA (pv 0) (aA (wO rfl m.QR N1) aD))))) (aE (bA j2)) bG)
   (aE (bA (xJ (x8 HS HS aJ (bN DS rfl m.oZ kY (aA (pv 0) aD)) (LZ rfl gR)) (rF (bN (GL rfl) rfl m.QS OP (aA (dN (N:=["sign"]) (nl:=1) (ci:=[]) rfl (blk (s.heap.objs.size+1) rfl rfl rfl (by kernel_rfl)) (NO (pv 0)) (fun _ _ _ _=>(aW (i:=0) (show (["sign"]:List Str).Nodup by decide +kernel) rfl (by walk_at"oi"))) (fun _ _ _ _=>eN) (fun _ _ _ _=>(x8 C7 C7 bL (pv 0) bL))) aD))))))),?_⟩
  refine aI (σ:=[some (x)]) rfl ?_;refine⟨_,rfl,_,_,_,_,_,rfl,b.ty,rfl,BT b "str" (.inr (.inr rfl)),_,rfl,?_⟩;refine tG (fun h1=> ?_) (fun h1=> ?_)
  ·show Q (.bl false) H;cases b<;>first|exact k H (Same.refl H)|exact absurd h1 (by decide)
  ·have hs:∃z,x= .str z:=by
    cases b<;>first|exact⟨_,rfl⟩|exact absurd (by decide) h1
   obtain⟨z,rfl⟩:=hs;have hl:=hz z rfl;have hl':z.length<=sizeLine:=Nat.le_of_lt (CT hl);refine⟨_,rfl,z,rfl,hl',_,_,rfl,rfl,_,rfl,?_⟩;refine tG (fun h2=>⟨_,_,rfl,rfl,_,rfl,?_⟩) (fun h2=>⟨_,rfl,?_⟩)
   ·refine tG (fun h3=> ?_) (fun h3=> ?_)
    ·refine⟨_,rfl,z,rfl,?_⟩;refine LH z.cps.size (fun i=> .bl (sgB (z.cps.toList.getD i 0))) hl' (fun H'=>H'=H) rfl (fun _ _=>rfl) (fun i _ hi _=>hi) ?_ ?_ ?_ ?_ ?_
     ·rintro i _ x H' hi rfl ⟨rfl,c,hc,rfl⟩;refine⟨⟨rfl,fun j v hv=> ?_⟩,rfl,?_⟩
      ·match j,hv with
       | 0,hv=>cases hv
       | j+1,hv=>cases hv
      ·have hc':z.cps.toList.getD i 0=c:=by
        rw[List.getD_eq_getElem?_getD,Array.getElem?_toList,hc];rfl
       refine⟨_,rfl,_,_,rfl,rfl,_,rfl,?_⟩;rw[PZ,hc'];refine tG (fun h4=>⟨_,_,rfl,rfl,?_,rfl⟩) (fun h4=>⟨?_,rfl⟩)
       ·have h4':97<=c:=by rw[show (⟨#[c]⟩:Str).cps.toList=[c] from rfl,le1]at h4;exact of_decide_eq_true h4
        rw[QE,show (⟨#[c]⟩:Str).cps.toList=[c] from rfl,le1];unfold sgB;rw[decide_eq_true h4',Bool.true_and]
       ·have h4':¬97<=c:=by rw[show (⟨#[c]⟩:Str).cps.toList=[c] from rfl,le1]at h4;exact fun z=>h4 (decide_eq_true z)
        unfold sgB;rw[decide_eq_false h4',Bool.false_and]
     ·exact fun _ _ _ _ f q=>f _ _ q
     ·rintro σ H Q Q' f ⟨v,e,i,j,e1,e2,k,e3,q⟩;refine⟨v,e,i,j,e1,e2,k,e3,?_⟩;revert q
      split
      ·rintro ⟨i,j,e1,e2,q⟩;exact⟨i,j,e1,e2,f _ _ q⟩
      ·exact fun q=>f _ _ q
     ·exact fun _ _ _ _ _ f q=>f _ _ q
     ·rintro _ rfl p hp;refine⟨p,(List.range z.cps.size).map (fun i=>sgB (z.cps.toList.getD i 0)),rfl,SqL.of ?_,?_⟩
      ·rw[aR,List.map_map];rfl
      ·have e:=u8 sgB 0 z.cps.toList;rw[Array.length_toList]at e;rw[e];have e2:nmB (.str z)=z.cps.toList.all sgB:=by
        show b1 z=_;unfold b1;rw[show decide (1<=(z.length:Int))=true from h2,show decide ((z.length:Int)<=8)=true from h3];rfl
       rw[←e2];exact k _ (qT hp)
    ·have e2:nmB (.str z)=false:=by
      show b1 z=_;unfold b1;rw[show decide ((z.length:Int)<=8)=false from by simpa using h3];simp
     have:=k H (Same.refl H);rw[e2]at this;exact this
   ·have e2:nmB (.str z)=false:=by
     show b1 z=_;unfold b1;rw[show decide (1<=(z.length:Int))=false from by simpa using h2];simp
    have:=k H (Same.refl H);rw[e2]at this;exact this
theorem BK (m:M K mg):Fc P w K mg base "is_name" 1 ["thing"] (uE K):=⟨_,_,m.E8,m.kC.kp,m.E9,CG m⟩
local macro_rules| `(tactic| walk_at"rd1")=> `(tactic| first|(with_reducible refine FJ ?_)|((with_reducible refine' LW ?s ?_);(case s=>assumption);intro H' S'))
def jQ (K:W.Frag):Sp:=fun vs H Q _=>∃(part z:Str),vs=[.str part,.str z]/\b1 z=true/\∀H',Same H H'->Q .non H'
theorem zB {H:Hp}{Q:VK}{E:XK}{part z:Str} (hz:b1 z=true) (h:∀H',Same H H'->Q .non H'):jQ K [.str part,.str z] H Q E:=⟨_,_,rfl,hz,h⟩
theorem wY (m:M K mg):aY P w K mg base CX0 2 m.kO m.kP ["part","thing"] (jQ K):=by
 refine m.dP.ok sc_need_name (fun vs H Q E h=> ?_) (fun cdv A outer s H vs Q E hr h=> ?_)
 ·obtain⟨part,z,rfl,hz,k⟩:=h;rfl
 ·obtain⟨part,z,rfl,hz,k⟩:=h;have nd:=sc_need_name.nd;walk_at"hu";have kC:= @BK P w K mg base m;refine⟨_,(aE (bY (mO (jS (cZ kC hr (aA (pv 1) aD)))) (aE dI) bG)),?_⟩;refine aI (σ:=[some (.str part),some (.str z)]) rfl ?_;walk_at"go";exact k _ (by walk_at"sm")
theorem xZ (m:M K mg):Fc P w K mg base "need_name" 2 ["part","thing"] (jQ K):=⟨_,_,m.zQ,m.dP.kp,m.zL,wY m⟩
def iN (K:W.Frag):Sp:=fun vs H Q _=>∃(part:Str) (i l:Int),vs=[.str part,.int i,.int l]/\l<=i/\Q .non H
theorem xW {H:Hp}{Q:VK}{E:XK}{part:Str}{i l:Int} (hz:l<=i) (h:Q .non H):iN K [.str part,.int i,.int l] H Q E:=⟨_,_,_,rfl,hz,h⟩
theorem v5 (m:M K mg):aY P w K mg base CX0 2 m.jV m.jY ["part","thing","least"] (iN K):=by
 refine m.gG.ok sc_need_whole (fun vs H Q E h=> ?_) (fun cdv A outer s H vs Q E hr h=> ?_)
 ·obtain⟨part,i,l,rfl,hz,k⟩:=h;rfl
 ·obtain⟨part,i,l,rfl,hz,k⟩:=h;have nd:=sc_need_whole.nd;walk_at"hu";have jD:= @y8 P w K mg base m;refine⟨_,(aE (bY (PW.pt (A8 (mO (jS (cZ jD hr (aA (pv 1) aD)))) (yH (bF lK (pv 1) (pv 2) (bB _))))) (aE dI) bG)),?_⟩;refine aI (σ:=[some (.str part),some (.int i),some (.int l)]) rfl ?_;walk_at"go";exact k
theorem vS (m:M K mg):Fc P w K mg base "need_whole" 2 ["part","thing","least"] (iN K):=⟨_,_,m.yP,m.gG.kp,m.yO,v5 m⟩
local macro_rules| `(tactic| walk_at"rd1")=> `(tactic| first|((with_reducible refine' zB ?s ?_);(case s=>assumption);intro H' S')|((with_reducible refine' xW ?s ?_);(case s=>walk_at"sd")))
abbrev sR (n s e w:V):List (Str×V):=b4 "wide" w (b4 "end" e (b4 "start" s (b4 "name" n [])))
def wQ (e:V):Prop:=e= .non∨∃z,e= .str z/\b1 z=true
def fO (K:W.Frag):Sp:=fun vs H Q _=>∃(p C dx:Addr) (n s:Str) (e:V) (wd:Int),vs=[.ref p,.str n,.str s,e,.int wd]/\DCls K C/\H p=some (.ins C dx [])/\b1 n=true/\b1 s=true/\wQ e/\0<=wd ∧
 ∀H',SameBut p H H'->H' p=some (.ins C dx (sR (.str n) (.str s) e (.int wd)))->Q .non H'
theorem pO {H:Hp}{Q:VK}{E:XK}{p C dx:Addr}{n s:Str}{e:V}{wd:Int} (dc:DCls K C) (hp:H p=some (.ins C dx [])) (hn:b1 n=true) (hs:b1 s=true) (he:wQ e) (hw:0<=wd)
  (k:∀H',SameBut p H H'->H' p=some (.ins C dx (sR (.str n) (.str s) e (.int wd)))->Q .non H'):fO K [.ref p,.str n,.str s,e,.int wd] H Q E:=⟨_,_,_,_,_,_,_,rfl,dc,hp,hn,hs,he,hw,k⟩
theorem qK (m:M K mg):aY P w K mg base CX0 3 m.gH m.c5 ["self","name","start","end","wide"] (fO K):=by
 refine m.sU.ok sc_Door___init__ (fun vs H Q E h=> ?_) (fun cdv A outer s H vs Q E hr h=> ?_)
 ·obtain⟨p,C,dx,n,st,e,wd,rfl,dc,hp,hn,hs,he,hw,k⟩:=h;rfl
 ·obtain⟨p,C,dx,n,st,e,wd,rfl,dc,hp,hn,hs,he,hw,k⟩:=h;have nd:=sc_Door___init__.nd;walk_at"hu";have dP:= @xZ P w K mg base m;have gG:= @vS P w K mg base m;refine⟨_,(aC (bM (cZ dP hr (aA bL (aA (pv 1) aD))))
   (aC (bM (cZ dP hr (aA bL (aA (pv 2) aD))))
   (aC (bY (bF KW (pv 3) sJ (bB _)) (aE (bM (cZ dP hr (aA bL (aA (pv 3) aD))))) bG)
   (aC (bM (cZ gG hr (aA bL (aA (pv 4) (aA aJ aD)))))
   (aC (fU (pv 0) (pv 1) rfl)
   (aC (fU (pv 0) (pv 2) rfl)
   (aC (fU (pv 0) (pv 3) rfl)
   (aE (fU (pv 0) (pv 4) rfl))))))))),?_⟩
  refine aI (σ:=[some (.ref p),some (.str n),some (.str st),some (e),some (.int wd)]) rfl ?_;rcases he with rfl|⟨z,rfl,hz⟩
  ·walk_at"go";exact k _ (by walk_at"sb") (by assumption)
  ·walk_at"go";exact k _ (by walk_at"sb") (by assumption)
theorem EZ (m:M K mg):Kc P w K mg base "Door" m.eP 3 [] (fO K):=⟨_,_,_,_,m.O9,m.MC,.nil,m.sZ,qK m⟩
theorem G0 {H:Hp}{Q:VK}{E:XK}{C:Addr}{vs dvs:List V}{n s:Str}{e:V}{wd:Int} (ev:vs++dvs=[.str n,.str s,e,.int wd]) (dc:DCls K C) (hn:b1 n=true) (hs:b1 s=true) (he:wQ e) (hw:0<=wd)
  (k:∀p dx H',H p=none->Same H H'->H' p=some (.ins C dx (sR (.str n) (.str s) e (.int wd)))->Q (.ref p) H'):wM C (fO K) dvs E Q vs H :=
 FN (fun p dx H0 Q' h k' s0=>by rw[ev];exact pO dc h hn hs he hw k') k
local macro_rules| `(tactic| walk_at"rd1")=> `(tactic| ((with_reducible refine' G0 ?v ?d ?hn ?hs ?he ?hw ?_);(case v=>rfl);(case d=>assumption);(case hn=>assumption);(case hs=>assumption);(case he=>first|assumption|exact .inl rfl|exact .inr ⟨_,rfl,by assumption⟩);(case hw=>walk_at"sd");intro p' dx' H' n' S' e'))
def jH (K:W.Frag):Sp:=fun vs H Q _=>∃(p C dx:Addr) (fs:List (Str×V)) (e:V),vs=[.ref p]/\DCls K C/\H p=some (.ins C dx fs)/\fs.lookup ("end" :Str)=some e/\Q (.bl (decide (e= .non))) H
theorem IX {H:Hp}{Q:VK}{E:XK}{p C dx:Addr}{fs:List (Str×V)} (hp:H p=some (.ins C dx fs)) (dc:DCls K C) (l:fs.lookup ("end" :Str)=some .non) (k:Q (.bl true) H):jH K [.ref p] H Q E:=⟨_,_,_,_,_,rfl,dc,hp,l,k⟩
theorem LL {H:Hp}{Q:VK}{E:XK}{p C dx:Addr}{fs:List (Str×V)}{z:Str} (hp:H p=some (.ins C dx fs)) (dc:DCls K C) (l:fs.lookup ("end" :Str)=some (.str z)) (k:Q (.bl false) H):jH K [.ref p] H Q E :=
 ⟨_,_,_,_,_,rfl,dc,hp,l,by rw[decide_eq_false (fun z=>by cases z)];exact k⟩
theorem sF (m:M K mg):aY P w K mg base CX0 1 m.gY m.gS ["self"] (jH K):=by
 refine m.uP.ok sc_Door_is_exit (fun vs H Q E h=> ?_) (fun cdv A outer s H vs Q E hr h=> ?_)
 ·obtain⟨p,C,dx,fs,e,rfl,dc,hp,l,k⟩:=h;rfl
 ·obtain⟨p,C,dx,fs,e,rfl,dc,hp,l,k⟩:=h;have nd:=sc_Door_is_exit.nd;walk_at"hu";refine⟨_,(aE (bA (fF OT (bI (pv 0) rfl) sJ (bB _)))),?_⟩;refine aI (σ:=[some (.ref p)]) rfl ?_;walk_at"go";exact k
theorem sT (m:M K mg):Mc P w K mg base m.eP "is_exit" 1 (jH K):=⟨_,_,_,m.lA.ic.cl,m.sV,m.uS,sF m⟩
local macro_rules| `(tactic| walk_at"rd1")=> `(tactic| first|((with_reducible refine' IX ?e ?d ?l ?_);(case e=>walk_at"hp");(case d=>assumption);(case l=>walk_at"lk"))|((with_reducible refine' LL ?e ?d ?l ?_);(case e=>walk_at"hp");(case d=>assumption);(case l=>walk_at"lk")))
def jT (K:W.Frag):Sp:=fun vs H Q _=>∃(p C dx:Addr) (fs:List (Str×V)) (t wd:Int),vs=[.ref p,.int t]/\DCls K C/\H p=some (.ins C dx fs)/\fs.lookup ("wide" :Str)=some (.int wd)/\Q (.int wd) H
theorem zA {H:Hp}{Q:VK}{E:XK}{p C dx:Addr}{fs:List (Str×V)}{t wd:Int} (hp:H p=some (.ins C dx fs)) (dc:DCls K C) (l:fs.lookup ("wide" :Str)=some (.int wd)) (k:Q (.int wd) H):jT K [.ref p,.int t] H Q E:=⟨_,_,_,_,_,_,rfl,dc,hp,l,k⟩
theorem w6 (m:M K mg):aY P w K mg base CX0 1 m.kN m.kH ["self","turn"] (jT K):=by
 refine m.zR.ok sc_Door_lets (fun vs H Q E h=> ?_) (fun cdv A outer s H vs Q E hr h=> ?_)
 ·obtain⟨p,C,dx,fs,t,wd,rfl,dc,hp,l,k⟩:=h;rfl
 ·obtain⟨p,C,dx,fs,t,wd,rfl,dc,hp,l,k⟩:=h;have nd:=sc_Door_lets.nd;walk_at"hu";refine⟨_,(aE (bA (bI (pv 0) rfl))),?_⟩;refine aI (σ:=[some (.ref p),some (.int t)]) rfl ?_;walk_at"go";exact k
theorem wX (m:M K mg):Mc P w K mg base m.eP "lets" 1 (jT K):=⟨_,_,_,m.lA.ic.cl,m.yU,m.zJ,w6 m⟩
local macro_rules| `(tactic| walk_at"rd1")=> `(tactic| ((with_reducible refine' pO ?d ?e ?hn ?hs ?he ?hw ?_);(case d=>assumption);(case e=>walk_at"hp");(case hn=>assumption);(case hs=>assumption);(case he=>assumption);(case hw=>walk_at"sd");intro H' B' e'))
abbrev aH:=Str×Str×V×(Int->Int)
def G5:HO->Prop
 | .lst _=>True
 | .dK _=>True
 | .dT _=>True
 | .tbl _=>True
 | .ins _ _ fs=>fs=[]
 | _=>False
structure aZ where
 at':Hp->V->aH->Prop
 same:∀{H H' v d},at' H v d->Same H H'->at' H' v d
 but:∀{H H' v d p o},at' H v d->H p=some o->G5 o->SameBut p H H'->at' H' v d
def HR (P:Program)(w:World)(K:W.Frag)(mg:Str->Option Value)(base:Heap)(kL:Option Nat)(p C dx:Addr)(fs:List (Str×V))(fp:List (Addr×HO))(lt:Int->Int):Prop:=∀kl,kL=some kl →
 ∃sp,Mc P w K mg base C "lets" kl sp/\∀(H':Hp) (t:Int) (Q:VK),H' p=some (.ins C dx fs)->(∀x∈fp,H' x.1=some x.2)->0<=t->(∀H'',Same H' H''->Q (.int (lt t)) H'')->sp [.ref p,.int t] H' Q E0
inductive DoorAt (P:Program)(w:World)(K:W.Frag)(mg:Str->Option Value)(base:Heap)(kL:Option Nat)(H:Hp)(v:V)(d:aH):Prop
 | mk (p C dx:Addr) (fs:List (Str×V)) (fp:List (Addr×HO)) (_:v= .ref p) (_:H p=some (.ins C dx fs)) (_:DCls K C) (_:fs.lookup ("name" :Str)=some (.str d.1)) (_:fs.lookup ("start" :Str)=some (.str d.2.1)) (_:fs.lookup ("end" :Str)=some d.2.2.1) (_:fs.lookup ("is_exit" :Str)=none) (_:fs.lookup ("lets" :Str)=none) (_:Mc P w K mg base C "is_exit" 1 (jH K)) (_:∀x∈fp,H x.1=some x.2/\¬G5 x.2) (_:HR P w K mg base kL p C dx fs fp d.2.2.2):DoorAt P w K mg base kL H v d
inductive IR (P:Program)(w:World)(K:W.Frag)(mg:Str->Option Value)(base:Heap)(kL:Option Nat)(H:Hp)(v:V)(n st:Str)(e:V)(lt:Int->Int):Prop
 | mk (p C dx:Addr) (fs:List (Str×V)) (fp:List (Addr×HO)) (_:v= .ref p) (_:H p=some (.ins C dx fs)) (_:DCls K C) (_:fs.lookup ("name" :Str)=some (.str n)) (_:fs.lookup ("start" :Str)=some (.str st)) (_:fs.lookup ("end" :Str)=some e) (_:fs.lookup ("is_exit" :Str)=none) (_:fs.lookup ("lets" :Str)=none) (_:Mc P w K mg base C "is_exit" 1 (jH K)) (_:∀x∈fp,H x.1=some x.2/\¬G5 x.2) (_:HR P w K mg base kL p C dx fs fp lt):IR P w K mg base kL H v n st e lt
theorem DoorAt.ex {kL:Option Nat}{H:Hp}{v:V}{n st:Str}{e:V}{lt:Int->Int} (h:DoorAt P w K mg base kL H v (n,st,e,lt)):IR P w K mg base kL H v n st e lt:=by
 obtain⟨p,C,dx,fs,fp,h1,h2,h3,h4,h5,h6,h7,h8,h9,h10,h11⟩:=h;exact⟨p,C,dx,fs,fp,h1,h2,h3,h4,h5,h6,h7,h8,h9,h10,h11⟩
def aN (P:Program)(w:World)(K:W.Frag)(mg:Str->Option Value)(base:Heap)(kL:Option Nat):aZ where
 at':=DoorAt P w K mg base kL
 same:=fun⟨p,C,dx,fs,fp,e,hp,dc,l1,l2,l3,l4,l5,mc,hf,lt⟩ s=>⟨p,C,dx,fs,fp,e,s _ _ hp,dc,l1,l2,l3,l4,l5,mc,fun x hx=>⟨s _ _ (hf x hx).1,(hf x hx).2⟩,lt⟩
 but:=fun {H H' v d q o} ⟨p,C,dx,fs,fp,e,hp,dc,l1,l2,l3,l4,l5,mc,hf,lt⟩ ho so sb=>⟨p,C,dx,fs,fp,e,sb _ _ hp (fun z=>by
   rw[z,ho]at hp;cases hp;have h:fs=[]:=so;rw[h]at l1;cases l1),dc,l1,l2,l3,l4,l5,mc,fun x hx=>⟨sb _ _ (hf x hx).1 (fun z=>by
   have h:=(hf x hx).1;rw[z,ho]at h;cases h;exact(hf x hx).2 so),(hf x hx).2⟩,lt⟩
local macro_rules| `(tactic| walk_at"rd1")=> `(tactic| first|(with_reducible refine KP ?_)|(with_reducible refine LN ?_)|(with_reducible refine MH ?_)|(with_reducible refine DF ?_)|(with_reducible refine EJ ?_)|(with_reducible refine CA ?_)|(with_reducible refine rd_iItemsT ?_)|(with_reducible refine rd_dget2 ?_)|((with_reducible refine GB ?_);intro p' H' n' S' e')|((with_reducible refine rd_dnewT ?_);intro p' H' n' S' e'))
theorem j5 {H:Hp}{Q:VK}{l:Addr}{xs:List V}{y:V} (e:H l=some (.lst xs)) (hz:xs.length<sizeLine) (h:∀H',SameBut l H H'->H' l=some (.lst (xs++[y]))->Q .non H'):AB (.ref l) [y] H Q :=
 ⟨l,xs,y,rfl,rfl,e,hz,h _ SameBut.upd aR⟩
def qB:Sp:=fun vs H Q _=>∃(f l:Int),vs=[.int f,.int l]/\0<=f/\f<=l/\Q .non H
theorem KU {H:Hp}{Q:VK}{E:XK}{f l:Int} (h0:0<=f) (h1:f<=l) (h:Q .non H):qB [.int f,.int l] H Q E:=⟨_,_,rfl,h0,h1,h⟩
theorem wA (m:M K mg):aY P w K mg base CX0 1 m.jW m.jZ ["first","last"] (qB):=by
 refine m.fV.ok sc_need_turns (fun vs H Q E h=> ?_) (fun cdv A outer s H vs Q E hr h=> ?_)
 ·obtain⟨f,l,rfl,h0,h1,k⟩:=h;rfl
 ·obtain⟨f,l,rfl,h0,h1,k⟩:=h;have nd:=sc_need_turns.nd;walk_at"hu";refine⟨_,(aC (bY (bF lK (pv 0) aJ (bB _)) (aE dI) bG)
   (aE (bY (bF lK (pv 1) (pv 0) (bB _)) (aE dI) bG))),?_⟩
  refine aI (σ:=[some (.int f),some (.int l)]) rfl ?_;walk_at"go";exact k
theorem v8 (m:M K mg):Fc P w K mg base "need_turns" 1 ["first","last"] (qB):=⟨_,_,m.yV,m.fV.kp,m.yS,wA m⟩
def tE (K:W.Frag):Sp:=fun vs H Q _=>∃(a:Addr) (ss:List Str),vs=[.ref a]/\SqL K H a (ss.map V.str)/\ss.Nodup/\ss.length<=100/\∀H',Same H H'->Q .non H'
theorem C0 {H:Hp}{Q:VK}{E:XK}{a:Addr}{ss:List Str} (hS:SqL K H a (ss.map V.str)) (nd:ss.Nodup) (hl:ss.length<=100) (h:∀H',Same H H'->Q .non H'):tE K [.ref a] H Q E:=⟨_,_,rfl,hS,nd,hl,h⟩
theorem qP {α:Type}{ss:List α} (nd:ss.Nodup) {i:Nat}{z:α} (hz:ss[i]? =some z):z∉ss.take i:=fun h=>by
 obtain⟨hi,e⟩:=List.getElem?_eq_some_iff.mp hz;obtain⟨j,hj,ej⟩:=List.getElem_of_mem h;rw[List.length_take]at hj;rw[List.getElem_take]at ej;exact(List.pairwise_iff_getElem.mp nd) j i (by lia) hi (by lia) (ej.trans e.symm)
theorem jA {α:Type}{ss:List α}{i:Nat}{z:α} (hz:ss[i]? =some z):ss.take (i+1)=ss.take i++[z]:=by rw[List.take_succ,hz];rfl
theorem o7 (m:M K mg):aY P w K mg base CX0 1 m.eZ m.eY ["names"] (tE K):=by
 refine m.cW.ok sc_need_each_once (fun vs H Q E h=> ?_) (fun cdv A outer s H vs Q E hr h=> ?_)
 ·obtain⟨a,ss,rfl,hS,hnd,hlen,k⟩:=h;rfl
 ·obtain⟨a,ss,rfl,hS,hnd,hlen,k⟩:=h;have nd:=sc_need_each_once.nd;walk_at"hu";refine⟨_,(aC (bD (i:=1) nd rfl (by walk_at"oi") pY)
   (aE (d4 PassesOwn.never rfl (c3 (pv 0)) (aW (i:=2) nd rfl (by walk_at"oi")) (aC (bY (m9 (OD hu1 (pv 2) (pv 1)) (by with_unfolding_all rfl)) (aE dI) bG)
   (aE (tH hu1 (pv 1) (pv 2) j2 rfl)))))),?_⟩
  refine aI (σ:=[some (.ref a),none,none]) rfl ?_;walk_at"go";rename_i p H1 n1 S1 e1;refine jJ (ss.map V.str) (fun i σ' H'=>SameBut p H1 H'/\∃kvs,H' p=some (.dK kvs)/\kvs.length<=i/\(∀z,(bJ kvs (.inr z)).isSome=true->z∈ss.take i)/\∃x,σ'=[some (.ref a),some (.ref p),x]) ⟨SameBut.refl,[],e1,Nat.le_refl _,(fun z h=>by cases h),_,rfl⟩ (fun i σ' H' _ q=>(SameBut.same n1 S1 q.1).seq hS) ?_ ?_
  ·rintro i x _ H' hx ⟨sb,kvs,ek,hk,hin,y,rfl⟩;rw[List.getElem?_map]at hx;obtain⟨z,hz,rfl⟩:=Option.map_eq_some_iff.mp hx;have hi:i<ss.length:=(List.getElem?_eq_some_iff.mp hz).1;have hno:(bJ kvs (.inr z)).isSome=false:=by
    cases e:(bJ kvs (.inr z)).isSome with
    | false=>rfl
    | true=>exact absurd (hin z e) (qP hnd hz)
   walk_at"go";refine KO (.inl ek) ?_;rw[hno];walk_at"go";refine qU ek (by rw[sizeLine_eq];lia) fun H9 B9 e9=> ?_;refine⟨by walk_at"sb",_,e9,Nat.le_trans (hJ _ _ _) (by lia),fun y hy=> ?_,_,rfl⟩;rw[yD]at hy;rw[jA hz]
   by_cases e:(Sum.inr y:Key)= .inr z
   ·cases e;exact List.mem_append_right _ (.head _)
   ·rw[if_neg e]at hy;exact List.mem_append_left _ (hin y hy)
  ·rintro _ H' ⟨sb,kvs,ek,hk,hin,y,rfl⟩;exact k _ (SameBut.same n1 S1 sb)
theorem o6 (m:M K mg):Fc P w K mg base "need_each_once" 1 ["names"] (tE K):=⟨_,_,m.rD,m.cW.kp,m.rE,o7 m⟩
def fG (rs:List Str)(d:aH):Prop:=d.2.1∈rs/\(d.2.2.1= .non∨∃z,d.2.2.1= .str z/\z∈rs)
def bP (H:Hp)(v:V)(p:Str×Int):Prop:=∃q,v= .ref q/\H q=some (.tup [.str p.1,.int p.2])
theorem fR {H H':Hp}{vs:List V}{ps:List (Str×Int)} (h:Paired (bP H) vs ps) (s:Same H H'):Paired (bP H') vs ps:=Paired.imp' (fun v z ⟨q,e,h⟩=>⟨q,e,s _ _ h⟩) h
def mT (K:W.Frag)(D:aZ):Sp:=fun vs H Q _=>∃(a b:Addr) (us:List V) (ds:List aH) (rs:List Str) (ws:List V) (ps:List (Str×Int)),vs=[.ref a,.ref b]/\SqL K H a us/\Paired (D.at' H) us ds/\(∀d∈ds,fG rs d)/\ds.length<=20/\SqL K H b ws/\Paired (bP H) ws ps/\(∀p∈ps,p.1∈rs)/\ps.length<=40/\∀p (ss:List Str) H',Same H H'->H' p=some (.lst (ss.map V.str))->(∀z∈ss,z∈rs)->ss.length<=80->Q (.ref p) H'
theorem GJ {D:aZ}{H:Hp}{Q:VK}{E:XK}{a b:Addr}{us:List V}{ds:List aH}{rs:List Str}{ws:List V}{ps:List (Str×Int)} (hS:SqL K H a us) (hd:Paired (D.at' H) us ds) (hr:∀d∈ds,fG rs d) (hl:ds.length<=20) (hb:SqL K H b ws) (hw:Paired (bP H) ws ps) (hwr:∀p∈ps,p.1∈rs) (hwl:ps.length<=40) (h:∀p (ss:List Str) H',Same H H'->H' p=some (.lst (ss.map V.str))->(∀z∈ss,z∈rs)->ss.length<=80->Q (.ref p) H'):mT K D [.ref a,.ref b] H Q E:=⟨_,_,_,_,_,_,_,rfl,hS,hd,hr,hl,hb,hw,hwr,hwl,h⟩
theorem mX (m:M K mg):aY P w K mg base CX0 2 m.eJ m.eK ["doors","people"] (mT K (aN P w K mg base (some 1))):=by
 refine m.dE.ok sc_rooms_spoken_of (fun vs H Q E h=> ?_) (fun cdv A outer s H vs Q E hr h=> ?_)
 ·obtain⟨a,b,us,ds,rs,ws,ps,rfl,hS,hd,hr',hlen,hb,hw,hwr,hwl,k⟩:=h;rfl
 ·obtain⟨a,b,us,ds,rs,ws,ps,rfl,hS,hd,hr',hlen,hb,hw,hwr,hwl,k⟩:=h;have nd:=sc_rooms_spoken_of.nd;walk_at"hu";refine⟨_,(aC (bD (i:=2) nd rfl (by walk_at"oi") (cP aD))
   (aC (d4 PassesOwn.never rfl (c3 (pv 0)) (aW (i:=3) nd rfl (by walk_at"oi")) (aC (bM (wR PySem.F.plainAttrs_list PySem.F.slot_list_append PySem.F.type_list_append j7 (pv 2) (aA (bI (pv 3) rfl) aD)))
   (aE (bY (mO (jS (jK 1 hr (pv 3)))) (aE (bM (wR PySem.F.plainAttrs_list PySem.F.slot_list_append PySem.F.type_list_append j7 (pv 2) (aA (bI (pv 3) rfl) aD)))) bG))))
   (aE (bA (a9 rQ (pv 2) (dN (N:=["room","number"]) (nl:=2) (ci:=[]) rfl (blk (s.heap.objs.size+1) rfl rfl rfl (by kernel_rfl)) (c3 (pv 1)) (fun _ _ _ _=>(jF (K:=K) (n:=2) rfl (bT (aW (i:=0) (show (["room","number"]:List Str).Nodup by decide +kernel) rfl (by walk_at"oi")) (bT (aW (i:=1) (show (["room","number"]:List Str).Nodup by decide +kernel) rfl (by walk_at"oi")) fB)))) (fun _ _ _ _=>eN) (fun _ _ _ _=>(pv 0)))))))),?_⟩
  refine aI (σ:=[some (.ref a),some (.ref b),none,none]) rfl ?_;have hul:us.length=ds.length:=Paired.length hd;walk_at"go";rename_i p H1 n1 S1 e1;refine jJ us (fun i σ' H'=>SameBut p H1 H'/\(∃ss:List Str,H' p=some (.lst (ss.map V.str))/\(∀z∈ss,z∈rs)/\ss.length<=2 * i)/\∃x,σ'=[some (.ref a),some (.ref b),some (.ref p),x]) ⟨SameBut.refl,⟨[],e1,(fun _ z=>nomatch z),Nat.le_refl _⟩,_,rfl⟩ (fun i σ' H' _ q=>(SameBut.same n1 S1 q.1).seq hS) ?_ ?_
  ·rintro i x _ H' hx ⟨sb,⟨ss,es,hin,hsl⟩,y,rfl⟩;have hi:i<us.length:=(List.getElem?_eq_some_iff.mp hx).1;obtain⟨d,hdx⟩:∃d,ds[i]? =some d:=⟨_,List.getElem?_eq_getElem (by lia)⟩
   obtain⟨n,st,e,lt⟩:=d;obtain⟨q,C9,dx,fs,fp,rfl,hq,dcC,l1,l2,l3,l4,l5,mcE,hfp,hlt⟩:=DoorAt.ex (Paired.at2 hd hx hdx);obtain⟨r1,r2⟩:=hr' _ (List.mem_of_getElem? hdx);have hqp:q≠p:=fun z=>by rw[z,n1]at hq;cases hq
   have hq':H' q=some (.ins C9 dx fs):=sb _ _ (S1 _ _ hq) hqp;rcases r2 with r2|⟨z,r2,r3⟩
   ·have r2:e= .non:=r2;subst r2;walk_at"go";refine j5 es (by rw[sizeLine_eq,List.length_map];lia) fun H8 B8 e8=> ?_;have hq8:=B8 _ _ hq' hqp;walk_at"go";exact⟨by walk_at"sb",⟨ss++[st],by rw[e8,List.map_append];rfl,fun z hz=>(List.mem_append.mp hz).elim (hin z) (fun w=>by cases List.mem_singleton.mp w;exact r1),by rw[List.length_append];show ss.length+1<=_;lia⟩,_,rfl⟩
   ·have r2:e= .str z:=r2;subst r2;walk_at"go";refine j5 es (by rw[sizeLine_eq,List.length_map];lia) fun H8 B8 e8=> ?_;have hq8:=B8 _ _ hq' hqp;walk_at"go";refine j5 e8 (by rw[sizeLine_eq,List.length_append,List.length_map];show ss.length+1<_;lia) fun H9 B9 e9=> ?_;walk_at"go";refine⟨by walk_at"sb",⟨ss++[st]++[z],by rw[e9,List.map_append,List.map_append];rfl,fun z hz=> ?_,by rw[List.length_append,List.length_append];show ss.length+1+1<=_;lia⟩,_,rfl⟩;rcases List.mem_append.mp hz with hz|hz
    ·exact(List.mem_append.mp hz).elim (hin z) (fun w=>by cases List.mem_singleton.mp w;exact r1)
    ·cases List.mem_singleton.mp hz;exact r3
  ·rintro _ H' ⟨sb,⟨ss,es,hin,hsl⟩,y,rfl⟩;have sH:Same H H':=SameBut.same n1 S1 sb;have hb':=sH.seq hb;walk_at"go";refine uD (α:=Str×Int) (xs:=ps) (vs:=ws) (fun p=> .str p.1) (fun p=> .int p.2) (fun _=>true) (fun p y _=>y= .str p.1) (fun _ _ _ _ h _=>h) (by rw[sizeLine_eq];lia) (rest:=[]) (by rfl) hb' (fR hw sH) (fun x H1 hx s1 R hR=>hR _ (Same.refl _)) (fun x H1 hx _ s1 R hR=> ?_) ?_
   ·walk_at"go";exact hR _ _ rfl (Same.refl _)
   intro ys H2 s2 hys;rw[dJ]at hys;obtain rfl:=iH hys;walk_at"go";rename_i q3 H3 n3 S3 e3 q4 H4 n4 S4 e4;refine k _ (ss++ps.map (·.1)) _ (by walk_at"sm") (by rw[e4,List.map_append,List.map_map];rfl) (fun z hz=> ?_) (by rw[List.length_append,List.length_map];lia);rcases List.mem_append.mp hz with hz|hz
   ·exact hin z hz
   ·obtain⟨p,hp,rfl⟩:=List.mem_map.mp hz;exact hwr p hp
theorem nH (m:M K mg):Fc P w K mg base "rooms_spoken_of" 2 ["doors","people"] (mT K (aN P w K mg base (some 1))):=⟨_,_,m.pB,m.dE.kp,m.pC,mX m⟩
def qN (K:W.Frag):Sp:=fun vs H Q _=>∃(a b:Addr) (ss:List Str) (kvs:List (Key×V)),vs=[.ref a,.ref b]/\SqL K H a (ss.map V.str)/\Rd H b (.dK kvs)/\(∀z∈ss,(bJ kvs (.inr z)).isSome=true)/\∀H',Same H H'->Q .non H'
theorem zY {H:Hp}{Q:VK}{E:XK}{a b:Addr}{ss:List Str}{kvs:List (Key×V)} (hS:SqL K H a (ss.map V.str)) (hb:Rd H b (.dK kvs)) (hk:∀z∈ss,(bJ kvs (.inr z)).isSome=true) (h:∀H',Same H H'->Q .non H'):qN K [.ref a,.ref b] H Q E:=⟨_,_,_,_,rfl,hS,hb,hk,h⟩
theorem AI {H H':Hp}{a:Addr}{u:HO} (s:Same H H') (r:Rd H a u):Rd H' a u:=r.elim (fun e=> .inl (s _ _ e)) fun⟨o,e⟩=> .inr ⟨o,s _ _ e⟩
theorem v6 (m:M K mg):aY P w K mg base CX0 1 m.fY m.gJ ["names","sizes"] (qN K):=by
 refine m.cC.ok sc_need_rooms (fun vs H Q E h=> ?_) (fun cdv A outer s H vs Q E hr h=> ?_)
 ·obtain⟨a,b,ss,kvs,rfl,hS,hb,hk,k⟩:=h;rfl
 ·obtain⟨a,b,ss,kvs,rfl,hS,hb,hk,k⟩:=h;have nd:=sc_need_rooms.nd;walk_at"hu";refine⟨_,(aE (d4 PassesOwn.never rfl (c3 (pv 0)) (aW (i:=2) nd rfl (by walk_at"oi")) (aE (bY (m9 (j9 hu1 (pv 2) (pv 1)) (by with_unfolding_all rfl)) (aE dI) bG)))),?_⟩;refine aI (σ:=[some (.ref a),some (.ref b),none]) rfl ?_;walk_at"go";refine jJ (ss.map V.str) (fun i σ' H'=>Same H H'/\∃x,σ'=[some (.ref a),some (.ref b),x]) ⟨Same.refl _,_,rfl⟩ (fun i σ' H' _ q=>q.1.seq hS) ?_ ?_
  ·rintro i x _ H' hx ⟨s1,y,rfl⟩;rw[List.getElem?_map]at hx;obtain⟨z,hz,rfl⟩:=Option.map_eq_some_iff.mp hx;have hz':=hk z (List.mem_of_getElem? hz);walk_at"go";refine i9 (AI s1 hb) ?_;rw[hz'];walk_at"go";exact⟨s1,_,rfl⟩
  ·rintro _ H' ⟨s1,y,rfl⟩;exact k _ s1
theorem lY (m:M K mg):Fc P w K mg base "need_rooms" 1 ["names","sizes"] (qN K):=⟨_,_,m.oE,m.cC.kp,m.nQ,v6 m⟩
theorem GP {H:Hp}{Q:VK}{i j:Int} (h:Q (.int (i+j)) H):M3 (.int i) (.int j) H Q:=by
 first|exact h|exact⟨_,_,rfl,rfl,h⟩|exact .inl ⟨_,_,rfl,rfl,h⟩
theorem xL {H H':Hp}{p c:Addr}{kvs:List (Key×V)}{xs:List V} (h:SqL K H c xs) (hp:H p=some (.dK kvs)) (sb:SameBut p H H'):SqL K H' c xs:=by
 rcases h with (h|⟨o,h⟩)|h
 ·exact .inl (.inl (sb _ _ h fun z=>by rw[z,hp]at h;cases h))
 ·exact .inl (.inr ⟨o,sb _ _ h fun z=>by rw[z,hp]at h;cases h⟩)
 ·exact .inr h
def szK (rz:List (Str×Int)):List (Key×V):=rz.map fun e=>((.inr e.1:Key),V.int e.2)
theorem AD (rz:List (Str×Int)):(szK rz).map (·.1)=(rz.map (·.1)).map (Sum.inr:Str->Key):=by unfold szK;rw[List.map_map,List.map_map];rfl
theorem mS {rs:List Str}(nd:rs.Nodup):(rs.map (Sum.inr:Str->Key)).Nodup:=by
 rw[List.Nodup,List.pairwise_map];exact List.Pairwise.imp (fun h z=>h (Sum.inr.inj z)) nd
theorem pP {rz:List (Str×Int)}(nd:(rz.map (·.1)).Nodup):((szK rz).map (·.1)).Nodup:=by rw[AD];exact mS nd
theorem tJ {rz:List (Str×Int)}(nd:(rz.map (·.1)).Nodup){e:Str×Int}(h:e∈rz):bJ (szK rz) (.inr e.1)=some (.int e.2) :=
 kZ (e:=((.inr e.1:Key),V.int e.2)) (pP nd) (List.mem_map.mpr ⟨e,h,rfl⟩)
theorem xB {rz:List (Str×Int)}(nd:(rz.map (·.1)).Nodup){z:Str}(h:z∈rz.map (·.1)):∃i,(z,i)∈rz/\bJ (szK rz) (.inr z)=some (.int i):=by
 obtain⟨e,he,rfl⟩:=List.mem_map.mp h;exact⟨e.2,he,tJ nd he⟩
theorem iB {kvs:List (Key×V)}{k:Key} (h:∀e∈kvs,e.1≠k):bJ kvs k=none:=by
 induction kvs with
 | nil=>rfl
 | cons a l ih =>
  rw[b7 (h a (.head _))];exact ih fun e he=>h e (List.mem_cons_of_mem _ he)
theorem vK:∀(ps kvs:List (Key×V)),(ps.map (·.1)).Nodup->(∀e∈kvs,∀q∈ps,e.1≠q.1)->fI kvs ps=kvs++ps
 | [],kvs,_,_=>(List.append_nil _).symm
 | (k,v)::ps,kvs,nd,h=>by
  have nd':=List.pairwise_cons.mp nd;show fI (cM kvs k v) ps=_;rw[pX v (iB fun e he=>h e he _ (.head _)),vK ps _ nd'.2,List.append_assoc]
  ·rfl
  ·intro e he q hq;rcases List.mem_append.mp he with he|he
   ·exact h e he q (List.mem_cons_of_mem _ hq)
   ·cases List.mem_singleton.mp he;exact nd'.1 q.1 (List.mem_map.mpr ⟨q,hq,rfl⟩)
theorem GV {rz:List (Str×Int)}(nd:(rz.map (·.1)).Nodup):fI [] (szK rz)=szK rz:=by
 rw[vK _ _ (pP nd) (fun e he=>absurd he (List.not_mem_nil))];rfl
theorem wJ {kvs:List (Key×V)}:∀(o:Obj) (x:HO),HO.dK kvs≠ .frz o x:=fun _ _ z=>by cases z
def sS (rz:List (Str×Int))(ps:List (Str×Int))(kvs:List (Key×V)):Prop:=∀z∈rz.map (·.1),bJ kvs (.inr z)=some (.int (gO ps z))
def pZ (K:W.Frag):Sp:=fun vs H Q _=>∃(a b:Addr) (rz:List (Str×Int)) (ws:List V) (ps:List (Str×Int)),vs=[.ref a,.ref b]/\H a=some (.dK (szK rz))/\SqL K H b ws/\Paired (bP H) ws ps/\(∀p∈ps,p.1∈rz.map (·.1))/\(rz.map (·.1)).Nodup/\rz.length<=100/\∀p H' kvs,H p=none->Same H H'->H' p=some (.dK kvs)->kvs.map (·.1)=(szK rz).map (·.1)->sS rz ps kvs->Q (.ref p) H'
theorem z9 {H:Hp}{Q:VK}{E:XK}{a b:Addr}{rz:List (Str×Int)}{ws:List V}{ps:List (Str×Int)} (ha:H a=some (.dK (szK rz))) (hb:SqL K H b ws) (hw:Paired (bP H) ws ps) (hwr:∀p∈ps,p.1∈rz.map (·.1)) (nd:(rz.map (·.1)).Nodup) (hl:rz.length<=100) (h:∀p H' kvs,H p=none->Same H H'->H' p=some (.dK kvs)->kvs.map (·.1)=(szK rz).map (·.1)->sS rz ps kvs->Q (.ref p) H'):pZ K [.ref a,.ref b] H Q E:=⟨_,_,_,_,_,rfl,ha,hb,hw,hwr,nd,hl,h⟩
theorem F1 {kvs:List (Key×V)}{k:Key}{v:V} (h:(bJ kvs k).isSome=true):(cM kvs k v).map (·.1)=kvs.map (·.1):=by
 unfold cM;rw[gN,if_pos h,List.map_map]
 apply List.map_congr_left
 intro x _;show (if x.1=k then (x.1,v) else x).1=x.1
 split<;>rfl
theorem rG (m:M K mg):aY P w K mg base CX0 1 m.gP m.gX ["sizes","people"] (pZ K):=by
 refine m.cN.ok sc_added_people (fun vs H Q E h=> ?_) (fun cdv A outer s H vs Q E hr h=> ?_)
 ·obtain⟨a,b,rz,ws,ps,rfl,ha,hb,hw,hwr,ndz,hlen,k⟩:=h;rfl
 ·obtain⟨a,b,rz,ws,ps,rfl,ha,hb,hw,hwr,ndz,hlen,k⟩:=h;have nd:=sc_added_people.nd;walk_at"hu";refine⟨_,(aC (bD (i:=2) nd rfl (by walk_at"oi") pY)
   (aC (LU (d4 PassesOwn.never rfl (qF (pv 0)) (aW (i:=3) nd rfl (by walk_at"oi")) (aE (tH hu1 (pv 2) (pv 3) aJ rfl))))
   (aC (d4 PassesOwn.never rfl (c3 (pv 1)) (yE (n:=2) rfl (bT (aW (i:=3) nd rfl (by walk_at"oi")) (bT (aW (i:=4) nd rfl (by walk_at"oi")) fB))) (aE (LX hu1 (pv 2) (pv 3) (pv 4) M7 (fun _ _ _=>rfl))))
   (aE (bA (pv 2)))))),?_⟩
  refine aI (σ:=[some (.ref a),some (.ref b),none,none,none]) rfl ?_;walk_at"go";rename_i p H1 n1 S1 e1;have hap:a≠p:=fun z=>by rw[z,n1]at ha;cases ha
  have ha1:=S1 _ _ ha;have hl2:(szK rz).length=rz.length:=by unfold szK;rw[List.length_map]
  refine GU ha1 wJ ?_;walk_at"go";refine qM ha1 fun o H2 B2 e2=> ?_;have ep2:H2 p=some (.dK []):=B2 _ _ e1 (Ne.symm hap);have hwl:ws.length=ps.length:=Paired.length hw;refine FV (szK rz) (fun i σ' H'=>SameBut p H2 H'/\H' p=some (.dK ((rz.take i).map fun e=>((.inr e.1:Key),V.int 0)))/\∃x,σ'=[some (.ref a),some (.ref b),some (.ref p),x,none]) ⟨SameBut.refl,ep2,_,rfl⟩ (fun i σ' H' q=>q.1 _ _ e2 hap) ?_ ?_
  ·rintro i kk v _ H' hx ⟨sb,ek,y,rfl⟩;unfold szK at hx;rw[List.getElem?_map]at hx;obtain⟨⟨z,sz⟩,hz,ez⟩:=Option.map_eq_some_iff.mp hx;cases ez;have hi:i<rz.length:=(List.getElem?_eq_some_iff.mp hz).1;have hnone:bJ ((rz.take i).map fun e=>((.inr e.1:Key),V.int 0)) (.inr z)=none:=iB fun e he=>by
    obtain⟨d,hd,rfl⟩:=List.mem_map.mp he;intro zz;have hn:z∉(rz.map (·.1)).take i:=qP ndz (by rw[List.getElem?_map,hz];rfl)
    apply hn
    rw[←List.map_take];exact List.mem_map.mpr ⟨d,hd,Sum.inr.inj zz⟩
   show (_:TG) (.str z) _ _ _;walk_at"go";refine qU ek (by rw[sizeLine_eq,List.length_map,List.length_take];lia) fun H9 B9 e9=> ?_;refine⟨by walk_at"sb",?_,_,rfl⟩;rw[e9,pX _ hnone,jA hz,List.map_append];rfl
  ·rintro _ H' ⟨sb,ek,y,rfl⟩;rw[hl2,List.take_length]at ek;refine kB (sb _ _ e2 hap) fun H3 B3 e3=> ?_;have ep3:=B3 _ _ ek (Ne.symm hap);have sH:Same H H3:=fun x u hx=>by
    by_cases ex:x=a
    ·subst ex;rw[ha]at hx;cases hx;exact e3
    ·have hxp:x≠p:=fun z=>by rw[z,n1]at hx;cases hx
     exact B3 _ _ (sb _ _ (B2 _ _ (S1 _ _ hx) ex) hxp) ex
   have hb3:=sH.seq hb;have hw3:=fR hw sH;have hnb:∀{H':Hp}{v:V}{r:Str×Int},SameBut p H3 H'->bP H3 v r->bP H' v r:=fun sb ⟨q,e,hq⟩=>⟨q,e,sb _ _ hq fun z=>by rw[z,ep3]at hq;cases hq⟩
   walk_at"go";refine jJ ws (fun i σ' H'=>SameBut p H3 H'/\(∃kvs,H' p=some (.dK kvs)/\kvs.map (·.1)=(szK rz).map (·.1)/\sS rz (ps.take i) kvs)/\∃x y,σ'=[some (.ref a),some (.ref b),some (.ref p),x,y]) ⟨SameBut.refl,⟨_,ep3,?_,?_⟩,_,_,rfl⟩ (fun i σ' H' _ q=>xL hb3 ep3 q.1) ?_ ?_
   ·unfold szK;rw[List.map_map,List.map_map];rfl
   ·intro z hz;obtain⟨e,he,rfl⟩:=List.mem_map.mp hz;exact kZ (e:=((.inr e.1:Key),V.int 0)) (by rw[show (rz.map fun e=>((.inr e.1:Key),V.int 0)).map (·.1)=(szK rz).map (·.1) from by unfold szK;rw[List.map_map,List.map_map];rfl];exact pP ndz) (List.mem_map.mpr ⟨e,he,rfl⟩)
   ·rintro i x _ H' hx ⟨sb',⟨kvs,ek',hkk,hin⟩,x1,x2,rfl⟩;have hi:i<ws.length:=(List.getElem?_eq_some_iff.mp hx).1;obtain⟨⟨z,nn⟩,hpx⟩:∃d,ps[i]? =some d:=⟨_,List.getElem?_eq_getElem (by lia)⟩
    obtain⟨q,rfl,hq⟩:=Paired.at2 hw3 hx hpx;have hq':H' q=some (.tup [.str z,.int nn]):=sb' _ _ hq fun zz=>by rw[zz,ep3]at hq;cases hq
    have hzr:z∈rz.map (·.1):=hwr _ (List.mem_of_getElem? hpx);have hkl:kvs.length=rz.length:=by rw[←List.length_map (f:=fun e:Key×V=>e.1),hkk,List.length_map,hl2]
    walk_at"go";refine K4 ?_;walk_at"go";refine GQ (.inl ek') (hin z hzr) ?_;walk_at"go";refine GP ?_;refine JI ek' (by rw[sizeLine_eq];lia) fun H9 B9 e9=> ?_;refine⟨by walk_at"sb",⟨_,e9,?_,fun y hy=> ?_⟩,_,_,rfl⟩
    ·rw[F1 (by rw[hin z hzr];rfl)];exact hkk
    ·rw[yD,jA hpx,EU]
     by_cases e:(Sum.inr y:Key)= .inr z
     ·cases e;rw[if_pos rfl,if_pos rfl]
     ·rw[if_neg e,if_neg (fun zz=>e (by rw[show z=y from zz])),Int.add_zero];exact hin y hy
   ·rintro _ H' ⟨sb',⟨kvs,ek',hkk,hin⟩,x1,x2,rfl⟩;rw[hwl,List.take_length]at hin;walk_at"go";exact k _ _ _ n1 (SameBut.same n1 (fun x u hx=>sH x u hx) sb') ek' hkk hin
theorem kA (m:M K mg):Fc P w K mg base "added_people" 1 ["sizes","people"] (pZ K):=⟨_,_,m.uU,m.cN.kp,m.uV,rG m⟩
def tS (rz ps:List (Str×Int)):Prop:=(∀p∈ps,0<=p.2)/\∀e∈rz,gO ps e.1<=e.2
def qL (K:W.Frag):Sp:=fun vs H Q _=>∃(a b:Addr) (rz:List (Str×Int)) (ws:List V) (ps:List (Str×Int)),vs=[.ref a,.ref b]/\H a=some (.dK (szK rz))/\SqL K H b ws/\Paired (bP H) ws ps/\(∀p∈ps,p.1∈rz.map (·.1))/\(rz.map (·.1)).Nodup/\rz.length<=100/\ps.length<=100/\tS rz ps/\∀H',Same H H'->Q .non H'
theorem LE {H:Hp}{Q:VK}{E:XK}{a b:Addr}{rz:List (Str×Int)}{ws:List V}{ps:List (Str×Int)} (ha:H a=some (.dK (szK rz))) (hb:SqL K H b ws) (hw:Paired (bP H) ws ps) (hwr:∀p∈ps,p.1∈rz.map (·.1)) (nd:(rz.map (·.1)).Nodup) (hl:rz.length<=100) (hpl:ps.length<=100) (hf:tS rz ps) (h:∀H',Same H H'->Q .non H'):qL K [.ref a,.ref b] H Q E:=⟨_,_,_,_,_,rfl,ha,hb,hw,hwr,nd,hl,hpl,hf,h⟩
theorem nB {α:Type}:∀{l:List α}{ys:List V},Paired (fun _ y=>y=V.bl false) l ys->ys=(l.map fun _=>false).map V.bl
 | _,_,.nil=>rfl
 | _,_,.cons h t=>by rw[h,nB t];rfl
theorem vG {α:Type}(l:List α):(l.map fun _=>false).any id=false:=by simp
theorem vX (m:M K mg):aY P w K mg base CX0 2 m.j0 m.jX ["sizes","people"] (qL K):=by
 refine m.fZ.ok sc_need_space (fun vs H Q E h=> ?_) (fun cdv A outer s H vs Q E hr h=> ?_)
 ·obtain⟨a,b,rz,ws,ps,rfl,ha,hb,hw,hwr,ndz,hlen,hpl,hf,k⟩:=h;rfl
 ·obtain⟨a,b,rz,ws,ps,rfl,ha,hb,hw,hwr,ndz,hlen,hpl,hf,k⟩:=h;have nd:=sc_need_space.nd;walk_at"hu";have cN:= @kA P w K mg base m;refine⟨_,(aC (bY (jS (bN (vH rfl) rfl m.IU CS (aA (dN (N:=["room","number"]) (nl:=2) (ci:=[]) rfl (blk (s.heap.objs.size+1) rfl rfl rfl (by kernel_rfl)) (c3 (pv 1)) (fun _ _ _ _=>(jF (K:=K) (n:=2) rfl (bT (aW (i:=0) (show (["room","number"]:List Str).Nodup by decide +kernel) rfl (by walk_at"oi")) (bT (aW (i:=1) (show (["room","number"]:List Str).Nodup by decide +kernel) rfl (by walk_at"oi")) fB)))) (fun _ _ _ _=>eN) (fun _ _ _ _=>(fF lK (pv 1) aJ (bB _)))) aD))) (aE dI) bG)
   (aC (bD (i:=2) nd rfl (by walk_at"oi") (cZ cN hr (aA (pv 0) (aA (pv 1) aD))))
   (aE (bY (jS (bN (vH rfl) rfl m.IU CS (aA (kU (dN (N:=["room","inside","sizes"]) (nl:=1) (ci:=[2,0]) rfl (blk (s.heap.objs.size+1) rfl rfl rfl (by kernel_rfl)) (qF (pv 0)) (fun _ _ _ _=>(aW (i:=0) (show (["room","inside","sizes"]:List Str).Nodup by decide +kernel) rfl (by walk_at"oi"))) (fun _ _ _ _=>eN) (fun _ _ _ _=>(fF HJ (fD hu1 (pv 1) (pv 0) (fun _ _=>rfl)) (fD hu1 (pv 2) (pv 0) (fun _ _=>rfl)) (bB _))))) aD))) (aE dI) bG)))),?_⟩
  refine aI (σ:=[some (.ref a),some (.ref b),none]) rfl ?_;walk_at"go";refine uD (α:=Str×Int) (xs:=ps) (vs:=ws) (fun p=> .str p.1) (fun p=> .int p.2) (fun _=>true) (fun p y _=>y= .bl false) (fun _ _ _ _ h _=>h) (by rw[sizeLine_eq];lia) (rest:=[]) (by rfl) hb hw (fun x H1 hx s1 R hR=>hR _ (Same.refl _)) (fun x H1 hx _ s1 R hR=> ?_) ?_
  ·have h0:=hf.1 x hx;walk_at"go";exact hR _ _ (by rw[decide_eq_false (by lia)]) (Same.refl _)
  intro ys H2 s2 hys;rw[dJ]at hys;obtain rfl:=nB hys;walk_at"go";rename_i q H3 n3 S3 e3;refine EW (SqL.of e3) ?_;rw[vG];walk_at"go";have sA:Same H H3:=s2.trans S3;refine z9 (sA _ _ ha) (sA.seq hb) (fR hw sA) hwr ndz hlen fun p H4 kvs n4 S4 e4 hkk hv=> ?_;have ha4:=S4 _ _ (sA _ _ ha);walk_at"go";refine qO ha4 wJ ?_;walk_at"go";refine qM ha4 fun o H5 B5 e5=> ?_;have hpa:p≠a:=fun z=>by rw[z,sA _ _ ha]at n4;cases n4
  have ep5:=B5 _ _ e4 hpa;refine DR (fun _=>true) (fun _ y _=>y= .bl false) (fun _ _ _ _ h _=>h) (by rw[sizeLine_eq];unfold szK;rw[List.length_map];lia) (rest:=[some (.ref p),some (.ref a)]) (by rfl) e5 (fun x H6 hx s6 R hR=>hR _ (Same.refl _)) ?_ ?_
  ·rintro x H6 hx - s6 R hR;obtain⟨e,he,rfl⟩:=List.mem_map.mp hx;have hfe:=hf.2 e he;show (_:TE) (some (V.str e.1)::[some (.ref p),some (.ref a)]) H6 R;walk_at"go";refine jM (.inl (s6 _ _ ep5)) (hv e.1 (List.mem_map.mpr ⟨e,he,rfl⟩)) ?_;walk_at"go";refine jM (.inr ⟨o,s6 _ _ e5⟩) (tJ ndz he) ?_;walk_at"go";exact hR _ _ (by rw[decide_eq_false (by lia)]) (Same.refl _)
  intro ys H6 s6 hys;rw[dJ]at hys;obtain rfl:=nB hys;walk_at"go";rename_i q7 H7 n7 S7 e7;refine kB (S7 _ _ (s6 _ _ e5)) fun H8 B8 e8=> ?_;have hq7:q7≠a:=fun z=>by rw[z,s6 _ _ e5]at n7;cases n7
  have e78:=B8 _ _ e7 hq7;walk_at"go";refine EW (SqL.of e78) ?_;rw[vG];walk_at"go";exact k _ (mY (ha) (fun x u hx hxa=>B5 _ _ (S4 _ _ (sA _ _ hx)) hxa) (Same.but (s6.trans S7)) B8 e8)
theorem vY (m:M K mg):Fc P w K mg base "need_space" 2 ["sizes","people"] (qL K):=⟨_,_,m.yQ,m.fZ.kp,m.yT,vX m⟩
def RoomsAt (H:Hp)(vs:List V)(rz:List (Str×Int)):Prop:=Paired (bP H) vs rz
theorem RoomsAt.sm {H H':Hp}{vs:List V}{rs:List (Str×Int)} (h:RoomsAt H vs rs) (s:Same H H'):RoomsAt H' vs rs:=Paired.imp' (fun v z ⟨q,e,h⟩=>⟨q,e,s _ _ h⟩) h
theorem pM {H:Hp}:∀{vs:List V}{rs:List (Str×Int)},RoomsAt H vs rs->wS H vs (szK rs)
 | _,_,.nil=> .nil
 | _,_,.cons h t=> .cons h (pM t)
theorem lQ {D:aZ}{H H':Hp}{us:List V}{ds:List aH} (h:Paired (D.at' H) us ds) (s:Same H H'):Paired (D.at' H') us ds:=Paired.imp' (fun v d h=>D.same h s) h
abbrev z8 (f l:Int)(qs qp qd:Addr):List (Str×V):=b4 "named_doors" (.ref qd) (b4 "people" (.ref qp) (b4 "sizes" (.ref qs) (b4 "last" (.int l) (b4 "first" (.int f) []))))
def i7 (D:aZ)(H:Hp)(nk:List (Key×V))(ds:List aH):Prop:=Paired (fun e d=>e.1= .inr d.1/\D.at' H e.2 d) nk ds
theorem FF {D:aZ}{H H':Hp}{nk:List (Key×V)}{ds:List aH} (h:i7 D H nk ds) (s:Same H H'):i7 D H' nk ds:=Paired.imp' (fun e d h=>⟨h.1,D.same h.2 s⟩) h
structure aT (C:Addr)(D:aZ)(H:Hp)(h:Addr)(f l:Int)(rz ps:List (Str×Int))(ds:List aH):Prop where
 ex:∃dx qs qp qd nk kvs,H h=some (.ins C dx (z8 f l qs qp qd))/\H qs=some (.dK (szK rz))/\H qp=some (.dK kvs)/\kvs.map (·.1)=(szK rz).map (·.1)/\sS rz ps kvs/\H qd=some (.dK nk)/\i7 D H nk ds
theorem bK {C:Addr}{D:aZ}{H H':Hp}{h:Addr}{f l:Int}{rz ps:List (Str×Int)}{ds:List aH} (x:aT C D H h f l rz ps ds) (s:Same H H'):aT C D H' h f l rz ps ds:=by
 obtain⟨dx,qs,qp,qd,nk,kvs,e1,e2,e3,e4,e5,e6,e7⟩:=x.ex;exact⟨dx,qs,qp,qd,nk,kvs,s _ _ e1,s _ _ e2,s _ _ e3,e4,e5,s _ _ e6,FF e7 s⟩
theorem AG {H H':Hp}{p c C dx:Addr}{fs:List (Str×V)}{xs:List V} (h:SqL K H c xs) (hp:H p=some (.ins C dx fs)) (sb:SameBut p H H'):SqL K H' c xs:=by
 rcases h with (h|⟨o,h⟩)|h
 ·exact .inl (.inl (sb _ _ h fun z=>by rw[z,hp]at h;cases h))
 ·exact .inl (.inr ⟨o,sb _ _ h fun z=>by rw[z,hp]at h;cases h⟩)
 ·exact .inr h
theorem lM {α β:Type}{F:α->β->Prop}:∀{l:List α}{m:List β}{x:α},Paired F l m->x∈l->∃y∈m,F x y
 | _,_,_,.cons r t,h=>by
  rcases List.mem_cons.mp h with rfl|h
  ·exact⟨_,.head _,r⟩
  ·obtain⟨y,hy,f⟩:=lM t h;exact⟨y,List.mem_cons_of_mem _ hy,f⟩
 | _,_,_,.nil,h=>nomatch h
def eQ (K:W.Frag)(D:aZ):Sp:=fun vs H Q _=>∃(p C dx a b c:Addr) (ws us cs:List V) (rz ps:List (Str×Int)) (ds:List aH) (f l:Int),vs=[.ref p,.ref a,.ref b,.ref c,.int l,.int f]/\DCls K C/\H p=some (.ins C dx [])/\H a=some (.lst ws)/\RoomsAt H ws rz/\SqL K H b us/\Paired (D.at' H) us ds/\SqL K H c cs/\Paired (bP H) cs ps ∧
 (rz.map (·.1)).Nodup/\(ds.map (·.1)).Nodup/\(∀d∈ds,fG (rz.map (·.1)) d)/\(∀p∈ps,p.1∈rz.map (·.1))/\tS rz ps/\rz.length<=20/\ds.length<=20/\ps.length<=40/\0<=f/\f<=l/\∀H',SameBut p H H'->aT C D H' p f l rz ps ds->Q .non H'
theorem w4 {D:aZ}{H:Hp}{Q:VK}{E:XK}{p C dx a b c:Addr}{ws us cs:List V}{rz ps:List (Str×Int)}{ds:List aH}{f l:Int} (dc:DCls K C) (hp:H p=some (.ins C dx [])) (ha:H a=some (.lst ws)) (hr:RoomsAt H ws rz) (hb:SqL K H b us) (hd:Paired (D.at' H) us ds) (hc:SqL K H c cs) (hcp:Paired (bP H) cs ps) (nr:(rz.map (·.1)).Nodup) (nd:(ds.map (·.1)).Nodup) (hin:∀d∈ds,fG (rz.map (·.1)) d) (hpr:∀p∈ps,p.1∈rz.map (·.1)) (hf:tS rz ps) (lr:rz.length<=20) (ld:ds.length<=20) (lp:ps.length<=40) (h0:0<=f) (h1:f<=l)
  (k:∀H',SameBut p H H'->aT C D H' p f l rz ps ds->Q .non H'):eQ K D [.ref p,.ref a,.ref b,.ref c,.int l,.int f] H Q E:=⟨_,_,_,_,_,_,_,_,_,_,_,_,_,_,rfl,dc,hp,ha,hr,hb,hd,hc,hcp,nr,nd,hin,hpr,hf,lr,ld,lp,h0,h1,k⟩
theorem o8 (m:M K mg):aY P w K mg base CX0 4 m.fA m.dM ["self","rooms","doors","people","last","first"] (eQ K (aN P w K mg base (some 1))):=by
 refine m.qY.ok sc_House___init__ (fun vs H Q E h=> ?_) (fun cdv A outer s H vs Q E hr h=> ?_)
 ·obtain⟨p,C,dx,a,b,c,ws,us,cs,rz,ps,ds,f,l,rfl,dc,hp,ha,hra,hb,hd,hc,hcp,nr,nd',hin,hpr,hf,lr,ld,lp,h0,h1,k⟩:=h;rfl
 ·obtain⟨p,C,dx,a,b,c,ws,us,cs,rz,ps,ds,f,l,rfl,dc,hp,ha,hra,hb,hd,hc,hcp,nr,nd',hin,hpr,hf,lr,ld,lp,h0,h1,k⟩:=h;have nd:=sc_House___init__.nd;walk_at"hu";have cN:= @kA P w K mg base m;have cW:= @o6 P w K mg base m;have cC:= @lY P w K mg base m;have fZ:= @vY P w K mg base m;have fV:= @v8 P w K mg base m;have dE:= @nH P w K mg base m;refine⟨_,(aC (bM (cZ fV hr (aA (pv 5) (aA (pv 4) aD))))
   (aC (bM (cZ cW hr (aA (dN (N:=["name","size"]) (nl:=2) (ci:=[]) rfl (blk (s.heap.objs.size+1) rfl rfl rfl (by kernel_rfl)) (c3 (pv 1)) (fun _ _ _ _=>(jF (K:=K) (n:=2) rfl (bT (aW (i:=0) (show (["name","size"]:List Str).Nodup by decide +kernel) rfl (by walk_at"oi")) (bT (aW (i:=1) (show (["name","size"]:List Str).Nodup by decide +kernel) rfl (by walk_at"oi")) fB)))) (fun _ _ _ _=>eN) (fun _ _ _ _=>(pv 0))) aD)))
   (aC (bM (cZ cW hr (aA (dN (N:=["door"]) (nl:=1) (ci:=[]) rfl (blk (s.heap.objs.size+1) rfl rfl rfl (by kernel_rfl)) (c3 (pv 2)) (fun _ _ _ _=>(aW (i:=0) (show (["door"]:List Str).Nodup by decide +kernel) rfl (by walk_at"oi"))) (fun _ _ _ _=>eN) (fun _ _ _ _=>(jI (K:=K) (pv 0) rfl))) aD)))
   (aC (bD (i:=6) nd rfl (by walk_at"oi") (mV (BP rfl) rfl m.O6 KS (aA (pv 1) aD)))
   (aC (bM (cZ cC hr (aA (cZ dE hr (aA (pv 2) (aA (pv 3) aD))) (aA (pv 6) aD))))
   (aC (bM (cZ fZ hr (aA (pv 6) (aA (pv 3) aD))))
   (aC (fU (pv 0) (pv 5) rfl)
   (aC (fU (pv 0) (pv 4) rfl)
   (aC (fU (pv 0) (pv 6) rfl)
   (aC (fU (pv 0) (cZ cN hr (aA (pv 6) (aA (pv 3) aD))) rfl)
   (aC (fU (pv 0) pY rfl)
   (aE (d4 PassesOwn.never rfl (c3 (pv 2)) (aW (i:=7) nd rfl (by walk_at"oi")) (aE (tH hu1 (bI (pv 0) rfl) (bI (pv 7) rfl) (pv 7) rfl))))))))))))))),?_⟩
  refine aI (σ:=[some (.ref p),some (.ref a),some (.ref b),some (.ref c),some (.int l),some (.int f),none,none]) rfl ?_;have hul:us.length=ds.length:=Paired.length hd;have hwl:ws.length=rz.length:=Paired.length hra;walk_at"go";refine KU h0 h1 ?_;walk_at"go";refine uD (α:=Str×Int) (xs:=rz) (vs:=ws) (fun e=> .str e.1) (fun e=> .int e.2) (fun _=>true) (fun z y _=>y= .str z.1) (fun _ _ _ _ h _=>h) (by rw[sizeLine_eq];lia) (rest:=[]) (by rfl) (SqL.of ha) hra (fun x H1 hx s1 R hR=>hR _ (Same.refl _)) (fun x H1 hx _ s1 R hR=> ?_) ?_
  ·walk_at"go";exact hR _ _ rfl (Same.refl _)
  intro ys H1 s1 hys;rw[dJ]at hys;obtain rfl:=iH hys;walk_at"go";rename_i q1 H2 n2 S2 e2;refine C0 (ss:=rz.map (·.1)) (SqL.of (by rw[e2,List.map_map];rfl)) nr (by rw[List.length_map];lia) fun H3 S3=> ?_;have sA:Same H H3:=(s1.trans S2).trans S3;walk_at"go";refine uK (α:=aH) (xs:=ds) (vs:=us) ((aN P w K mg base (some 1)).at' H3) (fun _=>true) (fun d y _=>y= .str d.1) (fun _ _ _ _ h _=>h) (by rw[sizeLine_eq];lia) (rest:=[]) (by rfl) (sA.seq hb) (lQ hd sA) (fun v x H1 _ hx s1 R hR=>hR _ (Same.refl _)) ?_ ?_
  ·rintro v ⟨n,st,e,lt⟩ H4 hv hm - s4 R hR;obtain⟨q,C9,dx',fs,fp,rfl,hq,dcC,l1,l2,l3,l4,l5,mcE,hfp,hlt⟩:=DoorAt.ex hv;have hq':=s4 _ _ hq;walk_at"go";exact hR _ _ rfl (Same.refl _)
  intro ys H4 s4 hys;rw[dJ]at hys;obtain rfl:=iH hys;walk_at"go";rename_i q5 H5 n5 S5 e5;refine C0 (ss:=ds.map (·.1)) (SqL.of (by rw[e5,List.map_map];rfl)) nd' (by rw[List.length_map];lia) fun H6 S6=> ?_;have sB:Same H H6:=((sA.trans s4).trans S5).trans S6;walk_at"go";refine GG (sB _ _ ha) (pM (hra.sm sB)) fun qs H7 n7 S7 e7=> ?_;rw[GV nr]at e7;have sC:Same H H7:=sB.trans S7;walk_at"go";refine GJ (sC.seq hb) (lQ hd sC) hin ld (sC.seq hc) (fR hcp sC) hpr lp fun q8 ss H8 S8 e8 hss lss=> ?_;walk_at"go";refine zY (SqL.of e8) (.inl (S8 _ _ e7)) (fun z hz=>by obtain⟨i,_,e⟩:=xB nr (hss z hz);rw[e];rfl) fun H9 S9=> ?_;have sD:Same H7 H9:=S8.trans S9;walk_at"go";refine LE (sD _ _ e7) ((sC.trans sD).seq hc) (fR hcp (sC.trans sD)) hpr nr (by lia) (by lia) hf fun H10 S10=> ?_;have sE:Same H H10:=(sC.trans sD).trans S10;have es:H10 qs=some (.dK (szK rz)):=S10 _ _ (sD _ _ e7);have hp10:=sE _ _ hp;have hqp:qs≠p:=fun z=>by rw[z,hp10]at es;cases es
  walk_at"go";rename_i H11 B11 e11 H12 B12 e12 H13 B13 e13;have sb13:SameBut p H10 H13:=by walk_at"sb"
  have es13:=sb13 _ _ es hqp;have hc13:SqL K H13 c cs:=AG (sE.seq hc) hp10 sb13;have hcp13:Paired (bP H13) cs ps:=Paired.imp' (fun v r ⟨q,e,hq⟩=>⟨q,e,sb13 _ _ (sE _ _ hq) fun z=>by rw[z,hp]at hq;cases hq⟩) hcp;refine z9 es13 hc13 hcp13 hpr nr (by lia) fun qp H14 kvs n14 S14 e14 hkk hv14=> ?_;have hp14:=S14 _ _ e13;walk_at"go";rename_i H15 B15 e15 qd H16 n16 S16 e16 H17 B17 e17;have hqd:qd≠p:=fun z=>by rw[z,e15]at n16;cases n16
  have sb17:SameBut p H10 H17:=((((sb13.trans S14.but).trans B15).trans S16.but).trans B17)
  have es17:=sb17 _ _ es hqp;have ed17:=B17 _ _ e16 hqd;have hqpp:qp≠p:=fun z=>by rw[z,e13]at n14;cases n14
  have eq17:H17 qp=some (.dK kvs):=B17 _ _ (S16 _ _ (B15 _ _ e14 hqpp)) hqpp;have hqpd:qp≠qd:=fun z=>by rw[←z,B15 _ _ e14 hqpp]at n16;cases n16
  have fresh:∀x u,H10 x=some u->x≠p->x≠qd:=fun x u hx hxp z=>by
   have h15:H15 x=some u:=B15 _ _ (S14 _ _ (sb13 _ _ hx hxp)) hxp;rw[z,n16]at h15;cases h15
  have hb17:SqL K H17 b us:=AG (sE.seq hb) hp10 sb17;have hd17:Paired ((aN P w K mg base (some 1)).at' H17) us ds:=Paired.imp' (fun v d h=>(aN P w K mg base (some 1)).but ((aN P w K mg base (some 1)).same h sE) hp10 rfl sb17) hd;have ddq:∀{H':Hp}{v:V}{d:aH},SameBut qd H17 H'->(aN P w K mg base (some 1)).at' H17 v d->(aN P w K mg base (some 1)).at' H' v d:=fun sb h=>(aN P w K mg base (some 1)).but h ed17 trivial sb;refine u4 hb17 ?_;refine jJ us (fun i σ' H'=>SameBut qd H17 H'/\(∃nk,H' qd=some (.dK nk)/\nk.length<=i/\Paired (fun e d=>e.1= .inr d.1/\(aN P w K mg base (some 1)).at' H17 e.2 d) nk (ds.take i))/\∃x,σ'=[some (.ref p),some (.ref a),some (.ref b),some (.ref c),some (.int l),some (.int f),some (.ref qs),x]) ⟨SameBut.refl,⟨[],ed17,Nat.le_refl _,.nil⟩,_,rfl⟩ (fun i σ' H' _ q=>xL hb17 ed17 q.1) ?_ ?_
  ·rintro i x _ H' hx ⟨sb,⟨nk,ek,hk,pr⟩,y,rfl⟩;have hi:i<us.length:=(List.getElem?_eq_some_iff.mp hx).1;obtain⟨d,hdx⟩:∃d,ds[i]? =some d:=⟨_,List.getElem?_eq_getElem (by lia)⟩
   have hD:=Paired.at2 hd17 hx hdx;obtain⟨n,st,e,lt⟩:=d;have hD':=ddq sb hD;obtain⟨q,C9,dx',fs,fp,rfl,hq',dcC,l1,l2,l3,l4,l5,mcE,hfp,hlt⟩:=DoorAt.ex hD';have hpp:H' p=some (.ins C dx (z8 f l qs qp qd)):=sb _ _ e17 (Ne.symm hqd);have hnone:bJ nk (.inr n)=none:=iB fun e he=>by
    obtain⟨d',hd',h1,_⟩:=lM pr he;rw[h1];intro z;have hn:n∉(ds.map (·.1)).take i:=qP nd' (by rw[List.getElem?_map,hdx];rfl)
    apply hn
    rw[←List.map_take];exact List.mem_map.mpr ⟨d',hd',Sum.inr.inj z⟩
   walk_at"go";refine qU ek (by rw[sizeLine_eq];lia) fun H9' B9' e9'=> ?_;rw[pX _ hnone]at e9';refine⟨by walk_at"sb",⟨_,e9',by rw[List.length_append];show nk.length+1<=_;lia,?_⟩,_,rfl⟩;rw[jA hdx];exact L2.Paired.snoc pr ⟨rfl,hD⟩
  ·rintro _ H' ⟨sb,⟨nk,ek,hk,pr⟩,y,rfl⟩;rw[hul,List.take_length]at pr;refine k _ (fun x u hx hxp=>sb _ _ (sb17 _ _ (sE _ _ hx) hxp) (fresh x u (sE _ _ hx) hxp)) ⟨dx,qs,qp,qd,nk,kvs,sb _ _ e17 (Ne.symm hqd),sb _ _ es17 (fresh _ _ es hqp),sb _ _ eq17 hqpd,hkk,hv14,ek,?_⟩;exact Paired.imp' (fun e d h=>⟨h.1,ddq sb h.2⟩) pr
theorem BX (m:M K mg):Kc P w K mg base "House" m.aF 4 [] (eQ K (aN P w K mg base (some 1))):=⟨_,_,_,_,m.MD,m.HB,.nil,m.qZ,o8 m⟩
theorem ER {C:Addr}{D:aZ}{H:Hp}{Q:VK}{E:XK}{dvs vs:List V}{a b c:Addr}{ws us cs:List V}{rz ps:List (Str×Int)}{ds:List aH}{f l:Int} (ev:vs++dvs=[.ref a,.ref b,.ref c,.int l,.int f]) (dc:DCls K C) (ha:H a=some (.lst ws)) (hr:RoomsAt H ws rz) (hb:SqL K H b us) (hd:Paired (D.at' H) us ds) (hc:SqL K H c cs) (hcp:Paired (bP H) cs ps) (nr:(rz.map (·.1)).Nodup) (nd:(ds.map (·.1)).Nodup) (hin:∀d∈ds,fG (rz.map (·.1)) d) (hpr:∀p∈ps,p.1∈rz.map (·.1)) (hf:tS rz ps) (lr:rz.length<=20) (ld:ds.length<=20) (lp:ps.length<=40) (h0:0<=f) (h1:f<=l)
  (k:∀p H',H p=none->Same H H'->aT C D H' p f l rz ps ds->Q (.ref p) H'):wM C (eQ K D) dvs E Q vs H:=by
 intro x dx nx nd0 ne;have s0:Same H (upd (upd H dx (.own x)) x (.ins C dx [])):=fun b o e=>by
  rw[aG (aO e nx),aG (aO e nd0)];exact e
 rw[ev];exact w4 dc aR (s0 _ _ ha) (hr.sm s0) (s0.seq hb) (lQ hd s0) (s0.seq hc) (fR hcp s0) nr nd hin hpr hf lr ld lp h0 h1 fun H' sb hh=>⟨rfl,k x H' nx (fun b o q=>sb b o (s0 b o q) (aO q nx)) hh⟩
theorem KF (rz:List (Str×Int)):((szK rz).map fun e=>kV e.1)=(rz.map (·.1)).map V.str:=by unfold szK;rw[List.map_map,List.map_map];rfl
theorem rN {D:aZ}{H:Hp}:∀{nk:List (Key×V)}{ds:List aH},i7 D H nk ds->(nk.map fun e=>kV e.1)=(ds.map (·.1)).map V.str
 | _,_,.nil=>rfl
 | (k,v)::_,_,.cons h t=>by
  rw[List.map_cons,rN t,List.map_cons,List.map_cons];have:k= .inr _:=h.1;rw[this];rfl
theorem lI {D:aZ}{H:Hp}:∀{nk:List (Key×V)}{ds:List aH},i7 D H nk ds->nk.map (·.1)=(ds.map (·.1)).map (Sum.inr:Str->Key)
 | _,_,.nil=>rfl
 | (k,v)::_,_,.cons h t=>by
  rw[List.map_cons,lI t,List.map_cons,List.map_cons];have:k= .inr _:=h.1;rw[this]
theorem DB {D:aZ}{H:Hp}{nk:List (Key×V)}{ds:List aH} (h:i7 D H nk ds):nk.length=ds.length:=Paired.length h
theorem HA {D:aZ}{H:Hp}{nk:List (Key×V)}{ds:List aH} (h:i7 D H nk ds) (nd:(ds.map (·.1)).Nodup) {d:aH} (hd:d∈ds):∃v,bJ nk (.inr d.1)=some v/\D.at' H v d:=by
 obtain⟨i,hi,e⟩:=List.getElem_of_mem hd;have hl:=DB h;have hx:nk[i]? =some nk[i]:=List.getElem?_eq_getElem (by lia);obtain⟨h1,h2⟩:=Paired.at2 h hx (show ds[i]? =some d by rw[List.getElem?_eq_getElem hi,e]);refine⟨_,?_,h2⟩;rw[←h1];exact kZ (by rw[lI h];exact mS nd) (List.mem_of_getElem? hx)
def jP (C:Addr)(D:aZ)(g:List (Str×Int)->List aH->List Str):Sp:=fun vs H Q _=>∃(h:Addr) (f l:Int) (rz ps:List (Str×Int)) (ds:List aH),vs=[.ref h]/\aT C D H h f l rz ps ds/\∀p H',H p=none->Same H H'->H' p=some (.lst ((g rz ds).map V.str))->Q (.ref p) H'
theorem oP {C:Addr}{D:aZ}{g:List (Str×Int)->List aH->List Str}{H:Hp}{Q:VK}{E:XK}{h:Addr}{f l:Int}{rz ps:List (Str×Int)}{ds:List aH} (hh:aT C D H h f l rz ps ds) (k:∀p H',H p=none->Same H H'->H' p=some (.lst ((g rz ds).map V.str))->Q (.ref p) H'):jP C D g [.ref h] H Q E:=⟨_,_,_,_,_,_,rfl,hh,k⟩
theorem tF (m:M K mg):aY P w K mg base CX0 1 m.iW m.iS ["self"] (jP m.aF (aN P w K mg base (some 1)) fun rz _=>rz.map (·.1)):=by
 refine m.wH.ok sc_House_rooms (fun vs H Q E h=> ?_) (fun cdv A outer s H vs Q E hr h=> ?_)
 ·obtain⟨h,f,l,rz,ps,ds,rfl,hh,k⟩:=h;rfl
 ·obtain⟨h,f,l,rz,ps,ds,rfl,hh,k⟩:=h;have nd:=sc_House_rooms.nd;walk_at"hu";have w_dc_House:=m.aL;refine⟨_,(aE (bA (mV (rH rfl) rfl m.E4 AC (aA (bI (pv 0) rfl) aD)))),?_⟩;refine aI (σ:=[some (.ref h)]) rfl ?_;obtain⟨dx,qs,qp,qd,nk,kvs,e1,e2,e3,e4,e5,e6,e7⟩:=hh.ex;walk_at"go";refine w9 (.inl e2) fun p H1 n1 S1 e8=> ?_;rw[KF]at e8;walk_at"go";exact k _ _ n1 S1 e8
theorem k8 (m:M K mg):Mc P w K mg base m.aF "rooms" 1 (jP m.aF (aN P w K mg base (some 1)) fun rz _=>rz.map (·.1)):=⟨_,_,_,m.aL.ic.cl,m.uN,m.wD,tF m⟩
theorem tP (m:M K mg):aY P w K mg base CX0 1 m.iR m.iQ ["self"] (jP m.aF (aN P w K mg base (some 1)) fun _ ds=>ds.map (·.1)):=by
 refine m.wI.ok sc_House_doors (fun vs H Q E h=> ?_) (fun cdv A outer s H vs Q E hr h=> ?_)
 ·obtain⟨h,f,l,rz,ps,ds,rfl,hh,k⟩:=h;rfl
 ·obtain⟨h,f,l,rz,ps,ds,rfl,hh,k⟩:=h;have nd:=sc_House_doors.nd;walk_at"hu";have w_dc_House:=m.aL;refine⟨_,(aE (bA (mV (rH rfl) rfl m.E4 AC (aA (bI (pv 0) rfl) aD)))),?_⟩;refine aI (σ:=[some (.ref h)]) rfl ?_;obtain⟨dx,qs,qp,qd,nk,kvs,e1,e2,e3,e4,e5,e6,e7⟩:=hh.ex;walk_at"go";refine w9 (.inl e6) fun p H1 n1 S1 e8=> ?_;rw[rN e7]at e8;walk_at"go";exact k _ _ n1 S1 e8
theorem k6 (m:M K mg):Mc P w K mg base m.aF "doors" 1 (jP m.aF (aN P w K mg base (some 1)) fun _ ds=>ds.map (·.1)):=⟨_,_,_,m.aL.ic.cl,m.uM,m.wC,tP m⟩
def jO (C:Addr)(D:aZ):Sp:=fun vs H Q _=>∃(h:Addr) (z:Str) (f l:Int) (rz ps:List (Str×Int)) (ds:List aH),vs=[.ref h,.str z]/\aT C D H h f l rz ps ds/\(rz.map (·.1)).Nodup/\z∈rz.map (·.1)/\∀H',Same H H'->Q .non H'
theorem kE {C:Addr}{D:aZ}{H:Hp}{Q:VK}{E:XK}{h:Addr}{z:Str}{f l:Int}{rz ps:List (Str×Int)}{ds:List aH} (hh:aT C D H h f l rz ps ds) (nr:(rz.map (·.1)).Nodup) (hz:z∈rz.map (·.1)) (k:∀H',Same H H'->Q .non H'):jO C D [.ref h,.str z] H Q E:=⟨_,_,_,_,_,_,_,rfl,hh,nr,hz,k⟩
theorem m8 (m:M K mg):aY P w K mg base CX0 2 m.dF m.dD ["self","room"] (jO m.aF (aN P w K mg base (some 1))):=by
 refine m.iX.ok sc_House_need_room (fun vs H Q E h=> ?_) (fun cdv A outer s H vs Q E hr h=> ?_)
 ·obtain⟨h,z,f,l,rz,ps,ds,rfl,hh,nr,hz,k⟩:=h;rfl
 ·obtain⟨h,z,f,l,rz,ps,ds,rfl,hh,nr,hz,k⟩:=h;have nd:=sc_House_need_room.nd;walk_at"hu";have cC:= @lY P w K mg base m;have w_dc_House:=m.aL;refine⟨_,(aE (bM (cZ cC hr (aA (cP (aA (pv 1) aD)) (aA (bI (pv 0) rfl) aD))))),?_⟩;refine aI (σ:=[some (.ref h),some (.str z)]) rfl ?_;obtain⟨dx,qs,qp,qd,nk,kvs,e1,e2,e3,e4,e5,e6,e7⟩:=hh.ex;obtain⟨i,hi,ev⟩:=xB nr hz;walk_at"go";rename_i p H1 n1 S1 e8;refine zY (ss:=[z]) (SqL.of e8) (.inl (S1 _ _ e2)) (fun y hy=>by cases List.mem_singleton.mp hy;rw[ev];rfl) fun H2 S2=> ?_;walk_at"go";exact k _ (S1.trans S2)
theorem dX (m:M K mg):Mc P w K mg base m.aF "need_room" 2 (jO m.aF (aN P w K mg base (some 1))):=⟨_,_,_,m.aL.ic.cl,m.iL,m.iY,m8 m⟩
def p8 (C:Addr)(D:aZ):Sp:=fun vs H Q _=>∃(h:Addr) (z:Str) (i f l:Int) (rz ps:List (Str×Int)) (ds:List aH),vs=[.ref h,.str z]/\aT C D H h f l rz ps ds/\(rz.map (·.1)).Nodup/\(z,i)∈rz/\∀H',Same H H'->Q (.int i) H'
theorem JQ {C:Addr}{D:aZ}{H:Hp}{Q:VK}{E:XK}{h:Addr}{z:Str}{i f l:Int}{rz ps:List (Str×Int)}{ds:List aH} (hh:aT C D H h f l rz ps ds) (nr:(rz.map (·.1)).Nodup) (hz:(z,i)∈rz) (k:∀H',Same H H'->Q (.int i) H'):p8 C D [.ref h,.str z] H Q E:=⟨_,_,_,_,_,_,_,_,rfl,hh,nr,hz,k⟩
theorem t0 (m:M K mg):aY P w K mg base CX0 3 m.eT m.eU ["self","room"] (p8 m.aF (aN P w K mg base (some 1))):=by
 refine m.l8.ok sc_House_holds (fun vs H Q E h=> ?_) (fun cdv A outer s H vs Q E hr h=> ?_)
 ·obtain⟨h,z,i,f,l,rz,ps,ds,rfl,hh,nr,hz,k⟩:=h;rfl
 ·obtain⟨h,z,i,f,l,rz,ps,ds,rfl,hh,nr,hz,k⟩:=h;have nd:=sc_House_holds.nd;walk_at"hu";have w_dc_House:=m.aL;have w_mc_House_need_room:= @dX P w K mg base m;refine⟨_,(aC (bM (lO 2 hr (pv 0) (aA (pv 1) aD)))
   (aE (bA (fD hu1 (bI (pv 0) rfl) (pv 1) (fun _ _=>rfl))))),?_⟩
  refine aI (σ:=[some (.ref h),some (.str z)]) rfl ?_;obtain⟨dx,qs,qp,qd,nk,kvs,e1,e2,e3,e4,e5,e6,e7⟩:=hh.ex;walk_at"go";refine kE hh nr (List.mem_map.mpr ⟨_,hz,rfl⟩) fun H1 S1=> ?_;have e11:=S1 _ _ e1;walk_at"go";refine jM (.inl (S1 _ _ e2)) (tJ nr hz) ?_;walk_at"go";exact k _ S1
theorem uI (m:M K mg):Mc P w K mg base m.aF "holds" 3 (p8 m.aF (aN P w K mg base (some 1))):=⟨_,_,_,m.aL.ic.cl,m.lB,m.mE,t0 m⟩
def qC (C:Addr)(D:aZ):Sp:=fun vs H Q _=>∃(h:Addr) (z:Str) (f l:Int) (rz ps:List (Str×Int)) (ds:List aH),vs=[.ref h,.str z]/\aT C D H h f l rz ps ds/\(rz.map (·.1)).Nodup/\z∈rz.map (·.1)/\∀H',Same H H'->Q (.int (gO ps z)) H'
theorem KB {C:Addr}{D:aZ}{H:Hp}{Q:VK}{E:XK}{h:Addr}{z:Str}{f l:Int}{rz ps:List (Str×Int)}{ds:List aH} (hh:aT C D H h f l rz ps ds) (nr:(rz.map (·.1)).Nodup) (hz:z∈rz.map (·.1)) (k:∀H',Same H H'->Q (.int (gO ps z)) H'):qC C D [.ref h,.str z] H Q E:=⟨_,_,_,_,_,_,_,rfl,hh,nr,hz,k⟩
theorem tD (m:M K mg):aY P w K mg base CX0 3 m.eV m.eR ["self","room"] (qC m.aF (aN P w K mg base (some 1))):=by
 refine m.l7.ok sc_House_found (fun vs H Q E h=> ?_) (fun cdv A outer s H vs Q E hr h=> ?_)
 ·obtain⟨h,z,f,l,rz,ps,ds,rfl,hh,nr,hz,k⟩:=h;rfl
 ·obtain⟨h,z,f,l,rz,ps,ds,rfl,hh,nr,hz,k⟩:=h;have nd:=sc_House_found.nd;walk_at"hu";have w_dc_House:=m.aL;have w_mc_House_need_room:= @dX P w K mg base m;refine⟨_,(aC (bM (lO 2 hr (pv 0) (aA (pv 1) aD)))
   (aE (bA (fD hu1 (bI (pv 0) rfl) (pv 1) (fun _ _=>rfl))))),?_⟩
  refine aI (σ:=[some (.ref h),some (.str z)]) rfl ?_;obtain⟨dx,qs,qp,qd,nk,kvs,e1,e2,e3,e4,e5,e6,e7⟩:=hh.ex;walk_at"go";refine kE hh nr hz fun H1 S1=> ?_;have e11:=S1 _ _ e1;walk_at"go";refine jM (.inl (S1 _ _ e3)) (e5 z hz) ?_;walk_at"go";exact k _ S1
theorem uH (m:M K mg):Mc P w K mg base m.aF "found" 3 (qC m.aF (aN P w K mg base (some 1))):=⟨_,_,_,m.aL.ic.cl,m.lD,m.mD,tD m⟩
def tR (C:Addr)(D:aZ):Sp:=fun vs H Q _=>∃(h:Addr) (d:aH) (f l:Int) (rz ps:List (Str×Int)) (ds:List aH),vs=[.ref h,.str d.1]/\aT C D H h f l rz ps ds/\(ds.map (·.1)).Nodup/\d∈ds/\∀v,D.at' H v d->Q v H
theorem EV {C:Addr}{D:aZ}{H:Hp}{Q:VK}{E:XK}{h:Addr}{d:aH}{f l:Int}{rz ps:List (Str×Int)}{ds:List aH} (hh:aT C D H h f l rz ps ds) (nd:(ds.map (·.1)).Nodup) (hd:d∈ds) (k:∀v,D.at' H v d->Q v H):tR C D [.ref h,.str d.1] H Q E:=⟨_,_,_,_,_,_,_,rfl,hh,nd,hd,k⟩
theorem vU (m:M K mg):aY P w K mg base CX0 1 m.gF m.gI ["self","name"] (tR m.aF (aN P w K mg base (some 1))):=by
 refine m.nO.ok sc_House_door (fun vs H Q E h=> ?_) (fun cdv A outer s H vs Q E hr h=> ?_)
 ·obtain⟨h,d,f,l,rz,ps,ds,rfl,hh,ndd,hd,k⟩:=h;rfl
 ·obtain⟨h,d,f,l,rz,ps,ds,rfl,hh,ndd,hd,k⟩:=h;have nd:=sc_House_door.nd;walk_at"hu";have w_dc_House:=m.aL;refine⟨_,(aC (bY (m9 (j9 hu1 (pv 1) (bI (pv 0) rfl)) (by with_unfolding_all rfl)) (aE dI) bG)
   (aE (bA (fD hu1 (bI (pv 0) rfl) (pv 1) (fun _ _=>rfl))))),?_⟩
  refine aI (σ:=[some (.ref h),some (.str d.1)]) rfl ?_;obtain⟨dx,qs,qp,qd,nk,kvs,e1,e2,e3,e4,e5,e6,e7⟩:=hh.ex;obtain⟨v,ev,hv⟩:=HA e7 ndd hd;walk_at"go";refine i9 (.inl e6) ?_;rw[show (bJ nk (.inr d.1)).isSome=true by rw[ev];rfl];walk_at"go";refine jM (.inl e6) ev ?_;walk_at"go";exact k _ hv
theorem lX (m:M K mg):Mc P w K mg base m.aF "door" 1 (tR m.aF (aN P w K mg base (some 1))):=⟨_,_,_,m.aL.ic.cl,m.l6,m.nP,vU m⟩
def fJ (rz:List (Str×Int))(f:Int)(n:Nat):List (Str×Int):=((List.range n).map fun (i:Nat)=>rz.map fun e=>(e.1,f+(i:Int))).flatten
theorem pK (rz:List (Str×Int))(f:Int)(n:Nat):fJ rz f (n+1)=fJ rz f n++rz.map fun e=>(e.1,f+(n:Int)):=by
 unfold fJ;rw[List.range_succ,List.map_append,List.flatten_append];simp
theorem rZ (rz:List (Str×Int))(f:Int):∀n,(fJ rz f n).length=n * rz.length
 | 0=>by simp[fJ]
 | n+1=>by rw[pK,List.length_append,rZ rz f n,List.length_map,Nat.succ_mul]
theorem yC {H:Hp}{t:Int}:∀{rz:List (Str×Int)}{ys:List V},Paired (fun (e:Key×V) y=>∀z,e.1= .inr z->bP H y (z,t)) (szK rz) ys->Paired (bP H) ys (rz.map fun e=>(e.1,t))
 | [],_,.nil=> .nil
 | _::_,_,.cons h t=> .cons (h _ rfl) (yC t)
theorem AK {H H':Hp}{p:Addr}{xs ws:List V}{ps:List (Str×Int)} (h:Paired (bP H) ws ps) (e:H p=some (.lst xs)) (sb:SameBut p H H'):Paired (bP H') ws ps:=Paired.imp' (fun v r ⟨q,e1,h⟩=>⟨q,e1,sb _ _ h fun z=>by rw[z,e]at h;cases h⟩) h
theorem rO {α β:Type}{F:α->β->Prop}:∀{l l2:List α}{m m2:List β},Paired F l m->Paired F l2 m2->Paired F (l++l2) (m++m2)
 | _,_,_,_,.nil,h=>h
 | _,_,_,_,.cons r t,h=> .cons r (rO t h)
def qQ (C:Addr)(D:aZ):Sp:=fun vs H Q _=>∃(h:Addr) (f l:Int) (rz ps:List (Str×Int)) (ds:List aH),vs=[.ref h]/\aT C D H h f l rz ps ds/\0<=f/\f<=l/\l<1000000000000/\l - f<=1000/\rz.length<=20/\∀p ys H',H p=none->Same H H'->H' p=some (.lst ys)->Paired (bP H') ys (fJ rz f (l+1 - f).toNat)->Q (.ref p) H'
theorem L5 {C:Addr}{D:aZ}{H:Hp}{Q:VK}{E:XK}{h:Addr}{f l:Int}{rz ps:List (Str×Int)}{ds:List aH} (hh:aT C D H h f l rz ps ds) (h0:0<=f) (h1:f<=l) (h2:l<1000000000000) (h3:l - f<=1000) (lr:rz.length<=20) (k:∀p ys H',H p=none->Same H H'->H' p=some (.lst ys)->Paired (bP H') ys (fJ rz f (l+1 - f).toNat)->Q (.ref p) H'):qQ C D [.ref h] H Q E:=⟨_,_,_,_,_,_,rfl,hh,h0,h1,h2,h3,lr,k⟩
theorem tI (m:M K mg):aY P w K mg base CX0 1 m.iV m.iP ["self"] (qQ m.aF (aN P w K mg base (some 1))):=by
 refine m.wF.ok sc_House_pairs (fun vs H Q E h=> ?_) (fun cdv A outer s H vs Q E hr h=> ?_)
 ·obtain⟨h,f,l,rz,ps,ds,rfl,hh,h0,h1,h2,h3,lr,k⟩:=h;rfl
 ·obtain⟨h,f,l,rz,ps,ds,rfl,hh,h0,h1,h2,h3,lr,k⟩:=h;have nd:=sc_House_pairs.nd;walk_at"hu";have w_dc_House:=m.aL;refine⟨_,(aC (bD (i:=1) nd rfl (by walk_at"oi") (cP aD))
   (aC (d4 PassesOwn.never rfl (DJ rfl m.o0 (aA (bI (pv 0) rfl) (aA (a9 iE (bI (pv 0) rfl) aJ) aD))) (aW (i:=2) nd rfl (by walk_at"oi")) (aE (bM (wR PySem.F.plainAttrs_list PySem.F.slot_list_extend PySem.F.type_list_extend DH (pv 1) (aA (kU (dN (N:=["room","turn"]) (nl:=1) (ci:=[2]) rfl (blk (s.heap.objs.size+1) rfl rfl rfl (by kernel_rfl)) (qF (bI (pv 0) rfl)) (fun _ _ _ _=>(aW (i:=0) (show (["room","turn"]:List Str).Nodup by decide +kernel) rfl (by walk_at"oi"))) (fun _ _ _ _=>eN) (fun _ _ _ _=>(mU (aA (pv 0) (aA (pv 1) aD)))))) aD)))))
   (aE (bA (pv 1))))),?_⟩
  refine aI (σ:=[some (.ref h),none,none]) rfl ?_;obtain⟨dx,qs,qp,qd,nk,kvs,e1,e2,e3,e4,e5,e6,e7⟩:=hh.ex;have hl2:(szK rz).length=rz.length:=by unfold szK;rw[List.length_map]
  walk_at"go";rename_i p H1 n1 S1 ep;have e21:=S1 _ _ e2;have e11:=S1 _ _ e1;have hqsp:qs≠p:=fun z=>by rw[z,n1]at e2;cases e2
  have hhp:h≠p:=fun z=>by rw[z,n1]at e1;cases e1
  refine tV (fun i σ' H'=>SameBut p H1 H'/\(∃ys,H' p=some (.lst ys)/\Paired (bP H') ys (fJ rz f i))/\∃x,σ'=[some (.ref h),some (.ref p),x]) ⟨SameBut.refl,⟨[],ep,.nil⟩,_,rfl⟩ ?_ ?_
  ·rintro i _ H' hi ⟨sb,⟨ys,ey,hys⟩,x,rfl⟩;have e2':=sb _ _ e21 hqsp;have e1':=sb _ _ e11 hhp;have hyl:ys.length=i * rz.length:=by rw[Paired.length hys,rZ]
   have hyb:ys.length<=1001 * 20:=by
    rw[hyl];exact Nat.mul_le_mul (by lia) lr
   walk_at"go";refine qO e2' wJ ?_;walk_at"go";refine qM e2' fun o H2 B2 e22=> ?_;have hpq:p≠qs:=Ne.symm hqsp;refine DR (fun _=>true) (fun e y H=>∀z,e.1= .inr z->bP H y (z,f+(i:Int))) (fun _ _ _ _ hh s z hz=>let ⟨q,a1,a2⟩:=hh z hz;⟨q,a1,s _ _ a2⟩) (by rw[sizeLine_eq];lia) (rest:=[some (.int (f+(i:Int)))]) (by rfl) e22 (fun x H6 hx s6 R hR=>hR _ (Same.refl _)) ?_ ?_
   ·rintro x H6 hx - s6 R hR;obtain⟨e,he,rfl⟩:=List.mem_map.mp hx;show (_:TE) (some (V.str e.1)::[some (.int (f+(i:Int)))]) H6 R;walk_at"go";rename_i q7 H7 n7 S7 e77;exact hR _ _ (fun z hz=>by cases hz;exact⟨q7,rfl,e77⟩) S7
   intro zs H3 s3 hzs;rw[dJ]at hzs;have hzp:=yC hzs;walk_at"go";rename_i q4 H4 n4 S4 e44;refine kB (S4 _ _ (s3 _ _ e22)) fun H5 B5 e55=> ?_;have hq4:q4≠qs:=fun z=>by rw[z,s3 _ _ e22]at n4;cases n4
   have ey2:=B2 _ _ ey hpq;have ey5:H5 p=some (.lst ys):=B5 _ _ (S4 _ _ (s3 _ _ ey2)) hpq;have sX:Same H' H5:=mY e2' B2 (Same.but (s3.trans S4)) B5 e55;have hz5:Paired (bP H5) zs (rz.map fun e=>(e.1,f+(i:Int))):=Paired.imp' (fun v r ⟨q,a1,a2⟩=>⟨q,a1,B5 _ _ (S4 _ _ a2) fun z=>by rw[z,s3 _ _ e22]at a2;cases a2⟩) hzp;have hzl:zs.length=rz.length:=by rw[Paired.length hz5,List.length_map]
   walk_at"go";refine DO ey5 (B5 _ _ e44 hq4) (by rw[sizeLine_eq];lia) fun H6 B6 e66=> ?_;walk_at"go";refine⟨(sb.trans sX.but).trans B6,⟨_,e66,?_⟩,_,rfl⟩;rw[pK];exact rO (AK (fR hys sX) ey5 B6) (AK hz5 ey5 B6)
  ·rintro _ H' ⟨sb,⟨ys,ey,hys⟩,x,rfl⟩;walk_at"go";exact k _ _ _ n1 (SameBut.same n1 S1 sb) ey hys
theorem t6 (m:M K mg):Mc P w K mg base m.aF "pairs" 1 (qQ m.aF (aN P w K mg base (some 1))):=⟨_,_,_,m.aL.ic.cl,m.uT,m.wG,tI m⟩
local macro_rules| `(tactic| walk_at"rd1")=> `(tactic| first|(with_reducible refine JS ?_)|(with_reducible refine rd_v13 ?_)|(with_reducible refine rd_s13 ?_)|(with_reducible refine rd_v14 ?_)|(with_reducible refine rd_s14 ?_)|(with_reducible refine rd_v15 ?_)|(with_reducible refine rd_s15 ?_)|(with_reducible refine rd_v16 ?_)|(with_reducible refine rd_s16 ?_)|(with_reducible refine rd_v17 ?_)|(with_reducible refine rd_s17 ?_)|(with_reducible refine rd_v18 ?_)|(with_reducible refine rd_s18 ?_)|(with_reducible refine G4 ?_)|((with_reducible refine' EA ?e ?_);(case e=>walk_at"hp"))|((with_reducible refine' J8 ?a ?b ?c ?_);(case a=>walk_at"sd");(case b=>walk_at"sd");(case c=>walk_at"sz")))
def wV (rz ps:List (Str×Int)):Int:=(rz.map fun e=>gO ps e.1).sum
theorem pL {rz ps:List (Str×Int)}:∀{kvs:List (Key×V)}{l:List (Str×Int)},(kvs.map (·.1)).Nodup->kvs.map (·.1)=(szK l).map (·.1)->(∀e∈l,∀v,(Sum.inr e.1,v)∈kvs->v= .int (gO ps e.1))->kvs.map (·.2)=(l.map fun e=>gO ps e.1).map V.int
 | [],[],_,_,_=>rfl
 | [],_::_,_,h,_=>by cases h
 | _::_,[],_,h,_=>by cases h
 | (k,v)::kvs,e::l,nd,h,hv=>by
  have h1:=(List.cons.inj h).1;have h2:=(List.cons.inj h).2;have nd2:=(List.nodup_cons.mp nd).2;have ih:=pL (rz:=rz) (ps:=ps) (kvs:=kvs) (l:=l) nd2 h2 fun e' he' v' hv'=>hv e' (List.mem_cons_of_mem _ he') v' (List.mem_cons_of_mem _ hv');have hk:k= .inr e.1:=h1;rw[List.map_cons,List.map_cons,List.map_cons,ih]
  congr 1
  exact hv e (.head _) v (by rw[hk];exact .head _)
def pQ (C:Addr)(D:aZ):Sp:=fun vs H Q _=>∃(h:Addr) (f l:Int) (rz ps:List (Str×Int)) (ds:List aH),vs=[.ref h]/\aT C D H h f l rz ps ds/\(rz.map (·.1)).Nodup/\∀H',Same H H'->Q (.int (wV rz ps)) H'
theorem LQ {C:Addr}{D:aZ}{H:Hp}{Q:VK}{E:XK}{h:Addr}{f l:Int}{rz ps:List (Str×Int)}{ds:List aH} (hh:aT C D H h f l rz ps ds) (nr:(rz.map (·.1)).Nodup) (k:∀H',Same H H'->Q (.int (wV rz ps)) H'):pQ C D [.ref h] H Q E:=⟨_,_,_,_,_,_,rfl,hh,nr,k⟩
theorem uJ (m:M K mg):aY P w K mg base CX0 1 m.iU m.iT ["self"] (pQ m.aF (aN P w K mg base (some 1))):=by
 refine m.wB.ok sc_House_total (fun vs H Q E h=> ?_) (fun cdv A outer s H vs Q E hr h=> ?_)
 ·obtain⟨h,f,l,rz,ps,ds,rfl,hh,nr,k⟩:=h;rfl
 ·obtain⟨h,f,l,rz,ps,ds,rfl,hh,nr,k⟩:=h;have nd:=sc_House_total.nd;walk_at"hu";have w_dc_House:=m.aL;refine⟨_,(aE (bA (bN (DX rfl) rfl m.QU NB (aA (BQ (bI (pv 0) rfl)) aD)))),?_⟩;refine aI (σ:=[some (.ref h)]) rfl ?_;obtain⟨dx,qs,qp,qd,nk,kvs,e1,e2,e3,e4,e5,e6,e7⟩:=hh.ex;have ndk:(kvs.map (·.1)).Nodup:=by rw[e4,AD];exact mS nr
  have hv:kvs.map (·.2)=(rz.map fun e=>gO ps e.1).map V.int:=pL (rz:=rz) ndk e4 fun e he v hm=>by
   have h1:=kZ ndk hm;have h2:=e5 e.1 (List.mem_map.mpr ⟨e,he,rfl⟩);have h3:bJ kvs (.inr e.1)=some v:=h1;rw[h2]at h3;exact(Option.some.inj h3).symm
  walk_at"go";refine GF (.inl e3) fun v H1 n1 S1 ev=> ?_;walk_at"go";refine LA ev (.inl (S1 _ _ e3)) hv ?_;exact k _ S1
theorem t5 (m:M K mg):Mc P w K mg base m.aF "total" 1 (pQ m.aF (aN P w K mg base (some 1))):=⟨_,_,_,m.aL.ic.cl,m.uO,m.wE,uJ m⟩
def wP (ds:List aH)(z:Str):List Str:=(ds.filter fun d=>decide (d.2.2.1= .str z)).map (·.1)
def tZ (C:Addr)(D:aZ)(g:List aH->Str->List Str):Sp:=fun vs H Q _=>∃(h:Addr) (z:Str) (f l:Int) (rz ps:List (Str×Int)) (ds:List aH),vs=[.ref h,.str z]/\aT C D H h f l rz ps ds/\(rz.map (·.1)).Nodup/\z∈rz.map (·.1)/\ds.length<=20/\(∀d∈ds,fG (rz.map (·.1)) d)/\∀p H',H p=none->Same H H'->H' p=some (.lst ((g ds z).map V.str))->Q (.ref p) H'
theorem MQ {C:Addr}{D:aZ}{g:List aH->Str->List Str}{H:Hp}{Q:VK}{E:XK}{h:Addr}{z:Str}{f l:Int}{rz ps:List (Str×Int)}{ds:List aH} (hh:aT C D H h f l rz ps ds) (nr:(rz.map (·.1)).Nodup) (hz:z∈rz.map (·.1)) (ld:ds.length<=20) (hin:∀d∈ds,fG (rz.map (·.1)) d) (k:∀p H',H p=none->Same H H'->H' p=some (.lst ((g ds z).map V.str))->Q (.ref p) H'):tZ C D g [.ref h,.str z] H Q E:=⟨_,_,_,_,_,_,_,rfl,hh,nr,hz,ld,hin,k⟩
theorem vT (m:M K mg):aY P w K mg base CX0 3 m.fX m.fW ["self","room"] (tZ m.aF (aN P w K mg base (some 1)) wP):=by
 refine m.nR.ok sc_House_into (fun vs H Q E h=> ?_) (fun cdv A outer s H vs Q E hr h=> ?_)
 ·obtain⟨h,z,f,l,rz,ps,ds,rfl,hh,nr,hz,hlen,hin,k⟩:=h;rfl
 ·obtain⟨h,z,f,l,rz,ps,ds,rfl,hh,nr,hz,hlen,hin,k⟩:=h;have nd:=sc_House_into.nd;walk_at"hu";have w_dc_House:=m.aL;have w_mc_House_need_room:= @dX P w K mg base m;refine⟨_,(aC (bM (lO 2 hr (pv 0) (aA (pv 1) aD)))
   (aE (bA (kU (dN (N:=["name","door","room"]) (nl:=2) (ci:=[1]) rfl (blk (s.heap.objs.size+1) rfl rfl rfl (by kernel_rfl)) (nJ (bI (pv 0) rfl)) (fun _ _ _ _=>(jF (K:=K) (n:=2) rfl (bT (aW (i:=0) (show (["name","door","room"]:List Str).Nodup by decide +kernel) rfl (by walk_at"oi")) (bT (aW (i:=1) (show (["name","door","room"]:List Str).Nodup by decide +kernel) rfl (by walk_at"oi")) fB)))) (fun _ _ _ _=>(xH (bF dB (jI (K:=K) (pv 1) rfl) (pv 2) (bB _)))) (fun _ _ _ _=>(pv 0))))))),?_⟩
  refine aI (σ:=[some (.ref h),some (.str z)]) rfl ?_;obtain⟨dx,qs,qp,qd,nk,kvs,e1,e2,e3',e4',e5',e6,e7⟩:=hh.ex;walk_at"go";refine kE hh nr hz fun H1 S1=> ?_;have e31:=S1 _ _ e6;have e11:=S1 _ _ e1;walk_at"go";refine qO e31 wJ ?_;walk_at"go";refine EI e31 fun o H2 B2 e32=> ?_;have hn2:i7 (aN P w K mg base (some 1)) H2 nk ds:=Paired.imp' (fun e d h=>⟨h.1,(aN P w K mg base (some 1)).but ((aN P w K mg base (some 1)).same h.2 S1) e31 trivial B2⟩) e7;refine KL (α:=aH) (xs:=ds) (fun e d=>e.1= .inr d.1/\(aN P w K mg base (some 1)).at' H2 e.2 d) (fun d=>decide (d.2.2.1= .str z)) (fun d y _=>y= .str d.1) (fun _ _ _ _ h _=>h) (by rw[sizeLine_eq];lia) (rest:=[some (.str z)]) (by rfl) e32 hn2 ?_ ?_ ?_
  ·rintro ⟨kk,v⟩ ⟨n,st,e,lt⟩ H3 ⟨h1,h2⟩ hm s3 R hR;obtain⟨q,C9,dx,fs,fp,h3,hq,dcC,l1,l2,l3,l4,l5,mcE,hfp,hlt⟩:=DoorAt.ex h2;cases h1;have h3:v= .ref q:=h3;subst h3;have hq:=s3 _ _ hq;have hend:=(hin _ hm).2;have hR':=hR _ (Same.refl _);show (_:TT) (some (V.str n)::some (V.ref q)::[some (.str z)]) H3 R;rcases hend with hend|⟨y,hend,hy⟩
   ·have hde:e= .non:=hend;subst hde;rw[show decide (((n,st,V.non,lt):aH).2.2.1= .str z)=false from decide_eq_false fun z=>nomatch z]at hR';walk_at"go";exact hR'
   ·have hde:e= .str y:=hend;subst hde;rw[show decide (((n,st,V.str y,lt):aH).2.2.1= .str z)=decide (y=z) by
     by_cases h:y=z
     ·rw[decide_eq_true h];exact decide_eq_true (by rw[h])
     ·rw[decide_eq_false h];exact decide_eq_false fun x=>h (V.str.inj x)]at hR'
    walk_at"go";exact hR'
  ·rintro ⟨kk,v⟩ ⟨n,st,e,lt⟩ H3 ⟨h1,h2⟩ hm - s3 R hR;cases h1;show (_:TE) (some (V.str n)::some v::[some (.str z)]) H3 R;walk_at"go";exact hR _ _ rfl (Same.refl _)
  intro ys H3 s3 hys;have ey:=iH hys;walk_at"go";rename_i p H4 n4 S4 e4;refine kB (S4 _ _ (s3 _ _ e32)) fun H5 B5 e5=> ?_;have hpq:p≠qd:=fun z=>by rw[z,s3 _ _ e32]at n4;cases n4
  have hn:H p=none:=by
   cases hq:H p with
   | none=>rfl
   | some u =>
    have:=s3 _ _ (B2 _ _ (S1 _ _ hq) hpq);rw[n4]at this;cases this
  walk_at"go";refine k p H5 hn (mY e6 (fun x u hx hxa=>B2 _ _ (S1 _ _ hx) hxa) (Same.but (s3.trans S4)) B5 e5) ?_;have:=B5 _ _ e4 hpq;rw[this,ey];unfold wP;rw[List.map_map];rfl
theorem vR (m:M K mg):Mc P w K mg base m.aF "into" 3 (tZ m.aF (aN P w K mg base (some 1)) wP):=⟨_,_,_,m.aL.ic.cl,m.mB,m.oF,vT m⟩
def lF (f l:Int)(d:aH)(t:Int):Int:=if f<=t/\t<l then d.2.2.2 t else 0
def qI (C:Addr)(D:aZ):Sp:=fun vs H Q _=>∃(h:Addr) (d:aH) (t f l:Int) (rz ps:List (Str×Int)) (ds:List aH),vs=[.ref h,.str d.1,.int t]/\aT C D H h f l rz ps ds/\(ds.map (·.1)).Nodup/\d∈ds/\0<=f/\∀H',Same H H'->Q (.int (lF f l d t)) H'
theorem K9 {C:Addr}{D:aZ}{H:Hp}{Q:VK}{E:XK}{h:Addr}{d:aH}{t f l:Int}{rz ps:List (Str×Int)}{ds:List aH} (hh:aT C D H h f l rz ps ds) (nd:(ds.map (·.1)).Nodup) (hd:d∈ds) (hf:0<=f) (k:∀H',Same H H'->Q (.int (lF f l d t)) H'):qI C D [.ref h,.str d.1,.int t] H Q E:=⟨_,_,_,_,_,_,_,_,rfl,hh,nd,hd,hf,k⟩
theorem vZ (m:M K mg):aY P w K mg base CX0 3 m.gE m.gD ["self","name","turn"] (qI m.aF (aN P w K mg base (some 1))):=by
 refine m.nZ.ok sc_House_lets (fun vs H Q E h=> ?_) (fun cdv A outer s H vs Q E hr h=> ?_)
 ·obtain⟨h,d,t,f,l,rz,ps,ds,rfl,hh,ndd,hd,hf,k⟩:=h;rfl
 ·obtain⟨h,d,t,f,l,rz,ps,ds,rfl,hh,ndd,hd,hf,k⟩:=h;have nd:=sc_House_lets.nd;walk_at"hu";have w_dc_House:=m.aL;have w_mc_House_door:= @lX P w K mg base m;refine⟨_,(aC (bD (i:=3) nd rfl (by walk_at"oi") (lO 1 hr (pv 0) (aA (pv 1) aD)))
   (aC (bY (PW.pt (A8 (bF lK (pv 2) (bI (pv 0) rfl) (bB _)) (yH (bF HK (pv 2) (bI (pv 0) rfl) (bB _))))) (aE (bA aJ)) bG)
   (aE (bA (lO 1 hr (pv 3) (aA (pv 2) aD)))))),?_⟩
  refine aI (σ:=[some (.ref h),some (.str d.1),some (.int t),none]) rfl ?_;obtain⟨dx,qs,qp,qd,nk,kvs,e1,_⟩:=hh.ex;obtain⟨n,st,e,lt⟩:=d;walk_at"go";refine EV (d:=(n,st,e,lt)) hh ndd hd fun v hv=> ?_;obtain⟨q2,C2,dx2,fs2,fp2,rfl,hq2,dcC,l1,l2,l3,l4,l5,mcE,hfp,hlt⟩:=DoorAt.ex hv;obtain⟨sp,mcL,hsp⟩:=hlt _ rfl;walk_at"go";refine fQ (fun hc=> ?_) (fun hc=> ?_)
  ·have hk:lF f l (n,st,e,lt) t=0:=by unfold lF;rw[if_neg (by lia)]
   rw[hk]at k;walk_at"go";exact k _ (Same.refl _)
  ·walk_at"go";refine fQ (fun hc2=> ?_) (fun hc2=> ?_)
   ·have hk:lF f l (n,st,e,lt) t=0:=by unfold lF;rw[if_neg (by lia)]
    rw[hk]at k;walk_at"go";exact k _ (Same.refl _)
   ·have hk:lF f l (n,st,e,lt) t=lt t:=by unfold lF;rw[if_pos (by lia)]
    rw[hk]at k;walk_at"go";exact hsp _ _ _ hq2 (fun x hx=>(hfp x hx).1) (by lia) k
theorem v9 (m:M K mg):Mc P w K mg base m.aF "lets" 3 (qI m.aF (aN P w K mg base (some 1))):=⟨_,_,_,m.aL.ic.cl,m.l9,m.nY,vZ m⟩
theorem nF (m:M K mg):aY P w K mg base CX0 1 m.eG m.eB ["self","name"] (spX K m.aQ "name"):=by
 refine m.pD.ok sc_NoRoom___init__ (fun vs H Q E h=> ?_) (fun cdv A outer s H vs Q E hr h=> ?_)
 ·obtain⟨e,y,fv,rfl,he,xf,na,k⟩:=h;rfl
 ·obtain⟨e,y,fv,rfl,he,xf,na,k⟩:=h;have nd:=sc_NoRoom___init__.nd;walk_at"hu";refine⟨_,(aE (zZ (pv 0) (pv 1) rfl)),?_⟩;refine aI (σ:=[some (.ref e),some (y)]) rfl ?_;refine AF rfl rfl he xf na fun dx n1 n2=> ?_;exact k dx n1 n2
theorem CY (m:M K mg):XcE P w K mg base "NoRoom" m.aQ "name" :=⟨_,_,_,m.yR,m.E3,m.oG,m.vP,m.pI,nF m⟩
theorem mF (m:M K mg):aY P w K mg base CX0 1 m.d5 m.d6 ["self","name"] (spX K m.aV "name"):=by
 refine m.nS.ok sc_Unknown___init__ (fun vs H Q E h=> ?_) (fun cdv A outer s H vs Q E hr h=> ?_)
 ·obtain⟨e,y,fv,rfl,he,xf,na,k⟩:=h;rfl
 ·obtain⟨e,y,fv,rfl,he,xf,na,k⟩:=h;have nd:=sc_Unknown___init__.nd;walk_at"hu";refine⟨_,(aE (zZ (pv 0) (pv 1) rfl)),?_⟩;refine aI (σ:=[some (.ref e),some (y)]) rfl ?_;refine AF rfl rfl he xf na fun dx n1 n2=> ?_;exact k dx n1 n2
theorem BA (m:M K mg):XcE P w K mg base "Unknown" m.aV "name" :=⟨_,_,_,m.vO,m.CI,m.lW,m.sY,m.nW,mF m⟩
def Refd (C:Addr)(z:Str)(H:Hp)(E:XK):Prop:=∀H' dx,Same H H'->H' dx=some (.xd [("name",.str z)])->E (.ref C) (some dx) H'
theorem Refd.sm {C:Addr}{z:Str}{H H1:Hp}{E:XK} (x:Refd C z H E) (s:Same H H1):Refd C z H1 E:=fun H2 dx s2 e=>x H2 dx (s.trans s2) e
theorem Refd.go {C:Addr}{z:Str}{H H1:Hp}{E:XK} (x:Refd C z H E) (s:Same H H1) (dx:Addr) (n:H1 dx=none):E (.ref C) (some dx) (upd H1 dx (.xd [("name",.str z)])):=x _ _ (s.trans fun b o e=>by rw[aG (aO e n)];exact e) aR
def mZ (K:W.Frag)(C:Addr):Sp:=fun vs H _ E=>∃(a b:Addr) (z:Str) (kvs:List (Key×V)),vs=[.ref a,.ref b]/\SqL K H a [.str z]/\Rd H b (.dK kvs)/\(bJ kvs (.inr z)).isSome=false/\Refd C z H E
theorem GN {H:Hp}{Q:VK}{E:XK}{C a b:Addr}{z:Str}{kvs:List (Key×V)} (hS:SqL K H a [.str z]) (hb:Rd H b (.dK kvs)) (hz:(bJ kvs (.inr z)).isSome=false) (h:Refd C z H E):mZ K C [.ref a,.ref b] H Q E:=⟨_,_,_,_,rfl,hS,hb,hz,h⟩
theorem tN (m:M K mg):aY P w K mg base (CXE P w) 4 m.fY m.gJ ["names","sizes"] (mZ K m.aQ):=by
 refine m.cC.okE sc_need_rooms (fun vs H Q E h=> ?_) (fun cdv A outer s H vs Q E hr h=> ?_)
 ·obtain⟨a,b,z,kvs,rfl,hS,hb,hz,k⟩:=h;rfl
 ·obtain⟨a,b,z,kvs,rfl,hS,hb,hz,k⟩:=h;have nd:=sc_need_rooms.nd;walk_at"hu";have X_NoRoom:=CY (P:=P) (w:=w) (base:=base) m;refine⟨_,(aE (d4 KJ rfl (c3 (pv 0)) (aW (i:=2) nd rfl (by walk_at"oi")) (aE (bY (m9 (j9 hu1 (pv 2) (pv 1)) (by with_unfolding_all rfl)) (aE (vL X_NoRoom hr C1 (pv 2) rfl)) bG)))),?_⟩;refine aI (σ:=[some (.ref a),some (.ref b),none]) rfl ?_;walk_at"go";refine jJ [.str z] (fun i σ' H'=>i=0/\Same H H'/\σ'=[some (.ref a),some (.ref b),none]) ⟨rfl,Same.refl _,rfl⟩ (fun i σ' H' _ q=>q.2.1.seq hS) ?_ ?_
  ·rintro i x _ H' hx ⟨rfl,s1,rfl⟩;cases hx;walk_at"go";refine i9 (AI s1 hb) ?_;rw[hz];walk_at"go";refine u7 ?_;walk_at"go";exact k.go s1
  ·rintro _ H' ⟨h0,_⟩;cases h0
theorem t9 (m:M K mg):FcE P w K mg base "need_rooms" 4 ["names","sizes"] (mZ K m.aQ):=⟨_,_,m.oE,m.cC.kp,m.nQ,tN m⟩
def fM (C:Addr)(D:aZ)(N:Addr):Sp:=fun vs H _ E=>∃(h:Addr) (z:Str) (f l:Int) (rz ps:List (Str×Int)) (ds:List aH),vs=[.ref h,.str z]/\aT C D H h f l rz ps ds/\z∉rz.map (·.1)/\Refd N z H E
theorem mL {C N:Addr}{D:aZ}{H:Hp}{Q:VK}{E:XK}{h:Addr}{z:Str}{f l:Int}{rz ps:List (Str×Int)}{ds:List aH} (hh:aT C D H h f l rz ps ds) (hz:z∉rz.map (·.1)) (k:Refd N z H E):fM C D N [.ref h,.str z] H Q E:=⟨_,_,_,_,_,_,_,rfl,hh,hz,k⟩
theorem BD {rz:List (Str×Int)}{z:Str} (hz:z∉rz.map (·.1)):(bJ (szK rz) (.inr z)).isSome=false:=by
 rw[iB];rfl;intro e he q;unfold szK at he;obtain⟨x,hx,rfl⟩:=List.mem_map.mp he;exact hz (List.mem_map.mpr ⟨x,hx,Sum.inr.inj q⟩)
theorem mJ (m:M K mg):aY P w K mg base (CXE P w) 5 m.dF m.dD ["self","room"] (fM m.aF (aN P w K mg base (some 1)) m.aQ):=by
 refine m.iX.okE sc_House_need_room (fun vs H Q E h=> ?_) (fun cdv A outer s H vs Q E hr h=> ?_)
 ·obtain⟨h,z,f,l,rz,ps,ds,rfl,hh,hz,k⟩:=h;rfl
 ·obtain⟨h,z,f,l,rz,ps,ds,rfl,hh,hz,k⟩:=h;have nd:=sc_House_need_room.nd;walk_at"hu";have Fx_need_rooms:=t9 (P:=P) (w:=w) (base:=base) m;have w_dc_House:=m.aL;refine⟨_,(aE (bM (QC Fx_need_rooms hr oT (aA (cP (aA (pv 1) aD)) (aA (bI (pv 0) rfl) aD))))),?_⟩;refine aI (σ:=[some (.ref h),some (.str z)]) rfl ?_;obtain⟨dx,qs,qp,qd,nk,kvs,e1,e2,e3,e4,e5,e6,e7⟩:=hh.ex;walk_at"go";rename_i p H1 n1 S1 e8;exact GN (SqL.of e8) (.inl (S1 _ _ e2)) (BD hz) (k.sm S1)
theorem cY (m:M K mg):McE P w K mg base m.aF "need_room" 5 (fM m.aF (aN P w K mg base (some 1)) m.aQ):=⟨_,_,_,m.aL.ic.cl,m.iL,m.iY,mJ m⟩
local macro_rules| `(tactic| walk_at"rd1")=> `(tactic| first|(with_reducible refine OE ?_)|((with_reducible refine' LK ?e ?l ?F ?_);(case e=>walk_at"hp");(case l=>walk_at"lk");(case F=>assumption)))
theorem sL (m:M K mg):aY P w K mg base (CXE P w) 6 m.eT m.eU ["self","room"] (fM m.aF (aN P w K mg base (some 1)) m.aQ):=by
 refine m.l8.okE sc_House_holds (fun vs H Q E h=> ?_) (fun cdv A outer s H vs Q E hr h=> ?_)
 ·obtain⟨h,z,f,l,rz,ps,ds,rfl,hh,hz,k⟩:=h;rfl
 ·obtain⟨h,z,f,l,rz,ps,ds,rfl,hh,hz,k⟩:=h;have nd:=sc_House_holds.nd;walk_at"hu";have w_dc_House:=m.aL;have w_mcx_House_need_room:=cY (P:=P) (w:=w) (base:=base) m;refine⟨_,(aC (bM (m6 5 hr oT (pv 0) (aA (pv 1) aD)))
   (aE (bA (fD hu1 (bI (pv 0) rfl) (pv 1) (fun _ _=>rfl))))),?_⟩
  refine aI (σ:=[some (.ref h),some (.str z)]) rfl ?_;obtain⟨dx,qs,qp,qd,nk,kvs,e1,e2,e3,e4,e5,e6,e7⟩:=hh.ex;walk_at"go";exact mL hh hz k
theorem rW (m:M K mg):McE P w K mg base m.aF "holds" 6 (fM m.aF (aN P w K mg base (some 1)) m.aQ):=⟨_,_,_,m.aL.ic.cl,m.lB,m.mE,sL m⟩
theorem rY (m:M K mg):aY P w K mg base (CXE P w) 6 m.eV m.eR ["self","room"] (fM m.aF (aN P w K mg base (some 1)) m.aQ):=by
 refine m.l7.okE sc_House_found (fun vs H Q E h=> ?_) (fun cdv A outer s H vs Q E hr h=> ?_)
 ·obtain⟨h,z,f,l,rz,ps,ds,rfl,hh,hz,k⟩:=h;rfl
 ·obtain⟨h,z,f,l,rz,ps,ds,rfl,hh,hz,k⟩:=h;have nd:=sc_House_found.nd;walk_at"hu";have w_dc_House:=m.aL;have w_mcx_House_need_room:=cY (P:=P) (w:=w) (base:=base) m;refine⟨_,(aC (bM (m6 5 hr oT (pv 0) (aA (pv 1) aD)))
   (aE (bA (fD hu1 (bI (pv 0) rfl) (pv 1) (fun _ _=>rfl))))),?_⟩
  refine aI (σ:=[some (.ref h),some (.str z)]) rfl ?_;obtain⟨dx,qs,qp,qd,nk,kvs,e1,e2,e3,e4,e5,e6,e7⟩:=hh.ex;walk_at"go";exact mL hh hz k
theorem rM (m:M K mg):McE P w K mg base m.aF "found" 6 (fM m.aF (aN P w K mg base (some 1)) m.aQ):=⟨_,_,_,m.aL.ic.cl,m.lD,m.mD,rY m⟩
theorem uA (m:M K mg):aY P w K mg base (CXE P w) 6 m.fX m.fW ["self","room"] (fM m.aF (aN P w K mg base (some 1)) m.aQ):=by
 refine m.nR.okE sc_House_into (fun vs H Q E h=> ?_) (fun cdv A outer s H vs Q E hr h=> ?_)
 ·obtain⟨h,z,f,l,rz,ps,ds,rfl,hh,hz,k⟩:=h;rfl
 ·obtain⟨h,z,f,l,rz,ps,ds,rfl,hh,hz,k⟩:=h;have nd:=sc_House_into.nd;walk_at"hu";have w_dc_House:=m.aL;have w_mcx_House_need_room:=cY (P:=P) (w:=w) (base:=base) m;refine⟨_,(aC (bM (m6 5 hr oT (pv 0) (aA (pv 1) aD)))
   (aE (bA (kU (dN (N:=["name","door","room"]) (nl:=2) (ci:=[1]) rfl (blk (s.heap.objs.size+1) rfl rfl rfl (by kernel_rfl)) (nJ (bI (pv 0) rfl)) (fun _ _ _ _=>(jF (K:=K) (n:=2) rfl (bT (aW (i:=0) (show (["name","door","room"]:List Str).Nodup by decide +kernel) rfl (by walk_at"oi")) (bT (aW (i:=1) (show (["name","door","room"]:List Str).Nodup by decide +kernel) rfl (by walk_at"oi")) fB)))) (fun _ _ _ _=>(xH (bF dB (jI (K:=K) (pv 1) rfl) (pv 2) (bB _)))) (fun _ _ _ _=>(pv 0))))))),?_⟩
  refine aI (σ:=[some (.ref h),some (.str z)]) rfl ?_;obtain⟨dx,qs,qp,qd,nk,kvs,e1,e2,e3,e4,e5,e6,e7⟩:=hh.ex;walk_at"go";exact mL hh hz k
theorem t8 (m:M K mg):McE P w K mg base m.aF "into" 6 (fM m.aF (aN P w K mg base (some 1)) m.aQ):=⟨_,_,_,m.aL.ic.cl,m.mB,m.oF,uA m⟩
theorem mH (m:M K mg):aY P w K mg base (CXE P w) 6 m.eF m.eI ["self","room"] (fM m.aF (aN P w K mg base (some 1)) m.aQ):=by
 refine m.pJ.okE sc_House_from_room (fun vs H Q E h=> ?_) (fun cdv A outer s H vs Q E hr h=> ?_)
 ·obtain⟨h,z,f,l,rz,ps,ds,rfl,hh,hz,k⟩:=h;rfl
 ·obtain⟨h,z,f,l,rz,ps,ds,rfl,hh,hz,k⟩:=h;have nd:=sc_House_from_room.nd;walk_at"hu";have w_dc_House:=m.aL;have w_mcx_House_need_room:=cY (P:=P) (w:=w) (base:=base) m;refine⟨_,(aC (bM (m6 5 hr oT (pv 0) (aA (pv 1) aD)))
   (aE (bA (kU (dN (N:=["name","door","room"]) (nl:=2) (ci:=[1]) rfl (blk (s.heap.objs.size+1) rfl rfl rfl (by kernel_rfl)) (nJ (bI (pv 0) rfl)) (fun _ _ _ _=>(jF (K:=K) (n:=2) rfl (bT (aW (i:=0) (show (["name","door","room"]:List Str).Nodup by decide +kernel) rfl (by walk_at"oi")) (bT (aW (i:=1) (show (["name","door","room"]:List Str).Nodup by decide +kernel) rfl (by walk_at"oi")) fB)))) (fun _ _ _ _=>(xH (bF dB (jI (K:=K) (pv 1) rfl) (pv 2) (bB _)))) (fun _ _ _ _=>(pv 0))))))),?_⟩
  refine aI (σ:=[some (.ref h),some (.str z)]) rfl ?_;obtain⟨dx,qs,qp,qd,nk,kvs,e1,e2,e3,e4,e5,e6,e7⟩:=hh.ex;walk_at"go";exact mL hh hz k
theorem mG (m:M K mg):McE P w K mg base m.aF "from_room" 6 (fM m.aF (aN P w K mg base (some 1)) m.aQ):=⟨_,_,_,m.aL.ic.cl,m.nX,m.o9,mH m⟩
def BH (C:Addr)(D:aZ)(N:Addr):Sp:=fun vs H _ E=>∃(h:Addr) (z:Str) (f l:Int) (rz ps:List (Str×Int)) (ds:List aH),vs=[.ref h,.str z]/\aT C D H h f l rz ps ds/\z∉ds.map (·.1)/\Refd N z H E
theorem NF {C N:Addr}{D:aZ}{H:Hp}{Q:VK}{E:XK}{h:Addr}{z:Str}{f l:Int}{rz ps:List (Str×Int)}{ds:List aH} (hh:aT C D H h f l rz ps ds) (hz:z∉ds.map (·.1)) (k:Refd N z H E):BH C D N [.ref h,.str z] H Q E:=⟨_,_,_,_,_,_,_,rfl,hh,hz,k⟩
theorem BO {D:aZ}{H:Hp}{nk:List (Key×V)}{ds:List aH}{z:Str} (h:i7 D H nk ds) (hz:z∉ds.map (·.1)):(bJ nk (.inr z)).isSome=false:=by
 rw[iB];rfl;intro e he q;have:e.1∈nk.map (·.1):=List.mem_map.mpr ⟨e,he,rfl⟩;rw[lI h,q]at this;obtain⟨x,hx,e⟩:=List.mem_map.mp this;cases e;exact hz hx
theorem uB (m:M K mg):aY P w K mg base (CXE P w) 4 m.gF m.gI ["self","name"] (BH m.aF (aN P w K mg base (some 1)) m.aV):=by
 refine m.nO.okE sc_House_door (fun vs H Q E h=> ?_) (fun cdv A outer s H vs Q E hr h=> ?_)
 ·obtain⟨h,z,f,l,rz,ps,ds,rfl,hh,hz,k⟩:=h;rfl
 ·obtain⟨h,z,f,l,rz,ps,ds,rfl,hh,hz,k⟩:=h;have nd:=sc_House_door.nd;walk_at"hu";have X_Unknown:=BA (P:=P) (w:=w) (base:=base) m;have w_dc_House:=m.aL;refine⟨_,(aC (bY (m9 (j9 hu1 (pv 1) (bI (pv 0) rfl)) (by with_unfolding_all rfl)) (aE (vL X_Unknown hr C1 (pv 1) rfl)) bG)
   (aE (bA (fD hu1 (bI (pv 0) rfl) (pv 1) (fun _ _=>rfl))))),?_⟩
  refine aI (σ:=[some (.ref h),some (.str z)]) rfl ?_;obtain⟨dx,qs,qp,qd,nk,kvs,e1,e2,e3,e4,e5,e6,e7⟩:=hh.ex;walk_at"go";refine i9 (.inl e6) ?_;rw[BO e7 hz];walk_at"go";refine u7 ?_;walk_at"go";exact k.go (Same.refl _)
theorem kX (m:M K mg):McE P w K mg base m.aF "door" 4 (BH m.aF (aN P w K mg base (some 1)) m.aV):=⟨_,_,_,m.aL.ic.cl,m.l6,m.nP,uB m⟩
def B7 (C:Addr)(D:aZ)(N:Addr):Sp:=fun vs H _ E=>∃(h:Addr) (z:Str) (t f l:Int) (rz ps:List (Str×Int)) (ds:List aH),vs=[.ref h,.str z,.int t]/\aT C D H h f l rz ps ds/\z∉ds.map (·.1)/\Refd N z H E
theorem QW {C N:Addr}{D:aZ}{H:Hp}{Q:VK}{E:XK}{h:Addr}{z:Str}{t f l:Int}{rz ps:List (Str×Int)}{ds:List aH} (hh:aT C D H h f l rz ps ds) (hz:z∉ds.map (·.1)) (k:Refd N z H E):B7 C D N [.ref h,.str z,.int t] H Q E:=⟨_,_,_,_,_,_,_,_,rfl,hh,hz,k⟩
theorem tW (m:M K mg):aY P w K mg base (CXE P w) 5 m.gE m.gD ["self","name","turn"] (B7 m.aF (aN P w K mg base (some 1)) m.aV):=by
 refine m.nZ.okE sc_House_lets (fun vs H Q E h=> ?_) (fun cdv A outer s H vs Q E hr h=> ?_)
 ·obtain⟨h,z,t,f,l,rz,ps,ds,rfl,hh,hz,k⟩:=h;rfl
 ·obtain⟨h,z,t,f,l,rz,ps,ds,rfl,hh,hz,k⟩:=h;have nd:=sc_House_lets.nd;walk_at"hu";have w_dc_House:=m.aL;have w_mcx_House_door:=kX (P:=P) (w:=w) (base:=base) m;refine⟨_,(aC (bD (i:=3) nd rfl (by walk_at"oi") (m6 4 hr oT (pv 0) (aA (pv 1) aD)))
   (aC (bY (PW.pt (A8 (bF lK (pv 2) (bI (pv 0) rfl) (bB _)) (yH (bF HK (pv 2) (bI (pv 0) rfl) (bB _))))) (aE (bA aJ)) bG)
   (aE (bA (lO 1 hr (pv 3) (aA (pv 2) aD)))))),?_⟩
  refine aI (σ:=[some (.ref h),some (.str z),some (.int t),none]) rfl ?_;obtain⟨dx,qs,qp,qd,nk,kvs,e1,e2,e3,e4,e5,e6,e7⟩:=hh.ex;walk_at"go";exact NF hh hz k
theorem uC (m:M K mg):McE P w K mg base m.aF "lets" 5 (B7 m.aF (aN P w K mg base (some 1)) m.aV):=⟨_,_,_,m.aL.ic.cl,m.l9,m.nY,tW m⟩
def lJ (ns:List Int)(k:Int):Int:=ns.getD k.toNat 0
def tM (K:W.Frag):Sp:=fun vs H Q _=>∃(a:Addr) (ns:List Int) (k:Int),vs=[.ref a,.int k]/\SqL K H a (ns.map V.int)/\0<=k/\Q (.int (lJ ns k)) H
theorem OZ {H:Hp}{Q:VK}{E:XK}{a:Addr}{ns:List Int}{i:Int} (hS:SqL K H a (ns.map V.int)) (hi:0<=i) (h:Q (.int (lJ ns i)) H):tM K [.ref a,.int i] H Q E:=⟨_,_,_,rfl,hS,hi,h⟩
theorem rV (m:M K mg):aY P w K mg base CX0 1 m.gZ m.gU ["_law_script","_law_k"] (tM K):=by
 refine m.eA.ok sc__law_cell_at (fun vs H Q E h=> ?_) (fun cdv A outer s H vs Q E hr h=> ?_)
 ·obtain⟨a,ns,i,rfl,hS,hi,k⟩:=h;rfl
 ·obtain⟨a,ns,i,rfl,hS,hi,k⟩:=h;have nd:=sc__law_cell_at.nd;walk_at"hu";refine⟨_,(aC (bY (bF lK (pv 1) (bN iF rfl m.oZ kY (aA (pv 0) aD)) (bB _)) (aE (bA (d7 fC (pv 0) (pv 1) (fun _ _=>rfl)))) bG)
   (aE (bA aJ))),?_⟩
  refine aI (σ:=[some (.ref a),some (.int i)]) rfl ?_;walk_at"go";rw[List.length_map];refine fQ (fun h1=> ?_) (fun h1=> ?_)
  ·have hlt:i.toNat<ns.length:=by lia
   have e:=oO (xs:=ns.map V.int) (j:=i.toNat) (v:= .int (lJ ns i)) (by
    rw[List.getElem?_map,List.getElem?_eq_getElem hlt];unfold lJ;rw[List.getD_eq_getElem?_getD,List.getElem?_eq_getElem hlt];rfl)
   rw[show ((i.toNat:Nat):Int)=i by lia]at e;exact⟨_,rfl,_,rfl,a,_,i,_,rfl,rfl,hS,e,k⟩
  ·have e:lJ ns i=0:=by
    unfold lJ;rw[List.getD_eq_getElem?_getD,List.getElem?_eq_none (by lia)];rfl
   rw[e]at k;exact k
theorem rP (m:M K mg):Fc P w K mg base "_law_cell_at" 1 ["_law_script","_law_k"] (tM K):=⟨_,_,m.uQ,m.eA.kp,m.uW,rV m⟩
local macro_rules| `(tactic| walk_at"rd1")=> `(tactic| first|(with_reducible refine r_lwhole ?_)|((with_reducible refine' OZ ?e ?s ?_);(case e=>walk_at"hp");(case s=>walk_at"sd"))|((with_reducible refine r_drawn ?_);intro n' h0' h1'))
theorem C3 {x:Str}{b n:Nat} (hx:x.cps.toList=List.range' b n) {i:Int} (h0:0<=i) (h1:i<n):atI x.cps.toList i=some (b+i.toNat):=by
 have e:=oO (xs:=x.cps.toList) (j:=i.toNat) (v:=b+i.toNat) (by rw[hx,List.getElem?_range' (by lia)];simp);rw[show ((i.toNat:Nat):Int)=i by lia]at e;exact e
theorem MA {x:Str}{b n:Nat} (hx:x.cps.toList=List.range' b n) (hl:fN x=true) {i:Nat} (h1:i<n):fN ⟨#[b+i]⟩=true:=by
 refine FB hl ?_;rw[hx,List.mem_range'_1]
 lia
theorem lL {α β γ:Type}{F:α->γ->Prop} (g:β->γ):∀{l:List β}{m:List α},Paired (fun x y=>F y (g x)) l m->Paired F m (l.map g)
 | _,_,.nil=> .nil
 | _,_,.cons r t=> .cons r (lL g t)
theorem MR {H:Hp}{Q:VK}{p:Addr}{xs:List V}{j:Nat}{v:V} (e:SqL K H p xs) (hx:xs[j]? =some v) (h:Q v H):GT K (.ref p) (.int (j:Int)) H Q:=⟨p,xs,_,v,rfl,rfl,e,oO hx,h⟩
theorem JH {H:Hp}{p dx:Addr}{n st:Str}{e:V}{wd:Int} (m:M K mg) (h:H p=some (.ins m.eP dx (sR (.str n) (.str st) e (.int wd)))):(aN P w K mg base (some 1)).at' H (.ref p) (n,st,e,fun _=>wd) :=
 ⟨p,_,dx,_,[],rfl,h,m.lA,by walk_at"lk",by walk_at"lk",by walk_at"lk",by walk_at"lk",by walk_at"lk",sT m,(fun _ z=>nomatch z),fun kl hk=>by
  cases hk;exact⟨_,wX m,fun H' t Q hp _ ht k=>zA hp m.lA (by walk_at"lk") (k _ (Same.refl _))⟩⟩
theorem qH:("abcdefghijklmnopqrstuvwxyz" :Str).cps.toList=List.range' 97 26:=by decide +kernel
theorem KK:fN "abcdefghijklmnopqrstuvwxyz" =true:=by decide +kernel
theorem KI:("abcdefghijklmnopqrstuvwxyz" :Str).length=26:=by rw[bE];decide
theorem BG:("r" :Str)=⟨#[114]⟩:=by apply zW;decide +kernel
theorem GE (n:Nat):fN (dR ("r" :Str) n)=true:=by
 unfold fN;rw[BG,yM,List.all_eq_true];intro c hc;rw[List.eq_of_mem_replicate hc];decide
def rnF (n j:Nat):Str:=dR ("r" :Str) n++⟨#[97+j]⟩
theorem t3 (n j:Nat):(rnF n j).length=n+1:=by
 unfold rnF;rw[hV,BG,mR];rfl
theorem EF {n j:Nat}(h0:n<6)(h1:j<26):b1 (rnF n j)=true:=by
 have hl:=t3 n j;exact FE (by lia) (by lia) (GI (GE _) (MA qH KK h1))
theorem JO {n i j:Nat}(h:rnF n i=rnF n j):i=j:=by
 have h':=congrArg (fun z:Str=>z.cps.toList) h;unfold rnF at h';simp only[kD]at h';have:=List.append_cancel_left h';have:97+i=97+j:=by simpa using this
 lia
theorem AA {n j:Nat}(hj:j<25):("zzz" :Str)≠rnF n j:=fun h=>by
 have h':=congrArg (fun z:Str=>z.cps.toList) h;unfold rnF at h';simp only[kD]at h';have e:("zzz" :Str).cps.toList=[122,122]++[122]:=by decide +kernel
 rw[e]at h';have:=List.append_inj_right' h' rfl;have:122=97+j:=by simpa using this
 lia
theorem x0 (n b c:Nat):((List.range c).map fun i:Nat=>rnF n (b+i)).Nodup:=by
 rw[List.Nodup,List.pairwise_map];refine List.Pairwise.imp ?_ (List.nodup_range (n:=c));intro i j hne z;have:=JO z
 lia
structure rX (rz:List (Str×Int))(ds:List aH)(f l:Int):Prop where
 nr:(rz.map (·.1)).Nodup
 nd:(ds.map (·.1)).Nodup
 hin:∀d∈ds,fG (rz.map (·.1)) d
 lr:rz.length<=4
 ld:ds.length<=4
 f0:0<=f
 fl:l=f+4
 f3:f<100000000000
 sr:∀z∈rz.map (·.1),z.length<=8
 sd:∀z∈ds.map (·.1),z.length<=8
 zr:("zzz" :Str)∉rz.map (·.1)
 zd:("zzz" :Str)∉ds.map (·.1)
def qS (K:W.Frag)(C:Addr)(D:aZ):Sp:=fun vs H Q _=>∃(a:Addr) (ns:List Int),vs=[.ref a]/\SqL K H a (ns.map V.int)/\∀h f l rz ps ds H',Same H H'->aT C D H' h f l rz ps ds->rX rz ds f l->Q (.ref h) H'
theorem LJ {C:Addr}{D:aZ}{H:Hp}{Q:VK}{E:XK}{a:Addr}{ns:List Int} (hS:SqL K H a (ns.map V.int)) (k:∀h f l rz ps ds H',Same H H'->aT C D H' h f l rz ps ds->rX rz ds f l->Q (.ref h) H'):qS K C D [.ref a] H Q E:=⟨_,_,rfl,hS,k⟩
theorem yL (m:M K mg):aY P w K mg base CX0 7 m.kJ m.kF ["_law_script"] (qS K m.aF (aN P w K mg base (some 1))):=by
 refine m.iA.ok sc__law_made (fun vs H Q E h=> ?_) (fun cdv A outer s H vs Q E hr h=> ?_)
 ·obtain⟨a,ns,rfl,hS,k⟩:=h;rfl
 ·obtain⟨a,ns,rfl,hS,k⟩:=h;have nd:=sc__law_made.nd;walk_at"hu";have eA:= @rP P w K mg base m;have K_Door_0:= @EZ P w K mg base m;have K_House_0:= @BX P w K mg base m;have w_dc_Door:=m.lA;have w_dc_House:=m.aL;refine⟨_,(aC (bD (i:=1) nd rfl (by walk_at"oi") (cZ eA hr (aA (pv 0) (aA aJ aD))))
   (aC (bD (i:=2) nd rfl (by walk_at"oi") bL)
   (aC (bD (i:=3) nd rfl (by walk_at"oi") (a9 LR bL (a9 c4 (a9 dO (pv 1) aJ) aJ)))
   (aC (lN (i:=4) nd rfl (by walk_at"oi") (N:=["_law_k","_law_stem","_law_some"]) (nl:=1) (ci:=[3,2]) rfl (blk (s.heap.objs.size+1) rfl rfl rfl (by kernel_rfl)) (nC rfl m.o0 (aA (a9 iE aJ (a9 c4 (pv 1) aJ)) aD)) (fun _ _ _ _=>(aW (i:=0) (show (["_law_k","_law_stem","_law_some"]:List Str).Nodup by decide +kernel) rfl (by walk_at"oi"))) (fun _ _ _ _=>eN) (fun _ _ _ _=>(mU (aA (a9 kS (pv 1) (d7 CQ (pv 2) (pv 0) (fun _ _=>rfl))) (aA (a9 iE aJ (pv 0)) aD)))))
   (aC (bD (i:=5) nd rfl (by walk_at"oi") (cP aD))
   (aC (d4 PassesOwn.never rfl (nC rfl m.o0 (aA (a9 c4 (a9 dO (pv 1) aJ) aJ) aD)) (aW (i:=6) nd rfl (by walk_at"oi")) (aC (bD (i:=7) nd rfl (by walk_at"oi") (d7 fC (cP (aA sJ (aA (d7 yF (d7 fC (pv 4) (a9 c4 (pv 6) (bN iF rfl m.oZ kY (aA (pv 4) aD))) (fun _ _=>rfl)) aJ (fun _ _=>rfl)) aD))) (a9 c4 (a9 dO (pv 1) (a9 iE (pv 6) aJ)) aJ) (fun _ _=>rfl)))
   (aE (bM (wR PySem.F.plainAttrs_list PySem.F.slot_list_append PySem.F.type_list_append j7 (pv 5) (aA (IG K_Door_0 hr (aA (a9 kS (pv 3) (d7 CQ (pv 2) (a9 iE aJ (pv 6)) (fun _ _=>rfl))) (aA (d7 yF (d7 fC (pv 4) (a9 c4 (a9 dO (pv 1) (a9 iE (pv 6) aJ)) (bN iF rfl m.oZ kY (aA (pv 4) aD))) (fun _ _=>rfl)) aJ (fun _ _=>rfl)) (aA (pv 7) (aA (pv 6) aD))))) aD))))))
   (aC (bD (i:=8) nd rfl (by walk_at"oi") aJ)
   (aC (bY (bF dB (a9 c4 (a9 dO (pv 1) aJ) aJ) aJ (bB _)) (aE (bD (i:=8) nd rfl (by walk_at"oi") (a9 c4 (a9 dO (pv 1) aJ) (JB 100000000000 (by decide) ⟨by decide,by decide,by decide⟩)))) bG)
   (aE (bA (IG K_House_0 hr (aA (pv 4) (aA (pv 5) (aA (cP (aA (mU (aA (d7 yF (d7 fC (pv 4) aJ (fun _ _=>rfl)) aJ (fun _ _=>rfl)) (aA aJ aD))) aD)) (aA (a9 iE (pv 8) aJ) (aA (pv 8) aD)))))))))))))))),?_⟩
  refine aI (σ:=[some (.ref a),none,none,none,none,none,none,none,none]) rfl ?_;have hla:=KI;have hlr:("r" :Str).length=1:=by rw[bE];rfl
  walk_at"go";generalize hc0:lJ ns 0=c0;generalize hsn:(c0/16%6).toNat=sn;have hsl:(dR ("r" :Str) sn).length=sn:=by rw[BG,mR]
  have hsn6:sn<6:=by omega
  refine O4 (fun i y H=>bP H y (rnF sn i,3+(i:Int))) (fun _ _ _ _ ⟨q,e,h⟩ s=>⟨q,e,s _ _ h⟩) (by rw[sizeLine_eq];omega) (rest:=[some (.str (dR ("r" :Str) sn)),some (.str "abcdefghijklmnopqrstuvwxyz")]) (by rfl) ?_ ?_
  ·intro i H1 hi s1 R hR;walk_at"go";rw[Int.zero_add];refine⟨_,_,_,rfl,rfl,(by walk_at"sz"),C3 qH (by omega) (by omega),?_⟩;have h1':(⟨#[97+((i:Nat):Int).toNat]⟩:Str).length=1:=rfl;walk_at"go";rename_i q2 H2 n2 S2 e2;refine hR _ _ ⟨q2,rfl,?_⟩ S2;rw[e2,Int.toNat_natCast];rfl
  intro ws H1 s1 hws;generalize hne:(1+c0%4).toNat=n at hws;have hn0:0<n:=by omega
  have hn4:n<=4:=by omega
  have hra:RoomsAt H1 ws ((List.range n).map fun i:Nat=>(rnF sn i,3+(i:Int))):=lL (fun i:Nat=>(rnF sn i,3+(i:Int))) hws;generalize hrz:((List.range n).map fun i:Nat=>(rnF sn i,3+(i:Int)))=rz at hra;have hrn:rz.map (·.1)=(List.range n).map fun i:Nat=>rnF sn (0+i):=by rw[←hrz,List.map_map];refine List.map_congr_left fun i _=> ?_;show rnF sn i=_;rw[Nat.zero_add]
  have hnr:(rz.map (·.1)).Nodup:=by rw[hrn];exact x0 sn 0 n
  have hrl:rz.length=n:=by rw[←hrz,List.length_map,List.length_range]
  have hrok:∀z:Str,z∈rz.map (·.1)->b1 z=true/\z.length<=8/\z≠("zzz" :Str):=fun z hz=>by
   rw[hrn]at hz;obtain⟨i,hi,rfl⟩:=List.mem_map.mp hz;have hi':=List.mem_range.mp hi;exact⟨EF hsn6 (by omega),by rw[t3];omega,Ne.symm (AA (by omega))⟩
  have hwl:ws.length=n:=by rw[Paired.length hra,hrl]
  have hmem:∀{H':Hp},RoomsAt H' ws rz->∀v∈ws,∃z i q,v= .ref q/\H' q=some (.tup [.str z,.int i])/\z∈rz.map (·.1)/\b1 z=true:=fun hr v hv=>by
   obtain⟨e,he,q,rfl,hq⟩:=lM hr hv;have hz:e.1∈rz.map (·.1):=List.mem_map.mpr ⟨e,he,rfl⟩;exact⟨e.1,e.2,q,rfl,hq,hz,(hrok _ hz).1⟩
  walk_at"go";rename_i pW H2 n2 S2 eW p H3 n3 S3 ep;have eW3:=S3 _ _ eW;refine tV (fun i σ' H'=>SameBut p H3 H'/\(∃us ds,H' p=some (.lst us)/\Paired ((aN P w K mg base (some 1)).at' H') us ds/\(∀d∈ds,fG (rz.map (·.1)) d)/\ds.map (·.1)=(List.range i).map (fun k:Nat=>rnF sn (13+k)))/\∃x y,σ'=[some (.ref a),some (.int c0),some (.str "abcdefghijklmnopqrstuvwxyz"),some (.str (dR ("r" :Str) sn)),some (.ref pW),some (.ref p),x,y,none]) ⟨SameBut.refl,⟨[],[],ep,.nil,(fun _ z=>nomatch z),rfl⟩,_,_,rfl⟩ ?_ ?_
  ·rintro i _ H' hi ⟨sb,⟨us,ds,eu,hud,hds,hnm⟩,x1,x2,rfl⟩;have hi5:i<5:=by omega
   have hul:us.length=i:=by
    have h5:ds.length=i:=by rw[←List.length_map (f:=fun d:aH=>d.1),hnm,List.length_map,List.length_range]
    rw[Paired.length hud];exact h5
   have s2':Same H2 H':=SameBut.same n3 S3 sb;have eW':=s2' _ _ eW;have hra':=hra.sm (S2.trans s2');walk_at"go";rename_i ha0 ha1;refine m7 (SqL.of eW') ha0 ha1 fun v1 hv1=> ?_;obtain⟨z1,j1,q1,rfl,hq1,hz1,hb1⟩:=hmem hra' v1 hv1;walk_at"go";refine⟨q1,_,0,_,rfl,rfl,SqT.of hq1,rfl,?_⟩;walk_at"go";rename_i pE H4 n4 S4 eE;refine m7 (SqL.of eE) (by omega) (by show _<(2:Int);omega) fun v hv=> ?_;have hve:wQ v/\(v= .non∨∃z,v= .str z/\z∈rz.map (·.1)):=by
    simp only[List.mem_cons,List.not_mem_nil,or_false]at hv;rcases hv with rfl|rfl
    ·exact⟨.inl rfl,.inl rfl⟩
    ·exact⟨.inr ⟨_,rfl,hb1⟩,.inr ⟨_,rfl,hz1⟩⟩
   obtain⟨hve,hvi⟩:=hve;have hb0:b1 (dR ("r" :Str) sn++⟨#[97+(13+(0+(i:Int))).toNat]⟩)=true:=EF hsn6 (by omega);walk_at"go";refine⟨_,_,_,rfl,rfl,(by walk_at"sz"),C3 qH (by omega) (by omega),?_⟩;have h1':(⟨#[97+(13+(0+(i:Int))).toNat]⟩:Str).length=1:=rfl;walk_at"go";rename_i he0 he1;refine m7 (SqL.of (S4 _ _ eW')) he0 he1 fun v3 hv3=> ?_;obtain⟨z3,j3,q3,rfl,hq3,hz3,hb3⟩:=hmem (hra'.sm S4) v3 hv3;walk_at"go";refine⟨q3,_,0,_,rfl,rfl,SqT.of hq3,rfl,?_⟩;walk_at"go";rename_i q5 dx5 H5 n5 S5 e5;have eu5:H5 p=some (.lst us):=S5 _ _ (S4 _ _ eu);refine j5 eu5 (by rw[sizeLine_eq];omega) fun H6 B6 e6=> ?_;have hq5:q5≠p:=fun z=>by rw[z,S4 _ _ eu]at n5;cases n5
   refine⟨(sb.trans (S4.trans S5).but).trans B6,⟨us++[.ref q5],ds++[(rnF sn (13+(0+(i:Int))).toNat,z3,v,fun _=>0+(i:Int))],e6,?_,?_,?_⟩,_,_,rfl⟩
   ·refine L2.Paired.snoc (Paired.imp' (fun w' d h=>(aN P w K mg base (some 1)).but ((aN P w K mg base (some 1)).same h (S4.trans S5)) eu5 trivial B6) hud) ?_;exact JH (P:=P) (w:=w) (base:=base) m (B6 _ _ e5 hq5)
   ·intro d hd;rcases List.mem_append.mp hd with hd|hd
    ·exact hds d hd
    ·cases List.mem_singleton.mp hd;exact⟨hz3,hvi⟩
   ·rw[List.map_append,hnm,List.range_succ,List.map_append,show (13+(0+(i:Int))).toNat=13+i by omega];rfl
  ·rintro _ H' ⟨sb,⟨us,ds,eu,hud,hds,hnm⟩,x1,x2,rfl⟩;have hdl:ds.length=(c0/4%5).toNat:=by rw[←List.length_map (f:=fun d:aH=>d.1),hnm,List.length_map,List.length_range]
   have hul:us.length=ds.length:=Paired.length hud;have hnd:(ds.map (·.1)).Nodup:=by rw[hnm];exact x0 sn 13 _
   have hdok:∀z:Str,z∈ds.map (·.1)->z.length<=8/\z≠("zzz" :Str):=fun z hz=>by
    rw[hnm]at hz;obtain⟨i,hi,rfl⟩:=List.mem_map.mp hz;have hi':=List.mem_range.mp hi;exact⟨by rw[t3];omega,Ne.symm (AA (by omega))⟩
   have s2':Same H2 H':=SameBut.same n3 S3 sb;have eW':=s2' _ _ eW;have hra':=hra.sm (S2.trans s2');have sH:Same H H':=(s1.trans S2).trans s2';walk_at"gs";refine jE (fun σ' G=>G=H'/\∃f:Int,0<=f/\f<100000000000/\σ'=[some (.ref a),some (.int c0),some (.str "abcdefghijklmnopqrstuvwxyz"),some (.str (dR ("r" :Str) sn)),some (.ref pW),some (.ref p),x1,x2,some (.int f)]) ?_ ?_
   rotate_left
   ·intro nx' hnx;walk_at"go";refine fQ (fun hc=> ?_) (fun hc=> ?_)
    ·walk_at"go";exact hnx _ _ ⟨rfl,_,by omega,by omega,rfl⟩
    ·walk_at"go";exact hnx _ _ ⟨rfl,1,by omega,by omega,rfl⟩
   rintro _ G ⟨rfl,f,hf0,hf1,rfl⟩;walk_at"go";obtain⟨v1,hv1⟩:∃v,ws[0]? =some v:=⟨_,List.getElem?_eq_getElem (by omega)⟩
   obtain⟨z1,j1,q1,rfl,hq1,hz1,hb1⟩:=hmem hra' v1 (List.mem_of_getElem? hv1);refine MR (j:=0) (SqL.of eW') hv1 ?_;walk_at"go";refine⟨q1,_,0,_,rfl,rfl,SqT.of hq1,rfl,?_⟩;walk_at"go";rename_i q6 H6 n6 S6 e6 p7 H7 n7 S7 e7;have s67:Same G H7:=S6.trans S7;have hft:tS rz [(z1,2)]:=by
    refine⟨fun p hp=> ?_,fun e he=> ?_⟩
    ·cases List.mem_singleton.mp hp;exact(by decide:(0:Int)<=2)
    ·have h3:3<=e.2:=by
      rw[←hrz]at he;obtain⟨i,_,rfl⟩:=List.mem_map.mp he;show 3<=3+(i:Int);omega
     unfold gO
     by_cases hz:z1=e.1
     ·rw[List.filter_cons_of_pos (by simpa using hz)];show 2+0<=e.2;omega
     ·rw[List.filter_cons_of_neg (by simpa using hz)];show (0:Int)<=e.2;omega
   refine ER (rz:=rz) (ds:=ds) (ps:=[(z1,2)]) rfl (by assumption) (s67 _ _ eW') (hra'.sm s67) (SqL.of (s67 _ _ eu)) (lQ hud s67) (SqL.of e7) (.cons ⟨q6,rfl,S7 _ _ e6⟩ .nil) hnr hnd hds (fun p hp=>by cases List.mem_singleton.mp hp;exact hz1) hft (by omega) (by omega) (show 1<=40 by decide) hf0 (by omega) fun h H8 n8 S8 hh=> ?_;walk_at"go";exact k _ _ _ _ _ _ _ (sH.trans (s67.trans S8)) hh ⟨hnr,hnd,hds,by omega,by omega,hf0,rfl,hf1,fun z hz=>(hrok z hz).2.1,fun z hz=>(hdok z hz).1,fun hz=>(hrok _ hz).2.2 rfl,fun hz=>(hdok _ hz).2 rfl⟩
theorem yK (m:M K mg):Fc P w K mg base "_law_made" 7 ["_law_script"] (qS K m.aF (aN P w K mg base (some 1))):=⟨_,_,m.zI,m.iA.kp,m.zN,yL m⟩
theorem EO (ss:List Str):(ss.map V.str).all oN=true:=by
 rw[List.all_eq_true];intro v hv;obtain⟨z,_,rfl⟩:=List.mem_map.mp hv;rfl
theorem D7 {n:Nat}{H:Hp}{a b:Addr}{ss:List Str} (ha:H a=some (.lst (ss.map V.str))) (hb:H b=some (.lst (ss.map V.str))):DeepEq K H (n+1) (.ref a) (.ref b):=DeepEq.lst (SqL.of ha) (SqL.of hb) (fP (EO ss))
theorem sQ {n:Nat}{H:Hp}:∀{ys zs:List V}{pp:List (Str×Int)},Paired (bP H) ys pp->Paired (bP H) zs pp->Paired (DeepEq K H (n+1)) ys zs
 | _,_,_,.nil,.nil=> .nil
 | _,_,_,.cons ⟨q,e1,h1⟩ t,.cons ⟨q2,e2,h2⟩ t2=>by
  subst e1 e2;exact .cons (DeepEq.tup h1 h2 (.cons (DeepEq.self rfl) (.cons (DeepEq.self rfl) .nil))) (sQ t t2)
def rL (ps:List (Str×Int))(ds:List aH)(H:Hp)(v:V)(e:Str×Int):Prop:=∃q r,v= .ref q/\H q=some (.tup [.str e.1,.int e.2,.int (gO ps e.1),.ref r])/\H r=some (.lst ((wP ds e.1).map V.str))
def xP (f l:Int)(H:Hp)(v:V)(d:aH):Prop:=∃q,v= .ref q/\H q=some (.tup [.str d.1,.int (lF f l d (f+1)),.str d.2.1])
theorem rT {n:Nat}{ps:List (Str×Int)}{ds:List aH}{H:Hp}:∀{ys zs:List V}{rz:List (Str×Int)},Paired (rL ps ds H) ys rz->Paired (rL ps ds H) zs rz->Paired (DeepEq K H (n+2)) ys zs
 | _,_,_,.nil,.nil=> .nil
 | _,_,_,.cons ⟨q,r,e1,h1,g1⟩ t,.cons ⟨q2,r2,e2,h2,g2⟩ t2=>by
  subst e1 e2;exact .cons (DeepEq.tup h1 h2 (.cons (DeepEq.self rfl) (.cons (DeepEq.self rfl) (.cons (DeepEq.self rfl) (.cons (D7 g1 g2) .nil))))) (rT t t2)
theorem vA {n:Nat}{f l:Int}{H:Hp}:∀{ys zs:List V}{ds:List aH},Paired (xP f l H) ys ds->Paired (xP f l H) zs ds->Paired (DeepEq K H (n+1)) ys zs
 | _,_,_,.nil,.nil=> .nil
 | _,_,_,.cons ⟨q,e1,h1⟩ t,.cons ⟨q2,e2,h2⟩ t2=>by
  subst e1 e2;exact .cons (DeepEq.tup h1 h2 (.cons (DeepEq.self rfl) (.cons (DeepEq.self rfl) (.cons (DeepEq.self rfl) .nil)))) (vA t t2)
inductive Told (f l:Int)(rz ps:List (Str×Int))(ds:List aH)(H:Hp)(p:Addr):Prop
 | mk (r w q:Addr) (xs ys zs:List V) (_:H p=some (.lst [.ref r,.ref w,.int (wV rz ps),.ref q])) (_:H r=some (.lst xs)) (_:H w=some (.lst ys)) (_:H q=some (.lst zs)) (_:Paired (rL ps ds H) xs rz) (_:Paired (xP f l H) ys ds) (_:Paired (bP H) zs (fJ rz f (l+1 - f).toNat)):Told f l rz ps ds H p
theorem Told.sm {f l:Int}{rz ps:List (Str×Int)}{ds:List aH}{H H':Hp}{p:Addr} (x:Told f l rz ps ds H p) (s:Same H H'):Told f l rz ps ds H' p:=by
 obtain⟨r,w,q,xs,ys,zs,h1,h2,h3,h4,h5,h6,h7⟩:=x;exact⟨r,w,q,xs,ys,zs,s _ _ h1,s _ _ h2,s _ _ h3,s _ _ h4,Paired.imp' (fun v e ⟨q,r,a,b,c⟩=>⟨q,r,a,s _ _ b,s _ _ c⟩) h5,Paired.imp' (fun v e ⟨q,a,b⟩=>⟨q,a,s _ _ b⟩) h6,fR h7 s⟩
theorem Told.deep {f l:Int}{rz ps:List (Str×Int)}{ds:List aH}{H:Hp}{p p2:Addr} (x:Told f l rz ps ds H p) (y:Told f l rz ps ds H p2):∃us vs,SqL K H p us/\SqL K H p2 vs/\Paired (DeepEq K H 4) us vs:=by
 obtain⟨r,w,q,xs,ys,zs,h1,h2,h3,h4,h5,h6,h7⟩:=x;obtain⟨r',w',q',xs',ys',zs',g1,g2,g3,g4,g5,g6,g7⟩:=y;exact⟨_,_,SqL.of h1,SqL.of g1,.cons (DeepEq.lst (SqL.of h2) (SqL.of g2) (rT h5 g5)) (.cons (DeepEq.lst (SqL.of h3) (SqL.of g3) (vA h6 g6)) (.cons (DeepEq.self rfl) (.cons (DeepEq.lst (SqL.of h4) (SqL.of g4) (sQ h7 g7)) .nil)))⟩
theorem iM {α β:Type}{F:β->α->Prop}{g:α->β} (h:∀x,F (g x) x):∀l:List α,Paired F (l.map g) l
 | []=> .nil
 | x::l=> .cons (h x) (iM h l)
def qE (C:Addr)(D:aZ):Sp:=fun vs H Q _=>∃(h:Addr) (f l:Int) (rz ps:List (Str×Int)) (ds:List aH),vs=[.ref h]/\aT C D H h f l rz ps ds/\rX rz ds f l/\∀p H',Same H H'->Told f l rz ps ds H' p->Q (.ref p) H'
theorem tK {C:Addr}{D:aZ}{H:Hp}{Q:VK}{E:XK}{h:Addr}{f l:Int}{rz ps:List (Str×Int)}{ds:List aH} (hh:aT C D H h f l rz ps ds) (dh:rX rz ds f l) (k:∀p H',Same H H'->Told f l rz ps ds H' p->Q (.ref p) H'):qE C D [.ref h] H Q E:=⟨_,_,_,_,_,_,rfl,hh,dh,k⟩
theorem yJ (m:M K mg):aY P w K mg base CX0 5 m.kM m.kG ["_law_house"] (qE m.aF (aN P w K mg base (some 1))):=by
 refine m.dQ.ok sc__law_told (fun vs H Q E h=> ?_) (fun cdv A outer s H vs Q E hr h=> ?_)
 ·obtain⟨h,f,l,rz,ps,ds,rfl,hh,dh,k⟩:=h;rfl
 ·obtain⟨h,f,l,rz,ps,ds,rfl,hh,dh,k⟩:=h;have nd:=sc__law_told.nd;walk_at"hu";have w_dc_House:=m.aL;have w_mc_House_rooms:= @k8 P w K mg base m;have w_mc_House_doors:= @k6 P w K mg base m;have w_mc_House_holds:= @uI P w K mg base m;have w_mc_House_found:= @uH P w K mg base m;have w_mc_House_into:= @vR P w K mg base m;have w_mc_House_lets:= @v9 P w K mg base m;have w_mc_House_door:= @lX P w K mg base m;have w_mc_House_total:= @t5 P w K mg base m;have w_mc_House_pairs:= @t6 P w K mg base m;refine⟨_,(aC (lN (i:=1) nd rfl (by walk_at"oi") (N:=["_law_name_here","_law_house"]) (nl:=1) (ci:=[0]) rfl (blk (s.heap.objs.size+1) rfl rfl rfl (by kernel_rfl)) (c3 (jK 1 hr (pv 0))) (fun _ _ _ _=>(aW (i:=0) (show (["_law_name_here","_law_house"]:List Str).Nodup by decide +kernel) rfl (by walk_at"oi"))) (fun _ _ _ _=>eN) (fun _ _ _ _=>(mU (aA (pv 0) (aA (mM (P:=P) (w:=w) (K:=K) (mg:=mg) (base:=base) 3 hr (pv 1) (aA (pv 0) aD)) (aA (mM (P:=P) (w:=w) (K:=K) (mg:=mg) (base:=base) 3 hr (pv 1) (aA (pv 0) aD)) (aA (mM (P:=P) (w:=w) (K:=K) (mg:=mg) (base:=base) 3 hr (pv 1) (aA (pv 0) aD)) aD)))))))
   (aC (lN (i:=2) nd rfl (by walk_at"oi") (N:=["_law_name_here","_law_house"]) (nl:=1) (ci:=[0]) rfl (blk (s.heap.objs.size+1) rfl rfl rfl (by kernel_rfl)) (c3 (jK 1 hr (pv 0))) (fun _ _ _ _=>(aW (i:=0) (show (["_law_name_here","_law_house"]:List Str).Nodup by decide +kernel) rfl (by walk_at"oi"))) (fun _ _ _ _=>eN) (fun _ _ _ _=>(mU (aA (pv 0) (aA (mM (P:=P) (w:=w) (K:=K) (mg:=mg) (base:=base) 3 hr (pv 1) (aA (pv 0) (aA (a9 iE (jI (K:=K) (pv 1) rfl) aJ) aD))) (aA (jI (K:=K) (mM (P:=P) (w:=w) (K:=K) (mg:=mg) (base:=base) 1 hr (pv 1) (aA (pv 0) aD)) rfl) aD))))))
   (aE (bA (cP (aA (pv 1) (aA (pv 2) (aA (jK 1 hr (pv 0)) (aA (jK 1 hr (pv 0)) aD))))))))),?_⟩
  refine aI (σ:=[some (.ref h),none,none]) rfl ?_;obtain⟨dx,qs,qp,qd,nk,kvs,e1,_⟩:=hh.ex;have dlr:=dh.lr;have dld:=dh.ld;have df0:=dh.f0;have df3:=dh.f3;have dfl:=dh.fl;walk_at"go";refine oP hh fun r1 H1 n1 S1 f1=> ?_;have hh1:=bK hh S1;walk_at"go";have prS:Paired (fun (v:V) (e:Str×Int)=>v= .str e.1) ((rz.map (·.1)).map V.str) rz:=by
   rw[List.map_map];exact iM (F:=fun (v:V) (e:Str×Int)=>v= .str e.1) (fun e=>rfl) rz
  have prD:Paired (fun (v:V) (d:aH)=>v= .str d.1) ((ds.map (·.1)).map V.str) ds:=by
   rw[List.map_map];exact iM (F:=fun (v:V) (d:aH)=>v= .str d.1) (fun e=>rfl) ds
  refine uK (α:=Str×Int) (xs:=rz) (fun v e=>v= .str e.1) (fun _=>true) (fun e y H=>rL ps ds H y e) (fun _ _ _ _ ⟨q,r,a,b,c⟩ s=>⟨q,r,a,s _ _ b,s _ _ c⟩) (by rw[sizeLine_eq];omega) (rest:=[some (.ref h)]) (by rfl) (SqL.of f1) prS (fun v x H1 _ hx s1 R hR=>hR _ (Same.refl _)) ?_ ?_
  ·rintro v ⟨z,j⟩ H2 hv hm - s2 R hR;have hv:v= .str z:=hv;subst hv;have hh2:=bK hh1 s2;have e12:=s2 _ _ (S1 _ _ e1);have hz:z∈rz.map (·.1):=List.mem_map.mpr ⟨_,hm,rfl⟩;walk_at"go";refine JQ hh2 dh.nr hm fun H3 S3=> ?_;have e13:=S3 _ _ e12;walk_at"go";refine KB (bK hh2 S3) dh.nr hz fun H4 S4=> ?_;have e14:=S4 _ _ e13;walk_at"go";refine MQ (bK hh2 (S3.trans S4)) dh.nr hz (by omega) dh.hin fun p5 H5 n5 S5 f5=> ?_;walk_at"go";rename_i q6 H6 n6 S6 e6;exact hR _ _ ⟨q6,p5,rfl,e6,S6 _ _ f5⟩ (((S3.trans S4).trans S5).trans S6)
  intro xs H2 s2 hxs;rw[dJ]at hxs;have hxl:xs.length=rz.length:=(Paired.length hxs).symm;walk_at"go";rename_i r3 H3 n3 S3 f3;have s13:Same H1 H3:=s2.trans S3;have e13:=s13 _ _ (S1 _ _ e1);have hh3:=bK hh1 s13;walk_at"go";refine oP hh3 fun r4 H4 n4 S4 f4=> ?_;have hh4:=bK hh3 S4;walk_at"go";refine uK (α:=aH) (xs:=ds) (fun v e=>v= .str e.1) (fun _=>true) (fun e y H=>xP f l H y e) (fun _ _ _ _ ⟨q,a,b⟩ s=>⟨q,a,s _ _ b⟩) (by rw[sizeLine_eq];omega) (rest:=[some (.ref h)]) (by rfl) (SqL.of f4) prD (fun v x H1 _ hx s1 R hR=>hR _ (Same.refl _)) ?_ ?_
  ·rintro v ⟨n,st,e,lt⟩ H5 hv hm - s5 R hR;have hv:v= .str n:=hv;subst hv;have hh5:=bK hh4 s5;obtain⟨dx5,qs5,qp5,qd5,nk5,kvs5,e15,_⟩:=hh5.ex;walk_at"go";refine K9 (d:=(n,st,e,lt)) hh5 dh.nd hm df0 fun H6 S6=> ?_;have e16:=S6 _ _ e15;walk_at"go";refine EV (d:=(n,st,e,lt)) (bK hh5 S6) dh.nd hm fun v hv=> ?_;obtain⟨q2,C2,dx2,fs2,fp2,rfl,hq2,dcC,l1,l2,l3,l4,l5,mcE,hfp,hlt⟩:=DoorAt.ex hv;walk_at"go";rename_i q7 H7 n7 S7 e7;exact hR _ _ ⟨q7,rfl,e7⟩ (S6.trans S7)
  intro ys H5 s5 hys;rw[dJ]at hys;have hyl:ys.length=ds.length:=(Paired.length hys).symm;walk_at"go";rename_i r6 H6 n6 S6 f6;have s36:Same H3 H6:=S4.trans (s5.trans S6);have hh6:=bK hh3 s36;have e16:=s36 _ _ e13;walk_at"go";refine LQ hh6 dh.nr fun H7 S7=> ?_;have e17:=S7 _ _ e16;walk_at"go";refine L5 (bK hh6 S7) df0 (by omega) (by omega) (by omega) (by omega) fun r8 zs H8 n8 S8 f8 hzs=> ?_;walk_at"go";rename_i p9 H9 n9 S9 f9;have s69:Same H6 H9:=S7.trans (S8.trans S9);have s59:Same H5 H9:=S6.trans s69;have s39:Same H3 H9:=s36.trans s69;refine k _ _ (S1.trans (s13.trans s39)) ⟨_,_,_,_,_,_,f9,s39 _ _ f3,s69 _ _ f6,S9 _ _ f8,?_,?_,fR hzs S9⟩
  ·have hx:=lL (F:=rL ps ds H2) (fun e:Str×Int=>e) hxs;rw[List.map_id']at hx;exact Paired.imp' (fun v e ⟨q,r,a,b,c⟩=>⟨q,r,a,(S3.trans s39) _ _ b,(S3.trans s39) _ _ c⟩) hx
  ·have hy:=lL (F:=xP f l H5) (fun e:aH=>e) hys;rw[List.map_id']at hy;exact Paired.imp' (fun v e ⟨q,a,b⟩=>⟨q,a,s59 _ _ b⟩) hy
theorem wZ (m:M K mg):Fc P w K mg base "_law_told" 5 ["_law_house"] (qE m.aF (aN P w K mg base (some 1))):=⟨_,_,m.zH,m.dQ.kp,m.zM,yJ m⟩
theorem K8 {tc:TT}{t u:XK->TS}{R:XK}{D:dU}{σ:St}{H:Hp} (h:xE tc (t R) (u R) D σ H):MO tc t u R D σ H:=h
theorem N4 {tc:XK->TE}{R:XK}{D:dU}{σ:St}{H:Hp} (h:tc R σ H fun _ H1=>D.nx σ H1):txE tc R D σ H:=h
local macro_rules| `(tactic| walk_at"rd1")=> `(tactic| first|(with_reducible refine K8 ?_)|(with_reducible refine N4 ?_)|((with_reducible refine' KG ?s ?e ?d ?c ?n ?l ?_);(case s=>rfl);(case e=>walk_at"hp");(case d=>walk_at"hp");(case c=>assumption);(case n=>assumption);(case l=>rfl))|((with_reducible refine' JV ?e ?k ?i ?_);(case e=>walk_at"hp");(case k=>assumption);(case i=>assumption))|((with_reducible refine' F2 ?e ?k ?i ?_);(case e=>walk_at"hp");(case k=>assumption);(case i=>assumption)))
def oI (wd:Str):Prop:=wd= "holds" ∨wd= "found" ∨wd= "into" ∨wd= "from"
def oJ (wd:Str):Prop:=wd= "door" ∨wd= "lets"
def tY (C:Addr)(D:aZ):Sp:=fun vs H Q _=>∃(h:Addr) (wd z:Str) (t f l:Int) (rz ps:List (Str×Int)) (ds:List aH),vs=[.ref h,.str wd,.str z,.int t]/\aT C D H h f l rz ps ds/\((oI wd/\z∉rz.map (·.1))∨(oJ wd/\z∉ds.map (·.1)))/\∀H',Same H H'->Q (.bl true) H'
theorem OH {C:Addr}{D:aZ}{H:Hp}{Q:VK}{E:XK}{h:Addr}{wd z:Str}{t f l:Int}{rz ps:List (Str×Int)}{ds:List aH} (hh:aT C D H h f l rz ps ds) (hw:(oI wd/\z∉rz.map (·.1))∨(oJ wd/\z∉ds.map (·.1))) (k:∀H',Same H H'->Q (.bl true) H'):tY C D [.ref h,.str wd,.str z,.int t] H Q E:=⟨_,_,_,_,_,_,_,_,_,rfl,hh,hw,k⟩
theorem rR (m:M K mg):aY P w K mg base CX0 8 m.gQ m.gW ["_law_house","_law_word","_law_name_here","_law_turn"] (tY m.aF (aN P w K mg base (some 1))):=by
 refine m.d9.ok sc__law_refused (fun vs H Q E h=> ?_) (fun cdv A outer s H vs Q E hr h=> ?_)
 ·obtain⟨h,wd,z,t,f,l,rz,ps,ds,rfl,hh,hw,k⟩:=h;rfl
 ·obtain⟨h,wd,z,t,f,l,rz,ps,ds,rfl,hh,hw,k⟩:=h;have nd:=sc__law_refused.nd;walk_at"hu";have w_dc_House:=m.aL;have w_mcx_House_holds:=rW (P:=P) (w:=w) (base:=base) m;have w_mcx_House_found:=rM (P:=P) (w:=w) (base:=base) m;have w_mcx_House_into:=t8 (P:=P) (w:=w) (base:=base) m;have w_mcx_House_from_room:=mG (P:=P) (w:=w) (base:=base) m;have w_mcx_House_door:=kX (P:=P) (w:=w) (base:=base) m;have w_mcx_House_lets:=uC (P:=P) (w:=w) (base:=base) m;refine⟨_,(aC (bD (i:=4) nd rfl (by walk_at"oi") (cP aD))
   (aC (bD (i:=5) nd rfl (by walk_at"oi") sJ)
   (aC (L8 (i:=6) nd rfl rfl rfl rfl m.CK (nD (bF dB (pv 1) bL (bB _)) (oH (kR 6 hr (pv 0) (aA (pv 2) aD))) (nD (bF dB (pv 1) bL (bB _)) (oH (kR 6 hr (pv 0) (aA (pv 2) aD))) (nD (bF dB (pv 1) bL (bB _)) (oH (kR 6 hr (pv 0) (aA (pv 2) aD))) (nD (bF dB (pv 1) bL (bB _)) (oH (kR 6 hr (pv 0) (aA (pv 2) aD))) (nD (bF dB (pv 1) bL (bB _)) (oH (kR 4 hr (pv 0) (aA (pv 2) aD))) (oH (kR 5 hr (pv 0) (aA (pv 2) (aA (pv 3) aD))))))))) (fun ea=>(aC (bD (i:=4) nd rfl (by walk_at"oi") (cP (aA (bN (iG K rfl) rfl m.b5 b0 (aA (pv 6) (aA (nA rfl m.yR) aD))) (aA (bN (iG K rfl) rfl m.b5 b0 (aA (pv 6) (aA (nA rfl m.vO) aD))) (aA (bN (iG K rfl) rfl m.b5 b0 (aA (pv 6) (aA (nA rfl m.MB) aD))) (aA (bN (iG K rfl) rfl m.b5 b0 (aA (pv 6) (aA (nA rfl m.E6) aD))) aD))))))
   (aC (bD (i:=4) nd rfl (by walk_at"oi") (a9 rQ (pv 4) (cP (aA (bN (iG K rfl) rfl m.b5 b0 (aA (pv 6) (aA (nA rfl m.HD) aD))) (aA (bN (AO K rfl) rfl m.b5 b0 (aA (pv 6) (aA (wO rfl m.yN v4) aD))) aD)))))
   (aE (bD (i:=5) nd rfl (by walk_at"oi") (FC K rfl (pv 6) rfl)))))))
   (aC (bD (i:=7) nd rfl (by walk_at"oi") (P1 (fF dB (pv 1) bL (bB _)) (rF (fF dB (pv 1) bL (bB _)))))
   (aE (bA (xJ (fF (DE hu9) (pv 4) (cP (aA (DM (pv 7)) (aA (pv 7) (aA j2 (aA j2 (aA j2 (aA j2 aD))))))) (bB _)) (rF (fF dB (pv 5) (pv 2) (bB _)))))))))),?_⟩
  refine aI (σ:=[some (.ref h),some (.str wd),some (.str z),some (.int t),none,none,none,none]) rfl ?_;obtain⟨dx,qs,qp,qd,nk,kvs,e1,_⟩:=hh.ex;walk_at"gs";rename_i pk H1 n1 S1 ek;have hh1:=bK hh S1;have e11:=S1 _ _ e1;generalize hR:IS _ _ _ _ _ _=R;have hN:oI wd->Refd m.aQ z H1 R:=by
   subst hR;intro hwd H2 dx2 s2 ed;refine⟨m.aQ,rfl,m.nK,fun ea hn=> ?_⟩;have e0:(upd H2 ea (.ext (ExcDAt ea m.aQ dx2))) ea=some (.ext (ExcDAt ea m.aQ dx2)):=aR;have ed0:(upd H2 ea (.ext (ExcDAt ea m.aQ dx2))) dx2=some (.xd [("name",.str z)]):=by rw[aG (aO ed hn)];exact ed
   have xf:=m.oG;have xk:=m.oG.k;have xn:=m.vP;have i1:=m.rA;have i2:=m.pF;have i3:=m.sW;have i4:=m.pA;have i5:=m.q0;have i6:=m.lT;show (_:TS) _ _ (upd H2 ea (.ext (ExcDAt ea m.aQ dx2)));generalize hG:upd H2 ea (.ext (ExcDAt ea m.aQ dx2))=G at e0 ed0;have sG:Same H2 G:=by rw[←hG];exact qT hn
   obtain⟨hd1,hd2⟩:¬wd=("door" :Str)/\¬wd=("lets" :Str):=by rcases hwd with rfl|rfl|rfl|rfl<;>decide
   dsimp only[List.set]
   walk_at"go";rename_i p3 H3 n3 S3 e3 p4 H4 n4 S4 e4 p5 H5 n5 S5 e5
   dsimp only[List.set]
   walk_at"go";rename_i p6 H6 n6 S6 e6;rw[decide_eq_false hd2]at e6;refine jR (SqL.of (S6 _ _ e5)) (SqL.of e6) (fP rfl) ?_;walk_at"go";rw[decide_eq_true rfl];exact k _ (((((S1.trans s2).trans sG).trans S3).trans S4).trans (S5.trans S6))
  have hU:oJ wd->Refd m.aV z H1 R:=by
   subst hR;intro hwd H2 dx2 s2 ed;refine⟨m.aV,rfl,m.mK,fun ea hn=> ?_⟩;have e0:(upd H2 ea (.ext (ExcDAt ea m.aV dx2))) ea=some (.ext (ExcDAt ea m.aV dx2)):=aR;have ed0:(upd H2 ea (.ext (ExcDAt ea m.aV dx2))) dx2=some (.xd [("name",.str z)]):=by rw[aG (aO ed hn)];exact ed
   have xf:=m.lW;have xk:=m.lW.k;have xn:=m.sY;have i1:=m.pH;have i2:=m.nU;have i3:=m.rB;have i4:=m.oB;have i5:=m.pG;have i6:=m.lC;show (_:TS) _ _ (upd H2 ea (.ext (ExcDAt ea m.aV dx2)));generalize hG:upd H2 ea (.ext (ExcDAt ea m.aV dx2))=G at e0 ed0;have sG:Same H2 G:=by rw[←hG];exact qT hn
   have kk:Same H G:=(S1.trans s2).trans sG;rcases hwd with rfl|rfl
   ·dsimp only[List.set]
    walk_at"go";rename_i p3 H3 n3 S3 e3 p4 H4 n4 S4 e4 p5 H5 n5 S5 e5
    dsimp only[List.set]
    walk_at"go";rename_i p6 H6 n6 S6 e6;refine jR (SqL.of (S6 _ _ e5)) (SqL.of e6) (fP rfl) ?_;walk_at"go";rw[decide_eq_true rfl];exact k _ (((kk.trans S3).trans S4).trans (S5.trans S6))
   ·dsimp only[List.set]
    walk_at"go";rename_i p3 H3 n3 S3 e3 p4 H4 n4 S4 e4 p5 H5 n5 S5 e5
    dsimp only[List.set]
    walk_at"go";rename_i p6 H6 n6 S6 e6;rw[decide_eq_true rfl]at e6;refine jR (SqL.of (S6 _ _ e5)) (SqL.of e6) (fP rfl) ?_;walk_at"go";rw[decide_eq_true rfl];exact k _ (((kk.trans S3).trans S4).trans (S5.trans S6))
  rcases hw with⟨hwd,hz⟩|⟨hwd,hz⟩
  ·have hNN:=hN hwd;clear hU hN hR;rcases hwd with rfl|rfl|rfl|rfl
   ·walk_at"go";exact mL hh1 hz hNN
   ·walk_at"go";exact mL hh1 hz hNN
   ·walk_at"go";exact mL hh1 hz hNN
   ·walk_at"go";exact mL hh1 hz hNN
  ·have hUU:=hU hwd;clear hN hU hR;rcases hwd with rfl|rfl
   ·walk_at"go";exact NF hh1 hz hUU
   ·walk_at"go";exact QW hh1 hz hUU
theorem r9 (m:M K mg):Fc P w K mg base "_law_refused" 8 ["_law_house","_law_word","_law_name_here","_law_turn"] (tY m.aF (aN P w K mg base (some 1))):=⟨_,_,m.uY,m.d9.kp,m.uR,rR m⟩
def pR:Sp:=fun vs H Q _=>∃(a b:Addr) (xs ys:List Str) (c:Int),vs=[.ref a,.ref b,.int c]/\H a=some (.lst (xs.map V.str))/\H b=some (.lst (ys.map V.str))/\xs.length<=4/\ys.length<=4/\(∀z∈xs,z.length<=8)/\(∀z∈ys,z.length<=8)/\("zzz" :Str)∉xs/\∀z H',Same H H'->z∉xs->Q (.str z) H'
theorem KR {H:Hp}{Q:VK}{E:XK}{a b:Addr}{xs ys:List Str}{c:Int} (ha:H a=some (.lst (xs.map V.str))) (hb:H b=some (.lst (ys.map V.str))) (lx:xs.length<=4) (ly:ys.length<=4) (sx:∀z∈xs,z.length<=8) (sy:∀z∈ys,z.length<=8) (hz:("zzz" :Str)∉xs) (k:∀z H',Same H H'->z∉xs->Q (.str z) H'):pR [.ref a,.ref b,.int c] H Q E:=⟨_,_,_,_,_,rfl,ha,hb,lx,ly,sx,sy,hz,k⟩
theorem xU (m:M K mg):aY P w K mg base CX0 1 m.kI m.kK ["_law_known","_law_others","_law_cell"] (pR):=by
 refine m.hZ.ok sc__law_name (fun vs H Q E h=> ?_) (fun cdv A outer s H vs Q E hr h=> ?_)
 ·obtain⟨a,b,xs,ys,c,rfl,ha,hb,lx,ly,sx,sy,hz,k⟩:=h;rfl
 ·obtain⟨a,b,xs,ys,c,rfl,ha,hb,lx,ly,sx,sy,hz,k⟩:=h;have nd:=sc__law_name.nd;walk_at"hu";refine⟨_,(aC (bD (i:=3) nd rfl (by walk_at"oi") (a9 c4 (pv 2) aJ))
   (aC (bD (i:=4) nd rfl (by walk_at"oi") (a9 rQ (a9 rQ (pv 0) (pv 1)) (cP (aA bL aD))))
   (aC (bD (i:=5) nd rfl (by walk_at"oi") (d7 fC (pv 4) (a9 c4 (a9 dO (pv 2) aJ) (bN iF rfl m.oZ kY (aA (pv 4) aD))) (fun _ _=>rfl)))
   (aC (bY (PW.pt (MI (bF dB (pv 3) aJ (bB _)) (KA (bF (N7 hu0) (pv 1) (cP aD) (bB _))))) (aE (bD (i:=5) nd rfl (by walk_at"oi") (d7 fC (pv 1) (a9 c4 (a9 dO (pv 2) aJ) (bN iF rfl m.oZ kY (aA (pv 1) aD))) (fun _ _=>rfl)))) bG)
   (aC (bY (bF dB (pv 3) aJ (bB _)) (aE (bD (i:=5) nd rfl (by walk_at"oi") (a9 kS (pv 5) bL))) bG)
   (aC (bY (bF dB (pv 3) aJ (bB _)) (aE (bD (i:=5) nd rfl (by walk_at"oi") (a9 kS (p0 C5 (pv 5) z5 (oK (PP OX aJ))) bL))) bG)
   (aC (bY (bF dB (pv 3) aJ (bB _)) (aE (bD (i:=5) nd rfl (by walk_at"oi") (a9 kS (p0 C5 (pv 5) (oK aJ) z5) bL))) bG)
   (aC (bY (bF D9 (pv 5) (pv 0) (by with_unfolding_all rfl)) (aE (bA bL)) bG)
   (aE (bA (pv 5))))))))))),?_⟩
  refine aI (σ:=[some (.ref a),some (.ref b),some (.int c),none,none,none]) rfl ?_;walk_at"gs";rename_i p1 H1 n1 S1 e1 p2 H2 n2 S2 e2 p3 H3 n3 S3 e3;have hl0:0<(xs.map V.str++ys.map V.str++[V.str ("q" :Str)]).length:=by simp only[List.length_append,List.length_cons,List.length_nil];omega
  walk_at"gs";rename_i h0 h1;have hS3:Same H H3:=(S1.trans S2).trans S3;refine m7 (SqL.of e3) h0 h1 fun v1 hv1=> ?_;have hv:∃z:Str,v1= .str z/\z.length<=8:=by
   rcases List.mem_append.mp hv1 with hv|hv
   ·rcases List.mem_append.mp hv with hv|hv
    ·obtain⟨z,hz,rfl⟩:=List.mem_map.mp hv;exact⟨z,rfl,sx z hz⟩
    ·obtain⟨z,hz,rfl⟩:=List.mem_map.mp hv;exact⟨z,rfl,sy z hz⟩
   ·cases List.mem_singleton.mp hv;exact⟨_,rfl,by decide⟩
  obtain⟨z1,rfl,hz1⟩:=hv;walk_at"gs";refine jE (fun σ' G=>Same H G/\∃z:Str,z.length<=8/\σ'=[some (.ref a),some (.ref b),some (.int c),some (.int (c%4)),some (.ref p3),some (.str z)]) ?_ ?_
  rotate_left
  ·intro nx' hnx;walk_at"go";refine fQ (fun hc=> ?_) (fun hc=> ?_)
   ·walk_at"go";rename_i p4 H4 n4 S4 e4;have hb4:=S4 _ _ (hS3 _ _ hb);refine NH (SqL.of hb4) (SqL.of e4) ?_;cases ys with
    | nil =>
     walk_at"go";exact hnx _ _ ⟨hS3.trans S4,z1,hz1,rfl⟩
    | cons y ys =>
     rw[show (!((y::ys).map V.str).isEmpty)=true from rfl];have hl1:0<((y::ys).map V.str).length:=by rw[List.length_map,List.length_cons];omega
     walk_at"go";rename_i h4 h5;refine m7 (SqL.of hb4) h4 h5 fun v2 hv2=> ?_;obtain⟨z2,hz2,rfl⟩:=List.mem_map.mp hv2;walk_at"go";exact hnx _ _ ⟨hS3.trans S4,z2,sy z2 hz2,rfl⟩
   ·walk_at"go";exact hnx _ _ ⟨hS3,z1,hz1,rfl⟩
  rintro _ G ⟨sG,z,hzl,rfl⟩;clear hz1 z1 hv1;walk_at"gs";refine jE (fun σ' G'=>G=G'/\∃z:Str,z.length<=20/\σ'=[some (.ref a),some (.ref b),some (.int c),some (.int (c%4)),some (.ref p3),some (.str z)]) ?_ ?_
  rotate_left
  ·intro nx' hnx;walk_at"go";refine fQ (fun hc=> ?_) (fun hc=> ?_)
   ·walk_at"go";exact hnx _ _ ⟨rfl,_,by walk_at"sz",rfl⟩
   ·walk_at"go";exact hnx _ _ ⟨rfl,_,by omega,rfl⟩
  rintro _ _ ⟨rfl,z,hzl,rfl⟩;walk_at"gs";refine jE (fun σ' G'=>G=G'/\∃z:Str,z.length<=40/\σ'=[some (.ref a),some (.ref b),some (.int c),some (.int (c%4)),some (.ref p3),some (.str z)]) ?_ ?_
  rotate_left
  ·intro nx' hnx;walk_at"go";refine fQ (fun hc=> ?_) (fun hc=> ?_)
   ·walk_at"go";exact hnx _ _ ⟨rfl,_,by walk_at"sz",rfl⟩
   ·walk_at"go";exact hnx _ _ ⟨rfl,_,by omega,rfl⟩
  rintro _ _ ⟨rfl,z,hzl,rfl⟩;walk_at"gs";refine jE (fun σ' G'=>G=G'/\∃z:Str,z.length<=80/\σ'=[some (.ref a),some (.ref b),some (.int c),some (.int (c%4)),some (.ref p3),some (.str z)]) ?_ ?_
  rotate_left
  ·intro nx' hnx;walk_at"go";refine fQ (fun hc=> ?_) (fun hc=> ?_)
   ·walk_at"go";exact hnx _ _ ⟨rfl,_,by walk_at"sz",rfl⟩
   ·walk_at"go";exact hnx _ _ ⟨rfl,_,by omega,rfl⟩
  rintro _ _ ⟨rfl,z,hzl,rfl⟩;walk_at"go";refine MV (SqL.of (sG _ _ ha)) ?_
  by_cases hm:z∈xs
  ·rw[decide_eq_true hm];walk_at"go";exact k _ _ sG hz
  ·rw[decide_eq_false hm];walk_at"go";exact k _ _ sG hm
theorem xI (m:M K mg):Fc P w K mg base "_law_name" 1 ["_law_known","_law_others","_law_cell"] (pR):=⟨_,_,m.zO,m.hZ.kp,m.zK,xU m⟩
def rS (K:W.Frag):Sp:=fun vs H Q _=>∃(a:Addr) (ns:List Int),vs=[.ref a]/\SqL K H a (ns.map V.int)/\ns.length<=63/\∀H',Q (.bl true) H'
theorem EH {i j:Nat}{ta:TA}{D:dU}{σ:St}{H:Hp} (h:ta σ H fun vs H1=>∃v w,vs=[v,w]/\D.nx ((σ.set i (some v)).set j (some w)) H1):O2 i j ta D σ H:=h
theorem JP (c:Int):∃wd:Str,atI [V.str "holds",V.str "found",V.str "into",V.str "from",V.str "door",V.str "lets"] (c%6)=some (.str wd)/\((3<c%6/\oJ wd)∨(¬3<c%6/\oI wd)):=by
 have h:c%6=0∨c%6=1∨c%6=2∨c%6=3∨c%6=4∨c%6=5:=by lia
 rcases h with h|h|h|h|h|h<;>rw[h]
 ·exact⟨_,rfl,.inr ⟨by decide,.inl rfl⟩⟩
 ·exact⟨_,rfl,.inr ⟨by decide,.inr (.inl rfl)⟩⟩
 ·exact⟨_,rfl,.inr ⟨by decide,.inr (.inr (.inl rfl))⟩⟩
 ·exact⟨_,rfl,.inr ⟨by decide,.inr (.inr (.inr rfl))⟩⟩
 ·exact⟨_,rfl,.inl ⟨by decide,.inl rfl⟩⟩
 ·exact⟨_,rfl,.inl ⟨by decide,.inr rfl⟩⟩
theorem MP (m:M K mg):aY P w K mg base CX0 20 m.CJ m.CN ["_law_script"] (rS K):=by
 refine m.QT.ok sc_law (fun vs H Q E h=> ?_) (fun cdv A outer s H vs Q E hr h=> ?_)
 ·obtain⟨a,ns,rfl,hS,hlen,k⟩:=h;rfl
 ·obtain⟨a,ns,rfl,hS,hlen,k⟩:=h;have nd:=sc_law.nd;walk_at"hu";have iA:= @yK P w K mg base m;have hZ:= @xI P w K mg base m;have d9:= @r9 P w K mg base m;have dQ:= @wZ P w K mg base m;have w_dc_House:=m.aL;have w_mc_House_rooms:= @k8 P w K mg base m;have w_mc_House_doors:= @k6 P w K mg base m;refine⟨_,(aC (bD (i:=1) nd rfl (by walk_at"oi") (cZ iA hr (aA (pv 0) aD)))
   (aC (bD (i:=2) nd rfl (by walk_at"oi") (cZ dQ hr (aA (pv 1) aD)))
   (aC (d4 PassesOwn.never rfl (LP rfl m.zP (aA (p0 J4 (pv 0) (oK aJ) (oK aJ)) aD)) (yE (n:=2) rfl (bT (aW (i:=3) nd rfl (by walk_at"oi")) (bT (aW (i:=4) nd rfl (by walk_at"oi")) fB))) (aC (bD (i:=5) nd rfl (by walk_at"oi") (d7 fC (cP (aA bL (aA bL (aA bL (aA bL (aA bL (aA bL aD))))))) (a9 c4 (pv 4) aJ) (fun _ _=>rfl)))
   (aC (CU (i:=6) (j:=7) rfl nd rfl rfl (by decide) rfl rfl (aA (jK 1 hr (pv 1)) (aA (jK 1 hr (pv 1)) aD)) rfl)
   (aC (bY (bF HJ (a9 c4 (pv 4) aJ) aJ (bB _)) (aE (CU (i:=6) (j:=7) rfl nd rfl rfl (by decide) rfl rfl (aA (pv 7) (aA (pv 6) aD)) rfl)) bG)
   (aC (bD (i:=8) nd rfl (by walk_at"oi") (cZ hZ hr (aA (pv 6) (aA (pv 7) (aA (a9 dO (pv 4) aJ) aD)))))
   (aC (d4 PassesOwn.never rfl (nC rfl m.o0 (aA aJ aD)) (aW (i:=9) nd rfl (by walk_at"oi")) (aE (bY (mO (jS (cZ d9 hr (aA (pv 1) (aA (pv 5) (aA (pv 8) (aA (a9 c4 (a9 dO (pv 4) aJ) aJ) aD))))))) (aE (bA j2)) bG)))
   (aE (bY (bF (OW hu9) (cZ dQ hr (aA (pv 1) aD)) (pv 2) (bB _)) (aE (bA j2)) bG))))))))
   (aE (bA (fF (DE hu9) (cZ dQ hr (aA (pv 1) aD)) (pv 2) (bB _))))))),?_⟩
  refine aI (σ:=[some (.ref a),none,none,none,none,none,none,none,none,none]) rfl ?_;walk_at"go";refine LJ hS fun h f l rz ps ds H1 S1 hh dh=> ?_;walk_at"go";refine tK hh dh fun pT H2 S2 tT=> ?_;have hh2:=bK hh S2;have hS2:SqL K H2 a (ns.map V.int):=(S1.trans S2).seq hS;walk_at"go";rename_i pS H3 n3 S3 eS;have s23:=S3;have hh3:=bK hh2 S3;have tT3:=tT.sm S3;generalize CD ns (some 1) (some 9)=cs at eS;refine LV (cs.map V.int) (fun i σ' G=>Same H3 G/\∃x1 x2 x3 x4 x5 x6 x7,σ'=[some (.ref a),some (.ref h),some (.ref pT),x1,x2,x3,x4,x5,x6,x7]) ⟨Same.refl _,_,_,_,_,_,_,_,rfl⟩ (fun i σ' G q=>SqL.of (q.1 _ _ eS)) ?_ ?_
  ·rintro i x _ G q G1 hx ⟨sG,x1,x2,x3,x4,x5,x6,x7,rfl⟩ nq S4 eq;rw[List.getElem?_map]at hx;obtain⟨c,hc,rfl⟩:=Option.map_eq_some_iff.mp hx;have hhG:=bK hh3 (sG.trans S4);obtain⟨dx,qs,qp,qd,nk,kvs,e1,_⟩:=hhG.ex;have sHG:Same H3 G1:=sG.trans S4;walk_at"go";rename_i p5 H5 n5 S5 e5;obtain⟨wd,hat,hwd⟩:=JP c;refine⟨p5,_,c%6,_,rfl,rfl,SqL.of e5,hat,?_⟩;have hh5:=bK hhG S5;have e15:=S5 _ _ e1;walk_at"gs";refine EH ?_;walk_at"gs";refine oP hh5 fun r1 H6 n6 S6 f6=> ?_;have e16:=S6 _ _ e15;walk_at"gs";refine oP (bK hh5 S6) fun r2 H7 n7 S7 f7=> ?_;walk_at"gs";refine⟨_,_,rfl,?_⟩
   dsimp only[List.set]
   have f67:=S7 _ _ f6;walk_at"gs";refine jE (fun σ' G'=>H7=G'/\∃ka kb xs ys,G' ka=some (.lst (xs.map V.str))/\G' kb=some (.lst (ys.map V.str))/\((oI wd/\xs=rz.map (·.1)/\ys=ds.map (·.1))∨(oJ wd/\xs=ds.map (·.1)/\ys=rz.map (·.1)))/\σ'=[some (.ref a),some (.ref h),some (.ref pT),some (.int i),some (.int c),some (.str wd),some (.ref ka),some (.ref kb),x6,x7]) ?_ ?_
   rotate_left
   ·intro nx' hnx;walk_at"go";refine fQ (fun hc=> ?_) (fun hc=> ?_)
    ·refine EH ?_;walk_at"go";refine⟨_,_,rfl,?_⟩
     dsimp only[List.set]
     exact hnx _ _ ⟨rfl,_,_,_,_,f7,f67,.inr ⟨(hwd.resolve_right fun z=>z.1 hc).2,rfl,rfl⟩,rfl⟩
    ·walk_at"go";exact hnx _ _ ⟨rfl,_,_,_,_,f67,f7,.inl ⟨(hwd.resolve_left fun z=>hc z.1).2,rfl,rfl⟩,rfl⟩
   rintro _ _ ⟨rfl,ka,kb,xs,ys,fa,fb,hx,rfl⟩;walk_at"go";have lr:=dh.lr;have ld:=dh.ld;have hxy:xs.length<=4/\ys.length<=4/\(∀z∈xs,z.length<=8)/\(∀z∈ys,z.length<=8)/\("zzz" :Str)∉xs:=by
    rcases hx with⟨_,rfl,rfl⟩|⟨_,rfl,rfl⟩
    ·exact⟨by rw[List.length_map];exact lr,by rw[List.length_map];exact ld,dh.sr,dh.sd,dh.zr⟩
    ·exact⟨by rw[List.length_map];exact ld,by rw[List.length_map];exact lr,dh.sd,dh.sr,dh.zd⟩
   refine KR fa fb hxy.1 hxy.2.1 hxy.2.2.1 hxy.2.2.2.1 hxy.2.2.2.2 fun z H8 S8 hz=> ?_;have s58:Same H5 H8:=(S6.trans S7).trans S8;have hh8:=bK hh5 s58;have hzz:(oI wd/\z∉rz.map (·.1))∨(oJ wd/\z∉ds.map (·.1)):=by
    rcases hx with⟨h1,rfl,rfl⟩|⟨h1,rfl,rfl⟩
    ·exact .inl ⟨h1,hz⟩
    ·exact .inr ⟨h1,hz⟩
   walk_at"go";refine GD (fun σ=>∃x,σ=[some (.ref a),some (.ref h),some (.ref pT),some (.int i),some (.int c),some (.str wd),some (.ref ka),some (.ref kb),some (.str z),x]) ⟨_,rfl⟩ ?_ ?_
   ·rintro j _ G8 hj s8 ⟨y1,rfl⟩;walk_at"go";refine OH (bK hh8 s8) hzz fun G9 T9=> ?_;walk_at"go";exact⟨s8.trans T9,_,rfl⟩
   ·rintro _ G8 s8 ⟨y1,rfl⟩;walk_at"go";refine tK (bK hh8 s8) dh fun pU G9 T9 tU=> ?_;have s39:Same H3 G9:=sHG.trans (S5.trans (s58.trans (s8.trans T9)));obtain⟨us,vs,q1,q2,q3⟩:=tU.deep (K:=K) (tT3.sm s39);walk_at"go";refine jR q1 q2 q3 ?_;walk_at"go";exact⟨s39,_,_,_,_,_,_,_,rfl⟩
  ·rintro _ G ⟨sG,x1,x2,x3,x4,x5,x6,x7,rfl⟩;walk_at"go";refine tK (bK hh3 sG) dh fun pU G2 T2 tU=> ?_;obtain⟨us,vs,q1,q2,q3⟩:=tU.deep (K:=K) (tT3.sm (sG.trans T2));walk_at"go";exact jR q1 q2 q3 (k _)
end
theorem all_mk {l:W.OpenLaw}{w:World}{K:W.Frag}{h:Heap}{mg:Str->Option Value}{fa:Addr} (X:K.In h) (G:h.Ns mainGlobals mg) (hfa:mg "law" =some (.ref fa))
  {zaa zab zac zad zae zaf zag zah zai zaj zak zal zam zan zao zap zaq zar zas zat zau zav zaw zax zay zaz zba zbb zbc zbd zbe zbf zbg zbh zbi zbj zbk zbl zbm zbn zbo zbp zbq zbr:Addr}
  {zbs zbt:Option Addr}{zbu:Array (Option Value)}{zbv zbw zbx zby zbz zca:Value}
  {zcb zcc:Option Addr}{zcd:Array (Option Value)}{zce zcf zcg zch zci zcj:Value}
  {zck zcl:Option Addr}{zcm:Array (Option Value)}{zcn zco zcp zcq zcr zcs:Value}
  {zct zcu:Option Addr}{zcv:Array (Option Value)}{zcw zcx zcy zcz zda zdb:Value}
  {zdc zdd:Option Addr}{zde:Array (Option Value)}{zdf zdg zdh zdi zdj zdk:Value}
  {zdl zdm:Option Addr}{zdn:Array (Option Value)}{zdo zdp zdq zdr zds zdt:Value}
  {zdu zdv:Option Addr}{zdw:Array (Option Value)}{zdx zdy zdz zea zeb zec:Value}
  {zed zee:Option Addr}{zef:Array (Option Value)}{zeg zeh zei zej zek zel:Value}
  {zem zen:Option Addr}{zeo:Array (Option Value)}{zep zeq zer zes zet zeu:Value}
  {zev zew:Option Addr}{zex:Array (Option Value)}{zey zez zfa zfb zfc zfd:Value}
  {zfe zff:Option Addr}{zfg:Array (Option Value)}{zfh zfi zfj zfk zfl zfm:Value}
  {zfn zfo:Option Addr}{zfp:Array (Option Value)}{zfq zfr zfs zft zfu zfv:Value}
  {zfw zfx:Option Addr}{zfy:Array (Option Value)}{zfz zga zgb zgc zgd zge:Value}
  {zgf zgg:Option Addr}{zgh:Array (Option Value)}{zgi zgj zgk zgl zgm zgn:Value}
  {zgo zgp:Option Addr}{zgq:Array (Option Value)}{zgr zgs zgt zgu zgv zgw:Value}
  {zgx zgy:Option Addr}{zgz:Array (Option Value)}{zha zhb zhc zhd zhe zhf:Value}
  {zhg zhh:Option Addr}{zhi:Array (Option Value)}{zhj zhk zhl zhm zhn zho:Value}
  {zhp zhq:Option Addr}{zhr:Array (Option Value)}{zhs zht zhu zhv zhw zhx:Value}
  {zhy zhz:Option Addr}{zia:Array (Option Value)}{zib zic zid zie zif zig:Value}
  {zih zii:Option Addr}{zij:Array (Option Value)}{zik zil zim zin zio ziq:Value}
  {zir:Addr}
  {zis:Tok}
  {zit:Value}{ziu:Option Addr}{ziv:Nat}{ziw:Array (Option Value)}
  {zix ziy:Option Addr}{ziz:Array (Option Value)}{zja zjb zjc zjd zje zjf:Value}
  {zjg zjh:Option Addr}{zji:Array (Option Value)}{zjj zjk zjl zjm zjn zjo:Value}
  {zjp zjq:Option Addr}{zjr:Array (Option Value)}{zjs zjt zju zjv zjw zjx:Value}
  {zjy zjz:Option Addr}{zka:Array (Option Value)}{zkb zkc zkd zke zkf zkg:Value}
  {zkh zki:Option Addr}{zkj:Array (Option Value)}{zkk zkl zkm zkn zko zkp:Value}
  {zkq zkr:Option Addr}{zks:Array (Option Value)}{zkt zku zkv zkw zkx zky:Value}
  {zkz zla:Option Addr}{zlb:Array (Option Value)}{zlc zld zle zlf zlg zlh:Value}
  {zli zlj:Option Addr}{zlk:Array (Option Value)}{zll zlm zln zlo zlp zlq:Value}
  {zlr zls:Option Addr}{zlt:Array (Option Value)}{zlu zlv zlw zlx zly zlz:Value}
  {zma zmb:Option Addr}{zmc:Array (Option Value)}{zmd zme zmf zmg zmh zmi:Value}
  {zmj zmk:Option Addr}{zml:Array (Option Value)}{zmm zmn zmo zmp zmq zmr:Value}
  {zms zmt:Option Addr}{zmu:Array (Option Value)}{zmv zmw zmx zmy zmz zna:Value}
  {znb:Addr}
  {znc:Tok}
  {znd:Value}{zne:Option Addr}{znf:Nat}{zng:Array (Option Value)}
  {znh zni:Option Addr}{znj:Array (Option Value)}{znk znl znm znn zno znp:Value}
  {znq znr:Option Addr}{zns:Array (Option Value)}{znt znu znv znw znx zny:Value}
  {znz zoa:Option Addr}{zob:Array (Option Value)}{zoc zod zoe zof zog zoh:Value}
  {zoi:ClassData}
  {zoj:ClassData}
  {zok:ClassData}
  {zol:ClassData}
  {zom:ClassData}
  {zon:ClassData}
  {zoo:ClassData}
  {zop:ClassData}
  {zoq:ClassData}
  {zor:ClassData}
  {zos:ClassData}
  {zot:ClassData}
  {zou:Tok}
  (zov:W.nsIn K mainGlobals "_wall" =some (some (.ref zaa)))
  (zow:W.nsIn K mainGlobals "need_turns" =some (some (.ref zab)))
  (zox:W.nsIn K mainGlobals "need_each_once" =some (some (.ref zac)))
  (zoy:W.nsIn K mainGlobals "rooms_spoken_of" =some (some (.ref zad)))
  (zoz:W.nsIn K mainGlobals "need_rooms" =some (some (.ref zae)))
  (zpa:W.nsIn K mainGlobals "added_people" =some (some (.ref zaf)))
  (zpb:W.nsIn K mainGlobals "need_space" =some (some (.ref zag)))
  (zpc:W.nsIn K mainGlobals "is_whole" =some (some (.ref zah)))
  (zpd:W.nsIn K mainGlobals "is_name" =some (some (.ref zai)))
  (zpe:W.nsIn K mainGlobals "need_name" =some (some (.ref zaj)))
  (zpf:W.nsIn K mainGlobals "need_whole" =some (some (.ref zak)))
  (zpg:W.nsIn K mainGlobals "_law_cell_at" =some (some (.ref zal)))
  (zph:W.nsIn K mainGlobals "_law_made" =some (some (.ref zam)))
  (zpi:W.nsIn K mainGlobals "_law_refused" =some (some (.ref zan)))
  (zpj:W.nsIn K mainGlobals "_law_told" =some (some (.ref zao)))
  (zpk:W.nsIn K mainGlobals "_law_name" =some (some (.ref zap)))
  (zpl:W.nsIn K mainGlobals "law" =some (some (.ref zaq)))
  (zpm:W.nsIn K mainGlobals "House" =some (some (.ref zar)))
  (zpn:W.nsIn K mainGlobals "Door" =some (some (.ref zas)))
  (zpo:W.nsIn K mainGlobals "OutError" =some (some (.ref zat)))
  (zpp:W.nsIn K mainGlobals "NoDoor" =some (some (.ref zau)))
  (zpq:W.nsIn K mainGlobals "NoHouse" =some (some (.ref zav)))
  (zpr:W.nsIn K mainGlobals "NoTurn" =some (some (.ref zaw)))
  (zps:W.nsIn K mainGlobals "Twice" =some (some (.ref zax)))
  (zpt:W.nsIn K mainGlobals "NoRoom" =some (some (.ref zay)))
  (zpu:W.nsIn K mainGlobals "Unknown" =some (some (.ref zaz)))
  (zpv:W.findIn K (.ref zay) "__init__" =some (some (.ref zba)))
  (zpw:W.findIn K (.ref zaz) "__init__" =some (some (.ref zbb)))
  (zpx:W.findIn K (.ref zar) "__init__" =some (some (.ref zbc)))
  (zpy:W.findIn K (.ref zar) "rooms" =some (some (.ref zbd)))
  (zpz:W.findIn K (.ref zar) "doors" =some (some (.ref zbe)))
  (zqa:W.findIn K (.ref zar) "need_room" =some (some (.ref zbf)))
  (zqb:W.findIn K (.ref zar) "holds" =some (some (.ref zbg)))
  (zqc:W.findIn K (.ref zar) "found" =some (some (.ref zbh)))
  (zqd:W.findIn K (.ref zar) "into" =some (some (.ref zbi)))
  (zqe:W.findIn K (.ref zar) "from_room" =some (some (.ref zbj)))
  (zqf:W.findIn K (.ref zar) "door" =some (some (.ref zbk)))
  (zqg:W.findIn K (.ref zar) "lets" =some (some (.ref zbl)))
  (zqh:W.findIn K (.ref zar) "total" =some (some (.ref zbm)))
  (zqi:W.findIn K (.ref zar) "pairs" =some (some (.ref zbn)))
  (zqj:W.findIn K (.ref zas) "__init__" =some (some (.ref zbo)))
  (zqk:W.findIn K (.ref zas) "lets" =some (some (.ref zbp)))
  (zql:W.findIn K (.ref zas) "is_exit" =some (some (.ref zbq)))
  (zqm:W.findIn K (.ref zas) "words" =some (some (.ref zbr)))
  (zqn:K.lookup zaa=some ⟨zbv,zbs,.func (W.fnOf "_wall" "_wall" (aM jG) (aK jG) (aB jG) .none zbw zbx zby zbt zbz zca),zbu⟩)
  (zqo:W.codeIn K zbz "_wall" =true)
  (zqp:W.keepIn K (.ref zaa)=true)
  (zqq:K.lookup zab=some ⟨zce,zcb,.func (W.fnOf "need_turns" "need_turns" (aM cV) (aK cV) (aB cV) .none zcf zcg zch zcc zci zcj),zcd⟩)
  (zqr:W.codeIn K zci "need_turns" =true)
  (zqs:W.keepIn K (.ref zab)=true)
  (zqt:K.lookup zac=some ⟨zcn,zck,.func (W.fnOf "need_each_once" "need_each_once" (aM b2) (aK b2) (aB b2) .none zco zcp zcq zcl zcr zcs),zcm⟩)
  (zqu:W.codeIn K zcr "need_each_once" =true)
  (zqv:W.keepIn K (.ref zac)=true)
  (zqw:K.lookup zad=some ⟨zcw,zct,.func (W.fnOf "rooms_spoken_of" "rooms_spoken_of" (aM bU) (aK bU) (aB bU) .none zcx zcy zcz zcu zda zdb),zcv⟩)
  (zqx:W.codeIn K zda "rooms_spoken_of" =true)
  (zqy:W.keepIn K (.ref zad)=true)
  (zqz:K.lookup zae=some ⟨zdf,zdc,.func (W.fnOf "need_rooms" "need_rooms" (aM cS) (aK cS) (aB cS) .none zdg zdh zdi zdd zdj zdk),zde⟩)
  (zra:W.codeIn K zdj "need_rooms" =true)
  (zrb:W.keepIn K (.ref zae)=true)
  (zrc:K.lookup zaf=some ⟨zdo,zdl,.func (W.fnOf "added_people" "added_people" (aM b9) (aK b9) (aB b9) .none zdp zdq zdr zdm zds zdt),zdn⟩)
  (zrd:W.codeIn K zds "added_people" =true)
  (zre:W.keepIn K (.ref zaf)=true)
  (zrf:K.lookup zag=some ⟨zdx,zdu,.func (W.fnOf "need_space" "need_space" (aM cO) (aK cO) (aB cO) .none zdy zdz zea zdv zeb zec),zdw⟩)
  (zrg:W.codeIn K zeb "need_space" =true)
  (zrh:W.keepIn K (.ref zag)=true)
  (zri:K.lookup zah=some ⟨zeg,zed,.func (W.fnOf "is_whole" "is_whole" (aM dL) (aK dL) (aB dL) .none zeh zei zej zee zek zel),zef⟩)
  (zrj:W.codeIn K zek "is_whole" =true)
  (zrk:W.keepIn K (.ref zah)=true)
  (zrl:K.lookup zai=some ⟨zep,zem,.func (W.fnOf "is_name" "is_name" (aM d0) (aK d0) (aB d0) .none zeq zer zes zen zet zeu),zeo⟩)
  (zrm:W.codeIn K zet "is_name" =true)
  (zrn:W.keepIn K (.ref zai)=true)
  (zro:K.lookup zaj=some ⟨zey,zev,.func (W.fnOf "need_name" "need_name" (aM c6) (aK c6) (aB c6) .none zez zfa zfb zew zfc zfd),zex⟩)
  (zrp:W.codeIn K zfc "need_name" =true)
  (zrq:W.keepIn K (.ref zaj)=true)
  (zrr:K.lookup zak=some ⟨zfh,zfe,.func (W.fnOf "need_whole" "need_whole" (aM cT) (aK cT) (aB cT) .none zfi zfj zfk zff zfl zfm),zfg⟩)
  (zrs:W.codeIn K zfl "need_whole" =true)
  (zrt:W.keepIn K (.ref zak)=true)
  (zru:K.lookup zal=some ⟨zfq,zfn,.func (W.fnOf "_law_cell_at" "_law_cell_at" (aM b6) (aK b6) (aB b6) .none zfr zfs zft zfo zfu zfv),zfp⟩)
  (zrv:W.codeIn K zfu "_law_cell_at" =true)
  (zrw:W.keepIn K (.ref zal)=true)
  (zrx:K.lookup zam=some ⟨zfz,zfw,.func (W.fnOf "_law_made" "_law_made" (aM dA) (aK dA) (aB dA) .none zga zgb zgc zfx zgd zge),zfy⟩)
  (zry:W.codeIn K zgd "_law_made" =true)
  (zrz:W.keepIn K (.ref zam)=true)
  (zsa:K.lookup zan=some ⟨zgi,zgf,.func (W.fnOf "_law_refused" "_law_refused" (aM cA) (aK cA) (aB cA) .none zgj zgk zgl zgg zgm zgn),zgh⟩)
  (zsb:W.codeIn K zgm "_law_refused" =true)
  (zsc:W.keepIn K (.ref zan)=true)
  (zsd:K.lookup zao=some ⟨zgr,zgo,.func (W.fnOf "_law_told" "_law_told" (aM c8) (aK c8) (aB c8) .none zgs zgt zgu zgp zgv zgw),zgq⟩)
  (zse:W.codeIn K zgv "_law_told" =true)
  (zsf:W.keepIn K (.ref zao)=true)
  (zsg:K.lookup zap=some ⟨zha,zgx,.func (W.fnOf "_law_name" "_law_name" (aM c7) (aK c7) (aB c7) .none zhb zhc zhd zgy zhe zhf),zgz⟩)
  (zsh:W.codeIn K zhe "_law_name" =true)
  (zsi:W.keepIn K (.ref zap)=true)
  (zsj:K.lookup zaq=some ⟨zhj,zhg,.func (W.fnOf "law" "law" (aM g8) (aK g8) (aB g8) .none zhk zhl zhm zhh zhn zho),zhi⟩)
  (zsk:W.codeIn K zhn "law" =true)
  (zsl:W.keepIn K (.ref zaq)=true)
  (zsm:K.lookup zba=some ⟨zhs,zhp,.func (W.fnOf "__init__" "NoRoom.__init__" (aM bV) (aK bV) (aB bV) .none zht zhu zhv zhq zhw zhx),zhr⟩)
  (zsn:W.codeIn K zhw "NoRoom.__init__" =true)
  (zso:W.keepIn K (.ref zba)=true)
  (zsp:K.lookup zbb=some ⟨zib,zhy,.func (W.fnOf "__init__" "Unknown.__init__" (aM bQ) (aK bQ) (aB bQ) .none zic zid zie zhz zif zig),zia⟩)
  (zsq:W.codeIn K zif "Unknown.__init__" =true)
  (zsr:W.keepIn K (.ref zbb)=true)
  (zss:K.lookup zbc=some ⟨zik,zih,.func (W.fnOf "__init__" "House.__init__" (aM bR) (aK bR) (aB bR) (.ref zir) zil zim zin zii zio ziq),zij⟩)
  (zst:W.codeIn K zio "House.__init__" =true)
  (zsu:W.keepIn K (.ref zbc)=true)
  (zsv:K.lookup zir=some ⟨zit,ziu,.seq #[.int 0 zis] ziv,ziw⟩)
  (zsw:K.lookup zbd=some ⟨zja,zix,.func (W.fnOf "rooms" "House.rooms" (aM cD) (aK cD) (aB cD) .none zjb zjc zjd ziy zje zjf),ziz⟩)
  (zsx:W.codeIn K zje "House.rooms" =true)
  (zsy:W.keepIn K (.ref zbd)=true)
  (zsz:K.lookup zbe=some ⟨zjj,zjg,.func (W.fnOf "doors" "House.doors" (aM cH) (aK cH) (aB cH) .none zjk zjl zjm zjh zjn zjo),zji⟩)
  (zta:W.codeIn K zjn "House.doors" =true)
  (ztb:W.keepIn K (.ref zbe)=true)
  (ztc:K.lookup zbf=some ⟨zjs,zjp,.func (W.fnOf "need_room" "House.need_room" (aM bX) (aK bX) (aB bX) .none zjt zju zjv zjq zjw zjx),zjr⟩)
  (ztd:W.codeIn K zjw "House.need_room" =true)
  (zte:W.keepIn K (.ref zbf)=true)
  (ztf:K.lookup zbg=some ⟨zkb,zjy,.func (W.fnOf "holds" "House.holds" (aM cE) (aK cE) (aB cE) .none zkc zkd zke zjz zkf zkg),zka⟩)
  (ztg:W.codeIn K zkf "House.holds" =true)
  (zth:W.keepIn K (.ref zbg)=true)
  (zti:K.lookup zbh=some ⟨zkk,zkh,.func (W.fnOf "found" "House.found" (aM cF) (aK cF) (aB cF) .none zkl zkm zkn zki zko zkp),zkj⟩)
  (ztj:W.codeIn K zko "House.found" =true)
  (ztk:W.keepIn K (.ref zbh)=true)
  (ztl:K.lookup zbi=some ⟨zkt,zkq,.func (W.fnOf "into" "House.into" (aM cQ) (aK cQ) (aB cQ) .none zku zkv zkw zkr zkx zky),zks⟩)
  (ztm:W.codeIn K zkx "House.into" =true)
  (ztn:W.keepIn K (.ref zbi)=true)
  (zto:K.lookup zbj=some ⟨zlc,zkz,.func (W.fnOf "from_room" "House.from_room" (aM bW) (aK bW) (aB bW) .none zld zle zlf zla zlg zlh),zlb⟩)
  (ztp:W.codeIn K zlg "House.from_room" =true)
  (ztq:W.keepIn K (.ref zbj)=true)
  (ztr:K.lookup zbk=some ⟨zll,zli,.func (W.fnOf "door" "House.door" (aM cR) (aK cR) (aB cR) .none zlm zln zlo zlj zlp zlq),zlk⟩)
  (zts:W.codeIn K zlp "House.door" =true)
  (ztt:W.keepIn K (.ref zbk)=true)
  (ztu:K.lookup zbl=some ⟨zlu,zlr,.func (W.fnOf "lets" "House.lets" (aM cU) (aK cU) (aB cU) .none zlv zlw zlx zls zly zlz),zlt⟩)
  (ztv:W.codeIn K zly "House.lets" =true)
  (ztw:W.keepIn K (.ref zbl)=true)
  (ztx:K.lookup zbm=some ⟨zmd,zma,.func (W.fnOf "total" "House.total" (aM cI) (aK cI) (aB cI) .none zme zmf zmg zmb zmh zmi),zmc⟩)
  (zty:W.codeIn K zmh "House.total" =true)
  (ztz:W.keepIn K (.ref zbm)=true)
  (zua:K.lookup zbn=some ⟨zmm,zmj,.func (W.fnOf "pairs" "House.pairs" (aM cJ) (aK cJ) (aB cJ) .none zmn zmo zmp zmk zmq zmr),zml⟩)
  (zub:W.codeIn K zmq "House.pairs" =true)
  (zuc:W.keepIn K (.ref zbn)=true)
  (zud:K.lookup zbo=some ⟨zmv,zms,.func (W.fnOf "__init__" "Door.__init__" (aM bO) (aK bO) (aB bO) (.ref znb) zmw zmx zmy zmt zmz zna),zmu⟩)
  (zue:W.codeIn K zmz "Door.__init__" =true)
  (zuf:W.keepIn K (.ref zbo)=true)
  (zug:K.lookup znb=some ⟨znd,zne,.seq #[.none,.int 1 znc] znf,zng⟩)
  (zuh:K.lookup zbp=some ⟨znk,znh,.func (W.fnOf "lets" "Door.lets" (aM c9) (aK c9) (aB c9) .none znl znm znn zni zno znp),znj⟩)
  (zui:W.codeIn K zno "Door.lets" =true)
  (zuj:W.keepIn K (.ref zbp)=true)
  (zuk:K.lookup zbq=some ⟨znt,znq,.func (W.fnOf "is_exit" "Door.is_exit" (aM b8) (aK b8) (aB b8) .none znu znv znw znr znx zny),zns⟩)
  (zul:W.codeIn K znx "Door.is_exit" =true)
  (zum:W.keepIn K (.ref zbq)=true)
  (zun:K.lookup zbr=some ⟨zoc,znz,.func (W.fnOf "words" "Door.words" (aM dG) (aK dG) (aB dG) .none zod zoe zof zoa zog zoh),zob⟩)
  (zuo:W.codeIn K zog "Door.words" =true)
  (zup:W.keepIn K (.ref zbr)=true)
  (zuq:W.plainGet K zar Str.empty=true)
  (zur:W.hasDictIn K zar=true)
  (zus:W.plainOver K zar=true)
  (zut:W.findIn K (.ref zar) "__setattr__" =some (some (.builtin "object.__setattr__")))
  (zuu:W.makesIn K zar=true)
  (zuv:W.keepIn K (.ref zar)=true)
  (zuw:W.findIn K (.ref zar) "__class__" =some (some (.builtin "object.__class__")))
  (zux:W.mroIn K zar (.type "object")=some true)
  (zuy:W.findIn K (.ref zar) "first" =some none)
  (zuz:W.findIn K (.ref zar) "last" =some none)
  (zva:W.findIn K (.ref zar) "sizes" =some none)
  (zvb:W.findIn K (.ref zar) "people" =some none)
  (zvc:W.findIn K (.ref zar) "named_doors" =some none)
  (zvd:W.findIn K (.ref zar) "name" =some none)
  (zve:W.findIn K (.ref zar) "start" =some none)
  (zvf:W.findIn K (.ref zar) "end" =some none)
  (zvg:W.findIn K (.ref zar) "wide" =some none)
  (zvh:W.findIn K (.ref zar) "__init__" =some (some (.ref zbc)))
  (zvi:W.isFn K (.ref zbc)=true)
  (zvj:W.findIn K (.ref zar) "rooms" =some (some (.ref zbd)))
  (zvk:W.isFn K (.ref zbd)=true)
  (zvl:W.findIn K (.ref zar) "doors" =some (some (.ref zbe)))
  (zvm:W.isFn K (.ref zbe)=true)
  (zvn:W.findIn K (.ref zar) "need_room" =some (some (.ref zbf)))
  (zvo:W.isFn K (.ref zbf)=true)
  (zvp:W.findIn K (.ref zar) "holds" =some (some (.ref zbg)))
  (zvq:W.isFn K (.ref zbg)=true)
  (zvr:W.findIn K (.ref zar) "found" =some (some (.ref zbh)))
  (zvs:W.isFn K (.ref zbh)=true)
  (zvt:W.findIn K (.ref zar) "into" =some (some (.ref zbi)))
  (zvu:W.isFn K (.ref zbi)=true)
  (zvv:W.findIn K (.ref zar) "from_room" =some (some (.ref zbj)))
  (zvw:W.isFn K (.ref zbj)=true)
  (zvx:W.findIn K (.ref zar) "door" =some (some (.ref zbk)))
  (zvy:W.isFn K (.ref zbk)=true)
  (zvz:W.findIn K (.ref zar) "lets" =some (some (.ref zbl)))
  (zwa:W.isFn K (.ref zbl)=true)
  (zwb:W.findIn K (.ref zar) "total" =some (some (.ref zbm)))
  (zwc:W.isFn K (.ref zbm)=true)
  (zwd:W.findIn K (.ref zar) "pairs" =some (some (.ref zbn)))
  (zwe:W.isFn K (.ref zbn)=true)
  (zwf:W.plainGet K zas Str.empty=true)
  (zwg:W.hasDictIn K zas=true)
  (zwh:W.plainOver K zas=true)
  (zwi:W.findIn K (.ref zas) "__setattr__" =some (some (.builtin "object.__setattr__")))
  (zwj:W.makesIn K zas=true)
  (zwk:W.keepIn K (.ref zas)=true)
  (zwl:W.findIn K (.ref zas) "__class__" =some (some (.builtin "object.__class__")))
  (zwm:W.mroIn K zas (.type "object")=some true)
  (zwn:W.findIn K (.ref zas) "first" =some none)
  (zwo:W.findIn K (.ref zas) "last" =some none)
  (zwp:W.findIn K (.ref zas) "sizes" =some none)
  (zwq:W.findIn K (.ref zas) "people" =some none)
  (zwr:W.findIn K (.ref zas) "named_doors" =some none)
  (zws:W.findIn K (.ref zas) "name" =some none)
  (zwt:W.findIn K (.ref zas) "start" =some none)
  (zwu:W.findIn K (.ref zas) "end" =some none)
  (zwv:W.findIn K (.ref zas) "wide" =some none)
  (zww:W.findIn K (.ref zas) "__init__" =some (some (.ref zbo)))
  (zwx:W.isFn K (.ref zbo)=true)
  (zwy:W.findIn K (.ref zas) "lets" =some (some (.ref zbp)))
  (zwz:W.isFn K (.ref zbp)=true)
  (zxa:W.findIn K (.ref zas) "is_exit" =some (some (.ref zbq)))
  (zxb:W.isFn K (.ref zbq)=true)
  (zxc:W.findIn K (.ref zas) "words" =some (some (.ref zbr)))
  (zxd:W.isFn K (.ref zbr)=true)
  (zxe:W.specialIn K (.builtin "object.__class__") "__get__" =some (some (.builtin "getset_descriptor.__get__")))
  (zxf:W.takesIn K (.builtin "object.__class__")=some true)
  (zxg:qD K zay zba=true)
  (zxh:W.findIn K (.ref zay) "__getattribute__" =some (some (.builtin "BaseException.__getattribute__")))
  (zxi:W.findIn K (.ref zay) "__getattr__" =some none)
  (zxj:W.findIn K (.ref zay) "__class__" =some (some (.builtin "object.__class__")))
  (zxk:W.subIn K (.ref zay) (.type "object")=some true)
  (zxl:W.subIn K (.ref zay) (.type "BaseException")=some true)
  (zxm:W.clsIn K zay=some zoi)
  (zxn:dH K zay=true)
  (zxo:W.findIn K (.ref zay) "__setattr__" =some (some (.builtin "object.__setattr__")))
  (zxp:W.findIn K (.ref zay) "name" =some none)
  (zxq:qD K zaz zbb=true)
  (zxr:W.findIn K (.ref zaz) "__getattribute__" =some (some (.builtin "BaseException.__getattribute__")))
  (zxs:W.findIn K (.ref zaz) "__getattr__" =some none)
  (zxt:W.findIn K (.ref zaz) "__class__" =some (some (.builtin "object.__class__")))
  (zxu:W.subIn K (.ref zaz) (.type "object")=some true)
  (zxv:W.subIn K (.ref zaz) (.type "BaseException")=some true)
  (zxw:W.clsIn K zaz=some zoj)
  (zxx:dH K zaz=true)
  (zxy:W.findIn K (.ref zaz) "__setattr__" =some (some (.builtin "object.__setattr__")))
  (zxz:W.findIn K (.ref zaz) "name" =some none)
  (zya:W.clsIn K zat=some zok)
  (zyb:W.typeIn K (.ref zat)=some (.type "type"))
  (zyc:W.subIn K (.ref zat) (.type "BaseException")=some true)
  (zyd:W.subIn K (.ref zay) (.ref zat)=some true)
  (zye:W.clsIn K zat=some zol)
  (zyf:W.typeIn K (.ref zat)=some (.type "type"))
  (zyg:W.subIn K (.ref zat) (.type "BaseException")=some true)
  (zyh:W.subIn K (.ref zaz) (.ref zat)=some true)
  (zyi:W.clsIn K zaz=some zom)
  (zyj:W.typeIn K (.ref zaz)=some (.type "type"))
  (zyk:W.subIn K (.ref zay) (.ref zaz)=some false)
  (zyl:(Value.ref zay==Value.ref zaz)=false)
  (zym:W.clsIn K zax=some zon)
  (zyn:W.typeIn K (.ref zax)=some (.type "type"))
  (zyo:W.subIn K (.ref zay) (.ref zax)=some false)
  (zyp:(Value.ref zay==Value.ref zax)=false)
  (zyq:W.clsIn K zav=some zoo)
  (zyr:W.typeIn K (.ref zav)=some (.type "type"))
  (zys:W.subIn K (.ref zay) (.ref zav)=some false)
  (zyt:(Value.ref zay==Value.ref zav)=false)
  (zyu:W.clsIn K zaw=some zop)
  (zyv:W.typeIn K (.ref zaw)=some (.type "type"))
  (zyw:W.subIn K (.ref zay) (.ref zaw)=some false)
  (zyx:(Value.ref zay==Value.ref zaw)=false)
  (zyy:W.subIn K (.ref zay) (.type "ValueError")=some true)
  (zyz:W.clsIn K zay=some zoq)
  (zza:W.typeIn K (.ref zay)=some (.type "type"))
  (zzb:W.subIn K (.ref zaz) (.ref zay)=some false)
  (zzc:(Value.ref zaz==Value.ref zay)=false)
  (zzd:W.clsIn K zax=some zor)
  (zze:W.typeIn K (.ref zax)=some (.type "type"))
  (zzf:W.subIn K (.ref zaz) (.ref zax)=some false)
  (zzg:(Value.ref zaz==Value.ref zax)=false)
  (zzh:W.clsIn K zav=some zos)
  (zzi:W.typeIn K (.ref zav)=some (.type "type"))
  (zzj:W.subIn K (.ref zaz) (.ref zav)=some false)
  (zzk:(Value.ref zaz==Value.ref zav)=false)
  (zzl:W.clsIn K zaw=some zot)
  (zzm:W.typeIn K (.ref zaw)=some (.type "type"))
  (zzn:W.subIn K (.ref zaz) (.ref zaw)=some false)
  (zzo:(Value.ref zaz==Value.ref zaw)=false)
  (zzp:W.subIn K (.ref zaz) (.type "ValueError")=some true)
  (zzq:W.nsIn K mainGlobals "ValueError" =some none)
  (zzr:W.nsIn K mainGlobals "any" =some none)
  (zzs:W.nsIn K mainGlobals "range" =some none)
  (zzt:W.nsIn K mainGlobals "enumerate" =some none)
  (zzu:W.nsIn K mainGlobals "dict" =some none)
  (zzv:W.nsIn K mainGlobals "list" =some none)
  (zzw:W.nsIn K mainGlobals "sum" =some none)
  (zzx:W.nsIn K mainGlobals "isinstance" =some none)
  (zzy:W.nsIn K mainGlobals "int" =some none)
  (zbaa:W.nsIn K mainGlobals "str" =some none)
  (zbab:W.nsIn K mainGlobals "all" =some none)
  (zbac:W.nsIn K mainGlobals "len" =some none)
  (zbad:W.nsIn K mainGlobals "bool" =some none)
  (zbae:W.nsIn K mainGlobals "LONGEST_NAME" =some (some (.int 8 zou))) :
  ∃fd:FuncData,(∀(s:Shared) (v:Value),BindsTo s fd ⟨[v],[]⟩ [("_law_script",v)])/\∀base:Heap,K.In base->base.Ns mainGlobals mg->aY l.prog w K mg base CX0 20 fa fd ["_law_script"] (rS K):=by
 have e:=hfa.symm.trans (W.mg_of X G zpl);cases e;have zbaf:=aU (st:=jG) zqn zqo zqp;have zbag:=aX (K:=K) (x:= "_wall") (qual:= "_wall") (st:=jG) (kV:=zbw) (doc:=zbx) (pm:=zby) (an:=zbt) (cdv:=zbz) (ct:=zca) (ps:=["k"])<|aP 1 _ fun _=>rfl
 have zbah:=aU (st:=cV) zqq zqr zqs;have zbai:=aX (K:=K) (x:= "need_turns") (qual:= "need_turns") (st:=cV) (kV:=zcf) (doc:=zcg) (pm:=zch) (an:=zcc) (cdv:=zci) (ct:=zcj) (ps:=["first","last"])<|aP 2 _ fun _ _=>rfl
 have zbaj:=aU (st:=b2) zqt zqu zqv;have zbak:=aX (K:=K) (x:= "need_each_once") (qual:= "need_each_once") (st:=b2) (kV:=zco) (doc:=zcp) (pm:=zcq) (an:=zcl) (cdv:=zcr) (ct:=zcs) (ps:=["names"])<|aP 1 _ fun _=>rfl
 have zbal:=aU (st:=bU) zqw zqx zqy;have zbam:=aX (K:=K) (x:= "rooms_spoken_of") (qual:= "rooms_spoken_of") (st:=bU) (kV:=zcx) (doc:=zcy) (pm:=zcz) (an:=zcu) (cdv:=zda) (ct:=zdb) (ps:=["doors","people"])<|aP 2 _ fun _ _=>rfl
 have zban:=aU (st:=cS) zqz zra zrb;have zbao:=aX (K:=K) (x:= "need_rooms") (qual:= "need_rooms") (st:=cS) (kV:=zdg) (doc:=zdh) (pm:=zdi) (an:=zdd) (cdv:=zdj) (ct:=zdk) (ps:=["names","sizes"])<|aP 2 _ fun _ _=>rfl
 have zbap:=aU (st:=b9) zrc zrd zre;have zbaq:=aX (K:=K) (x:= "added_people") (qual:= "added_people") (st:=b9) (kV:=zdp) (doc:=zdq) (pm:=zdr) (an:=zdm) (cdv:=zds) (ct:=zdt) (ps:=["sizes","people"])<|aP 2 _ fun _ _=>rfl
 have zbar:=aU (st:=cO) zrf zrg zrh;have zbas:=aX (K:=K) (x:= "need_space") (qual:= "need_space") (st:=cO) (kV:=zdy) (doc:=zdz) (pm:=zea) (an:=zdv) (cdv:=zeb) (ct:=zec) (ps:=["sizes","people"])<|aP 2 _ fun _ _=>rfl
 have zbat:=aU (st:=dL) zri zrj zrk;have zbau:=aX (K:=K) (x:= "is_whole") (qual:= "is_whole") (st:=dL) (kV:=zeh) (doc:=zei) (pm:=zej) (an:=zee) (cdv:=zek) (ct:=zel) (ps:=["thing"])<|aP 1 _ fun _=>rfl
 have zbav:=aU (st:=d0) zrl zrm zrn;have zbaw:=aX (K:=K) (x:= "is_name") (qual:= "is_name") (st:=d0) (kV:=zeq) (doc:=zer) (pm:=zes) (an:=zen) (cdv:=zet) (ct:=zeu) (ps:=["thing"])<|aP 1 _ fun _=>rfl
 have zbax:=aU (st:=c6) zro zrp zrq;have zbay:=aX (K:=K) (x:= "need_name") (qual:= "need_name") (st:=c6) (kV:=zez) (doc:=zfa) (pm:=zfb) (an:=zew) (cdv:=zfc) (ct:=zfd) (ps:=["part","thing"])<|aP 2 _ fun _ _=>rfl
 have zbaz:=aU (st:=cT) zrr zrs zrt;have zbba:=aX (K:=K) (x:= "need_whole") (qual:= "need_whole") (st:=cT) (kV:=zfi) (doc:=zfj) (pm:=zfk) (an:=zff) (cdv:=zfl) (ct:=zfm) (ps:=["part","thing","least"])<|aP 3 _ fun _ _ _=>rfl
 have zbbb:=aU (st:=b6) zru zrv zrw;have zbbc:=aX (K:=K) (x:= "_law_cell_at") (qual:= "_law_cell_at") (st:=b6) (kV:=zfr) (doc:=zfs) (pm:=zft) (an:=zfo) (cdv:=zfu) (ct:=zfv) (ps:=["_law_script","_law_k"])<|aP 2 _ fun _ _=>rfl
 have zbbd:=aU (st:=dA) zrx zry zrz;have zbbe:=aX (K:=K) (x:= "_law_made") (qual:= "_law_made") (st:=dA) (kV:=zga) (doc:=zgb) (pm:=zgc) (an:=zfx) (cdv:=zgd) (ct:=zge) (ps:=["_law_script"])<|aP 1 _ fun _=>rfl
 have zbbf:=aU (st:=cA) zsa zsb zsc;have zbbg:=aX (K:=K) (x:= "_law_refused") (qual:= "_law_refused") (st:=cA) (kV:=zgj) (doc:=zgk) (pm:=zgl) (an:=zgg) (cdv:=zgm) (ct:=zgn) (ps:=["_law_house","_law_word","_law_name_here","_law_turn"])<|aP 4 _ fun _ _ _ _=>rfl
 have zbbh:=aU (st:=c8) zsd zse zsf;have zbbi:=aX (K:=K) (x:= "_law_told") (qual:= "_law_told") (st:=c8) (kV:=zgs) (doc:=zgt) (pm:=zgu) (an:=zgp) (cdv:=zgv) (ct:=zgw) (ps:=["_law_house"])<|aP 1 _ fun _=>rfl
 have zbbj:=aU (st:=c7) zsg zsh zsi;have zbbk:=aX (K:=K) (x:= "_law_name") (qual:= "_law_name") (st:=c7) (kV:=zhb) (doc:=zhc) (pm:=zhd) (an:=zgy) (cdv:=zhe) (ct:=zhf) (ps:=["_law_known","_law_others","_law_cell"])<|aP 3 _ fun _ _ _=>rfl
 have zbbl:=aU (st:=g8) zsj zsk zsl;have zbbm:=aX (K:=K) (x:= "law") (qual:= "law") (st:=g8) (kV:=zhk) (doc:=zhl) (pm:=zhm) (an:=zhh) (cdv:=zhn) (ct:=zho) (ps:=["_law_script"])<|aP 1 _ fun _=>rfl
 have zbbn:=aU (st:=bV) zsm zsn zso;have zbbo:=aX (K:=K) (x:= "__init__") (qual:= "NoRoom.__init__") (st:=bV) (kV:=zht) (doc:=zhu) (pm:=zhv) (an:=zhq) (cdv:=zhw) (ct:=zhx) (ps:=["self","name"])<|aP 2 _ fun _ _=>rfl
 have zbbp:=aU (st:=bQ) zsp zsq zsr;have zbbq:=aX (K:=K) (x:= "__init__") (qual:= "Unknown.__init__") (st:=bQ) (kV:=zic) (doc:=zid) (pm:=zie) (an:=zhz) (cdv:=zif) (ct:=zig) (ps:=["self","name"])<|aP 2 _ fun _ _=>rfl
 have zbbr:=aU (st:=bR) zss zst zsu;have zbbs:=kT 6 (K:=K) (x:= "__init__") (qual:= "House.__init__") (st:=bR) (kV:=zil) (doc:=zim) (pm:=zin) (an:=zii) (cdv:=zio) (ct:=ziq) (ps:=["self","rooms","doors","people","last","first"]) (ds:=[]) zsv<|aP 6 _ fun _ _ _ _ _ _=>⟨_,rfl,rfl⟩
 have zbbt:=kT 5 (K:=K) (x:= "__init__") (qual:= "House.__init__") (st:=bR) (kV:=zil) (doc:=zim) (pm:=zin) (an:=zii) (cdv:=zio) (ct:=ziq) (ps:=["self","rooms","doors","people","last","first"]) (ds:=[.int 0 zis]) zsv<|aP 5 _ fun _ _ _ _ _=>⟨_,rfl,rfl⟩
 have zbbu:=aU (st:=cD) zsw zsx zsy;have zbbv:=aX (K:=K) (x:= "rooms") (qual:= "House.rooms") (st:=cD) (kV:=zjb) (doc:=zjc) (pm:=zjd) (an:=ziy) (cdv:=zje) (ct:=zjf) (ps:=["self"])<|aP 1 _ fun _=>rfl
 have zbbw:=aU (st:=cH) zsz zta ztb;have zbbx:=aX (K:=K) (x:= "doors") (qual:= "House.doors") (st:=cH) (kV:=zjk) (doc:=zjl) (pm:=zjm) (an:=zjh) (cdv:=zjn) (ct:=zjo) (ps:=["self"])<|aP 1 _ fun _=>rfl
 have zbby:=aU (st:=bX) ztc ztd zte;have zbbz:=aX (K:=K) (x:= "need_room") (qual:= "House.need_room") (st:=bX) (kV:=zjt) (doc:=zju) (pm:=zjv) (an:=zjq) (cdv:=zjw) (ct:=zjx) (ps:=["self","room"])<|aP 2 _ fun _ _=>rfl
 have zbca:=aU (st:=cE) ztf ztg zth;have zbcb:=aX (K:=K) (x:= "holds") (qual:= "House.holds") (st:=cE) (kV:=zkc) (doc:=zkd) (pm:=zke) (an:=zjz) (cdv:=zkf) (ct:=zkg) (ps:=["self","room"])<|aP 2 _ fun _ _=>rfl
 have zbcc:=aU (st:=cF) zti ztj ztk;have zbcd:=aX (K:=K) (x:= "found") (qual:= "House.found") (st:=cF) (kV:=zkl) (doc:=zkm) (pm:=zkn) (an:=zki) (cdv:=zko) (ct:=zkp) (ps:=["self","room"])<|aP 2 _ fun _ _=>rfl
 have zbce:=aU (st:=cQ) ztl ztm ztn;have zbcf:=aX (K:=K) (x:= "into") (qual:= "House.into") (st:=cQ) (kV:=zku) (doc:=zkv) (pm:=zkw) (an:=zkr) (cdv:=zkx) (ct:=zky) (ps:=["self","room"])<|aP 2 _ fun _ _=>rfl
 have zbcg:=aU (st:=bW) zto ztp ztq;have zbch:=aX (K:=K) (x:= "from_room") (qual:= "House.from_room") (st:=bW) (kV:=zld) (doc:=zle) (pm:=zlf) (an:=zla) (cdv:=zlg) (ct:=zlh) (ps:=["self","room"])<|aP 2 _ fun _ _=>rfl
 have zbci:=aU (st:=cR) ztr zts ztt;have zbcj:=aX (K:=K) (x:= "door") (qual:= "House.door") (st:=cR) (kV:=zlm) (doc:=zln) (pm:=zlo) (an:=zlj) (cdv:=zlp) (ct:=zlq) (ps:=["self","name"])<|aP 2 _ fun _ _=>rfl
 have zbck:=aU (st:=cU) ztu ztv ztw;have zbcl:=aX (K:=K) (x:= "lets") (qual:= "House.lets") (st:=cU) (kV:=zlv) (doc:=zlw) (pm:=zlx) (an:=zls) (cdv:=zly) (ct:=zlz) (ps:=["self","name","turn"])<|aP 3 _ fun _ _ _=>rfl
 have zbcm:=aU (st:=cI) ztx zty ztz;have zbcn:=aX (K:=K) (x:= "total") (qual:= "House.total") (st:=cI) (kV:=zme) (doc:=zmf) (pm:=zmg) (an:=zmb) (cdv:=zmh) (ct:=zmi) (ps:=["self"])<|aP 1 _ fun _=>rfl
 have zbco:=aU (st:=cJ) zua zub zuc;have zbcp:=aX (K:=K) (x:= "pairs") (qual:= "House.pairs") (st:=cJ) (kV:=zmn) (doc:=zmo) (pm:=zmp) (an:=zmk) (cdv:=zmq) (ct:=zmr) (ps:=["self"])<|aP 1 _ fun _=>rfl
 have zbcq:=aU (st:=bO) zud zue zuf;have zbcr:=kT 5 (K:=K) (x:= "__init__") (qual:= "Door.__init__") (st:=bO) (kV:=zmw) (doc:=zmx) (pm:=zmy) (an:=zmt) (cdv:=zmz) (ct:=zna) (ps:=["self","name","start","end","wide"]) (ds:=[]) zug<|aP 5 _ fun _ _ _ _ _=>⟨_,rfl,rfl⟩
 have zbcs:=kT 4 (K:=K) (x:= "__init__") (qual:= "Door.__init__") (st:=bO) (kV:=zmw) (doc:=zmx) (pm:=zmy) (an:=zmt) (cdv:=zmz) (ct:=zna) (ps:=["self","name","start","end","wide"]) (ds:=[.int 1 znc]) zug<|aP 4 _ fun _ _ _ _=>⟨_,rfl,rfl⟩
 have zbct:=kT 3 (K:=K) (x:= "__init__") (qual:= "Door.__init__") (st:=bO) (kV:=zmw) (doc:=zmx) (pm:=zmy) (an:=zmt) (cdv:=zmz) (ct:=zna) (ps:=["self","name","start","end","wide"]) (ds:=[.none,.int 1 znc]) zug<|aP 3 _ fun _ _ _=>⟨_,rfl,rfl⟩
 have zbcu:=aU (st:=c9) zuh zui zuj;have zbcv:=aX (K:=K) (x:= "lets") (qual:= "Door.lets") (st:=c9) (kV:=znl) (doc:=znm) (pm:=znn) (an:=zni) (cdv:=zno) (ct:=znp) (ps:=["self","turn"])<|aP 2 _ fun _ _=>rfl
 have zbcw:=aU (st:=b8) zuk zul zum;have zbcx:=aX (K:=K) (x:= "is_exit") (qual:= "Door.is_exit") (st:=b8) (kV:=znu) (doc:=znv) (pm:=znw) (an:=znr) (cdv:=znx) (ct:=zny) (ps:=["self"])<|aP 1 _ fun _=>rfl
 have zbcy:=aU (st:=dG) zun zuo zup;have zbcz:=aX (K:=K) (x:= "words") (qual:= "Door.words") (st:=dG) (kV:=zod) (doc:=zoe) (pm:=zof) (an:=zoa) (cdv:=zog) (ct:=zoh) (ps:=["self"])<|aP 1 _ fun _=>rfl
 have zbda:ICls K zar:=⟨⟨zuq,zur,zus,zut⟩,zuw,zxe,zxf,zux⟩
 have zbdb:ICls K zas:=⟨⟨zwf,zwg,zwh,zwi⟩,zwl,zxe,zxf,zwm⟩
 exact⟨W.fnOf "law" "law" (aM g8) (aK g8) (aB g8) .none zhk zhl zhm zhh zhn zho,fun s v=> .of_eq rfl,fun base _ _=>MP ⟨zaa,_,zbaf,zbag,
  zab,_,zbah,zbai,
  zac,_,zbaj,zbak,
  zad,_,zbal,zbam,
  zae,_,zban,zbao,
  zaf,_,zbap,zbaq,
  zag,_,zbar,zbas,
  zah,_,zbat,zbau,
  zai,_,zbav,zbaw,
  zaj,_,zbax,zbay,
  zak,_,zbaz,zbba,
  zal,_,zbbb,zbbc,
  zam,_,zbbd,zbbe,
  zan,_,zbbf,zbbg,
  zao,_,zbbh,zbbi,
  zap,_,zbbj,zbbk,
  fa,_,zbbl,zbbm,
  zba,_,zbbn,zbbo,
  zbb,_,zbbp,zbbq,
  zbc,_,zbbr,zbbs,
  zbd,_,zbbu,zbbv,
  zbe,_,zbbw,zbbx,
  zbf,_,zbby,zbbz,
  zbg,_,zbca,zbcb,
  zbh,_,zbcc,zbcd,
  zbi,_,zbce,zbcf,
  zbj,_,zbcg,zbch,
  zbk,_,zbci,zbcj,
  zbl,_,zbck,zbcl,
  zbm,_,zbcm,zbcn,
  zbn,_,zbco,zbcp,
  zbo,_,zbcq,zbcr,
  zbp,_,zbcu,zbcv,
  zbq,_,zbcw,zbcx,
  zbr,_,zbcy,zbcz,
  W.mg_of X G zov,
  W.mg_of X G zow,
  W.mg_of X G zox,
  W.mg_of X G zoy,
  W.mg_of X G zoz,
  W.mg_of X G zpa,
  W.mg_of X G zpb,
  W.mg_of X G zpc,
  W.mg_of X G zpd,
  W.mg_of X G zpe,
  W.mg_of X G zpf,
  W.mg_of X G zpg,
  W.mg_of X G zph,
  W.mg_of X G zpi,
  W.mg_of X G zpj,
  W.mg_of X G zpk,
  W.mg_of X G zpl,
  ⟨_,.cons ⟨_,rfl⟩ (.nil),zbbt⟩,
  ⟨_,.cons ⟨_,rfl⟩ (.nil),zbcs⟩,
  ⟨_,.cons rfl (.cons ⟨_,rfl⟩ (.nil)),zbct⟩,
  zar,W.mg_of X G zpm,
  zas,W.mg_of X G zpn,
  zat,W.mg_of X G zpo,
  zau,W.mg_of X G zpp,
  zav,W.mg_of X G zpq,
  zaw,W.mg_of X G zpr,
  zax,W.mg_of X G zps,
  zay,W.mg_of X G zpt,
  zaz,W.mg_of X G zpu,
  ⟨zbda,zuy,zuz,zva,zvb,zvc,zvd,zve,zvf,zvg⟩,
  ⟨zuu,zvh,zvi,zuv⟩,
  ⟨zvj,zvk,zsy⟩,
  ⟨zvl,zvm,ztb⟩,
  ⟨zvn,zvo,zte⟩,
  ⟨zvp,zvq,zth⟩,
  ⟨zvr,zvs,ztk⟩,
  ⟨zvt,zvu,ztn⟩,
  ⟨zvv,zvw,ztq⟩,
  ⟨zvx,zvy,ztt⟩,
  ⟨zvz,zwa,ztw⟩,
  ⟨zwb,zwc,ztz⟩,
  ⟨zwd,zwe,zuc⟩,
  ⟨zbdb,zwn,zwo,zwp,zwq,zwr,zws,zwt,zwu,zwv⟩,
  ⟨zwj,zww,zwx,zwk⟩,
  ⟨zwy,zwz,zuj⟩,
  ⟨zxa,zxb,zum⟩,
  ⟨zxc,zxd,zup⟩,
  zxg,⟨⟨zxh,zxi,zxj,zxk,zxl,_,zxm⟩,zxn,zxo⟩,zxp,
  zxq,⟨⟨zxr,zxs,zxt,zxu,zxv,_,zxw⟩,zxx,zxy⟩,zxz,
  D1 zya zyb zyc zyd,
  D1 zye zyf zyg zyh,
  xD,
  iJ zyl zyi zyj zyk,
  iJ zyp zym zyn zyo,
  iJ zyt zyq zyr zys,
  iJ zyx zyu zyv zyw,
  CV iI zyy,
  iJ zzc zyz zza zzb,
  xD,
  iJ zzg zzd zze zzf,
  iJ zzk zzh zzi zzj,
  iJ zzo zzl zzm zzn,
  CV iI zzp,
  W.mg_none_of X G zzq,
  W.mg_none_of X G zzr,
  W.mg_none_of X G zzs,
  W.mg_none_of X G zzt,
  W.mg_none_of X G zzu,
  W.mg_none_of X G zzv,
  W.mg_none_of X G zzw,
  W.mg_none_of X G zzx,
  W.mg_none_of X G zzy,
  W.mg_none_of X G zbaa,
  W.mg_none_of X G zbab,
  W.mg_none_of X G zbac,
  W.mg_none_of X G zbad,
  ⟨zou,W.mg_of X G zbae⟩⟩⟩
theorem walk {l:W.OpenLaw}{q:Program}{loose:List Str}{XP:(Str->Option Value)->Heap->Prop}{YP:World->Heap->Prop}{d:DefRec}{K:Params->W.Frag} (hn:l.most=some 63) (hdf:d.params.defaults=[])
  (hY:∀(w:World) (h:Heap),YP w h->(K w.params).In h)
  (F:∀(w:World) (mg:Str->Option Value) (fa:Addr) (h:Heap),(K w.params).In h->h.Ns mainGlobals mg->mg d.name=some (.ref fa) →
   ∃fd:FuncData,(∀(s:Shared) (u:Value),BindsTo s fd ⟨[u],[]⟩ [("_law_script",u)])/\∀base:Heap,(K w.params).In base->base.Ns mainGlobals mg->aY l.prog w (K w.params) mg base CX0 20 fa fd ["_law_script"] (rS (K w.params))) :
  W.WalkO q loose XP YP l.row.toRowW d [] (fun f vs=>PySem.call f vs) :=
 L2.walk_of (n:=63) (k:=20) (x:= "_law_script") (CX:=fun _=>CX0) (sp:=fun w=>rS (K w.params)) hn (by decide) hdf ⟨rfl,by decide,by decide⟩ hY F (fun _ _ a ns hl _ hS=>⟨a,ns,rfl,hS,hl,fun _=>rfl⟩) fun _ _ _ _ _ z=>z
end Prf
open PySem PySem.W PyProof.Rows
set_option maxRecDepth 100000 in
set_option maxHeartbeats 0 in
theorem PySem.Challenge.cw_firstout_k13_strange_names_holds : PySem.Challenge.rw_firstout_k13_strange_names.Holds := by
 w_on;o_law;k_head;(case hw=>w_witness2)
 k_fill
 refine Prf.walk (l:=PySem.Challenge.rw_firstout_k13_strange_names) rfl rfl (fun w h Y=>PySem.W.kIn_of Y) ?F
 case F =>
  intro w mg fa h KX G hmg;refine' Prf.all_mk KX G hmg ?zov ?zow ?zox ?zoy ?zoz ?zpa ?zpb ?zpc ?zpd ?zpe ?zpf ?zpg ?zph ?zpi ?zpj ?zpk ?zpl ?zpm ?zpn ?zpo ?zpp ?zpq ?zpr ?zps ?zpt ?zpu ?zpv ?zpw ?zpx ?zpy ?zpz ?zqa ?zqb ?zqc ?zqd ?zqe ?zqf ?zqg ?zqh ?zqi ?zqj ?zqk ?zql ?zqm ?zqn ?zqo ?zqp ?zqq ?zqr ?zqs ?zqt ?zqu ?zqv ?zqw ?zqx ?zqy ?zqz ?zra ?zrb ?zrc ?zrd ?zre ?zrf ?zrg ?zrh ?zri ?zrj ?zrk ?zrl ?zrm ?zrn ?zro ?zrp ?zrq ?zrr ?zrs ?zrt ?zru ?zrv ?zrw ?zrx ?zry ?zrz ?zsa ?zsb ?zsc ?zsd ?zse ?zsf ?zsg ?zsh ?zsi ?zsj ?zsk ?zsl ?zsm ?zsn ?zso ?zsp ?zsq ?zsr ?zss ?zst ?zsu ?zsv ?zsw ?zsx ?zsy ?zsz ?zta ?ztb ?ztc ?ztd ?zte ?ztf ?ztg ?zth ?zti ?ztj ?ztk ?ztl ?ztm ?ztn ?zto ?ztp ?ztq ?ztr ?zts ?ztt ?ztu ?ztv ?ztw ?ztx ?zty ?ztz ?zua ?zub ?zuc ?zud ?zue ?zuf ?zug ?zuh ?zui ?zuj ?zuk ?zul ?zum ?zun ?zuo ?zup ?zuq ?zur ?zus ?zut ?zuu ?zuv ?zuw ?zux ?zuy ?zuz ?zva ?zvb ?zvc ?zvd ?zve ?zvf ?zvg ?zvh ?zvi ?zvj ?zvk ?zvl ?zvm ?zvn ?zvo ?zvp ?zvq ?zvr ?zvs ?zvt ?zvu ?zvv ?zvw ?zvx ?zvy ?zvz ?zwa ?zwb ?zwc ?zwd ?zwe ?zwf ?zwg ?zwh ?zwi ?zwj ?zwk ?zwl ?zwm ?zwn ?zwo ?zwp ?zwq ?zwr ?zws ?zwt ?zwu ?zwv ?zww ?zwx ?zwy ?zwz ?zxa ?zxb ?zxc ?zxd ?zxe ?zxf ?zxg ?zxh ?zxi ?zxj ?zxk ?zxl ?zxm ?zxn ?zxo ?zxp ?zxq ?zxr ?zxs ?zxt ?zxu ?zxv ?zxw ?zxx ?zxy ?zxz ?zya ?zyb ?zyc ?zyd ?zye ?zyf ?zyg ?zyh ?zyi ?zyj ?zyk ?zyl ?zym ?zyn ?zyo ?zyp ?zyq ?zyr ?zys ?zyt ?zyu ?zyv ?zyw ?zyx ?zyy ?zyz ?zza ?zzb ?zzc ?zzd ?zze ?zzf ?zzg ?zzh ?zzi ?zzj ?zzk ?zzl ?zzm ?zzn ?zzo ?zzp ?zzq ?zzr ?zzs ?zzt ?zzu ?zzv ?zzw ?zzx ?zzy ?zbaa ?zbab ?zbac ?zbad ?zbae
  (case zov|zow|zox|zoy|zoz|zpa|zpb|zpc|zpd|zpe|zpf|zpg|zph|zpi|zpj|zpk|zpl|zpm|zpn|zpo|zpp|zpq|zpr|zps|zpt|zpu|zpv|zpw|zpx|zpy|zpz|zqa|zqb|zqc|zqd|zqe|zqf|zqg|zqh|zqi|zqj|zqk|zql|zqm|zqn|zqo|zqp|zqq|zqr|zqs|zqt|zqu|zqv|zqw|zqx|zqy|zqz|zra|zrb|zrc|zrd|zre|zrf|zrg|zrh|zri|zrj|zrk|zrl|zrm|zrn|zro|zrp|zrq|zrr|zrs|zrt|zru|zrv|zrw|zrx|zry|zrz|zsa|zsb|zsc|zsd|zse|zsf|zsg|zsh|zsi|zsj|zsk|zsl|zsm|zsn|zso|zsp|zsq|zsr|zss|zst|zsu|zsv|zsw|zsx|zsy|zsz|zta|ztb|ztc|ztd|zte|ztf|ztg|zth|zti|ztj|ztk|ztl|ztm|ztn|zto|ztp|ztq|ztr|zts|ztt|ztu|ztv|ztw|ztx|zty|ztz|zua|zub|zuc|zud|zue|zuf|zug|zuh|zui|zuj|zuk|zul|zum|zun|zuo|zup|zuq|zur|zus|zut|zuu|zuv|zuw|zux|zuy|zuz|zva|zvb|zvc|zvd|zve|zvf|zvg|zvh|zvi|zvj|zvk|zvl|zvm|zvn|zvo|zvp|zvq|zvr|zvs|zvt|zvu|zvv|zvw|zvx|zvy|zvz|zwa|zwb|zwc|zwd|zwe|zwf|zwg|zwh|zwi|zwj|zwk|zwl|zwm|zwn|zwo|zwp|zwq|zwr|zws|zwt|zwu|zwv|zww|zwx|zwy|zwz|zxa|zxb|zxc|zxd|zxe|zxf=>k_is)
  (case zxg=>kernel_rfl)
  (case zxh|zxi|zxj|zxk|zxl|zxm=>k_is)
  (case zxn=>kernel_rfl)
  (case zxo|zxp=>k_is)
  (case zxq=>kernel_rfl)
  (case zxr|zxs|zxt|zxu|zxv|zxw=>k_is)
  (case zxx=>kernel_rfl)
  (case zxy|zxz|zya|zyb|zyc|zyd|zye|zyf|zyg|zyh|zyi|zyj|zyk=>k_is)
  (case zyl=>rfl)
  (case zym|zyn|zyo=>k_is)
  (case zyp=>rfl)
  (case zyq|zyr|zys=>k_is)
  (case zyt=>rfl)
  (case zyu|zyv|zyw=>k_is)
  (case zyx=>rfl)
  (case zyy|zyz|zza|zzb=>k_is)
  (case zzc=>rfl)
  (case zzd|zze|zzf=>k_is)
  (case zzg=>rfl)
  (case zzh|zzi|zzj=>k_is)
  (case zzk=>rfl)
  (case zzl|zzm|zzn=>k_is)
  (case zzo=>rfl)
  (case zzp|zzq|zzr|zzs|zzt|zzu|zzv|zzw|zzx|zzy|zbaa|zbab|zbac|zbad|zbae=>k_is)
