import PyProof.Rows.All
import Wide.All
import OpenK.AllK
import Wide.FinOn
import Lean
import PyProof.EqAt
import PyProof.EqKinds
import PyProof.TupleCall
import KE.KSortTup
import PyProof.Rows.DictUnroll
import PyProof.DictItems
import KE.LcSums
import PyProof.IsiH_list
import KE.KDictOf
import PyProof.DictWalks
import PyProof.ListRange
import PyProof.EnumStmt
import PyProof.EnumMake
import KE.KDictSum
import PyProof.StrOps2
import PyProof.Rows.CallKwBuiltin
import KE.KRevSl
import PySem.Challenge.RW_firstout_k52_walks_joined
namespace PySem.W.Fast
def tw2707755481687669217:=()
def tw8539052129117049601:=()
def tw14945083417943402787:=()
def tw10650805696128333379:=()
def tw485524733615591013:=()
def tw17441427715605198185:=()
def tw9080426505451650763:=()
def tw15612328088132738159:=()
def tw1883504342342244050:=()
def tw3579388510577925337:=()
def tw16701761742781138170:=()
def tw10655452305357688123:=()
def tw8134638658709647836:=()
def tw18292427021295931677:=()
def tw5632117743142776797:=()
def tw16195788530429637629:=()
end PySem.W.Fast
set_option compiler.extract_closed false
local macro_rules| `(tactic| walk_at"oi")=> `(tactic| first|exact Or.inl rfl|exact Or.inr rfl)
set_option Elab.async false
set_option linter.all false
set_option maxRecDepth 100000
namespace L2
open PySem PySem.Spec PyProof.Rows
abbrev Key:=Sum Int Str
def nP:Key->Value->Bool
 | .inl k,v=>Value.isInt k v
 | .inr x,v=>Value.isStrOf x v
def QI (w:World):Key->Int
 | .inl k=>hashInt k
 | .inr x=>hashStr w x
theorem bZ:∀{k:Key}{v:Value},nP k v=true->(∃i t,k=Sum.inl i/\v=Value.int i t)∨(∃x t,k=Sum.inr x/\v=Value.str x t)
 | .inl i,v,h=>by
  obtain⟨t,e⟩:=Value.isInt_shape (k:=i) (v:=v) h;exact .inl ⟨i,t,rfl,e⟩
 | .inr x,v,h=>by
  obtain⟨t,e⟩:=Value.isStrOf_shape (x:=x) (v:=v) h;exact .inr ⟨x,t,rfl,e⟩
theorem BW (i:Int)(t:Tok):nP (.inl i) (.int i t)=true:=by simp[nP,Value.isInt]
theorem AO (x:Str)(t:Tok):nP (.inr x) (.str x t)=true:=by simp[nP,Value.isStrOf]
theorem LY (a b:Int):decide ((Sum.inl a:Key)=Sum.inl b)=(a==b):=by
 by_cases e:a=b
 ·subst e;simp
 ·have h:¬(Sum.inl a:Key)=Sum.inl b:=fun q=>e (Sum.inl.inj q);rw[decide_eq_false h];exact(beq_eq_false_iff_ne.mpr e).symm
theorem MU (a b:Str):decide ((Sum.inr a:Key)=Sum.inr b)=decide (a=b):=by
 by_cases e:a=b
 ·subst e;simp
 ·have h:¬(Sum.inr a:Key)=Sum.inr b:=fun q=>e (Sum.inr.inj q);rw[decide_eq_false h,decide_eq_false e]
theorem NL (a:Int)(b:Str):decide ((Sum.inl a:Key)=Sum.inr b)=false:=decide_eq_false (fun q=>nomatch q)
theorem ME (a:Str)(b:Int):decide ((Sum.inr a:Key)=Sum.inl b)=false:=decide_eq_false (fun q=>nomatch q)
def bM (prog:Program)(w:World):PySem.KeyKind prog w Key where
 is:=nP
 hash:=QI w
 inj:=fun v a b ha hb=>by
  rcases bZ ha with⟨i,t,rfl,rfl⟩|⟨x,t,rfl,rfl⟩
  ·rcases bZ hb with⟨j,u,rfl,e⟩|⟨y,u,rfl,e⟩
   ·injection e with e1 _;rw[e1]
   ·exact nomatch e
  ·rcases bZ hb with⟨j,u,rfl,e⟩|⟨y,u,rfl,e⟩
   ·exact nomatch e
   ·injection e with e1 _;rw[e1]
 byValue:=fun k v h=>by
  rcases bZ h with⟨i,t,rfl,rfl⟩|⟨x,t,rfl,rfl⟩<;>rfl
 pyHash:=fun hv h=>by
  rcases bZ hv with⟨i,t,rfl,rfl⟩|⟨x,t,rfl,rfl⟩
  ·exact wpAny_pyHash_int h
  ·exact wpAny_pyHash_str h
 eqBool:=fun hu hv h=>by
  rcases bZ hu with⟨i,t,rfl,rfl⟩|⟨x,t,rfl,rfl⟩
  ·rcases bZ hv with⟨j,u,rfl,rfl⟩|⟨y,u,rfl,rfl⟩
   ·rw[LY]at h;exact wpAny_eqBool_int h
   ·rw[NL]at h;exact SeqAt.EqAt.int_str i t y u _ _ _ _ h
  ·rcases bZ hv with⟨j,u,rfl,rfl⟩|⟨y,u,rfl,rfl⟩
   ·rw[ME]at h;exact SeqAt.EqAt.str_int x t j u _ _ _ _ h
   ·rw[MU]at h;exact wpAny_eqBool_str h
 «strs»:=fun k x t v h=>by
  rcases bZ h with⟨i,u,rfl,e⟩|⟨y,u,rfl,e⟩
  ·exact nomatch e
  ·injection e with e1 _;subst e1;cases v<;>rfl
theorem wL (prog:Program)(w:World)(i:Int)(t:Tok):(bM prog w).is (.inl i) (.int i t)=true:=BW i t
theorem wJ (prog:Program)(w:World)(x:Str)(t:Tok):(bM prog w).is (.inr x) (.str x t)=true:=AO x t
end L2
namespace L2
open PySem PySem.Spec PyProof.Rows
inductive V where
 | non|bl (b:Bool)|int (i:Int)|str (x:Str)|byt (b:Array UInt8)|flt (b:UInt64)|ref (a:Addr)|ty (n:String)
 deriving DecidableEq
def RelV:V->Value->Prop
 | .non,u=>u=Value.none
 | .bl b,u=>u=Value.bool b
 | .int i,u=>∃t,u=Value.int i t
 | .str x,u=>∃t,u=Value.str x t
 | .byt b,u=>∃t,u=Value.bytes b t
 | .flt b,u=>∃t,u=Value.float b t
 | .ref a,u=>u=Value.ref a
 | .ty n,u=>u=Value.type n
abbrev Vals:List V->List Value->Prop:=Paired RelV
theorem Vals.length {xs:List V}{us:List Value} (r:Vals xs us):xs.length=us.length:=Paired.length r
theorem Vals.get:∀{xs:List V}{us:List Value}{i:Nat}{x:V},Vals xs us->xs[i]? =some x->∃u,us[i]? =some u/\RelV x u
 | _,_,_,_,.nil,e=>by simp at e
 | _,_,0,_,.cons r _,e=>by simp at e;subst e;exact⟨_,rfl,r⟩
 | _,_,i+1,x,.cons _ t,e=>by
  obtain⟨u,h1,h2⟩:=Vals.get (i:=i) (x:=x) t (by simpa using e);exact⟨u,by simpa using h1,h2⟩
theorem Vals.append:∀{xs ys:List V}{us ws:List Value},Vals xs us->Vals ys ws->Vals (xs++ys) (us++ws)
 | _,_,_,_,.nil,s=>s
 | _,_,_,_,.cons r t,s=> .cons r (Vals.append t s)
theorem Vals.take:∀{xs:List V}{us:List Value} (n:Nat),Vals xs us->Vals (xs.take n) (us.take n)
 | _,_,0,_=> .nil
 | _,_,_+1,.nil=> .nil
 | _,_,n+1,.cons r t=> .cons r (Vals.take n t)
theorem Vals.drop:∀{xs:List V}{us:List Value} (n:Nat),Vals xs us->Vals (xs.drop n) (us.drop n)
 | _,_,0,r=>r
 | _,_,_+1,.nil=> .nil
 | _,_,n+1,.cons _ t=>Vals.drop n t
def RelO:Option V->Option Value->Prop
 | some v,some u=>RelV v u
 | none,none=>True
 | _,_=>False
def KV {κ:Type}:List (κ×V)->List (κ×Value)->Prop:=Paired fun (p:κ×V) (q:κ×Value)=>p.1=q.1/\RelV p.2 q.2
def kV:Key->V
 | .inl i=> .int i
 | .inr x=> .str x
inductive HO where
  | lst (xs:List V)
  | tup (xs:List V)
  | dK (kvs:List (Key×V))|dT (kvs:List (List Key×V))
  | set (S:Int->Bool) (n:Nat)
  | ins (C dx:Addr) (fs:List (Str×V))
  | own (x:Addr)
  | xd (fs:List (Str×V))
  | met (f x:Addr)
  | rng (lo hi:Int)
  | frz (o:Obj) (u:HO)
  | tbl (ps:Array Value)
  | ext (φ:Heap->Prop)
abbrev Hp:=Addr->Option HO
def upd (H:Hp)(a:Addr)(o:HO):Hp:=fun b=>if b=a then some o else H b
theorem aW {H:Hp}{a:Addr}{o:HO}:upd H a o a=some o:=by unfold upd;rw[if_pos rfl]
theorem aI {H:Hp}{a b:Addr}{o:HO} (h:b≠a):upd H a o b=H b:=by unfold upd;rw[if_neg h]
theorem HX {H:Hp}{a:Addr}{o u:HO}:upd (upd H a o) a u=upd H a u:=by
 funext b;unfold upd;split<;>rfl
theorem PR {H:Hp}{a b:Addr}{o u:HO} (h:H a=some o) (h':H b=some u) (d:o≠u):a≠b:=by
 intro e;subst e;rw[h]at h';exact d (Option.some.inj h')
theorem aT {H:Hp}{a b:Addr}{o:HO} (h:H a=some o) (h':H b=none):a≠b:=by
 intro e;subst e;rw[h]at h';cases h'
section
variable (P:Program)(w:World)
def ObjOk (H:Hp)(h:Heap)(a:Addr):HO->Prop
 | .lst xs=>xs.length<=sizeLine/\∃(its:List Value) (n:Nat),Vals xs its/\h.get? a=some { cls:= .type "list",data:= .seq its.toArray n }
 | .tup xs=>xs.length<=sizeLine/\∃its:List Value,Vals xs its/\IsTup h a its.toArray
 | .dK kvs=>kvs.length<=sizeLine/\(a==sysModules)=false/\∃vs,KV kvs vs/\h.DictOf (bM P w) a vs
 | .dT kvs=>kvs.length<=sizeLine/\(a==sysModules)=false/\∃xs:List (List Key×Addr×Value),
   Paired (fun (p:List Key×V) (q:List Key×Addr×Value)=>p.1=q.1/\H q.2.1=some (.tup (p.1.map kV))/\RelV p.2 q.2.2) kvs xs ∧
   ∃o es ep,h.get? a=some o/\o.ExactDict/\o.data= .dict es ep/\es.toList=xs.map (entryOfKey (tupleKind (bM P w)))/\(xs.map (·.1)).Nodup
 | .set S n=>h.SetOf (intKind P w) a S n
 | .ins C dx fs=>H dx=some (.own a)/\fs.length<=1000/\dx≠a/\h.get? a=some (PySem.W.instObj C dx) ∧
   ∃mA,h.Ns1 dx mA/\(∀f,RelO (fs.lookup f) (mA f))/\PySem.Within mA (fs.map (·.1))
 | .own _=>∃o,h.get? a=some o
 | .xd fs=>∃mA,h.Ns1 a mA/\∀f,RelO (fs.lookup f) (mA f)
 | .rng lo hi=>∃t u v,h.get? a=some { cls:= .type "range",data:= .fields #[.int lo t,.int hi u,.int 1 v] }
 | .frz o u=>h.get? a=some o/\ObjOk H h a u
 | .tbl ps=>h.get? a=some { cls:= .none,data:= .fields ps }
 | .met f x=>h.get? a=some (PySem.W.methodObj (.ref f) (.ref x))
 | .ext φ=>φ h/\(∃o,h.get? a=some o)/\∀h1 h2:Heap,φ h1->(∀o,h1.get? a=some o->h2.get? a=some o)->φ h2
def HOk (H:Hp)(h:Heap):Prop:=∀a o,H a=some o->ObjOk P w H h a o
end
section
variable {P:Program}{w:World}{H H':Hp}{h h':Heap}{a:Addr}{o:HO}
theorem ObjOk.lt (x:ObjOk P w H h a o):a<h.objs.size:=by
 cases o with
 | lst xs=>obtain⟨_,_,_,_,e⟩:=x;exact Heap.lt_size e
 | tup xs=>obtain⟨_,_,_,p⟩:=x;exact p.lt
 | dK kvs=>obtain⟨_,_,_,_,o,_,_,e,_⟩:=x;exact Heap.lt_size e
 | dT kvs=>obtain⟨_,_,_,_,o,_,_,e,_⟩:=x;exact Heap.lt_size e
 | set S n=>obtain⟨o,_,_,_,e,_⟩:=x;exact Heap.lt_size e
 | ins C dx fs=>obtain⟨_,_,_,e,_⟩:=x;exact Heap.lt_size e
 | own y=>obtain⟨_,e⟩:=x;exact Heap.lt_size e
 | xd fs=>obtain⟨_,⟨_,_,_,e,_⟩,_⟩:=x;exact Heap.lt_size e
 | rng lo hi=>obtain⟨_,_,_,e⟩:=x;exact Heap.lt_size e
 | frz ob u=>obtain⟨e,_⟩:=x;exact Heap.lt_size e
 | tbl ps=>exact Heap.lt_size (show h.get? a=some _ from x)
 | met f y=>exact Heap.lt_size (show h.get? a=some _ from x)
 | ext φ=>obtain⟨_,⟨_,e⟩,_⟩:=x;exact Heap.lt_size e
theorem Paired.mapP {α β:Type}{F G:α->β->Prop}:∀{l₁:List α}{l₂:List β},Paired F l₁ l₂->(∀a b,F a b->G a b)->Paired G l₁ l₂
 | _,_,.nil,_=> .nil
 | _,_,.cons r t,f=> .cons (f _ _ r) (Paired.mapP t f)
theorem Paired.imp' {α β:Type}{F G:α->β->Prop} (f:∀a b,F a b->G a b) {l₁:List α}{l₂:List β} (r:Paired F l₁ l₂):Paired G l₁ l₂:=Paired.mapP r f
theorem ObjOk.stay (x:ObjOk P w H h a o)(k:∀b u,(b=a∨H b=some (.own a))->h.get? b=some u->h'.get? b=some u)
  (ho:∀b,H b=some (.own a)->H' b=some (.own a))(ht:∀b xs,H b=some (.tup xs)->H' b=some (.tup xs)):ObjOk P w H' h' a o:=by
 induction o with
 | lst xs=>obtain⟨z,its,n,r,e⟩:=x;exact⟨z,its,n,r,k _ _ (.inl rfl) e⟩
 | tup xs=>obtain⟨z,its,r,ob,e,c⟩:=x;exact⟨z,its,r,ob,k _ _ (.inl rfl) e,c⟩
 | dK kvs=>obtain⟨z,y,vs,r,ob,es,ep,e,c⟩:=x;exact⟨z,y,vs,r,ob,es,ep,k _ _ (.inl rfl) e,c⟩
 | dT kvs =>
  obtain⟨z,y,xs,r,ob,es,ep,e,c⟩:=x;exact⟨z,y,xs,Paired.mapP r fun p q z=>⟨z.1,ht _ _ z.2.1,z.2.2⟩,ob,es,ep,k _ _ (.inl rfl) e,c⟩
 | set S n=>obtain⟨ob,es,ep,t,e,c⟩:=x;exact⟨ob,es,ep,t,k _ _ (.inl rfl) e,c⟩
 | ins C dx fs =>
  obtain⟨d,z,ne,e,mA,⟨od,es,ep,e2,c⟩,r⟩:=x;exact⟨ho _ d,z,ne,k _ _ (.inl rfl) e,mA,⟨od,es,ep,k _ _ (.inr d) e2,c⟩,r⟩
 | own y=>obtain⟨ob,e⟩:=x;exact⟨ob,k _ _ (.inl rfl) e⟩
 | xd fs=>obtain⟨mA,⟨od,es,ep,e,c⟩,r⟩:=x;exact⟨mA,⟨od,es,ep,k _ _ (.inl rfl) e,c⟩,r⟩
 | rng lo hi=>obtain⟨t,u,v,e⟩:=x;exact⟨t,u,v,k _ _ (.inl rfl) e⟩
 | frz ob u ih=>obtain⟨e,q⟩:=x;exact⟨k _ _ (.inl rfl) e,ih q⟩
 | tbl ps =>
  have e:h.get? a=some { cls:= .none,data:= .fields ps }:=x;show h'.get? a=some { cls:= .none,data:= .fields ps };exact k a _ (.inl rfl) e
 | met f y =>
  have e:h.get? a=some (PySem.W.methodObj (.ref f) (.ref y)):=x;show h'.get? a=some (PySem.W.methodObj (.ref f) (.ref y));exact k a _ (.inl rfl) e
 | ext φ=>obtain⟨p,⟨o,e⟩,st⟩:=x;exact⟨st _ _ p fun o q=>k _ _ (.inl rfl) q,⟨o,k _ _ (.inl rfl) e⟩,st⟩
theorem HOk.lt (x:HOk P w H h)(e:H a=some o):a<h.objs.size:=(x a o e).lt
theorem HOk.fresh (x:HOk P w H h)(e:h.objs.size<=a):H a=none:=by
 cases q:H a with
 | none=>rfl
 | some u=>exact absurd (Nat.lt_of_lt_of_le (x.lt q) e) (Nat.lt_irrefl _)
theorem HOk.kept (x:HOk P w H h)(k:∀b u,h.get? b=some u->h'.get? b=some u):HOk P w H h':=fun a o e =>
 (x a o e).stay (fun b u _ q=>k b u q) (fun _ q=>q) fun _ _ q=>q
theorem HOk.laid (x:HOk P w H h)(k:∀b u,h.get? b=some u->h'.get? b=some u)(hp:h.objs.size<=a)(new:ObjOk P w (upd H a o) h' a o):HOk P w (upd H a o) h':=fun b u e=>by
 have hn:=x.fresh hp
 by_cases hb:b=a
 ·subst hb;rw[aW]at e;cases e;exact new
 ·rw[aI hb]at e;exact(x b u e).stay (fun c v _ q=>k c v q) (fun c q=>by rw[aI (aT q hn)];exact q) fun c xs q=>by rw[aI (aT q hn)];exact q
end
def Rd (H:Hp)(a:Addr)(u:HO):Prop:=H a=some u∨∃o,H a=some (.frz o u)
theorem Rd.ok {P:Program}{w:World}{H:Hp}{h:Heap}{a:Addr}{u:HO} (r:Rd H a u) (x:HOk P w H h):ObjOk P w H h a u:=by
 rcases r with r|⟨o,r⟩
 ·exact x a u r
 ·obtain⟨_,q⟩:=x a _ r;exact q
def Mut:Option HO->Prop
 | some (.lst _)=>True
 | some (.dK _)=>True
 | some (.dT _)=>True
 | some (.set _ _)=>True
 | some (.ins _ _ _)=>True
 | some (.ext _)=>True
 | _=>False
section
variable {P:Program}{w:World}{H:Hp}{h h':Heap}{x e:Addr}{o':HO}
theorem HOk.write (ok:HOk P w H h)(mu:Mut (H x))(he:e=x∨H e=some (.own x))(k:∀b u,b≠e->h.get? b=some u->h'.get? b=some u)(heo:∃u,h'.get? e=some u)
  (new:ObjOk P w (upd H x o') h' x o'):HOk P w (upd H x o') h':=fun b u q=>by
 have nown:∀c y,H c=some (.own y)->c≠x:=fun c y r z=>by subst z;rw[r]at mu;exact mu
 have ntup:∀c xs,H c=some (.tup xs)->c≠x:=fun c xs r z=>by subst z;rw[r]at mu;exact mu
 by_cases hb:b=x
 ·subst hb;rw[aW]at q;cases q;exact new
 ·rw[aI hb]at q
  by_cases hbe:b=e
  ·have q':H b=some (.own x):=by
    rcases he with z|z
    ·exact absurd (hbe.trans z) hb
    ·rw[hbe];exact z
   rw[q]at q';cases q';obtain⟨v,hv⟩:=heo;exact⟨v,by rw[hbe];exact hv⟩
  ·refine(ok b u q).stay (fun c v hc r=>k c v ?_ r) (fun c r=>by rw[aI (nown c b r)];exact r) fun c xs r=>by rw[aI (ntup c xs r)];exact r
   rcases hc with rfl|hc
   ·exact hbe
   ·rintro rfl;rcases he with z|z
    ·exact nown c b hc z
    ·rw[hc]at z;cases z;exact hb rfl
end
structure Un (fs ex:List Addr)(H H':Hp)(h h':Heap):Prop where
 keep:∀b o,h.get? b=some o->H b=none->b∉fs->b∉ex->h'.get? b=some o
 slot:∀b o,h.get? b=some o->H b=none->b∈fs->b∉ex->∃sl,h'.get? b=some { o with slots:=sl }
 free:∀b o,h.get? b=some o->H b=none->b∉ex->H' b=none
 there:∀b o,h.get? b=some o->b∉ex->∃o',h'.get? b=some o'
 tups:∀b xs,H b=some (.tup xs)->H' b=some (.tup xs)
 frzs:∀b o u,H b=some (.frz o u)->H' b=some (.frz o u)
 tbls:∀b ps,H b=some (.tbl ps)->∃more,H' b=some (.tbl (ps++more))
section
variable {fs fs' ex ex':List Addr}{H H1 H2:Hp}{h h1 h2 h':Heap}{a x e:Addr}{o:HO}
theorem Un.any (u:Un fs ex H H1 h h1){b:Addr}{ob:Obj} (q:h.get? b=some ob) (n:H b=none) (hx:b∉ex):∃sl,h1.get? b=some { ob with slots:=sl }:=by
 by_cases hb:b∈fs
 ·exact u.slot b ob q n hb hx
 ·exact⟨ob.slots,u.keep b ob q n hb hx⟩
theorem Un.kept (k:∀b u,h.get? b=some u->h'.get? b=some u):Un fs ex H H h h' :=
 ⟨fun b ob q _ _ _=>k b ob q,fun b ob q _ _ _=>⟨ob.slots,k b ob q⟩,fun _ _ _ n _=>n,fun b ob q _=>⟨ob,k b ob q⟩,fun _ _ q=>q,fun _ _ _ q=>q,fun _ ps q=>⟨#[],by rw[q];simp⟩⟩
theorem Un.refl:Un fs ex H H h h:=Un.kept fun _ _ q=>q
theorem Un.laid (k:∀b u,h.get? b=some u->h'.get? b=some u)(hp:h.objs.size<=a)(hn:H a=none):Un fs ex H (upd H a o) h h' where
 keep:=fun b u q _ _ _=>k b u q
 slot:=fun b u q _ _ _=>⟨u.slots,k b u q⟩
 free:=fun b u q n _=>by rw[aI (Nat.ne_of_lt (Nat.lt_of_lt_of_le (Heap.lt_size q) hp))];exact n
 there:=fun b u q _=>⟨u,k b u q⟩
 tups:=fun b xs q=>by rw[aI (aT q hn)];exact q
 frzs:=fun b u xs q=>by rw[aI (aT q hn)];exact q
 tbls:=fun b ps q=>⟨#[],by rw[aI (aT q hn),q];simp⟩
theorem Un.write (mu:Mut (H x))(he:e=x∨H e=some (.own x))(k:∀b u,b≠e->h.get? b=some u->h'.get? b=some u)(heo:∃u,h'.get? e=some u):Un fs ex H (upd H x o) h h':=by
 have hx:∀b,H b=none->b≠x:=fun b n z=>by subst z;rw[n]at mu;exact mu
 have hb:∀b,H b=none->b≠e:=fun b n z=>by
  subst z;rcases he with r|r
  ·exact hx b n r
  ·rw[n]at r;cases r
 have hm:∀b u,H b=some u->¬Mut (some u)->b≠x:=fun b u q nm z=>by subst z;rw[q]at mu;exact nm mu
 refine⟨fun b u q n _ _=>k b u (hb b n) q,fun b u q n _ _=>⟨u.slots,k b u (hb b n) q⟩,fun b u q n _=>by rw[aI (hx b n)];exact n,fun b u q _=> ?_,
  fun b xs q=>by rw[aI (hm b _ q fun z=>z)];exact q,fun b u xs q=>by rw[aI (hm b _ q fun z=>z)];exact q,fun b ps q=>⟨#[],by rw[aI (hm b _ q fun z=>z),q];simp⟩⟩
 by_cases hbe:b=e
 ·subst hbe;exact heo
 ·exact⟨u,k b u hbe q⟩
end
def trk (h:Heap)(H:Hp):List Addr:=(List.range h.objs.size).filter fun a=>(H a).isSome
def kW (h:Heap)(H:Hp):Heap:=PySem.W.hideAll h (trk h H)
theorem BA (h:Heap)(H:Hp):(kW h H).objs.size=h.objs.size:=PySem.W.hideAll_size _ _
theorem D9 {h:Heap}{H:Hp}{b:Addr}{o:Obj} (e:h.get? b=some o) (n:H b=none):(kW h H).get? b=some o :=
 PySem.W.hideAll_get _ e fun hm=>by
  have q:(H b).isSome=true:=(List.mem_filter.mp hm).2;rw[n]at q;simp at q
theorem J0 {h:Heap}{H:Hp}{b:Addr}{o:Obj} (e:(kW h H).get? b=some o):h.get? b=some o/\H b=none:=by
 have e':h.get? b=some o:=PySem.W.of_hideAll (trk h H) e;refine⟨e',?_⟩;cases q:H b with
 | none=>rfl
 | some x =>
  have hm:b∈trk h H:=List.mem_filter.mpr ⟨List.mem_range.mpr (Heap.lt_size e'),by simp[q]⟩;have z:(kW h H).get? b=none:=PySem.W.hideAll_none (trk h H) hm;rw[z]at e;cases e
end L2
namespace L2
open PySem PySem.Spec PyProof.Rows
structure Mod (K:PySem.W.Frag)(mg:Str->Option Value)(base:Heap):Prop where
 kin:K.In base
 glob:base.Ns mainGlobals mg
 blt:∃mb,base.Ns builtinsNs mb/\∀x:Str,x≠ "__name__" ->mb x=bootBuiltins x
 nolimit:base.NoLimit
structure Cx where
 prog:Program
 w:World
 K:PySem.W.Frag
 mg:Str->Option Value
 base:Heap
 A:Around
 N:List Str
 s₀:Shared
 H₀:Hp
 env:Env
 outer:List Env
 stack:List Env
 ex:List Addr
 fn:Str->Bool
 calm:Bool
 pn:List (Addr×Obj)
 xe:Value->Shared->Prop
def frs (l:List Env):List Addr:=l.filterMap (·.frame)
abbrev Cx.fs (X:Cx):List Addr:=frs X.outer
def Vis (sc:Scope)(x:Str):Prop:=sc.names.lookup x=some .local∨sc.names.lookup x=some .cell∨sc.names.lookup x=some .free
def Loc (sc:Scope)(x:Str):Prop:=sc.names.lookup x=some .local∨sc.names.lookup x=some .cell
def QK (env:Env)(h:Heap)(m:Str->Option Value)(x:Str)(u:Value):Prop :=
 (env.kindOf x=some .local/\m x=some u)∨((env.kindOf x=some .cell∨env.kindOf x=some .free)/\∃c,env.cells.lookup x=some c/\h.IsCell c (some u))
structure Cx.Ok (X:Cx):Prop where
 mod:Mod X.K X.mg X.base
 kind:X.env.scope.kind= .function
 glob:X.env.globals=mainGlobals
 blt:X.env.builtins=builtinsNs
 above:X.s₀.heap.objs.size<=X.env.locals
 inj:∀x y c,X.env.cells.lookup x=some c->X.env.cells.lookup y=some c->x=y
 has:∀x,(X.env.kindOf x=some .cell∨X.env.kindOf x=some .free)->∃c,X.env.cells.lookup x=some c
 cab:∀x c,X.fn x=true->X.env.cells.lookup x=some c->X.s₀.heap.objs.size<=c
 hd:X.calm=true->X.A.handled=none
 frames:X.A.frames=some X.stack
 stk:X.stack=X.outer∨(X.stack=X.env::X.outer/\X.env.frame=some X.env.locals)
 exf:∀b∈X.ex,b≠X.env.locals/\∀x c,X.env.cells.lookup x=some c->c≠b
 bs:∀b o,X.base.get? b=some o->X.s₀.heap.get? b=some o/\X.H₀ b=none
 bsz:X.base.objs.size<=X.s₀.heap.objs.size
 noex:∀b o,X.base.get? b=some o->b∉X.ex
 exfs:∀b∈X.ex,b∉X.fs
 funs:X.s₀.heap.FunFrames X.base X.outer
 frf:∀b∈X.fs,X.H₀ b=none
structure Inv (X:Cx)(pins:List (Addr×Obj))(σ:List (Option V))(H:Hp)(s:Shared):Prop where
 ok:X.Ok
 os:s.os=X.s₀.os
 bare:AllBare s.gens
 base:Un X.fs X.ex X.H₀ H X.s₀.heap s.heap
 loc:∃m,s.heap.Ns X.env.locals m/\∀(i:Nat) (x:Str) (v:V),X.N[i]? =some x->σ[i]? =some (some v)->Vis X.env.scope x->∃u,RelV v u/\QK X.env s.heap m x u
 cell:∀x c,X.env.cells.lookup x=some c->∃v,s.heap.IsCell c v
 free:H X.env.locals=none
 freeC:∀x c,X.env.cells.lookup x=some c->H c=none
 pin:∀p∈X.pn++pins,s.heap.get? p.1=some p.2/\H p.1=none/\p.1≠X.env.locals/\p.1∉X.fs/\∀v,p.2.data≠ .cell v
 hok:HOk X.prog X.w H s.heap
 len:σ.length=X.N.length
section
variable {X:Cx}{pins:List (Addr×Obj)}{σ:List (Option V)}{H H':Hp}{s:Shared}{h':Heap}
theorem Cx.Ok.nofr (ok:X.Ok){b:Addr}{o:Obj} (e:X.base.get? b=some o):b∉X.fs:=fun hb=>by
 have:=(ok.funs.mem hb).1;rw[e]at this;cases this
theorem Inv.bs (I:Inv X pins σ H s):∀b o,X.base.get? b=some o->s.heap.get? b=some o/\H b=none:=fun b o e =>
 ⟨I.base.keep b o (I.ok.bs b o e).1 (I.ok.bs b o e).2 (I.ok.nofr e) (I.ok.noex b o e),I.base.free b o (I.ok.bs b o e).1 (I.ok.bs b o e).2 (I.ok.noex b o e)⟩
theorem Inv.bk (I:Inv X pins σ H s):∀b o,X.base.get? b=some o->s.heap.get? b=some o:=fun b o e=>(I.bs b o e).1
theorem Inv.mod (I:Inv X pins σ H s):Mod X.K X.mg X.base:=I.ok.mod
theorem Inv.kIn (I:Inv X pins σ H s):X.K.In s.heap:=I.ok.mod.kin.keeps I.bk
theorem Inv.lt (I:Inv X pins σ H s):X.env.locals<s.heap.objs.size:=let ⟨_,hn,_⟩:=I.loc;hn.lt
theorem Inv.sz (I:Inv X pins σ H s):X.s₀.heap.objs.size<=s.heap.objs.size:=Nat.le_trans I.ok.above (Nat.le_of_lt I.lt)
theorem Inv.nofs (I:Inv X pins σ H s){a:Addr}(h:s.heap.objs.size<=a):a∉X.fs:=fun hb=>by
 obtain⟨_,o,ho,_⟩:=I.ok.funs.mem hb;exact absurd (Nat.lt_of_lt_of_le (Heap.lt_size ho) (Nat.le_trans I.sz h)) (Nat.lt_irrefl _)
theorem Inv.cne (I:Inv X pins σ H s):∀x c,X.env.cells.lookup x=some c->c≠X.env.locals:=fun x c e z=>by
 obtain⟨v,o,ho,hd⟩:=I.cell x c e;obtain⟨m,⟨o',es,ep,ho',hd',_⟩,_⟩:=I.loc;rw[z,ho']at ho;cases ho;rw[hd']at hd;cases hd
theorem Inv.funs (I:Inv X pins σ H s):s.heap.FunFrames X.base X.outer:=by
 have all:∀(l:List Env),(∀b∈frs l,b∈X.fs)->X.s₀.heap.FunFrames X.base l->s.heap.FunFrames X.base l:=by
  intro l
  induction l with
  | nil=>intro _ _;trivial
  | cons env r ih =>
   intro hs hl;obtain⟨hk,⟨L,o,hf,hn,ho,hd⟩,hr⟩:=hl;have hL:L∈X.fs:=hs L (by unfold frs;rw[List.filterMap_cons,hf];exact List.mem_cons_self);obtain⟨sl,e⟩:=I.base.slot L o ho (I.ok.frf L hL) hL fun z=>I.ok.exfs L z hL;exact⟨hk,⟨L,_,hf,hn,e,hd⟩,ih (fun b hb=>hs b (by unfold frs;rw[List.filterMap_cons,hf];exact List.mem_cons_of_mem _ hb)) hr⟩
 exact all X.outer (fun _ hb=>hb) I.ok.funs
theorem Inv.stack (I:Inv X pins σ H s):s.heap.FunFrames X.base X.stack:=by
 rcases I.ok.stk with e|⟨e,hf⟩
 ·rw[e];exact I.funs
 ·rw[e];obtain⟨m,hn,_⟩:=I.loc;refine .cons (by rw[I.ok.kind];decide) hf hn ?_ I.funs;exact Heap.get?_none_of_le (Nat.le_trans I.ok.bsz I.ok.above)
theorem Inv.stkSub (I:Inv X pins σ H s):∀b∈frs X.stack,b∈X.env.locals::X.fs:=fun b hb=>by
 rcases I.ok.stk with e|⟨e,hf⟩
 ·rw[e]at hb;exact List.mem_cons_of_mem _ hb
 ·rw[e]at hb;unfold frs at hb;rw[List.filterMap_cons,hf]at hb;exact hb
theorem Inv.stkFree (I:Inv X pins σ H s):∀b∈frs X.stack,H b=none:=fun b hb=>by
 rcases List.mem_cons.mp (I.stkSub b hb) with e|hb
 ·rw[e];exact I.free
 ·obtain⟨_,o,ho,_⟩:=I.ok.funs.mem hb;exact I.base.free b o ho (I.ok.frf b hb) fun z=>I.ok.exfs b z hb
theorem Inv.step {g':Array GenState}{t':Nat}{d':Drawn}{ch:List Addr} (I:Inv X pins σ H s)
  (hch:∀b∈ch,(b∈X.ex∨X.s₀.heap.objs.size<=b)/\b≠X.env.locals/\(∀x c,X.env.cells.lookup x=some c->c≠b)/\∀p∈X.pn++pins,p.1≠b)
  (keep:∀b o,b≠X.env.locals->b∉X.fs->b∉ch->s.heap.get? b=some o->H b=none->h'.get? b=some o)
  (slot:∀b o,b≠X.env.locals->b∈X.fs->b∉ch->s.heap.get? b=some o->H b=none->∃sl,h'.get? b=some { o with slots:=sl })(free:∀b o,b∉ch->s.heap.get? b=some o->H b=none->H' b=none)
  (there:∀b o,b∉ch->s.heap.get? b=some o->∃o',h'.get? b=some o')
  (tups:∀b xs,H b=some (.tup xs)->H' b=some (.tup xs))(frzs:∀b o u,H b=some (.frz o u)->H' b=some (.frz o u))(tbls:∀b ps,H b=some (.tbl ps)->∃more,H' b=some (.tbl (ps++more)))
  (ns:∀m,s.heap.Ns X.env.locals m->h'.Ns X.env.locals m)(hok:HOk X.prog X.w H' h')(hg:AllBare g') :
  Inv X pins σ H' { s with heap:=h',gens:=g',drawn:=d',toks:=t' }:=by
 have neL:∀b o,X.s₀.heap.get? b=some o->b≠X.env.locals:=fun b o e=>Nat.ne_of_lt (Nat.lt_of_lt_of_le (Heap.lt_size e) I.ok.above);have neC:∀b o,X.s₀.heap.get? b=some o->b∉X.ex->b∉ch:=fun b o e hx hb=>by
  rcases (hch b hb).1 with z|z
  ·exact hx z
  ·exact absurd (Nat.lt_of_lt_of_le (Heap.lt_size e) z) (Nat.lt_irrefl _)
 have cellK:∀x c,X.env.cells.lookup x=some c->∀v,s.heap.IsCell c v->h'.IsCell c v:=fun x c e v ⟨o,ho,hd⟩=>by
  have nch:c∉ch:=fun z=>(hch c z).2.2.1 x c e rfl
  by_cases hc:c∈X.fs
  ·obtain⟨sl,q⟩:=slot c o (I.cne x c e) hc nch ho (I.freeC x c e);exact⟨_,q,hd⟩
  ·exact⟨o,keep c o (I.cne x c e) hc nch ho (I.freeC x c e),hd⟩
 refine⟨I.ok,I.os,hg,⟨fun b o e n hb hx=> ?_,fun b o e n hb hx=> ?_,fun b o e n hx=> ?_,fun b o e hx=> ?_,fun b xs e=>tups b xs (I.base.tups b xs e),fun b o xs e=>frzs b o xs (I.base.frzs b o xs e),fun b ps e=> ?_⟩,?_,fun x c e=> ?_,?_,fun x c e=> ?_,fun p hp=> ?_,hok,I.len⟩
 ·exact keep b o (neL b o e) hb (neC b o e hx) (I.base.keep b o e n hb hx) (I.base.free b o e n hx)
 ·obtain⟨sl,e1⟩:=I.base.slot b o e n hb hx;obtain⟨sl',e2⟩:=slot b _ (neL b o e) hb (neC b o e hx) e1 (I.base.free b o e n hx);exact⟨sl',e2⟩
 ·obtain⟨o',e1⟩:=I.base.there b o e hx;exact free b o' (neC b o e hx) e1 (I.base.free b o e n hx)
 ·obtain⟨o',e1⟩:=I.base.there b o e hx;exact there b o' (neC b o e hx) e1
 ·obtain⟨m1,e1⟩:=I.base.tbls b ps e;obtain⟨m2,e2⟩:=tbls b _ e1;exact⟨m1++m2,by rw[e2,Array.append_assoc]⟩
 ·obtain⟨m,hn,hl⟩:=I.loc;refine⟨m,ns m hn,fun i x v e1 e2 e3=> ?_⟩;obtain⟨u,r,l⟩:=hl i x v e1 e2 e3;refine⟨u,r,?_⟩;rcases l with l|⟨k,c,e,z⟩
  ·exact .inl l
  ·exact .inr ⟨k,c,e,cellK x c e _ z⟩
 ·obtain⟨v,z⟩:=I.cell x c e;exact⟨v,cellK x c e v z⟩
 ·obtain⟨m,⟨o,_,_,ho,_⟩,_⟩:=I.loc;exact free _ o (fun z=>(hch _ z).2.1 rfl) ho I.free
 ·obtain⟨v,o,ho,hd⟩:=I.cell x c e;exact free c o (fun z=>(hch c z).2.2.1 x c e rfl) ho (I.freeC x c e)
 ·obtain⟨e,n,ne,nf,d⟩:=I.pin p hp;have nch:p.1∉ch:=fun z=>(hch p.1 z).2.2.2 p hp rfl;exact⟨keep p.1 p.2 ne nf nch e n,free p.1 p.2 nch e n,ne,nf,d⟩
theorem Inv.un {t':Nat}(I:Inv X pins σ H s)(u:Un X.fs [] H H' s.heap h')(hok:HOk X.prog X.w H' h'):Inv X pins σ H' { s with heap:=h',toks:=t' }:=by
 obtain⟨m,⟨o,es,ep,ho,r⟩,_⟩:=id I.loc;obtain⟨sl,hL⟩:=u.any ho I.free (by simp);exact I.step (g':=s.gens) (d':=s.drawn) (ch:=[]) (fun _ z=>nomatch z) (fun b o _ hb _ e n=>u.keep b o e n hb (by simp)) (fun b o _ hb _ e n=>u.slot b o e n hb (by simp)) (fun b o _ e n=>u.free b o e n (by simp)) (fun b o _ e=>u.there b o e (by simp)) u.tups u.frzs u.tbls (fun m' hm=>by
  obtain⟨o',es',ep',ho',r'⟩:=hm;rw[ho]at ho';cases ho';exact⟨_,es',ep',hL,r'⟩) hok I.bare
theorem Inv.call {g':Array GenState}{t':Nat}{d':Drawn}{ch:List Addr} (I:Inv X pins σ H s) (u:Un (frs X.stack) ch H H' s.heap h') (hok:HOk X.prog X.w H' h') (hg:AllBare g')
  (hch:∀b∈ch,(b∈X.ex∨X.s₀.heap.objs.size<=b)/\b≠X.env.locals/\(∀x c,X.env.cells.lookup x=some c->c≠b)/\∀p∈X.pn++pins,p.1≠b) :
  Inv X pins σ H' { s with heap:=h',gens:=g',drawn:=d',toks:=t' }:=by
 obtain⟨m,⟨o,es,ep,ho,r⟩,_⟩:=id I.loc;obtain⟨sl,hL⟩:=u.any ho I.free fun z=>(hch _ z).2.1 rfl;exact I.step (ch:=ch) hch (fun b o hL hb hc e n=>u.keep b o e n (fun z=>(List.mem_cons.mp (I.stkSub b z)).elim hL hb) hc) (fun b o _ _ hc e n=>u.any e n hc) (fun b o hc e n=>u.free b o e n hc) (fun b o hc e=>u.there b o e hc) u.tups u.frzs u.tbls (fun m' hm=>by
  obtain⟨o',es',ep',ho',r'⟩:=hm;rw[ho]at ho';cases ho';exact⟨_,es',ep',hL,r'⟩) hok hg
theorem Inv.turned {t':Nat}{it:Addr} (I:Inv X pins σ H s) (k:∀b o,b≠it->s.heap.get? b=some o->h'.get? b=some o) (hn:H it=none) (hL:it≠X.env.locals)
  (h1:it∈X.ex∨X.s₀.heap.objs.size<=it)(h2:∀x c,X.env.cells.lookup x=some c->c≠it)(h3:∀p∈X.pn++pins,p.1≠it):Inv X pins σ H { s with heap:=h',toks:=t' }:=by
 have nit:∀b u,H b=some u->b≠it:=fun b u e z=>by rw[z,hn]at e;cases e
 refine I.step (g':=s.gens) (d':=s.drawn) (ch:=[it]) (fun b hb=> ?_) (fun b o _ _ hc e _=>k b o (fun z=>hc (by simp[z])) e) (fun b o _ _ hc e _=>⟨o.slots,k b o (fun z=>hc (by simp[z])) e⟩) (fun _ _ _ _ n=>n)
  (fun b o hc e=>⟨o,k b o (fun z=>hc (by simp[z])) e⟩) (fun _ _ e=>e) (fun _ _ _ e=>e) (fun b ps e=>⟨#[],by rw[e];simp⟩) (fun m hm=> ?_) (fun b u e=> ?_) I.bare
 ·have e:b=it:=by simpa using hb
  subst e;exact⟨h1,hL,h2,h3⟩
 ·obtain⟨o,es,ep,ho,r⟩:=hm;exact⟨o,es,ep,k _ o (Ne.symm hL) ho,r⟩
 ·refine(I.hok b u e).stay (fun c v hc q=>k c v ?_ q) (fun _ q=>q) fun _ _ q=>q;rcases hc with z|z
  ·rw[z];exact nit b u e
  ·exact nit c _ z
theorem Inv.tok (I:Inv X pins σ H s)(t:Nat):Inv X pins σ H { s with toks:=t }:=I.un (h':=s.heap) (t':=t) Un.refl I.hok
theorem Inv.kept {t':Nat}(I:Inv X pins σ H s)(k:∀b u,s.heap.get? b=some u->h'.get? b=some u):Inv X pins σ H { s with heap:=h',toks:=t' }:=I.un (Un.kept k) (I.hok.kept k)
theorem Inv.laid {a:Addr}{o:HO}{t':Nat} (I:Inv X pins σ H s) (k:∀b u,s.heap.get? b=some u->h'.get? b=some u) (hp:s.heap.objs.size<=a) (new:ObjOk X.prog X.w (upd H a o) h' a o) :
  Inv X pins σ (upd H a o) { s with heap:=h',toks:=t' }:=I.un (Un.laid k hp (I.hok.fresh hp)) (I.hok.laid k hp new)
theorem Inv.write {x e:Addr}{o:HO}{t':Nat} (I:Inv X pins σ H s) (mu:Mut (H x)) (he:e=x∨H e=some (.own x)) (k:∀b u,b≠e->s.heap.get? b=some u->h'.get? b=some u) (heo:∃u,h'.get? e=some u)
  (new:ObjOk X.prog X.w (upd H x o) h' x o):Inv X pins σ (upd H x o) { s with heap:=h',toks:=t' }:=I.un (Un.write mu he k heo) (I.hok.write mu he k heo new)
theorem Inv.weak {σ':List (Option V)}(I:Inv X pins σ H s)(hl:σ'.length=σ.length)(w:∀(i:Nat) v,σ'[i]? =some (some v)->σ[i]? =some (some v)):Inv X pins σ' H s :=
 ⟨I.ok,I.os,I.bare,I.base,let ⟨m,hn,hl'⟩:=I.loc;⟨m,hn,fun i x v e1 e2 e3=>hl' i x v e1 (w i v e2) e3⟩,I.cell,I.free,I.freeC,I.pin,I.hok,hl.trans I.len⟩
theorem Inv.pins_of {pins':List (Addr×Obj)}(I:Inv X pins σ H s)(h:∀p∈pins',s.heap.get? p.1=some p.2/\H p.1=none/\p.1≠X.env.locals/\p.1∉X.fs/\∀v,p.2.data≠ .cell v):Inv X pins' σ H s :=
 ⟨I.ok,I.os,I.bare,I.base,I.loc,I.cell,I.free,I.freeC,fun p hp=>(List.mem_append.mp hp).elim (fun z=>I.pin p (List.mem_append_left _ z)) (h p),I.hok,I.len⟩
theorem vE {N:List Str}(hN:N.Nodup){i j:Nat}{x:Str} (a:N[i]? =some x) (b:N[j]? =some x):i=j:=by
 obtain⟨h1,e1⟩:=List.getElem?_eq_some_iff.mp a;obtain⟨h2,e2⟩:=List.getElem?_eq_some_iff.mp b;exact(List.getElem_inj hN).mp (e1.trans e2.symm)
theorem BD {M:Model}{A:Around}{E:Value->Shared->Prop}{i:Nat}{x:Str}{v:V}{u:Value}{Q:Unit->Shared->Prop} (I:Inv X pins σ H s) (hN:X.N.Nodup) (hi:X.N[i]? =some x) (hx:Loc X.env.scope x) (r:RelV v u)
  (h:∀s',Inv X pins (σ.set i (some v)) H s'->(∃a,Heap.SameBut a s.heap s'.heap/\(a=X.env.locals∨X.env.cells.lookup x=some a))->Q () s')(hf:X.fn x=true∨X.env.scope.names.lookup x=some .local:=by first|exact .inl rfl|exact .inr rfl|assumption):wpAny M A (storeName X.env x u) Q E s:=by
 obtain⟨m,hn,hl⟩:=id I.loc;have hcls:(X.env.scope.kind== .class||(X.env.scope.kind== .module&&X.env.locals !=X.env.globals))=false:=by rw[I.ok.kind];rfl
 have hiσ:i<σ.length:=by rw[I.len];exact(List.getElem?_eq_some_iff.mp hi).1
 have cne:=I.cne;have tracked:∀{a:Addr}{h':Heap},(∃o,s.heap.get? a=some o/\H a=none)->Heap.SameBut a s.heap h'->HOk X.prog X.w H h':=fun {a h'} ha hs b ob e=>by
  obtain⟨_,_,hfree⟩:=ha;refine(I.hok b ob e).stay (fun c w' hc q=>(hs.2 c ?_).trans q) (fun _ q=>q) fun _ _ q=>q;rintro rfl;rcases hc with rfl|hc
  ·rw[hfree]at e;cases e
  ·rw[hfree]at hc;cases hc
 rcases hx with hk|hk
 ·refine wpAny_storeName_local hk hn (fun h' hn' hs=> ?_) hcls;obtain⟨oL,_,_,hoL,_⟩:=id hn;refine h _ ⟨I.ok,I.os,I.bare,⟨fun b o e n hb hx=> ?_,fun b o e n hb hx=> ?_,I.base.free,fun b o e hx=> ?_,I.base.tups,I.base.frzs,I.base.tbls⟩,⟨_,hn',fun j y v' e1 e2 e3=> ?_⟩,fun y c e=> ?_,I.free,I.freeC,fun p hp=> ?_,tracked ⟨oL,hoL,I.free⟩ hs,by simpa using I.len⟩ ⟨_,hs,.inl rfl⟩
  ·exact(hs.2 b (Nat.ne_of_lt (Nat.lt_of_lt_of_le (Heap.lt_size e) I.ok.above))).trans (I.base.keep b o e n hb hx)
  ·obtain⟨sl,e1⟩:=I.base.slot b o e n hb hx;exact⟨sl,(hs.2 b (Nat.ne_of_lt (Nat.lt_of_lt_of_le (Heap.lt_size e) I.ok.above))).trans e1⟩
  ·obtain⟨o',e1⟩:=I.base.there b o e hx;exact⟨o',(hs.2 b (Nat.ne_of_lt (Nat.lt_of_lt_of_le (Heap.lt_size e) I.ok.above))).trans e1⟩
  ·by_cases hj:j=i
   ·subst hj;rw[hi]at e1;cases e1;rw[List.getElem?_set_self hiσ]at e2;cases e2;exact⟨u,r,.inl ⟨hk,by simp⟩⟩
   ·rw[List.getElem?_set_ne (Ne.symm hj)]at e2;obtain⟨u',r',q⟩:=hl j y v' e1 e2 e3;refine⟨u',r',?_⟩;rcases q with⟨k,e⟩|⟨k,c,e,z⟩
    ·refine .inl ⟨k,?_⟩;have:y≠x:=fun e=>hj (vE hN e1 (e▸hi));simp[this,e]
    ·exact .inr ⟨k,c,e,z.sameBut hs (cne y c e)⟩
  ·obtain⟨w',z⟩:=I.cell y c e;exact⟨w',z.sameBut hs (cne y c e)⟩
  ·obtain⟨e,n,ne,nf,d⟩:=I.pin p hp;exact⟨(hs.2 p.1 ne).trans e,n,ne,nf,d⟩
 ·have hfn:X.fn x=true:=by
   rcases hf with z|z
   ·exact z
   ·rw[z]at hk;cases hk
  obtain⟨c,hc⟩:=I.ok.has x (.inl hk);obtain⟨w',z⟩:=I.cell x c hc;refine wpAny_storeName_cell I.ok.kind hk hc z (fun h' hc' hs=> ?_);obtain⟨oc,hoc,hocd⟩:=id z;refine h { s with heap:=h' } ⟨I.ok,I.os,I.bare,⟨fun b o e n hb hx=> ?_,fun b o e n hb hx=> ?_,I.base.free,fun b o e hx=> ?_,I.base.tups,I.base.frzs,I.base.tbls⟩,⟨m,hn.sameBut hs (Ne.symm (cne x c hc)),fun j y v' e1 e2 e3=> ?_⟩,fun y c' e=> ?_,I.free,I.freeC,fun p hp=> ?_,tracked ⟨oc,hoc,I.freeC x c hc⟩ hs,by simpa using I.len⟩ ⟨c,hs,.inr hc⟩
  ·exact(hs.2 b (Nat.ne_of_lt (Nat.lt_of_lt_of_le (Heap.lt_size e) (I.ok.cab x c hfn hc)))).trans (I.base.keep b o e n hb hx)
  ·obtain⟨sl,e1⟩:=I.base.slot b o e n hb hx;exact⟨sl,(hs.2 b (Nat.ne_of_lt (Nat.lt_of_lt_of_le (Heap.lt_size e) (I.ok.cab x c hfn hc)))).trans e1⟩
  ·obtain⟨o',e1⟩:=I.base.there b o e hx;exact⟨o',(hs.2 b (Nat.ne_of_lt (Nat.lt_of_lt_of_le (Heap.lt_size e) (I.ok.cab x c hfn hc)))).trans e1⟩
  ·by_cases hj:j=i
   ·subst hj;rw[hi]at e1;cases e1;rw[List.getElem?_set_self hiσ]at e2;cases e2;exact⟨u,r,.inr ⟨.inl hk,c,hc,hc'⟩⟩
   ·rw[List.getElem?_set_ne (Ne.symm hj)]at e2;obtain⟨u',r',q⟩:=hl j y v' e1 e2 e3;refine⟨u',r',?_⟩;rcases q with q|⟨k,c',e,z'⟩
    ·exact .inl q
    ·refine .inr ⟨k,c',e,z'.sameBut hs ?_⟩;rintro rfl;exact hj (vE hN e1 (I.ok.inj _ _ _ e hc▸hi))
  ·by_cases hcc:c'=c
   ·subst hcc;exact⟨_,hc'⟩
   ·obtain⟨w2,z2⟩:=I.cell y c' e;exact⟨w2,z2.sameBut hs hcc⟩
  ·obtain⟨e,n,ne,nf,d⟩:=I.pin p hp;refine⟨(hs.2 p.1 ?_).trans e,n,ne,nf,d⟩;intro q;rw[q,hoc]at e;have q':oc=p.2:=Option.some.inj e;exact d w' (by rw[←q'];exact hocd)
theorem u4 {M:Model}{A:Around}{E:Value->Shared->Prop}{i:Nat}{x:Str}{v:V}{u:Value}{Q:Unit->Shared->Prop} (I:Inv X pins σ H s) (hN:X.N.Nodup) (hi:X.N[i]? =some x) (hx:Loc X.env.scope x) (r:RelV v u)
  (h:∀s',Inv X pins (σ.set i (some v)) H s'->Q () s')(hf:X.fn x=true∨X.env.scope.names.lookup x=some .local:=by first|exact .inl rfl|exact .inr rfl|assumption):wpAny M A (storeName X.env x u) Q E s :=
 BD I hN hi hx r (fun s' I' _=>h s' I') hf
theorem Inv.call' {s':Shared}{ch:List Addr} (I:Inv X pins σ H s) (ho:s'.os=s.os) (u:Un (frs X.stack) ch H H' s.heap s'.heap) (hok:HOk X.prog X.w H' s'.heap) (hg:AllBare s'.gens)
  (hch:∀b∈ch,(b∈X.ex∨X.s₀.heap.objs.size<=b)/\b≠X.env.locals/\(∀x c,X.env.cells.lookup x=some c->c≠b)/\∀p∈X.pn++pins,p.1≠b):Inv X pins σ H' s':=by
 obtain⟨h',g',d',t',o'⟩:=s';have e:o'=s.os:=ho;subst e;exact I.call (g':=g') (t':=t') (d':=d') u hok hg hch
end
abbrev XK:=Value->Option Addr->Hp->Prop
abbrev St:=List (Option V)
abbrev VK:=V->Hp->Prop
abbrev TE:=St->Hp->VK->Prop
abbrev TT:=St->Hp->(Bool->Hp->Prop)->Prop
abbrev TA:=St->Hp->(List V->Hp->Prop)->Prop
structure j8 where
 nx:St->Hp->Prop
 rt:VK
 bk:St->Hp->Prop:=fun _ _=>False
 ct:St->Hp->Prop:=fun _ _=>False
abbrev TS:=j8->St->Hp->Prop
def EP (X:Cx)(pins:List (Addr×Obj))(σ:St)(Q:VK)(u:Value)(s':Shared):Prop:=∃v H',Inv X pins σ H' s'/\RelV v u/\Q v H'
def TP (X:Cx)(pins:List (Addr×Obj))(σ:St)(Q:Bool->Hp->Prop)(b:Bool)(s':Shared):Prop:=∃H',Inv X pins σ H' s'/\Q b H'
def AP (X:Cx)(pins:List (Addr×Obj))(σ:St)(Q:List V->Hp->Prop)(us:List Value)(s':Shared):Prop:=∃vs H',Inv X pins σ H' s'/\Vals vs us/\Q vs H'
def SP (X:Cx)(pins:List (Addr×Obj))(D:j8)(f:Flow)(s':Shared):Prop :=
 match f with
 | .next=>∃σ' H',Inv X pins σ' H' s'/\D.nx σ' H'
 | .brk=>∃σ' H',Inv X pins σ' H' s'/\D.bk σ' H'
 | .cont=>∃σ' H',Inv X pins σ' H' s'/\D.ct σ' H'
 | .ret u=>∃v σ' H',Inv X pins σ' H' s'/\RelV v u/\D.rt v H'
def PE (X:Cx)(e:Expr)(t:TE):Prop :=
 ∀(pins:List (Addr×Obj)) (s:Shared) (σ:St) (H:Hp) (Q:VK),Inv X pins σ H s->t σ H Q->wpAny (model X.prog X.w) X.A (eval e X.env) (EP X pins σ Q) X.xe s
def PT (X:Cx)(e:Expr)(t:TT):Prop :=
 ∀(pins:List (Addr×Obj)) (s:Shared) (σ:St) (H:Hp) (Q:Bool->Hp->Prop),Inv X pins σ H s->t σ H Q->wpAny (model X.prog X.w) X.A (isTrue e X.env (eval e X.env)) (TP X pins σ Q) X.xe s
def PW (X:Cx)(e:Expr)(t:TT):Prop :=
 ∀(whole:Sem Value) (pins:List (Addr×Obj)) (s:Shared) (σ:St) (H:Hp) (Q:Bool->Hp->Prop),Inv X pins σ H s->t σ H Q->wpAny (model X.prog X.w) X.A (isTrue e X.env whole) (TP X pins σ Q) X.xe s
theorem PW.pt {X:Cx}{e:Expr}{t:TT} (h:PW X e t):PT X e t:=h _
def PA (X:Cx)(es:List Expr)(t:TA):Prop :=
 ∀(pos:Pos) (pins:List (Addr×Obj)) (s:Shared) (σ:St) (H:Hp) (Q:List V->Hp->Prop),Inv X pins σ H s->t σ H Q->wpAny (model X.prog X.w) X.A (spliced (backTo pos (starEach es X.env))) (AP X pins σ Q) X.xe s
def PS (X:Cx)(st:Stmt)(t:TS):Prop :=
 ∀(pins:List (Addr×Obj)) (s:Shared) (σ:St) (H:Hp) (D:j8),Inv X pins σ H s->t D σ H->wpAny (model X.prog X.w) X.A (exec st X.env) (SP X pins D) X.xe s
def PSs (X:Cx)(st:List Stmt)(t:TS):Prop :=
 ∀(pins:List (Addr×Obj)) (s:Shared) (σ:St) (H:Hp) (D:j8),Inv X pins σ H s->t D σ H->wpAny (model X.prog X.w) X.A (execs st X.env) (SP X pins D) X.xe s
theorem thn {α:Type}{t:Sem α}{Q Q':α->Shared->Prop}{M:Model}{A:Around}{E:Value->Shared->Prop}{s:Shared} (h:wpAny M A t Q E s) (hQ:∀a s,Q a s->Q' a s):wpAny M A t Q' E s:=wpAny_mono h hQ fun _ _ x=>x
end L2
namespace L2
open PySem PySem.Spec PyProof.Rows
section
variable {X:Cx}
def fF (i:Nat):TE:=fun σ H Q=>∃v,σ[i]? =some (some v)/\Q v H
def tC (v:V):TE:=fun _ H Q=>Q v H
theorem MZ {i:Nat}{x:Str}{pos:Pos} (hN:X.N[i]? =some x) (hv:Vis X.env.scope x) (hd:(x==("__debug__" :Str))=false:=by decide) (hcd:(x==("__classdict__" :Str))=false:=by decide):PE X (.Name x pos) (fF i):=by
 intro pins s σ H Q I h;obtain⟨v,e,h⟩:=h;obtain⟨m,hn,hl⟩:=I.loc;obtain⟨u,r,l⟩:=hl i x v hN e hv;have fin:EP X pins σ Q u s:=⟨v,H,I,r,h⟩
 rcases l with⟨hk,hm⟩|⟨hk,c,hc,hcell⟩
 ·exact wpAny_Name (wpAny_loadName_local I.ok.kind hk hn hm fin) hd
 ·rcases hk with hk|hk
  ·exact wpAny_Name (wpAny_loadName_cell I.ok.kind hk hc hcell fin) hd
  ·exact wpAny_Name (wpAny_loadName_free I.ok.kind hk hc hcell fin hcd) hd
theorem aE {i j pos}:PE X (.Constant (.int i) j pos) (tC (.int i)):=fun _ _ _ H _ I h=>wpAny_Constant_int ⟨.int i,H,I.tok _,⟨_,rfl⟩,h⟩
theorem zO {b j pos}:PE X (.Constant (.bool b) j pos) (tC (.bl b)):=fun _ _ _ H _ I h=>Constant_bool ⟨.bl b,H,I,rfl,h⟩
theorem jK {j pos}:PE X (.Constant .none j pos) (tC .non):=fun _ _ _ H _ I h=>Constant_none ⟨.non,H,I,rfl,h⟩
theorem iQ {x j pos}:PE X (.Constant (.str x) j pos) (tC (.str x)):=fun _ _ _ H _ I h=>Calls.Constant_str ⟨.str x,H,I.tok _,⟨_,rfl⟩,h⟩
def Gl (X:Cx)(x:Str):Prop:=X.env.kindOf x=some .globalImplicit
theorem qZ {E:Value->Shared->Prop}{pins:List (Addr×Obj)}{s:Shared}{σ:St}{H:Hp}{x:Str}{u:Value}{pos:Pos}{Q:Value->Shared->Prop} (I:Inv X pins σ H s) (hg:Gl X x) (hm:X.mg x=some u) (h:Q u s)
  (hd:(x==("__debug__" :Str))=false:=by decide):wpAny (model X.prog X.w) X.A (eval (.Name x pos) X.env) Q E s :=
 Calls.Name_function_global I.ok.kind hg (Calls.loadGlobal_global (by rw[I.ok.glob];exact I.mod.glob.keeps I.bk) hm h) hd
theorem mL {E:Value->Shared->Prop}{pins:List (Addr×Obj)}{s:Shared}{σ:St}{H:Hp}{x:Str}{u:Value}{pos:Pos}{Q:Value->Shared->Prop} (I:Inv X pins σ H s) (hg:Gl X x) (hm:X.mg x=none) (hv:bootBuiltins x=some u) (h:Q u s)
  (hn:x≠ "__name__" :=by decide)(hd:(x==("__debug__" :Str))=false:=by decide):wpAny (model X.prog X.w) X.A (eval (.Name x pos) X.env) Q E s:=by
 obtain⟨mb,h1,h2⟩:=I.mod.blt;exact Calls.Name_function_global I.ok.kind hg (Calls.loadGlobal_builtin (by rw[I.ok.glob];exact I.mod.glob.keeps I.bk) hm (by rw[I.ok.blt];exact h1.keeps I.bk) ((h2 x hn).trans hv) h) hd
theorem IE {x:Str}{v:V}{u:Value}{pos:Pos} (hg:Gl X x) (hm:X.mg x=some u) (r:RelV v u) (hd:(x==("__debug__" :Str))=false:=by decide):PE X (.Name x pos) (tC v) :=
 fun _ _ _ H _ I h=>qZ I hg hm ⟨v,H,I,r,h⟩ hd
theorem HI {x:Str}{v:V}{u:Value}{pos:Pos} (hg:Gl X x) (hm:X.mg x=none) (hv:bootBuiltins x=some u) (r:RelV v u) (hn:x≠ "__name__" :=by decide) (hd:(x==("__debug__" :Str))=false:=by decide):PE X (.Name x pos) (tC v) :=
 fun _ _ _ H _ I h=>mL I hg hm hv ⟨v,H,I,r,h⟩ hn hd
variable {a b:Expr}{ta tb:TE}{pos:Pos}
def PC (X:Cx)(op:CmpOp)(a b:Expr)(t:TE):Prop :=
 ∀(pins:List (Addr×Obj)) (s:Shared) (σ:St) (H:Hp) (Q:VK),Inv X pins σ H s->t σ H Q →
  wpAny (model X.prog X.w) X.A (eval a X.env) (fun v s₁=>wpAny (model X.prog X.w) X.A (eval b X.env) (fun u s₂=>wpAny (model X.prog X.w) X.A (compareOp op v u) (EP X pins σ Q) X.xe s₂) X.xe s₁) X.xe s
def tB (t:TE):TT:=fun σ H Q=>t σ H fun x H1=>∃c,x= .bl c/\Q c H1
theorem C8 {op:CmpOp}{t:TE} (h:PC X op a b t) (h1:behindInMarks op b=false:=by first|exact nobehind _ (by decide) (by decide)|rfl):PT X (.Compare a [op] [b] pos) (tB t):=by
 intro pins s σ H Q I hw;refine wpAny_isTrue_Compare1 (thn (h pins s σ H _ I hw) fun v s1 h1=>thn h1 fun u s2 h2=>thn h2 fun c s3 ⟨x,H1,I1,r1,q1⟩=> ?_) h1;obtain⟨d,rfl,q⟩:=q1;cases r1;exact wpAny_truthy_bool ⟨H1,I1,q⟩
theorem jF {e:Expr}{t:TE} (h:PE X e t) (he:∀whole,isTrue e X.env whole=(do let v ←whole;standAt e.pos;holding [v] (truthy v)):=by intro _;rfl):PT X e (tB t):=by
 intro pins s σ H Q I hw;refine isTrue_plain (thn (h pins s σ H _ I hw) fun v s1 ⟨x,H1,I1,r1,q1⟩=> ?_) (he _);obtain⟨d,rfl,q⟩:=q1;cases r1;exact wpAny_truthy_bool ⟨H1,I1,q⟩
variable {tA tB':TT}{rest:List Expr}
def tOr (t u:TT):TT:=fun σ H Q=>t σ H fun c H1=>if c=true then Q true H1 else u σ H1 Q
def NC (t:TT):TT:=fun σ H Q=>t σ H fun c H1=>Q (!c) H1
theorem A4 (ha:PT X a tA):PW X (.BoolOp .Or [a] pos) tA:=by
 intro wh pins s σ H Q I h;refine isTrue_or (thn (ha pins s σ H Q I h) fun c s1 e=> ?_);cases c with
 | false=>exact isTrue_or_nil e
 | true=>exact e
theorem zI (ha:PT X a tA)(hb:PW X (.BoolOp .Or (b::rest) pos) tB'):PW X (.BoolOp .Or (a::b::rest) pos) (tOr tA tB'):=by
 intro wh pins s σ H Q I h;refine isTrue_or (thn (ha pins s σ H _ I h) fun c s1 ⟨H1,I1,q1⟩=> ?_);cases c with
 | true=>exact⟨H1,I1,q1⟩
 | false=>exact hb wh pins s1 σ H1 Q I1 q1
theorem mV (ha:PT X a tA):PT X (.UnaryOp .Not a pos) (NC tA):=by
 intro pins s σ H Q I h;exact isTrue_not (ha pins s σ H (fun c H1=>Q (!c) H1) I h)
def PK (ta tb:TE):TE:=fun σ H Q=>ta σ H fun x H1=>∃c,x= .bl c/\if c=true then tb σ H1 Q else Q (.bl false) H1
def OJ (ta:TE):TE:=fun σ H Q=>ta σ H fun x H1=>∃c,x= .bl c/\Q (.bl (!c)) H1
theorem A8 {op}{t:TE} (h:PE X a t):PE X (.BoolOp op [a] pos) t:=fun pins s σ H Q I hw=>BoolOp_one (h pins s σ H Q I hw)
theorem AX (ha:PE X a ta)(hb:PE X (.BoolOp .And (b::rest) pos) tb):PE X (.BoolOp .And (a::b::rest) pos) (PK ta tb):=by
 intro pins s σ H Q I h;refine BoolOp_and (thn (ha pins s σ H _ I h) fun v s1 ⟨x,H1,I1,r1,q1⟩=> ?_);obtain⟨c,rfl,q1⟩:=q1;cases r1;refine wpAny_truthy_bool ?_;cases c with
 | true=>exact hb pins s1 σ H1 Q I1 q1
 | false=>exact⟨.bl false,H1,I1,rfl,q1⟩
theorem NE (ha:PE X a ta):PE X (.UnaryOp .Not a pos) (OJ ta):=by
 intro pins s σ H Q I h;refine UnaryOp_ (thn (ha pins s σ H _ I h) fun v s1 ⟨x,H1,I1,r1,q1⟩=> ?_);obtain⟨c,rfl,q1⟩:=q1;cases r1;exact not_of (wpAny_truthy_bool ⟨.bl (!c),H1,I1,rfl,q1⟩)
end
end L2
namespace L2
open PySem PySem.Spec PyProof.Rows
def SqL (K:PySem.W.Frag)(H:Hp)(a:Addr)(xs:List V):Prop :=
 Rd H a (.lst xs) ∨
  ∃(o:Obj) (its:Array Value) (n:Nat),K.lookup a=some o/\o.cls= .type "list" /\o.dict=none/\o.data= .seq its n/\its.size<=sizeLine/\Vals xs its.toList
def SqT (K:PySem.W.Frag)(H:Hp)(a:Addr)(xs:List V):Prop :=
 Rd H a (.tup xs) ∨
  ∃(o:Obj) (its:Array Value) (n:Nat),K.lookup a=some o/\o.cls= .type "tuple" /\o.data= .seq its n/\its.size<=sizeLine/\Vals xs its.toList
def QL:Value->Option V
 | .none=>some .non
 | .bool b=>some (.bl b)
 | .int i _=>some (.int i)
 | .str x _=>some (.str x)
 | .bytes b _=>some (.byt b)
 | .float b _=>some (.flt b)
 | .ref a=>some (.ref a)
 | .type n=>some (.ty n)
 | _=>none
theorem RelV.abs {x:V}{u:Value} (r:RelV x u):QL u=some x:=by
 cases x with
 | non=>cases r;rfl
 | bl _=>cases r;rfl
 | int _=>obtain⟨t,rfl⟩:=r;rfl
 | str _=>obtain⟨t,rfl⟩:=r;rfl
 | byt _=>obtain⟨t,rfl⟩:=r;rfl
 | flt _=>obtain⟨t,rfl⟩:=r;rfl
 | ref _=>cases r;rfl
 | ty _=>cases r;rfl
theorem RelV.inj {x y:V}{u:Value} (r:RelV x u) (q:RelV y u):x=y:=Option.some.inj (r.abs.symm.trans q.abs)
theorem Vals.inj:∀{xs ys:List V}{us:List Value},Vals xs us->Vals ys us->xs=ys
 | _,_,_,.nil,.nil=>rfl
 | _,_,_,.cons r t,.cons r' t'=>by rw[r.inj r',Vals.inj t t']
section
variable {X:Cx}{pins:List (Addr×Obj)}{σ:St}{H:Hp}{s:Shared}{a:Addr}{xs ys:List V}
theorem SqL.of {K:PySem.W.Frag}(h:H a=some (.lst xs)):SqL K H a xs:= .inl (.inl h)
theorem SqT.of {K:PySem.W.Frag}(h:H a=some (.tup xs)):SqT K H a xs:= .inl (.inl h)
theorem Inv.list (I:Inv X pins σ H s)(h:SqL X.K H a xs):∃its:List Value,Vals xs its/\PlainL s.heap a its.toArray/\xs.length<=sizeLine:=by
 rcases h with h|⟨o,its,n,hk,hc,hd,hs,hz,r⟩
 ·obtain⟨z,its,n,r,e⟩:=h.ok I.hok;exact⟨its,r,⟨_,n,e,rfl,rfl,rfl⟩,z⟩
 ·refine⟨its.toList,r,⟨o,n,I.kIn a o hk,hc,hd,by simpa using hs⟩,?_⟩;have e:=r.length;simp only[Array.length_toList]at e
  lia
theorem Inv.tuple (I:Inv X pins σ H s)(h:SqT X.K H a xs):∃its:List Value,Vals xs its/\IsTup s.heap a its.toArray/\xs.length<=sizeLine:=by
 rcases h with h|⟨o,its,n,hk,hc,hs,hz,r⟩
 ·obtain⟨z,its,r,p⟩:=h.ok I.hok;exact⟨its,r,p,z⟩
 ·refine⟨its.toList,r,⟨o,I.kIn a o hk,hc,n,by simpa using hs⟩,?_⟩;have e:=r.length;simp only[Array.length_toList]at e
  lia
theorem Inv.list_inj (I:Inv X pins σ H s)(h:SqL X.K H a xs)(h':SqL X.K H a ys):xs=ys:=by
 obtain⟨its,r,⟨o,n,e,_,_,d⟩,_⟩:=I.list h;obtain⟨its',r',⟨o',n',e',_,_,d'⟩,_⟩:=I.list h';rw[e]at e';cases e';rw[d]at d';injection d' with d1 _;have:its=its':=by simpa using congrArg Array.toList d1
 subst this;exact r.inj r'
end
abbrev Cx.wish (X:Cx)(E:Value->Shared->Prop):Cx:={ X with xe:=E }
abbrev Cx.nox (X:Cx):Cx:=X.wish fun _ _=>False
theorem Cx.Ok.wish {X:Cx}(ok:X.Ok)(E:Value->Shared->Prop):(X.wish E).Ok :=
 ⟨ok.mod,ok.kind,ok.glob,ok.blt,ok.above,ok.inj,ok.has,ok.cab,ok.hd,ok.frames,ok.stk,ok.exf,ok.bs,ok.bsz,ok.noex,ok.exfs,ok.funs,ok.frf⟩
theorem Cx.Ok.unwish {X:Cx}{E:Value->Shared->Prop} (ok:(X.wish E).Ok):X.Ok :=
 ⟨ok.mod,ok.kind,ok.glob,ok.blt,ok.above,ok.inj,ok.has,ok.cab,ok.hd,ok.frames,ok.stk,ok.exf,ok.bs,ok.bsz,ok.noex,ok.exfs,ok.funs,ok.frf⟩
section
variable {X:Cx}{pins:List (Addr×Obj)}{σ:St}{H:Hp}{s:Shared}{E:Value->Shared->Prop}
theorem Inv.wish (I:Inv X pins σ H s)(E:Value->Shared->Prop):Inv (X.wish E) pins σ H s:=⟨I.ok.wish E,I.os,I.bare,I.base,I.loc,I.cell,I.free,I.freeC,I.pin,I.hok,I.len⟩
theorem Inv.unwish (I:Inv (X.wish E) pins σ H s):Inv X pins σ H s:=⟨I.ok.unwish,I.os,I.bare,I.base,I.loc,I.cell,I.free,I.freeC,I.pin,I.hok,I.len⟩
theorem SP.unwish {D:j8}{f:Flow}{s':Shared} (h:SP (X.wish E) pins D f s'):SP X pins D f s':=by
 cases f with
 | next=>obtain⟨σ',H',I,q⟩:=h;exact⟨σ',H',I.unwish,q⟩
 | brk=>obtain⟨σ',H',I,q⟩:=h;exact⟨σ',H',I.unwish,q⟩
 | cont=>obtain⟨σ',H',I,q⟩:=h;exact⟨σ',H',I.unwish,q⟩
 | ret u=>obtain⟨v,σ',H',I,r,q⟩:=h;exact⟨v,σ',H',I.unwish,r,q⟩
theorem PSs.nox {st:List Stmt}{t:TS} (h:PSs X.nox st t):PSs X st t:=fun pins s σ H D I hw =>
 wpAny_mono (h pins s σ H D (I.wish _) hw) (fun _ _ q=>q.unwish) fun _ _ z=>False.elim z
end
section
variable {X:Cx}{st:Stmt}{rest:List Stmt}{t u:TS}{e:Expr}{te:TE}{pos:Pos}
def GZ:TS:=fun D σ H=>D.nx σ H
def zU (t u:TS):TS:=fun D σ H=>t { D with nx:=u D } σ H
theorem cE:PSs X [] GZ:=fun _ _ σ H _ I h=>wpAny_execs_nil ⟨σ,H,I,h⟩
theorem aD (h1:PS X st t)(h2:PSs X rest u):PSs X (st::rest) (zU t u):=by
 intro pins s σ H D I h;refine wpAny_execs_cons (thn (h1 pins s σ H { D with nx:=u D } I h) fun f s1 q=> ?_);cases f with
 | next =>
  obtain⟨σ',H',I',q⟩:=q;exact h2 pins s1 σ' H' D I' q
 | ret v=>exact q
 | brk=>exact q
 | cont=>exact q
theorem aF (h1:PS X st t):PSs X [st] t:=by
 intro pins s σ H D I h;refine wpAny_execs_cons (thn (h1 pins s σ H D I h) fun f s1 q=> ?_);cases f with
 | next=>exact wpAny_execs_nil q
 | ret v=>exact q
 | brk=>exact q
 | cont=>exact q
theorem Inv.quiet {pins:List (Addr×Obj)}{σ:St}{H:Hp}{s:Shared} (I:Inv X pins σ H s):interactive X.env=false:=by simp[interactive,I.ok.kind]
def GP (te:TE):TS:=fun D σ H=>te σ H fun _ H1=>D.nx σ H1
theorem cC (he:PE X e te)(hs:swapsWith e none pos.line X.env=pure false:=by rfl):PS X (.Expr e pos) (GP te):=by
 intro pins s σ H D I h;exact wpAny_Expr_any (thn (he pins s σ H _ I h) fun v s1 ⟨x,H1,I1,r1,q1⟩=>⟨σ,H1,I1,q1⟩) I.quiet hs
def K7 (te:TE):TS:=fun D σ H=>te σ H D.rt
theorem cV (he:PE X e te):PS X (.Return (some e) pos) (K7 te):=by
 intro pins s σ H D I h;exact wpAny_Return_some (thn (he pins s σ H _ I h) fun v s1 ⟨x,H1,I1,r1,q1⟩=>⟨x,σ,H1,I1,r1,q1⟩)
def yU (c:TT)(t u:TS):TS:=fun D σ H=>c σ H fun b H1=>if b=true then t D σ H1 else u D σ H1
theorem dU {c:Expr}{a b:List Stmt}{tc:TT} (hc:PT X c tc) (ha:PSs X a t) (hb:PSs X b u):PS X (.If c a b pos) (yU tc t u):=by
 intro pins s σ H D I h;refine wpAny_If (thn (hc pins s σ H _ I h) fun d s1 ⟨H1,I1,q1⟩=> ?_);cases d with
 | true=>exact ha pins s1 σ H1 D I1 q1
 | false=>exact hb pins s1 σ H1 D I1 q1
def KZ:TS:=fun _ _ _=>False
theorem eU:PS X st KZ:=fun _ _ _ _ _ _ h=>h.elim
end
abbrev TG:=V->St->Hp->(St->Hp->Prop)->Prop
abbrev TGs:=List V->St->Hp->(St->Hp->Prop)->Prop
def PG (X:Cx)(target:Expr)(t:TG):Prop :=
 ∀(pins:List (Addr×Obj)) (s:Shared) (σ:St) (H:Hp) (v:V) (u:Value) (Q:St->Hp->Prop),Inv X pins σ H s->RelV v u->t v σ H Q →
  wpAny (model X.prog X.w) X.A (assign target X.env u) (fun _ s'=>∃σ' H',Inv X pins σ' H' s'/\Q σ' H') X.xe s
def PGs (X:Cx)(ts:List Expr)(t:TGs):Prop :=
 ∀(pins:List (Addr×Obj)) (s:Shared) (σ:St) (H:Hp) (vs:List V) (us:List Value) (Q:St->Hp->Prop),Inv X pins σ H s->Vals vs us->t vs σ H Q →
  wpAny (model X.prog X.w) X.A (assignInOrder ((assignEach ts X.env).map (·.2)) us) (fun _ s'=>∃σ' H',Inv X pins σ' H' s'/\Q σ' H') X.xe s
section
variable {X:Cx}{pos:Pos}
def bC (i:Nat):TG:=fun v σ H Q=>Q (σ.set i (some v)) H
theorem aJ {i:Nat}{x:Str} (hN:X.N.Nodup) (hi:X.N[i]? =some x) (hx:Loc X.env.scope x) (hf:X.fn x=true∨X.env.scope.names.lookup x=some .local:=by first|exact .inl rfl|exact .inr rfl|assumption):PG X (.Name x pos) (bC i):=by
 intro pins s σ H v u Q I r h;exact wpAny_assign_Name (u4 I hN hi hx r (fun s' I'=>⟨_,H,I',h⟩) hf)
def qP:TGs:=fun vs σ H Q=>vs=[]/\Q σ H
def gK (t:TG)(u:TGs):TGs:=fun vs σ H Q=>∃v r,vs=v::r/\t v σ H fun σ' H'=>u r σ' H' Q
theorem dO:PGs X [] qP:=by
 intro pins s σ H vs us Q I r h;obtain⟨e,h⟩:=h;subst e;cases r;exact assignInOrder_nil ⟨σ,H,I,h⟩
theorem aS {e:Expr}{es:List Expr}{t:TG}{u:TGs} (h1:PG X e t) (h2:PGs X es u)
  (hs:(assignEach (e::es) X.env).map (·.2)=assign e X.env::(assignEach es X.env).map (·.2):=by rfl):PGs X (e::es) (gK t u):=by
 intro pins s σ H vs us Q I r h;obtain⟨v,vr,e1,h⟩:=h;subst e1;cases r with
 | cons r rr =>
  rw[hs];refine assignInOrder_cons (thn (h1 pins s σ H _ _ _ I r h) fun _ s1 ⟨σ1,H1,I1,q1⟩=> ?_);exact h2 pins s1 σ1 H1 _ _ Q I1 rr q1
def oX (K:PySem.W.Frag)(n:Nat)(t:TGs):TG:=fun v σ H Q=>∃a xs,v= .ref a/\SqT K H a xs/\xs.length=n/\t xs σ H Q
theorem kG {es:List Expr}{k:Nat}{t:TGs}{n:Nat} (hc:X.calm=true) (h:PGs X es t)
  (hn:(assignEach es X.env).length=n:=by rfl)(hst:(assignEach es X.env).findIdx? (·.1)=none:=by rfl):PG X (.Tuple es k pos) (oX X.K n t):=by
 intro pins s σ H v u Q I r hw;obtain⟨a,xs,e1,hq,hl,hw⟩:=hw;subst e1;cases r;obtain⟨its,rv,ht,hz⟩:=I.tuple hq;refine assign_Tuple_tuple (I.ok.hd hc) ht (by simp[hn,←hl,rv.length]) hst fun h' hx=> ?_;have I1:Inv X pins σ H { s with heap:=h' }:=I.kept (t':=s.toks) fun b o e=>hx b o (Nat.ne_of_lt (Heap.lt_size e)) e;exact h pins _ σ H xs _ Q I1 (by simpa using rv) hw
def EA (te:TE)(g:TG):TS:=fun D σ H=>te σ H fun x H1=>g x σ H1 D.nx
theorem aY {i:Nat}{x:Str}{e:Expr}{te:TE}{pos':Pos} (hN:X.N.Nodup) (hi:X.N[i]? =some x) (hx:Loc X.env.scope x) (he:PE X e te) (hs:swapsWith e (some (.Name x pos')) pos.line X.env=pure false:=by rfl) (hf:X.fn x=true∨X.env.scope.names.lookup x=some .local:=by first|exact .inl rfl|exact .inr rfl|assumption) :
  PS X (.Assign [.Name x pos'] e pos) (EA te (bC i)):=by
 intro pins s σ H D I h;refine wpAny_Assign_Name (thn (he pins s σ H _ I h) fun v s1 ⟨y,H1,I1,r1,q1⟩=> ?_) hs;exact u4 I1 hN hi hx r1 (fun s2 I2=>⟨_,H1,I2,q1⟩) hf
end
section
variable {X:Cx}{pos:Pos}
end
structure It where
 go:Nat->Hp->Prop
 yld:Nat->Hp->V->Hp->Prop
 stop:Nat->Hp->Prop
def h9 (X:Cx)(pins:List (Addr×Obj))(H:Hp)(b:Addr):Prop :=
 H b=none/\b≠X.env.locals/\b∉X.fs/\(b∈X.ex∨X.s₀.heap.objs.size<=b)/\(∀x c,X.env.cells.lookup x=some c->c≠b)/\∀p∈X.pn++pins,p.1≠b
theorem Inv.fpOk {X:Cx}{pins:List (Addr×Obj)}{σ:St}{H H':Hp}{s:Shared}{b:Addr} (I:Inv X pins σ H s) (hb:s.heap.objs.size<=b) (hn:H' b=none):h9 X pins H' b:=by
 refine⟨hn,Nat.ne_of_gt (Nat.lt_of_lt_of_le I.lt hb),I.nofs hb,.inr (Nat.le_trans I.sz hb),fun x c e z=> ?_,fun p hp z=> ?_⟩
 ·obtain⟨v,q⟩:=I.cell x c e;exact absurd (Nat.lt_of_lt_of_le q.lt (by rw[z];exact hb)) (Nat.lt_irrefl _)
 ·exact absurd (Nat.lt_of_lt_of_le (Heap.lt_size (I.pin p hp).1) (by rw[z];exact hb)) (Nat.lt_irrefl _)
structure kY (P:Program)(w:World)(K:PySem.W.Frag)(tg:Expr)(J:It)(fp:List Addr)(it:Addr)(tn:Nat->Heap->Prop):Prop where
 mem:it∈fp
 obj:∀i h,tn i h->∀b∈fp,∃o,h.get? b=some o/\∀v,o.data≠ .cell v
 keep:∀i h h',tn i h->(∀b∈fp,∀o,h.get? b=some o->h'.get? b=some o)->tn i h'
 item:∀(X:Cx),X.prog=P->X.w=w->X.K=K->X.calm=true->∀(i:Nat) (pins:List (Addr×Obj)) (s:Shared) (σ:St) (H:Hp) (E:Value->Shared->Prop),Inv X pins σ H s->(∀b∈fp,h9 X pins H b)->tn i s.heap->J.go i H →
  wpAny (model P w) X.A (pyNext (.ref it)) (fun r s1=>∃u,r=some u ∧
   wpAny (model P w) X.A (letOwnedTupleGo tg (.ref it) u) (fun _ s2=>∃x H',Inv X pins σ H' s2/\RelV x u/\J.yld i H x H'/\tn (i+1) s2.heap/\∀b∈fp,H' b=none) E s1) E s
 done:∀(X:Cx),X.prog=P->X.w=w->X.K=K->X.calm=true->∀(i:Nat) (pins:List (Addr×Obj)) (s:Shared) (σ:St) (H:Hp) (E:Value->Shared->Prop),Inv X pins σ H s->(∀b∈fp,h9 X pins H b)->tn i s.heap->J.stop i H →
  wpAny (model P w) X.A (pyNext (.ref it)) (fun r s1=>r=none/\Inv X pins σ H s1) E s
 self:∀(A:Around) (i:Nat) (s:Shared) (Q:Value->Shared->Prop) (E:Value->Shared->Prop),tn i s.heap->Q (.ref it) s->wpAny (model P w) A (pyIter (.ref it)) Q E s
abbrev TI:=St->Hp->(It->Hp->Prop)->Prop
def PIE (X:Cx)(pins:List (Addr×Obj))(σ:St)(tg:Expr)(R:It->Hp->Prop)(itv:Value)(s2:Shared):Prop :=
 ∃(it:Addr) (fp:List Addr) (tn:Nat->Heap->Prop) (J:It) (H':Hp),itv= .ref it/\Inv X pins σ H' s2/\kY X.prog X.w X.K tg J fp it tn/\tn 0 s2.heap/\(∀b∈fp,h9 X pins H' b)/\R J H'
def PI (X:Cx)(tg iter:Expr)(wi:TI):Prop :=
 ∀(pins:List (Addr×Obj)) (s:Shared) (σ:St) (H:Hp) (R:It->Hp->Prop),Inv X pins σ H s->wi σ H R →
  wpAny (model X.prog X.w) X.A (eval iter X.env) (fun v s1=>wpAny (model X.prog X.w) X.A (pyIter v) (PIE X pins σ tg R) X.xe s1) X.xe s
theorem z5 {M:Model}{A:Around}{E:Value->Shared->Prop}{s:Shared}{tg:Expr}{it:Addr}{u:Value}{o:Obj}{n:String}{vs:Array Value}{Q:Unit->Shared->Prop} (ho:s.heap.get? it=some o) (hc:o.cls= .type n) (hd:o.data= .fields vs)
  (hn:["enumerate","zip","dict_itemiterator","dict_reverseitemiterator","odict_iterator","itertools.zip_longest","itertools.pairwise"].contains n=false)(hQ:Q () s):wpAny M A (letOwnedTupleGo tg (.ref it) u) Q E s:=by
 unfold letOwnedTupleGo;cases tg<;>first
  | exact wpAny_pure hQ
  | (cases u<;>first
    | exact wpAny_pure hQ
    | (refine wpAny_bind (wpAny_load ho ?_);rw[hc,hd];show wpAny M A (if (["enumerate","zip","dict_itemiterator","dict_reverseitemiterator","odict_iterator","itertools.zip_longest","itertools.pairwise"].contains n&&vs[0]? ==some (rawInt _))=true then _ else _) Q E s;rw[if_neg (by intro h;rw[hn,Bool.false_and]at h;cases h)];exact wpAny_pure hQ))
def Itl (K:PySem.W.Frag)(a:Addr):It :=
 ⟨fun i H=>∃xs x,SqL K H a xs/\xs[i]? =some x,fun i H x H'=>H'=H/\∀xs,SqL K H a xs->xs[i]? =some x,fun i H=>∃xs,SqL K H a xs/\xs.length<=i⟩
def Itr (lo:Int)(n:Nat):It:=⟨fun i _=>i<n,fun i H x H'=>H'=H/\x= .int (lo+i),fun i _=>n<=i⟩
theorem BR {P:Program}{w:World}{K:PySem.W.Frag}{tg:Expr} (a it:Addr):kY P w K tg (Itl K a) [it] it (fun i h=>h.IsListIter it a i) where
 mem:=by simp
 obj:=fun i h st b hb=>by
  have e:b=it:=by simpa using hb
  subst e;obtain⟨o,e,c,d⟩:=st;exact⟨o,e,fun v z=>by rw[d]at z;cases z⟩
 keep:=fun i h h' st k=>st.at fun o e=>k it (by simp) o e
 item:=by
  intro X hP hw hK hc i pins s σ H E I hf st hg;subst hP hw hK;obtain⟨xs,x,hq,hx⟩:=hg;obtain⟨its,rv,p,hz⟩:=I.list hq;obtain⟨u,hu,ru⟩:=rv.get hx;obtain⟨f0,f1,f2,f3,f4,f5⟩:=hf it (by simp);refine wpAny_pyNext_list_item st p.isList (x:=u) (by simpa using hu) fun h' st' sb=> ?_;have I1:Inv X pins σ H { s with heap:=h' }:=I.turned (t':=s.toks) (fun b o hb e=>(sb.2 b hb).trans e) f0 f1 f3 f4 f5;obtain⟨o,e,c,d⟩:=id st';exact⟨u,rfl,z5 (s:={ s with heap:=h' }) e c d (by decide) ⟨x,H,I1,ru,⟨rfl,fun ys hy=>by rw[I.list_inj hy hq];exact hx⟩,st',fun b hb=>(hf b hb).1⟩⟩
 done:=by
  intro X hP hw hK hc i pins s σ H E I hf st hg;subst hP hw hK;obtain⟨xs,hq,hx⟩:=hg;obtain⟨its,rv,p,hz⟩:=I.list hq;obtain⟨f0,f1,f2,f3,f4,f5⟩:=hf it (by simp);have hl:=rv.length;exact wpAny_pyNext_list_end (I.ok.hd hc) st p.isList (by simp;lia) fun h' eb=>⟨rfl,I.turned (t':=s.toks) (fun b o hb e=>eb b o hb e) f0 f1 f3 f4 f5⟩
 self:=fun _ _ _ _ _ st h=>wpAny_pyIter_listiter st h
theorem zJ {P:Program}{w:World}{K:PySem.W.Frag}{tg:Expr} (it:Addr) (lo:Int) (n:Nat):kY P w K tg (Itr lo n) [it] it (fun i h=>IsRangeIter h it (lo+(i:Nat) * 1) ((n:Int) - (i:Nat)) 1) where
 mem:=by simp
 obj:=fun i h st b hb=>by
  have e:b=it:=by simpa using hb
  subst e;exact⟨_,st,fun v z=>by
   have z':Data.fields _=Data.cell v:=z;cases z'⟩
 keep:=fun i h h' st k=>k it (by simp) _ st
 item:=by
  intro X hP hw hK hc i pins s σ H E I hf st hg;subst hP hw hK;obtain⟨f0,f1,f2,f3,f4,f5⟩:=hf it (by simp);have W:=Walks.range (prog:=X.prog) (w:=X.w) (I.ok.hd hc) it lo 1 n;refine W.item i s _ _ hg st fun v h' tk hv st' kk=> ?_;obtain⟨t,rfl⟩:=hv;have I1:Inv X pins σ H { s with heap:=h',toks:=tk }:=I.turned (fun b o hb e=>kk b o (by simpa using hb) e) f0 f1 f3 f4 f5;refine⟨_,rfl,z5 (s:={ s with heap:=h',toks:=tk }) (n:= "range_iterator") st' rfl rfl (by decide) ⟨.int (lo+i),H,I1,⟨t,?_⟩,⟨rfl,rfl⟩,st',fun b hb=>(hf b hb).1⟩⟩;rw[Int.mul_one]
 done:=by
  intro X hP hw hK hc i pins s σ H E I hf st hg;subst hP hw hK;obtain⟨f0,f1,f2,f3,f4,f5⟩:=hf it (by simp);exact wpAny_pyNext_range_end (I.ok.hd hc) st (by have:n<=i:=hg;lia) fun h' eb=>⟨rfl,I.turned (t':=s.toks) (fun b o hb e=>eb b o hb e) f0 f1 f3 f4 f5⟩
 self:=fun _ _ _ _ _ st h=>wpAny_pyIter_rangeiter st h
end L2
namespace L2
open PySem PySem.Spec PyProof.Rows
section
variable {X:Cx}{tg:Expr}
def GU (K:PySem.W.Frag)(tl:TE):TI:=fun σ H R=>tl σ H fun x H1=>∃a,x= .ref a/\(∃xs,SqL K H1 a xs)/\R (Itl K a) H1
theorem bW {l:Expr}{tl:TE} (hl:PE X l tl):PI X tg l (GU X.K tl):=by
 intro pins s σ H R I h;refine thn (hl pins s σ H _ I h) fun v s1 ⟨x,H1,I1,r1,q1⟩=> ?_;obtain⟨a,e,⟨xs,hq⟩,q⟩:=q1;subst e;cases r1;obtain⟨its,rv,p,hz⟩:=I1.list hq;refine wpAny_pyIter_list p.isList ?_;refine⟨s1.heap.objs.size,[s1.heap.objs.size],_,_,H1,rfl,I1.kept (t':=s1.toks) fun b o e=>Heap.get?_push_of_some _ e,BR a _,⟨_,Heap.get?_push_size _ rfl,rfl,rfl⟩,fun b hb=> ?_,q⟩;have e:b=s1.heap.objs.size:=by simpa using hb
 subst e;exact I1.fpOk (Nat.le_refl _) (I1.hok.fresh (Nat.le_refl _))
theorem FB {pins:List (Addr×Obj)}{σ:St}{H:Hp}{s:Shared}{R:It->Hp->Prop}{E:Value->Shared->Prop}{lo hi:Int}{t u v:Tok}{tk:Nat} (I:Inv X pins σ H s) (h1: -(2^62)<=lo) (h2:lo<2^62) (h3: -(2^62)<=hi) (h4:hi<2^62)
  (q:R (Itr lo (hi - lo).toNat) H):wpAny (model X.prog X.w) X.A (pyIter (.ref s.heap.objs.size)) (PIE X pins σ tg R) E { s with heap:=s.heap.push { cls:= .type "range",data:= .fields #[.int lo t,.int hi u,.int 1 v] },toks:=tk }:=by
 refine wpAny_pyIter_range (IsRange.new ..) (small_one h1 h2 h3 h4) ?_;have I1:Inv X pins σ H { s with heap:=s.heap.push { cls:= .type "range",data:= .fields #[.int lo t,.int hi u,.int 1 v] },toks:=tk }:=I.kept fun b o e=>Heap.get?_push_of_some _ e;refine⟨(s.heap.push { cls:= .type "range",data:= .fields #[.int lo t,.int hi u,.int 1 v] }).objs.size,[(s.heap.push { cls:= .type "range",data:= .fields #[.int lo t,.int hi u,.int 1 v] }).objs.size],_,_,H,rfl,
  I1.kept (t':=tk) fun b o e=>Heap.get?_push_of_some _ e,zJ _ lo (hi - lo).toNat,?_,fun b hb=> ?_,q⟩
 ·have e1:lo+((0:Nat):Int) * 1=lo:=by simp
  have e2:(((hi - lo).toNat:Nat):Int) - ((0:Nat):Int)=Builtin.Range.rangeSize lo hi 1:=by rw[rangeSize_one];split<;>lia
  show IsRangeIter _ _ (lo+((0:Nat):Int) * 1) ((((hi - lo).toNat:Nat):Int) - ((0:Nat):Int)) 1;rw[e1,e2];exact Heap.get?_push_size _ rfl
 ·have e:b=(s.heap.push { cls:= .type "range",data:= .fields #[.int lo t,.int hi u,.int 1 v] }).objs.size:=by simpa using hb
  subst e;exact I1.fpOk (Nat.le_refl _) (I1.hok.fresh (Nat.le_refl _))
def GV (ta:TA):TI:=fun σ H R=>ta σ H fun vs H1=>∃j:Int,vs=[.int j]/\ -(2^62)<=j/\j<2^62/\R (Itr 0 j.toNat) H1
theorem iP {a:Expr}{ta:TA}{p pos:Pos} (hg:Gl X "range") (hm:X.mg "range" =none) (ha:PA X [a] ta) (hs:starEach [a] X.env=[(false,eval a X.env)]:=by rfl):PI X tg (.Call (.Name "range" p) [a] [] pos) (GV ta):=by
 intro pins s σ H R I h;refine Call_ (mL I hg hm boot_range (PyProof.Rows.callWith_type1 (thn (ha pos pins s σ H _ I h) fun us s1 ⟨vs,H1,I1,r1,q1⟩=> ?_) hs rfl));obtain⟨j,e,q1,q2,q⟩:=q1;subst e;cases r1 with
 | cons r rr =>
  cases rr;obtain⟨t,rfl⟩:=r;exact call_range_1 (FB I1 (by lia) (by lia) q1 q2 (by simpa using q))
def NH (wi:TI)(g:TG)(tb:TS):TS:=fun D σ H=>wi σ H fun J H1=>∃W:Nat->Nat->St->Hp->Prop,(∃m,W 0 m σ H1)/\∀i m σ H,W i m σ H →
 (J.stop i H/\D.nx σ H)∨(J.go i H/\∃N:St->Hp->Prop,(∀σ' H',N σ' H'->∃m',m'<m/\W (i+1) m' σ' H')/\∀x H',J.yld i H x H'->g x σ H' fun σ2 H2=>tb { D with nx:=N,ct:=N,bk:=D.nx } σ2 H2)
def iN (fp:List Addr)(h:Heap):List (Addr×Obj):=fp.filterMap fun b=>(h.get? b).map fun o=>(b,o)
theorem gO {fp:List Addr}{h:Heap}{b:Addr}{o:Obj} (hb:b∈fp) (e:h.get? b=some o):(b,o)∈iN fp h:=List.mem_filterMap.mpr ⟨b,hb,by rw[e];rfl⟩
theorem tI {fp:List Addr}{h:Heap}{p:Addr×Obj} (hp:p∈iN fp h):p.1∈fp/\h.get? p.1=some p.2:=by
 obtain⟨b,hb,e⟩:=List.mem_filterMap.mp hp;cases q:h.get? b with
 | none=>rw[q]at e;cases e
 | some o =>
  rw[q]at e;have e':(b,o)=p:=Option.some.inj e;subst e';exact⟨hb,q⟩
theorem Inv.pinned {pins:List (Addr×Obj)}{σ:St}{H:Hp}{s:Shared}{fp:List Addr} (I:Inv X pins σ H s) (hf:∀b∈fp,h9 X pins H b) (ho:∀b∈fp,∃o,s.heap.get? b=some o/\∀v,o.data≠ .cell v):Inv X (pins++iN fp s.heap) σ H s :=
 I.pins_of fun p hp=>(List.mem_append.mp hp).elim (fun z=>I.pin p (List.mem_append_right _ z)) fun z=>by
  obtain⟨hb,e⟩:=tI z;obtain⟨f0,f1,f2,_⟩:=hf p.1 hb;obtain⟨o,e',d⟩:=ho p.1 hb;rw[e]at e';cases e';exact⟨e,f0,f1,f2,d⟩
theorem Inv.unpinned {pins pl:List (Addr×Obj)}{σ:St}{H:Hp}{s:Shared} (I:Inv X (pins++pl) σ H s):Inv X pins σ H s:=I.pins_of fun p hp=>I.pin p (List.mem_append_right _ (List.mem_append_left _ hp))
theorem dX {iter:Expr}{body:List Stmt}{wi:TI}{g:TG}{tb:TS}{pos:Pos} (hp:PassesOwn (model X.prog X.w) X.A X.env X.xe) (hc:X.calm=true) (hi:PI X tg iter wi) (hg:PG X tg g) (hb:PSs X body tb)
  (hs:∀x,foldedSetIterable iter X.env x=pure x:=by intro _;rfl):PS X (.For tg iter body [] pos) (NH wi g tb):=by
 intro pins s σ H D I h;refine wpAny_For (thn (hi pins s σ H _ I h) fun v s1 h1=>thn h1 fun itv s2 h2=> ?_) hs;obtain⟨it,fp,tn,J,H2,e,I2,T,st2,f2,W,⟨m0,w0⟩,turn⟩:=h2;subst e;have stat:∀{H':Hp},(∀b∈fp,H' b=none)->∀b∈fp,h9 X pins H' b:=fun hn b hb=>⟨hn b hb,(f2 b hb).2⟩
 refine codeAny_forLoop_any (fun n s'=>∃i σ' H',Inv X pins σ' H' s'/\tn i s'.heap/\(∀b∈fp,H' b=none)/\W i n σ' H') ?_ m0 ⟨0,σ,H2,I2,st2,fun b hb=>(f2 b hb).1,w0⟩;rintro n s3 ⟨i,σ3,H3,I3,st3,fr3,w3⟩;rcases turn i n σ3 H3 w3 with⟨stop,qn⟩|⟨go,N,hN,step⟩
 ·refine wpAny_passesOwn hp (thn (T.done X rfl rfl rfl hc i pins s3 σ3 H3 X.xe I3 (stat fr3) st3 stop) fun r s4 ⟨hr,I4⟩=> ?_);subst hr;exact wpAny_execs_nil ⟨σ3,H3,I4,qn⟩
 ·refine wpAny_passesOwn hp (thn (T.item X rfl rfl rfl hc i pins s3 σ3 H3 X.xe I3 (stat fr3) st3 go) fun r s4 ⟨u,hr,h4⟩=> ?_);subst hr;refine wpAny_passesOwn hp (thn h4 fun _ s5 ⟨x,H5,I5,r5,y5,st5,fr5⟩=> ?_);have I5':=I5.pinned (stat fr5) (T.obj _ _ st5);refine wpAny_passesOwn hp (thn (hg _ s5 σ3 H5 x u _ I5' r5 (step x H5 y5)) fun _ s6 ⟨σ6,H6,I6,q6⟩=> ?_);refine wpAny_passesOwn hp (thn (hb _ s6 σ6 H6 _ I6 q6) fun f s7 q7=> ?_);have again:∀{σ7:St}{H7:Hp},Inv X (pins++iN fp s5.heap) σ7 H7 s7->N σ7 H7->∃m,m<n/\∃i σ' H',Inv X pins σ' H' s7/\tn i s7.heap/\(∀b∈fp,H' b=none)/\W i m σ' H':=fun {σ7 H7} I7 n7=>by
   obtain⟨m',hm,w7⟩:=hN σ7 H7 n7;refine⟨m',hm,i+1,σ7,H7,I7.unpinned,T.keep _ _ _ st5 fun b hb o e=>(I7.pin (b,o) (List.mem_append_right _ (List.mem_append_right _ (gO hb e)))).1,fun b hb=> ?_,w7⟩;obtain⟨o,e,d⟩:=T.obj _ _ st5 b hb;exact(I7.pin (b,o) (List.mem_append_right _ (List.mem_append_right _ (gO hb e)))).2.1
  cases f with
  | next=>obtain⟨σ7,H7,I7,n7⟩:=q7;exact again I7 n7
  | cont=>obtain⟨σ7,H7,I7,n7⟩:=q7;exact again I7 n7
  | brk=>obtain⟨σ7,H7,I7,q7⟩:=q7;exact⟨σ7,H7,I7.unpinned,q7⟩
  | ret v=>obtain⟨x7,σ7,H7,I7,r7,q7⟩:=q7;exact⟨x7,σ7,H7,I7.unpinned,r7,q7⟩
end
theorem FT {K:PySem.W.Frag}{a:Addr}{xs:List V}{g:TG}{tb:TS}{D:j8}{σ:St}{H:Hp} (Pv:Nat->St->Hp->Prop) (h0:Pv 0 σ H) (hl:∀i σ H,i<=xs.length->Pv i σ H->SqL K H a xs)
  (hs:∀i x σ H,xs[i]? =some x->Pv i σ H->g x σ H fun σ2 H2=>tb { D with nx:=Pv (i+1),ct:=Pv (i+1),bk:=D.nx } σ2 H2)(hd:∀σ H,Pv xs.length σ H->D.nx σ H) :
  ∃W:Nat->Nat->St->Hp->Prop,(∃m,W 0 m σ H)/\∀i m σ H,W i m σ H →
   ((Itl K a).stop i H/\D.nx σ H)∨((Itl K a).go i H/\∃N:St->Hp->Prop,(∀σ' H',N σ' H'->∃m',m'<m/\W (i+1) m' σ' H')/\∀x H',(Itl K a).yld i H x H'->g x σ H' fun σ2 H2=>tb { D with nx:=N,ct:=N,bk:=D.nx } σ2 H2):=by
 refine⟨fun i m σ H=>m=xs.length - i/\i<=xs.length/\Pv i σ H,⟨xs.length,by simp,Nat.zero_le _,h0⟩,?_⟩;rintro i m σ H ⟨rfl,hi,p⟩;have q:=hl i σ H hi p
 by_cases hlt:i<xs.length
 ·refine .inr ⟨⟨xs,xs[i],q,by simp[hlt]⟩,Pv (i+1),fun σ' H' p'=>⟨xs.length - (i+1),by lia,rfl,hlt,p'⟩,fun x H' y=> ?_⟩;obtain⟨e,y⟩:=y;subst e;exact hs i x σ _ (y xs q) p
 ·have e:i=xs.length:=by lia
  subst e;exact .inl ⟨⟨xs,q,Nat.le_refl _⟩,hd σ H p⟩
theorem CJ {lo:Int}{n:Nat}{g:TG}{tb:TS}{D:j8}{σ:St}{H:Hp} (Pv:Nat->St->Hp->Prop) (h0:Pv 0 σ H)
  (hs:∀i σ H,i<n->Pv i σ H->g (.int (lo+i)) σ H fun σ2 H2=>tb { D with nx:=Pv (i+1),ct:=Pv (i+1),bk:=D.nx } σ2 H2)(hd:∀σ H,Pv n σ H->D.nx σ H) :
  ∃W:Nat->Nat->St->Hp->Prop,(∃m,W 0 m σ H)/\∀i m σ H,W i m σ H →
   ((Itr lo n).stop i H/\D.nx σ H)∨((Itr lo n).go i H/\∃N:St->Hp->Prop,(∀σ' H',N σ' H'->∃m',m'<m/\W (i+1) m' σ' H')/\∀x H',(Itr lo n).yld i H x H'->g x σ H' fun σ2 H2=>tb { D with nx:=N,ct:=N,bk:=D.nx } σ2 H2):=by
 refine⟨fun i m σ H=>m=n - i/\i<=n/\Pv i σ H,⟨n,by simp,Nat.zero_le _,h0⟩,?_⟩;rintro i m σ H ⟨rfl,hi,p⟩
 by_cases hlt:i<n
 ·refine .inr ⟨hlt,Pv (i+1),fun σ' H' p'=>⟨n - (i+1),by lia,rfl,hlt,p'⟩,fun x H' y=> ?_⟩;obtain⟨e,y⟩:=y;subst e y;exact hs i σ _ hlt p
 ·have e:i=n:=by lia
  subst e;exact .inl ⟨Nat.le_refl _,hd σ H p⟩
end L2
namespace L2
open PySem PySem.Spec PyProof.Rows
abbrev R2:=V->V->Hp->VK->Prop
def OpR (X:Cx)(f:Value->Value->Sem Value)(r:R2):Prop :=
 ∀(pins:List (Addr×Obj)) (s:Shared) (σ:St) (H:Hp) (x y:V) (v u:Value) (Q:VK),Inv X pins σ H s->RelV x v->RelV y u->r x y H Q →
  wpAny (model X.prog X.w) X.A (f v u) (EP X pins σ Q) X.xe s
def UnR (X:Cx)(f:Value->Sem Value)(r:V->Hp->VK->Prop):Prop :=
 ∀(pins:List (Addr×Obj)) (s:Shared) (σ:St) (H:Hp) (x:V) (v:Value) (Q:VK),Inv X pins σ H s->RelV x v->r x H Q →
  wpAny (model X.prog X.w) X.A (f v) (EP X pins σ Q) X.xe s
def d9 (X:Cx)(f:Value)(r:List V->Hp->VK->Prop):Prop :=
 ∀(pins:List (Addr×Obj)) (s:Shared) (σ:St) (H:Hp) (xs:List V) (us:List Value) (Q:VK),Inv X pins σ H s->Vals xs us->r xs H Q →
  wpAny (model X.prog X.w) X.A (call f us) (EP X pins σ Q) X.xe s
def tOp (r:R2)(ta tb:TE):TE:=fun σ H Q=>ta σ H fun x H1=>tb σ H1 fun y H2=>r x y H2 Q
def tUn (r:V->Hp->VK->Prop)(ta:TE):TE:=fun σ H Q=>ta σ H fun x H1=>r x H1 Q
def rI (C:Int->Int->Prop)(g:Int->Int->V):R2:=fun x y H Q=>∃i j,x= .int i/\y= .int j/\C i j/\Q (g i j) H
def rI0 (g:Int->Int->V):R2:=fun x y H Q=>∃i j,x= .int i/\y= .int j/\Q (g i j) H
def rU (g:Int->V):V->Hp->VK->Prop:=fun x H Q=>∃i,x= .int i/\Q (g i) H
section
variable {X:Cx}{a b c:Expr}{ta tb tc:TE}{pos:Pos}
theorem EG (ha:PE X a ta)(hb:PE X b tb){pins:List (Addr×Obj)}{s:Shared}{σ:St}{H:Hp}{R:V->V->Hp->Prop} (I:Inv X pins σ H s)
  (h:ta σ H fun x H1=>tb σ H1 fun y H2=>R x y H2){Q:Value->Shared->Prop}{f:Value->Value->Sem Value}
  (hf:∀v u s2 x y H2,Inv X pins σ H2 s2->RelV x v->RelV y u->R x y H2->wpAny (model X.prog X.w) X.A (f v u) Q X.xe s2) :
  wpAny (model X.prog X.w) X.A (eval a X.env) (fun v s₁=>wpAny (model X.prog X.w) X.A (eval b X.env) (fun u s₂=>wpAny (model X.prog X.w) X.A (f v u) Q X.xe s₂) X.xe s₁) X.xe s:=by
 refine thn (ha pins s σ H _ I h) fun v s1 ⟨x,H1,I1,r1,q1⟩=> ?_;refine thn (hb pins s1 σ H1 _ I1 q1) fun u s2 ⟨y,H2,I2,r2,q2⟩=> ?_;exact hf v u s2 x y H2 I2 r1 r2 q2
theorem aN {op:Operator}{r:R2} (ho:OpR X (binaryOp op) r) (ha:PE X a ta) (hb:PE X b tb):PE X (.BinOp a op b pos) (tOp r ta tb):=by
 intro pins s σ H Q I h;exact wpAny_BinOp (EG ha hb I h fun v u s2 x y H2 I2 rx ry q=>ho pins s2 σ H2 x y v u Q I2 rx ry q)
theorem OU {op:UnaryOp}{r:V->Hp->VK->Prop} (ho:UnR X (unaryOp op) r) (ha:PE X a ta):PE X (.UnaryOp op a pos) (tUn r ta):=by
 intro pins s σ H Q I h;exact UnaryOp_ (thn (ha pins s σ H _ I h) fun v s1 ⟨x,H1,I1,r1,q1⟩=>ho pins s1 σ H1 x v Q I1 r1 q1)
theorem opI {f:Value->Value->Sem Value}{C:Int->Int->Prop}{g:Int->Int->Int}
  (rule:∀(i j:Int) (t u:Tok) (s:Shared) (Q:Value->Shared->Prop) (E:Value->Shared->Prop),C i j->Q (.int (g i j) s.toks) { s with toks:=s.toks+1 }->wpAny (model X.prog X.w) X.A (f (.int i t) (.int j u)) Q E s) :
  OpR X f (rI C fun i j=> .int (g i j)):=by
 intro pins s σ H x y v u Q I rx ry h;obtain⟨i,j,rfl,rfl,hc,q⟩:=h;obtain⟨t,rfl⟩:=rx;obtain⟨t',rfl⟩:=ry;exact rule i j t t' s _ _ hc ⟨.int (g i j),H,I.tok _,⟨_,rfl⟩,q⟩
theorem QH {f:Value->Value->Sem Value}{g:Int->Int->Int}
  (rule:∀(i j:Int) (t u:Tok) (s:Shared) (Q:Value->Shared->Prop) (E:Value->Shared->Prop),Q (.int (g i j) s.toks) { s with toks:=s.toks+1 }->wpAny (model X.prog X.w) X.A (f (.int i t) (.int j u)) Q E s) :
  OpR X f (rI0 fun i j=> .int (g i j)):=by
 intro pins s σ H x y v u Q I rx ry h;obtain⟨i,j,rfl,rfl,q⟩:=h;obtain⟨t,rfl⟩:=rx;obtain⟨t',rfl⟩:=ry;exact rule i j t t' s _ _ ⟨.int (g i j),H,I.tok _,⟨_,rfl⟩,q⟩
theorem F2 {f:Value->Value->Sem Value}{g:Int->Int->Bool}
  (rule:∀(i j:Int) (t u:Tok) (s:Shared) (Q:Value->Shared->Prop) (E:Value->Shared->Prop),Q (.bool (g i j)) s->wpAny (model X.prog X.w) X.A (f (.int i t) (.int j u)) Q E s) :
  OpR X f (rI0 fun i j=> .bl (g i j)):=by
 intro pins s σ H x y v u Q I rx ry h;obtain⟨i,j,rfl,rfl,q⟩:=h;obtain⟨t,rfl⟩:=rx;obtain⟨t',rfl⟩:=ry;exact rule i j t t' s _ _ ⟨.bl (g i j),H,I,rfl,q⟩
def M9 (i j:Int):Prop:=0<j/\j<1073741824
def MG (i j:Int):Prop:=0<=j/\j<=1000000/\i.natAbs<2^64
def CMul (i j:Int):Prop:=(-(2^64)<i/\i<2^64)∨(-(2^64)<j/\j<2^64)
theorem CMul.ok {i j:Int}(h:CMul i j):IntMulOk i j:=by
 rcases h with⟨h1,h2⟩|⟨h1,h2⟩
 ·exact .of_left (intBits_le_64 h1 h2)
 ·exact .of_right (intBits_le_64 h1 h2)
theorem bT:OpR X (binaryOp .Add) (rI0 fun i j=> .int (i+j)):=QH fun _ _ _ _ _ _ _ q=>add_int q
theorem kH:OpR X (binaryOp .Mult) (rI CMul fun i j=> .int (i * j)):=opI fun _ _ _ _ _ _ _ hc q=>mul_int q hc.ok
theorem kK:OpR X (binaryOp .FloorDiv) (rI M9 fun i j=> .int (i/j)):=opI fun i j _ _ _ _ _ hc q=>by
 have h1:(0:Int)<j:=hc.1;have h2:j<1073741824:=hc.2;exact floordiv_int (by lia) (by rw[Int.fdiv_eq_ediv_of_nonneg i (by lia)];exact q) (.inl (PyProof.noPylong_small (by lia)))
theorem b8:OpR X (binaryOp .Mod) (rI (fun _ j=>0<j) fun i j=> .int (i%j)):=opI fun i j _ _ _ _ _ hc q=>by
 have h1:(0:Int)<j:=hc;exact mod_int' (by lia) (by rw[Int.fmod_eq_emod_of_nonneg i (by lia)];exact q)
theorem NV:OpR X (binaryOp .Pow) (rI MG fun i j=> .int (i^j.toNat)):=opI fun _ _ _ _ _ _ _ hc q=>pow_int_small hc.1 hc.2.1 hc.2.2 q
theorem unI {f:Value->Sem Value}{g:Int->Int}
  (rule:∀(i:Int) (t:Tok) (s:Shared) (Q:Value->Shared->Prop) (E:Value->Shared->Prop),Q (.int (g i) s.toks) { s with toks:=s.toks+1 }->wpAny (model X.prog X.w) X.A (f (.int i t)) Q E s) :
  UnR X f (rU fun i=> .int (g i)):=by
 intro pins s σ H x v Q I rx h;obtain⟨i,rfl,q⟩:=h;obtain⟨t,rfl⟩:=rx;exact rule i t s _ _ ⟨.int (g i),H,I.tok _,⟨_,rfl⟩,q⟩
theorem M5:UnR X (unaryOp .USub) (rU fun i=> .int (-i)):=unI fun _ _ _ _ _ q=>neg_int q
end
def QP:V->V->Bool
 | .non,.non=>true| .non,.int _=>true| .int _,.non=>true| .non,.bl _=>true| .bl _,.non=>true| .non,.str _=>true| .str _,.non=>true
 | .int _,.int _=>true| .bl _,.bl _=>true| .str _,.str _=>true| .byt _,.byt _=>true
 | .int _,.str _=>true| .str _,.int _=>true| .bl _,.str _=>true| .str _,.bl _=>true
 | _,_=>false
def rEq:R2:=fun x y H Q=>QP x y=true/\Q (.bl (decide (x=y))) H
theorem JG {i j:Int}:decide (V.int i=V.int j)=(i==j):=by
 rw[Bool.eq_iff_iff];simp
theorem LV {i j:Bool}:decide (V.bl i=V.bl j)=(i==j):=by
 rw[Bool.eq_iff_iff];simp
theorem JS {i j:Str}:decide (V.str i=V.str j)=(i==j):=by
 rw[Bool.eq_iff_iff];simp
theorem I0 {i j:Array UInt8}:decide (V.byt i=V.byt j)=(i.toList==j.toList):=by
 rw[Bool.eq_iff_iff];cases i;cases j;simp
section
variable {X:Cx}{a b c:Expr}{ta tb tc:TE}{pos:Pos}
theorem cW {pins:List (Addr×Obj)}{σ:St}{H:Hp}{s:Shared}{Q:VK}{k k':Bool} (I:Inv X pins σ H s) (q:Q (.bl k) H) (e:k=k'):EP X pins σ Q (.bool k') s:=by
 subst e;exact⟨.bl k,H,I,rfl,q⟩
theorem PH:OpR X (compareOp .Eq) rEq:=by
 intro pins s σ H x y v u Q I rx ry h;obtain⟨hs,q⟩:=h;cases x with
 | non =>
  cases rx;cases y with
  | non=>cases ry;exact PySem.EqNone.eq_none_none (cW I q (by simp))
  | bl j=>cases ry;exact PySem.EqNone.eq_none_bool (cW I q (by simp))
  | int j=>obtain⟨t',rfl⟩:=ry;exact PySem.EqNone.eq_none_int (cW I q (by simp))
  | str j=>obtain⟨t',rfl⟩:=ry;exact PySem.EqNone.eq_none_str (cW I q (by simp))
  | _=>exact absurd (show false=true from hs) Bool.false_ne_true
 | bl i =>
  cases rx;cases y with
  | non=>cases ry;exact PySem.EqNone.eq_bool_none (cW I q (by simp))
  | bl j=>cases ry;exact eq_bool (cW I q LV)
  | str j=>obtain⟨t',rfl⟩:=ry;exact PySem.EqMixed.eq_bool_str (cW I q (by simp))
  | _=>exact absurd (show false=true from hs) Bool.false_ne_true
 | int i =>
  obtain⟨t,rfl⟩:=rx;cases y with
  | non=>cases ry;exact PySem.EqNone.eq_int_none (cW I q (by simp))
  | int j=>obtain⟨t',rfl⟩:=ry;exact eq_int (cW I q JG)
  | str j=>obtain⟨t',rfl⟩:=ry;exact PySem.EqMixed.eq_int_str (cW I q (by simp))
  | _=>exact absurd (show false=true from hs) Bool.false_ne_true
 | str i =>
  obtain⟨t,rfl⟩:=rx;cases y with
  | non=>cases ry;exact PySem.EqNone.eq_str_none (cW I q (by simp))
  | bl j=>cases ry;exact PySem.EqMixed.eq_str_bool (cW I q (by simp))
  | int j=>obtain⟨t',rfl⟩:=ry;exact PySem.EqMixed.eq_str_int (cW I q (by simp))
  | str j=>obtain⟨t',rfl⟩:=ry;exact eq_str (cW I q JS)
  | _=>exact absurd (show false=true from hs) Bool.false_ne_true
 | byt i =>
  obtain⟨t,rfl⟩:=rx;cases y with
  | byt j=>obtain⟨t',rfl⟩:=ry;exact PySem.W.eq_bytes (cW I q I0)
  | _=>exact absurd (show false=true from hs) Bool.false_ne_true
 | _=>cases y<;>exact absurd (show false=true from hs) Bool.false_ne_true
theorem nO:OpR X (compareOp .Lt) (rI0 fun i j=> .bl (decide (i<j))):=F2 fun _ _ _ _ _ _ _ q=>lt_int q
theorem GT:OpR X (compareOp .LtE) (rI0 fun i j=> .bl (decide (i<=j))):=F2 fun _ _ _ _ _ _ _ q=>le_int q
theorem GR:OpR X (compareOp .Gt) (rI0 fun i j=> .bl (decide (j<i))):=F2 fun _ _ _ _ _ _ _ q=>gt_int q
theorem LG:OpR X (compareOp .Is) (fun x y H Q=>y= .non/\Q (.bl (decide (x= .non))) H):=by
 intro pins s σ H x y v u Q I rx ry h;obtain⟨rfl,q⟩:=h;cases ry;refine is_none_gen (cW I q ?_);cases x<;>first
  | (cases rx;rfl)
  | (obtain⟨t,rfl⟩:=rx;rfl)
theorem HP:OpR X (compareOp .IsNot) (fun x y H Q=>y= .non/\Q (.bl (!decide (x= .non))) H):=by
 intro pins s σ H x y v u Q I rx ry h;obtain⟨rfl,q⟩:=h;cases ry;refine isnot_none_gen (cW I q ?_);cases x<;>first
  | (cases rx;rfl)
  | (obtain⟨t,rfl⟩:=rx;rfl)
theorem cT (b:Expr){op:CmpOp}(h:op≠ .In:=by decide)(h2:op≠ .NotIn:=by decide):behindInMarks op b=false:=by
 have e1:(op==CmpOp.In)=false:=by cases op<;>first|rfl|exact absurd rfl h
 have e2:(op==CmpOp.NotIn)=false:=by cases op<;>first|rfl|exact absurd rfl h2
 cases b<;>simp[behindInMarks,e1,e2]
theorem nF {op:CmpOp}{r:R2} (ho:OpR X (compareOp op) r) (ha:PE X a ta) (hb:PE X b tb) (hm:behindInMarks op b=false):PE X (.Compare a [op] [b] pos) (tOp r ta tb):=by
 intro pins s σ H Q I h;exact wpAny_Compare1 (EG ha hb I h fun v u s2 x y H2 I2 rx ry q=>ho pins s2 σ H2 x y v u Q I2 rx ry q) hm
def G6 (t:TE):TT:=fun σ H Q=>t σ H fun x H'=>∃k,x= .bl k/\Q k H'
theorem c4 {op:CmpOp}{r:R2} (ho:OpR X (compareOp op) r) (ha:PE X a ta) (hb:PE X b tb) (hm:behindInMarks op b=false):PT X (.Compare a [op] [b] pos) (G6 (tOp r ta tb)):=by
 intro pins s σ H Q I h;refine wpAny_isTrue_Compare1 (thn (ha pins s σ H _ I h) fun v s1 ⟨x,H1,I1,r1,q1⟩=>thn (hb pins s1 σ H1 _ I1 q1) fun u s2 ⟨y,H2,I2,r2,q2⟩ =>
  thn (ho pins s2 σ H2 x y v u _ I2 r1 r2 q2) fun c s3 ⟨z,H3,I3,r3,k,e,q3⟩=> ?_) hm
 subst e;cases r3;exact wpAny_truthy_bool ⟨H3,I3,q3⟩
def LE (r r':R2)(ta tb tc:TE):TE:=fun σ H Q=>ta σ H fun x H1=>tb σ H1 fun y H2=>r x y H2 fun z H3=>∃k,z= .bl k ∧
 (if k=true then tc σ H3 fun w' H4=>r' y w' H4 Q else Q (.bl false) H3)
theorem uY {op op':CmpOp}{r r':R2} (ho:OpR X (compareOp op) r) (ho':OpR X (compareOp op') r') (ha:PE X a ta) (hb:PE X b tb) (hc:PE X c tc)
  (hm:lastMarks [op,op'] [b,c]=false:=by with_unfolding_all rfl):PE X (.Compare a [op,op'] [b,c] pos) (LE r r' ta tb tc):=by
 intro pins s σ H Q I h;refine Compare_chain (thn (ha pins s σ H _ I h) fun v s1 ⟨x,H1,I1,r1,q1⟩=>chain_link (thn (hb pins s1 σ H1 _ I1 q1) fun u s2 ⟨y,H2,I2,r2,q2⟩ =>
  thn (ho pins s2 σ H2 x y v u _ I2 r1 r2 q2) fun d s3 ⟨z,H3,I3,r3,k,e,q3⟩=> ?_)) hm
 subst e;cases r3;refine wpAny_truthy_bool ?_;cases k with
 | false=>exact ite_ff ⟨.bl false,H3,I3,rfl,q3⟩
 | true=>exact ite_tt (chain_last (thn (hc pins s3 σ H3 _ I3 q3) fun w' s4 ⟨z',H4,I4,r4,q4⟩=>ho' pins s4 σ H4 y z' u w' Q I4 r2 r4 q4))
theorem mI:(sizeLine:Nat)<2^63:=by rw[sizeLine_eq];decide
theorem zH:OpR X (binaryOp .Add) (fun x y H Q=>∃i j,x= .str i/\y= .str j/\i.length+j.length<=sizeLine/\Q (.str (i++j)) H):=by
 intro pins s σ H x y v u Q I rx ry h;obtain⟨i,j,rfl,rfl,hz,q⟩:=h;obtain⟨t,rfl⟩:=rx;obtain⟨t',rfl⟩:=ry;exact add_str (fun t' tk=>⟨.str (i++j),H,I.tok _,⟨_,rfl⟩,q⟩) hz
theorem j5 {x:V}{us:List Value} (r:Vals [x] us):∃u,us=[u]/\RelV x u:=by
 cases r with
 | cons r1 r2=>cases r2;exact⟨_,rfl,r1⟩
theorem OH {x y:V}{us:List Value} (r:Vals [x,y] us):∃u w',us=[u,w']/\RelV x u/\RelV y w':=by
 cases r with
 | cons r1 r2 =>
  cases r2 with
  | cons r3 r4=>cases r4;exact⟨_,_,rfl,r1,r3⟩
end
end L2
namespace L2
open PySem PySem.Spec PyProof.Rows
structure ObjM (h:Heap)(x dx C:Addr)(mA:Str->Option Value):Prop where
 obj:h.get? x=some (PySem.W.instObj C dx)
 ns:h.Ns1 dx mA
 ne:dx≠x
theorem CQ {h:Heap}{dx:Addr}{mA:Str->Option Value} (n:h.Ns1 dx mA):∃od,h.get? dx=some od/\∀name,PySem.W.lookIn name od=some (mA name):=by
 obtain⟨o,es,ep,ho,hd,hk,_,hm⟩:=n;refine⟨o,ho,fun name=> ?_⟩;have e:=hm name;unfold nsFind findBy at e;rw[←Array.find?_toList]at e;unfold PySem.W.lookIn;rw[hd]
 dsimp only
 split
 ·rename_i y q;rw[q]at e;exact congrArg some e
 ·rename_i q;rw[q]at e;have a:es.toList.any (·.refKey)=false:=by
   rw[List.any_eq_false];intro y hy;obtain⟨z,t,hkey⟩:=hk y (Array.mem_toList_iff.mp hy);simp[DictEntry.refKey,hkey]
  have a':¬es.toList.any (·.refKey)=true:=by rw[a];exact Bool.false_ne_true
  rw[if_neg a'];exact congrArg some e
theorem ObjM.look {h:Heap}{x dx C:Addr}{mA:Str->Option Value} (I:ObjM h x dx C mA):∃od,PySem.W.InstAt h x (PySem.W.instObj C dx) C (some od)/\∀name,PySem.W.lookIn name od=some (mA name) :=
 let ⟨od,ho,hl⟩:=CQ I.ns
 ⟨od,⟨I.obj,rfl,rfl,ho⟩,hl⟩
section
variable {prog:Program}{w:World}{A:Around}{E:Value->Shared->Prop}{s:Shared}{K:PySem.W.Frag}{x dx C f:Addr}{mA:Str->Option Value}{name:Str}{v:Value}
theorem IO {expr:Bool}{Q:Value->Shared->Prop} (X:K.In s.heap) (I:ObjM s.heap x dx C mA) (hg:PySem.W.plainGet K C name=true) (hh:PySem.W.hasDictIn K C=true)
  (ha:PySem.W.findIn K (.ref C) name=some none)(hv:mA name=some v)(hv':PySem.W.handedIn v=true)(h:Q v { s with toks:=s.toks+1 }) :
  wpAny (model prog w) A (getAttr (.ref x) name expr) Q E s:=by
 obtain⟨od,J,hl⟩:=I.look;exact PySem.W.get_value X J (PySem.W.plainGet_of hg).1 (PySem.W.findObj_own hh ha rfl (by rw[hl,hv])) hv' h
theorem FG {pl:Sem Bool}{Q:Value×List Value->Shared->Prop} (X:K.In s.heap) (I:ObjM s.heap x dx C mA) (hg:PySem.W.plainGet K C name=true)
  (hf:PySem.W.findIn K (.ref C) name=some (some (.ref f)))(ht:PySem.W.isFn K (.ref f)=true)(hv:mA name=none)(h:Q (.ref f,[.ref x]) s) :
  wpAny (model prog w) A (getMethod (.ref x) name pl) Q E s:=by
 obtain⟨od,J,hl⟩:=I.look;exact PySem.W.method_fn X J (PySem.W.plainGet_of hg).1 (PySem.W.plainGet_of hg).2 hf (beq_iff_eq.mp ht) (by show (PySem.W.lookIn name od).map (·.isSome)=some false;rw[hl,hv];rfl) h
theorem HU {ns:List Str}{Q:Unit->Shared->Prop} (X:K.In s.heap) (I:ObjM s.heap x dx C mA)
  (hs:PySem.W.findIn K (.ref C) "__setattr__" =some (some (.builtin "object.__setattr__")))(hp:PySem.W.plainOver K C=true)(ht:PySem.W.takerIn K C name=some none)(hh:PySem.W.hasDictIn K C=true)
  (hw:PySem.Within mA ns)(hsz:ns.length<=sizeLine)
  (h:∀h',ObjM h' x dx C (fun y=>if y=name then some v else mA y)->Heap.SameBut dx s.heap h'->Q () { s with heap:=h',toks:=s.toks+2 }) :
  wpAny (model prog w) A (setAttr (.ref x) name v) Q E s:=by
 obtain⟨od,J,hl⟩:=I.look;refine PySem.W.set_plain X J hs (PySem.W.osa_open (s:={ s with toks:=s.toks+1 }) (r:=none) X J hp ht fun b=> ?_);obtain⟨cd,hc,hd'⟩:=PySem.W.any_some hh;have hx:s.heap.get? x=some ⟨.ref C,some dx,.plain,#[]⟩:=I.obj;refine wpAny_bind (wpAny_pure (wpAny_bind (wpAny_bind (wpAny_loadPart hx (wpAny_bind (PySem.W.Looks.here (s:={ s with toks:=s.toks+1 }) (PySem.W.looks_clsIn X hc) ?_))))));rw[hd'];refine wpAny_pure (a:=some dx) (wpAny_bind (wpAny_pure (wpAny_bind ?_)));refine wpAny_nsSet1 (s:={ s with toks:=s.toks+1 }) I.ns fun h' hn2 hs2=> ?_;obtain⟨oD,esD,epD,hoD,hdD,hcD⟩:=hn2.count (PySem.Within.cons name v hw);refine wpAny_bind (wpAny_lookBehind hoD (by rw[hdD];exact pastItsLine_dict (Nat.le_trans hcD (by rw[List.length_cons];lia))) ?_);exact wpAny_pure (h _ ⟨(hs2.2 _ (Ne.symm I.ne)).trans I.obj,hn2,I.ne⟩ hs2)
theorem ES {R:Result->Shared->Prop}{vs:List Value}{kw:List (Str×Value)} (X:K.In s.heap) (hm:PySem.W.makesIn K C=true)
  (hi:PySem.W.findIn K (.ref C) "__init__" =some (some (.ref f)))(hf:PySem.W.typeIn K (.ref f)=some (.type "function"))
  (h:codeAny (model prog w) (A.under (.builtin "type.__call__" ⟨.ref C::vs,kw⟩)) (.call (.ref f) ⟨.ref (s.heap.objs.size+1)::vs,kw⟩) (PySem.W.InitBack (s.heap.objs.size+1) R)
   { s with heap:=(s.heap.push PySem.W.emptyDict).push (PySem.W.instObj C s.heap.objs.size) }) :
  codeAny (model prog w) A (.call (.ref C) ⟨vs,kw⟩) R s:=by
 obtain⟨hh,g,d,t,os⟩:=s;exact PySem.W.make_core (PySem.W.makes_of X hm) (PySem.W.looks_findIn X hi) (fun self=>PySem.W.bind_fn X self hf) (.inl rfl) h
end
def cB (f:Str)(v:V):List (Str×V)->List (Str×V)
 | []=>[(f,v)]
 | (g,x)::r=>if g=f then (g,v)::r else (g,x)::cB f v r
theorem iL (f g:Str)(v:V):∀fs:List (Str×V),(cB f v fs).lookup g=if g=f then some v else fs.lookup g
 | []=>by
  show List.lookup g [(f,v)]=_
  by_cases h:g=f
  ·have hb:(g==f)=true:=beq_iff_eq.mpr h;simp only[List.lookup,hb,if_pos h]
  ·have hb:(g==f)=false:=beq_eq_false_iff_ne.mpr h;simp only[List.lookup,hb,if_neg h]
 | (k,x)::r=>by
  have ih:=iL f g v r;rw[show cB f v ((k,x)::r)=(if k=f then (k,v)::r else (k,x)::cB f v r) from rfl]
  by_cases hk:k=f
  ·rw[if_pos hk]
   by_cases h:g=k
   ·have hb:(g==k)=true:=beq_iff_eq.mpr h;simp only[List.lookup,hb,if_pos (h.trans hk)]
   ·have hb:(g==k)=false:=beq_eq_false_iff_ne.mpr h;simp only[List.lookup,hb,if_neg (fun e:g=f=>h (e.trans hk.symm))]
  ·rw[if_neg hk]
   by_cases h:g=k
   ·have hb:(g==k)=true:=beq_iff_eq.mpr h;simp only[List.lookup,hb,if_neg (fun e:g=f=>hk (h.symm.trans e))]
   ·have hb:(g==k)=false:=beq_eq_false_iff_ne.mpr h;simp only[List.lookup,hb];exact ih
theorem mN (f:Str)(v:V):∀fs:List (Str×V),f∈(cB f v fs).map (·.1)/\∀g,g∈fs.map (·.1)->g∈(cB f v fs).map (·.1)
 | []=>⟨by simp[cB],fun g h=>by simp at h⟩
 | (k,x)::r=>by
  obtain⟨i1,i2⟩:=mN f v r;rw[show cB f v ((k,x)::r)=(if k=f then (k,v)::r else (k,x)::cB f v r) from rfl]
  by_cases hk:k=f
  ·rw[if_pos hk];subst hk;exact⟨by simp,fun g h=>by simpa using h⟩
  ·rw[if_neg hk];refine⟨?_,fun g h=> ?_⟩
   ·rw[List.map_cons];exact List.mem_cons_of_mem _ i1
   ·rw[List.map_cons]at h ⊢;rcases List.mem_cons.mp h with e|e
    ·exact List.mem_cons.mpr (.inl e)
    ·exact List.mem_cons_of_mem _ (i2 g e)
theorem oJ (f:Str)(v:V):∀fs:List (Str×V),(cB f v fs).length<=fs.length+1
 | []=>by simp[cB]
 | (k,x)::r=>by
  have ih:=oJ f v r;rw[show cB f v ((k,x)::r)=(if k=f then (k,v)::r else (k,x)::cB f v r) from rfl]
  by_cases hk:k=f
  ·rw[if_pos hk,List.length_cons,List.length_cons];lia
  ·rw[if_neg hk,List.length_cons,List.length_cons];lia
theorem RelO.some_of {v:V}{o:Option Value} (r:RelO (some v) o):∃u,o=some u/\RelV v u:=by
 cases o with
 | none=>exact(show False from r).elim
 | some u=>exact⟨u,rfl,r⟩
theorem RelO.none_of {o:Option Value}(r:RelO none o):o=none:=by
 cases o with
 | none=>rfl
 | some u=>exact(show False from r).elim
theorem BP {v:V}{u:Value} (r:RelV v u):PySem.W.handedIn u=true:=by
 cases v with
 | non=>cases (show u=Value.none from r);rfl
 | bl b=>cases (show u=Value.bool b from r);rfl
 | int i=>obtain⟨t,e⟩:=(show ∃t,u=Value.int i t from r);cases e;rfl
 | str x=>obtain⟨t,e⟩:=(show ∃t,u=Value.str x t from r);cases e;rfl
 | byt b=>obtain⟨t,e⟩:=(show ∃t,u=Value.bytes b t from r);cases e;rfl
 | flt b=>obtain⟨t,e⟩:=(show ∃t,u=Value.float b t from r);cases e;rfl
 | ref a=>cases (show u=Value.ref a from r);rfl
 | ty n=>cases (show u=Value.type n from r);rfl
section
variable {P:Program}{w:World}{H H':Hp}{h h':Heap}{a C dx:Addr}{fs fs':List (Str×V)}
theorem nU (hok:HOk P w H h)(e:H a=some (.ins C dx fs)):∃mA,ObjM h a dx C mA/\(∀f,RelO (fs.lookup f) (mA f))/\PySem.Within mA (fs.map (·.1))/\fs.length<=1000/\H dx=some (.own a):=by
 obtain⟨d,z,ne,ob,mA,n,r,q⟩:=(show ObjOk P w H h a (.ins C dx fs) from hok a _ e)
 exact⟨mA,⟨ob,n,ne⟩,r,q,z,d⟩
end
structure Cls (K:PySem.W.Frag)(C:Addr):Prop where
 pg:PySem.W.plainGet K C Str.empty=true
 hd:PySem.W.hasDictIn K C=true
 po:PySem.W.plainOver K C=true
 sa:PySem.W.findIn K (.ref C) "__setattr__" =some (some (.builtin "object.__setattr__"))
theorem Cls.get {K:PySem.W.Frag}{C:Addr} (c:Cls K C) (f:Str):PySem.W.plainGet K C f=true:=c.pg
def NoAttr (K:PySem.W.Frag)(C:Addr)(f:Str):Prop:=PySem.W.findIn K (.ref C) f=some none
theorem NoAttr.taker {K:PySem.W.Frag}{C:Addr}{f:Str} (n:NoAttr K C f):PySem.W.takerIn K C f=some none:=by
 unfold PySem.W.takerIn;rw[show PySem.W.findIn K (.ref C) f=some none from n];rfl
structure fR (K:PySem.W.Frag)(C:Addr)(m:Str)(f:Addr):Prop where
 at_:PySem.W.findIn K (.ref C) m=some (some (.ref f))
 fn:PySem.W.isFn K (.ref f)=true
 kp:PySem.W.keepIn K (.ref f)=true
section
variable {X:Cx}{pins:List (Addr×Obj)}{σ:St}{H:Hp}{s:Shared}{a C dx:Addr}{fs:List (Str×V)}{f:Str}{v:V}{A:Around}{E:Value->Shared->Prop}
theorem yI {b:Bool}{Q:Value->Shared->Prop} (I:Inv X pins σ H s) (e:H a=some (.ins C dx fs)) (c:Cls X.K C) (n:NoAttr X.K C f) (l:fs.lookup f=some v)
  (h:∀u s',Inv X pins σ H s'->RelV v u->Q u s'):wpAny (model X.prog X.w) A (getAttr (.ref a) f b) Q E s:=by
 obtain⟨mA,O,r,_,_,_⟩:=nU I.hok e;obtain⟨u,hu,ru⟩:=RelO.some_of (v:=v) (o:=mA f) (by rw[←l];exact r f);exact IO I.kIn O (c.get f) c.hd n hu (BP ru) (h u _ (I.tok _) ru)
theorem yO {m:Str}{g:Addr}{pl:Sem Bool}{Q:Value×List Value->Shared->Prop} (I:Inv X pins σ H s) (e:H a=some (.ins C dx fs)) (c:Cls X.K C) (k:fR X.K C m g) (l:fs.lookup m=none)
  (h:Q (.ref g,[.ref a]) s):wpAny (model X.prog X.w) A (getMethod (.ref a) m pl) Q E s:=by
 obtain⟨mA,O,r,_,_,_⟩:=nU I.hok e;have hn:mA m=none:=RelO.none_of (by rw[←l];exact r m);exact FG I.kIn O (c.get m) k.at_ k.fn hn h
theorem yF {y:V}{u:Value}{Q:Unit->Shared->Prop} (I:Inv X pins σ H s) (e:H a=some (.ins C dx fs)) (c:Cls X.K C) (n:NoAttr X.K C f) (hl:fs.length<1000) (ry:RelV y u)
  (h:∀s',Inv X pins σ (upd H a (.ins C dx (cB f y fs))) s'->Q () s'):wpAny (model X.prog X.w) A (setAttr (.ref a) f u) Q E s:=by
 obtain⟨mA,O,r,wi,_,ho⟩:=nU I.hok e;have hz:(fs.map (·.1)).length<=sizeLine:=by rw[List.length_map,sizeLine_eq];lia
 refine HU I.kIn O c.sa c.po n.taker c.hd wi hz fun h' O' sb=>h _ ?_;have hd:∃o,h'.get? dx=some o:=let ⟨o,_,_,e',_⟩:=O'.ns;⟨o,e'⟩;refine I.write (x:=a) (e:=dx) (by rw[e];exact True.intro) (.inr ho) (fun b q hb z=>(sb.2 b hb).trans z) hd ?_;refine⟨by rw[aI O.ne];exact ho,?_,O.ne,O'.obj,_,O'.ns,fun g=> ?_,fun g hg=> ?_⟩
 ·have:=oJ f y fs;lia
 ·show RelO ((cB f y fs).lookup g) (if g=f then some u else mA g);rw[iL]
  by_cases q:g=f
  ·rw[if_pos q,if_pos q];exact ry
  ·rw[if_neg q,if_neg q];exact r g
 ·by_cases q:g=f
  ·rw[q];exact(mN f y fs).1
  ·refine(mN f y fs).2 g (wi g fun z=>hg ?_);show (if g=f then some u else mA g)=none;rw[if_neg q];exact z
theorem Inv.made (I:Inv X pins σ H s):Inv X pins σ (upd (upd H s.heap.objs.size (.own (s.heap.objs.size+1))) (s.heap.objs.size+1) (.ins C s.heap.objs.size []))
  { s with heap:=(s.heap.push PySem.W.emptyDict).push (PySem.W.instObj C s.heap.objs.size) }:=by
 have e1:(s.heap.push PySem.W.emptyDict).get? s.heap.objs.size=some PySem.W.emptyDict:=Heap.get?_push_size s.heap rfl;have e2:((s.heap.push PySem.W.emptyDict).push (PySem.W.instObj C s.heap.objs.size)).get? (s.heap.objs.size+1)=some (PySem.W.instObj C s.heap.objs.size):=by
  have:=Heap.get?_push_size (s.heap.push PySem.W.emptyDict) (o:=PySem.W.instObj C s.heap.objs.size) rfl
  rwa [Heap.size_push]at this
 have e3:(s.heap.push PySem.W.emptyDict).Ns s.heap.objs.size (fun _=>none):=⟨PySem.W.emptyDict,#[],_,e1,rfl,(fun e he=>absurd he (by simp)),fun _=>rfl⟩
 have I1:=I.laid (a:=s.heap.objs.size) (o:= .own (s.heap.objs.size+1)) (h':=s.heap.push PySem.W.emptyDict) (t':=s.toks) (fun b u q=>Heap.get?_push_of_some _ q) (Nat.le_refl _) ⟨_,e1⟩;refine I1.laid (a:=s.heap.objs.size+1) (o:= .ins C s.heap.objs.size []) (t':=s.toks) (fun b u q=>Heap.get?_push_of_some _ q) (Nat.le_of_eq (Heap.size_push _ _)) ?_;have ne:s.heap.objs.size≠s.heap.objs.size+1:=Nat.ne_of_lt (Nat.lt_succ_self _);refine⟨by rw[aI ne,aW],Nat.zero_le _,ne,e2,fun _=>none,(Heap.Ns1.of_empty e3).at fun o q=>Heap.get?_push_of_some _ q,fun _=>True.intro,fun y hy=>absurd rfl hy⟩
theorem JT {prog:Program}{w:World}{env:Env}{e:Expr}{f:Str}{pos:Pos}{s:Shared}{Q:Value->Shared->Prop} (hb:attributeBase e f env (eval e env)=eval e env)
  (h:wpAny (model prog w) A (eval e env) (fun o s₁=>wpAny (model prog w) A (getAttr o f true) Q E s₁) E s):wpAny (model prog w) A (eval (.Attribute e f pos) env) Q E s :=
 Attribute_any_ h (by rw[arm_eval_Attribute,hb])
end
def D3 (K:PySem.W.Frag)(ta:TE)(f:Str):TE:=fun σ H Q=>ta σ H fun x H1=>∃a C dx fs v,x= .ref a/\H1 a=some (.ins C dx fs)/\Cls K C/\NoAttr K C f/\fs.lookup f=some v/\Q v H1
def L1 (K:PySem.W.Frag)(ta tv:TE)(f:Str):TS:=fun D σ H=>tv σ H fun y H1=>ta σ H1 fun x H2=>∃a C dx fs,x= .ref a/\H2 a=some (.ins C dx fs)/\Cls K C/\NoAttr K C f/\fs.length<1000 ∧
 D.nx σ (upd H2 a (.ins C dx (cB f y fs)))
section
variable {X:Cx}{o e value:Expr}{f:Str}{pos pos' tpos:Pos}{ta tv:TE}
theorem jG (he:PE X e ta)(hb:attributeBase e f X.env (eval e X.env)=eval e X.env):PE X (.Attribute e f pos) (D3 X.K ta f):=by
 intro pins s σ H Q I h;refine JT hb (thn (he pins s σ H _ I h) fun u s1 ⟨x,H1,I1,rx,a,C,dx,fs,v,ex,ea,c,n,l,q⟩=> ?_);subst ex;obtain rfl:u=Value.ref a:=rx;exact yI I1 ea c n l fun u' s2 I2 ru=>⟨v,H1,I2,ru,q⟩
theorem gL (ha:PE X o ta)(hv:PE X value tv)(hs:swapsWith value (some (.Attribute o f pos')) pos.line X.env=pure false):PS X (.Assign [.Attribute o f pos'] value pos) (L1 X.K ta tv f):=by
 intro pins s σ H D I h;refine plainObj_wpAny_Assign_Attribute (thn (hv pins s σ H _ I h) fun u s1 ⟨y,H1,I1,ry,q⟩=>thn (ha pins s1 σ H1 _ I1 q) fun ov s2 ⟨x,H2,I2,rx,a,C,dx,fs,ex,ea,c,n,l,q2⟩=> ?_) hs;subst ex;obtain rfl:ov=Value.ref a:=rx;exact yF I2 ea c n l ry fun s3 I3=>⟨σ,_,I3,q2⟩
end
section
variable {X:Cx}{pins:List (Addr×Obj)}{σ:St}{H:Hp}{s:Shared}{A:Around}{E:Value->Shared->Prop}{Q:Value->Shared->Prop}{c:Value}{b:Bool}
inductive gB (K:PySem.W.Frag)(H:Hp):V->Value->Prop where
 | non:gB K H .non (.type "NoneType")
 | bl (x:Bool):gB K H (.bl x) (.type "bool")
 | int (i:Int):gB K H (.int i) (.type "int")
 | str (x:Str):gB K H (.str x) (.type "str")
 | flt (x:UInt64):gB K H (.flt x) (.type "float")
 | lst {a:Addr}{xs:List V} (e:H a=some (.lst xs)):gB K H (.ref a) (.type "list")
 | frz {a:Addr}{o:Obj}{xs:List V} (e:H a=some (.frz o (.lst xs))):gB K H (.ref a) (.type "list")
 | tup {a:Addr}{xs:List V} (e:H a=some (.tup xs)):gB K H (.ref a) (.type "tuple")
 | dK {a:Addr}{kvs:List (Key×V)} (e:H a=some (.dK kvs)):gB K H (.ref a) (.type "dict")
 | dT {a:Addr}{kvs:List (List Key×V)} (e:H a=some (.dT kvs)):gB K H (.ref a) (.type "dict")
 | ins {a C dx:Addr}{fs:List (Str×V)} (e:H a=some (.ins C dx fs)) (cl:Cls K C) (ha:PySem.W.findIn K (.ref C) "__class__" =some (some (.builtin "object.__class__")))
   (hn:PySem.W.specialIn K (.builtin "object.__class__") "__get__" =some (some (.builtin "getset_descriptor.__get__")))(htk:PySem.W.takesIn K (.builtin "object.__class__")=some true)
   (hm:PySem.W.mroIn K C (.type "object")=some true):gB K H (.ref a) (.ref C)
theorem CO {x:V}{u t:Value} (I:Inv X pins σ H s) (rx:RelV x u) (ty:gB X.K H x t) (e:PySem.W.kitOne X.K t c=some b) (h:∀tk,Q (.bool b) { s with toks:=tk }) :
  wpAny (model X.prog X.w) A (call (.builtin "isinstance") [u,c]) Q E s:=by
 cases ty with
 | non=>cases (show u=Value.none from rx);exact PySem.W.kia_one PySem.W.kitx_none I.kIn True.intro e (fun z=>nomatch z) h
 | bl y=>cases (show u=Value.bool y from rx);exact PySem.W.kia_one PySem.W.kitx_bool I.kIn True.intro e (fun z=>nomatch z) h
 | int i=>obtain⟨t,q⟩:=(show ∃t,u=Value.int i t from rx);cases q;exact PySem.W.kia_one PySem.W.kitx_int I.kIn True.intro e (fun z=>nomatch z) h
 | str y=>obtain⟨t,q⟩:=(show ∃t,u=Value.str y t from rx);cases q;exact PySem.W.kia_one PySem.W.kitx_str I.kIn True.intro e (fun z=>nomatch z) h
 | flt y=>obtain⟨t,q⟩:=(show ∃t,u=Value.float y t from rx);cases q;exact PySem.W.kia_one PySem.W.kitx_float I.kIn True.intro e (fun z=>nomatch z) h
 | @lst a xs ea =>
  cases (show u=Value.ref a from rx);obtain⟨_,_,n,_,h1⟩:=(show ObjOk X.prog X.w H s.heap a (.lst xs) from I.hok a _ ea)
  exact PySem.W.kia_one PySem.W.kitx_list I.kIn ⟨_,h1,rfl⟩ e (fun z=>nomatch z) h
 | @frz a ob xs ea =>
  cases (show u=Value.ref a from rx);obtain⟨_,_,_,n,_,h1⟩:=(show ObjOk X.prog X.w H s.heap a (.frz ob (.lst xs)) from I.hok a _ ea)
  exact PySem.W.kia_one PySem.W.kitx_list I.kIn ⟨_,h1,rfl⟩ e (fun z=>nomatch z) h
 | @tup a xs ea =>
  cases (show u=Value.ref a from rx);obtain⟨_,_,_,p⟩:=(show ObjOk X.prog X.w H s.heap a (.tup xs) from I.hok a _ ea)
  obtain⟨o,h1,h2,_⟩:=p;exact PySem.W.kia_one PySem.W.kitx_tuple I.kIn ⟨o,h1,h2⟩ e (fun z=>nomatch z) h
 | @dK a kvs ea =>
  cases (show u=Value.ref a from rx);obtain⟨_,_,vs,_,p⟩:=(show ObjOk X.prog X.w H s.heap a (.dK kvs) from I.hok a _ ea)
  obtain⟨o,es,ep,h1,h2,_⟩:=p;exact PySem.W.kia_one PySem.W.kitx_dict I.kIn ⟨o,h1,h2.1⟩ e (fun z=>nomatch z) h
 | @dT a kvs ea =>
  cases (show u=Value.ref a from rx);obtain⟨_,_,xs,_,o,es,ep,h1,h2,_⟩:=(show ObjOk X.prog X.w H s.heap a (.dT kvs) from I.hok a _ ea)
  exact PySem.W.kia_one PySem.W.kitx_dict I.kIn ⟨o,h1,h2.1⟩ e (fun z=>nomatch z) h
 | @ins a C dx fs ea cl ha hn htk hm =>
  cases (show u=Value.ref a from rx);obtain⟨mA,O,_⟩:=nU I.hok ea;obtain⟨od,J,_⟩:=O.look;exact PySem.W.kia_one (PySem.W.kitx_own (cl.get _) cl.hd ha hn htk hm) I.kIn J e (fun z=>nomatch z) h
end
end L2
namespace L2
open PySem PySem.Spec PyProof.Rows
structure Room (k:Nat)(A:Around):Prop where
 hd:A.handled=none
 dp:A.depth+3 * k+5<recursionLimit
 un:A.units+16 * k+200<cLine
theorem Room.mono {j k:Nat}{A:Around} (r:Room k A) (h:j<=k):Room j A:=⟨r.hd,by have:=r.dp;lia,by have:=r.un;lia⟩
theorem Room.deeper {k:Nat}{A:Around} (r:Room (k+1) A) (env:Env):Room k (A.deeper env) :=
 ⟨r.hd,by have:=r.dp;show A.depth+1+3 * k+5<_;lia,by have:=r.un;show A.units+3+16 * k+200<_;lia⟩
theorem zV {A:Around}{C:Addr}{us:List Value}{kw:List (Str×Value)}:(A.under (.builtin "type.__call__" ⟨.ref C::us,kw⟩)).depth=A.depth+1:=by
 first|rfl|simp[Around.under,Code.weight,Code.isCreation,Code.isGuard,Code.isCaller,Code.frames,Code.isFrame,guardIds]
theorem yX {A:Around}{C:Addr}{us:List Value}{kw:List (Str×Value)}:(A.under (.builtin "type.__call__" ⟨.ref C::us,kw⟩)).units=A.units+1:=by
 first|rfl|simp[Around.under,Code.cUnits,Code.frames,Code.isFrame]
theorem Room.make {k:Nat}{A:Around} (r:Room (k+1) A) (C:Addr) (us:List Value) (kw:List (Str×Value)):Room k (A.under (.builtin "type.__call__" ⟨.ref C::us,kw⟩)) :=
 ⟨r.hd,by have:=r.dp;rw[zV];lia,by have:=r.un;rw[yX];lia⟩
theorem Room.depth {k:Nat}{A:Around} (r:Room k A):A.depth<recursionLimit:=by have:=r.dp;lia
theorem Room.units0 {k:Nat}{A:Around} (r:Room k A):A.units<cLine:=by have:=r.un;lia
def FK:TA:=fun _ H Q=>Q [] H
def GN (ta:TE)(tr:TA):TA:=fun σ H Q=>ta σ H fun x H1=>tr σ H1 fun xs H2=>Q (x::xs) H2
section
variable {X:Cx}{e:Expr}{es:List Expr}{te:TE}{t:TA}{pos:Pos}
theorem aC:PA X [] FK:=fun _ _ _ _ H Q I h=>Calls.spliced_nil ⟨[],H,I,.nil,h⟩
theorem aA (ha:PE X e te)(hr:PA X es t)(hs:starEach (e::es) X.env=(false,eval e X.env)::starEach es X.env:=by rfl):PA X (e::es) (GN te t):=by
 intro pos pins s σ H Q I h;rw[hs];show wpAny _ _ (spliced ((false,eval e X.env)::backTo pos (starEach es X.env))) _ _ s;refine Calls.spliced_cons (thn (ha pins s σ H _ I h) fun u s1 ⟨x,H1,I1,r1,q1⟩=> ?_);exact thn (hr pos pins s1 σ H1 _ I1 q1) fun us s2 ⟨xs,H2,I2,r2,q2⟩=>⟨x::xs,H2,I2,.cons r1 r2,q2⟩
def MN (t:TA):TE:=fun σ H Q=>t σ H fun xs H1=>xs.length<=sizeLine/\∀p,H1 p=none->Q (.ref p) (upd H1 p (.tup xs))
def L7 (t:TA):TE:=fun σ H Q=>t σ H fun xs H1=>xs.length<=sizeLine/\∀p,H1 p=none->Q (.ref p) (upd H1 p (.lst xs))
theorem eJ {x1}(h:PA X es t):PE X (.Tuple es x1 pos) (MN t):=by
 intro pins s σ H Q I hq;refine wpAny_Tuple_spliced (thn (h pos pins s σ H _ I hq) fun us s1 ⟨xs,H1,I1,r,z,q⟩=>⟨by rw[←r.length];exact z,?_⟩);have hf:H1 s1.heap.objs.size=none:=I1.hok.fresh (Nat.le_refl _);refine⟨.ref s1.heap.objs.size,upd H1 s1.heap.objs.size (.tup xs),I1.laid (t':=s1.toks) (fun b u e=>Heap.get?_push_of_some _ e) (Nat.le_refl _) ?_,rfl,q _ hf⟩;exact⟨z,us,r,⟨_,Heap.get?_push_size _ rfl,rfl,_,rfl⟩⟩
theorem iO (h:PA X es t):PE X (.List es pos) (L7 t):=by
 intro pins s σ H Q I hq;refine wpAny_List_spliced (thn (h pos pins s σ H _ I hq) fun us s1 ⟨xs,H1,I1,r,z,q⟩=>⟨by rw[←r.length];exact z,?_⟩);have hf:H1 s1.heap.objs.size=none:=I1.hok.fresh (Nat.le_refl _);refine⟨.ref s1.heap.objs.size,upd H1 s1.heap.objs.size (.lst xs),I1.laid (t':=s1.toks) (fun b u e=>Heap.get?_push_of_some _ e) (Nat.le_refl _) ?_,rfl,q _ hf⟩;exact⟨z,us,0,r,Heap.get?_push_size _ rfl⟩
end
abbrev Sp:=List V->Hp->VK->XK->Prop
abbrev CXT:=List Env->Hp->Shared->XK->Value->Shared->Prop
structure Env0 (P:Program)(w:World)(K:PySem.W.Frag)(mg:Str->Option Value)(base:Heap)(A:Around)(outer:List Env)(s:Shared)(H:Hp):Prop where
 frames:A.frames=some outer
 mod:Mod K mg base
 bs:∀b o,base.get? b=some o->s.heap.get? b=some o/\H b=none
 bsz:base.objs.size<=s.heap.objs.size
 funs:s.heap.FunFrames base outer
 frf:∀b∈frs outer,H b=none
 hok:HOk P w H s.heap
 bare:AllBare s.gens
def CE (outer:List Env)(P:Program)(w:World)(H:Hp)(s:Shared)(Q:VK)(u:Value)(s':Shared):Prop :=
 ∃v H',s'.os=s.os/\AllBare s'.gens/\Un (frs outer) [] H H' s.heap s'.heap/\HOk P w H' s'.heap/\RelV v u/\Q v H'
def CR (CX:CXT)(outer:List Env)(P:Program)(w:World)(H:Hp)(s:Shared)(Q:VK)(E:XK)(r:Result)(s':Shared):Prop :=
 match r with
 | .ok (.ret u)=>CE outer P w H s Q u s'
 | .ok _=>False
 | .error e=>CX outer H s E e s'
structure bK (P:Program)(w:World)(K:PySem.W.Frag)(mg:Str->Option Value)(base:Heap)(CX:CXT)(k:Nat)(f:Addr)(fd:FuncData)(ps:List Str)(sp:Sp):Prop where
 len:∀vs H Q E,sp vs H Q E->vs.length=ps.length
 run:∀(A:Around) (outer:List Env) (s:Shared) (H:Hp) (args:Args) (us:List Value) (vs:List V) (Q:VK) (E:XK),Room k A->Env0 P w K mg base A outer s H->BindsTo s fd args (ps.zip us)->Vals vs us->sp vs H Q E →
  codeAny (model P w) A (.call (.ref f) args) (CR CX outer P w H s Q E) s
theorem Env0.make {P:Program}{w:World}{K:PySem.W.Frag}{mg:Str->Option Value}{base:Heap}{A:Around}{outer:List Env}{s:Shared}{H:Hp} (e:Env0 P w K mg base A outer s H) (C:Addr) (us:List Value) (kw:List (Str×Value)) :
  Env0 P w K mg base (A.under (.builtin "type.__call__" ⟨.ref C::us,kw⟩)) outer s H:=⟨by first|exact e.frames|(simpa [Around.under,Code.envs,Code.isFrame,pushEnvs] using e.frames),e.mod,e.bs,e.bsz,e.funs,e.frf,e.hok,e.bare⟩
section
variable {X:Cx}{pins:List (Addr×Obj)}{σ:St}{H:Hp}{s s':Shared}
theorem Inv.env0 (I:Inv X pins σ H s):Env0 X.prog X.w X.K X.mg X.base X.A X.stack s H :=
 ⟨I.ok.frames,I.ok.mod,I.bs,Nat.le_trans I.ok.bsz I.sz,I.stack,I.stkFree,I.hok,I.bare⟩
theorem Inv.after {Q:VK}{u:Value} (I:Inv X pins σ H s) (h:CE X.stack X.prog X.w H s Q u s'):EP X pins σ Q u s':=by
 obtain⟨v,H',os,bare,un,hok,r,q⟩:=h;obtain⟨hh,g,d,t,os'⟩:=s';obtain rfl:os'=s.os:=os;exact⟨v,H',I.call (h':=hh) (g':=g) (d':=d) (t':=t) (ch:=[]) un hok bare (fun b z=>absurd z (by simp)),r,q⟩
end
def t0 (sp:Sp)(dvs:List V)(E:XK)(t:TA):TE:=fun σ H Q=>t σ H fun vs H1=>sp (vs++dvs) H1 Q E
def y3 (C:Addr)(sp:Sp)(dvs:List V)(E:XK)(t:TA):TE:=fun σ H Q=>t σ H fun vs H1=>∀x dx,H1 x=none->H1 dx=none->dx≠x →
 sp (.ref x::(vs++dvs)) (upd (upd H1 dx (.own x)) x (.ins C dx [])) (fun v H2=>v= .non/\Q (.ref x) H2) E
def Binds (K:PySem.W.Frag)(fd:FuncData)(ps:List Str)(ds:List Value):Prop :=
 ∀(s:Shared) (us:List Value),K.In s.heap->(us++ds).length=ps.length->BindsTo s fd ⟨us,[]⟩ (ps.zip (us++ds))
theorem Binds.all {K:PySem.W.Frag}{fd:FuncData}{ps:List Str} (h:∀us:List Value,us.length=ps.length->bindArgs fd ⟨us,[]⟩=pure (ps.zip us)):Binds K fd ps []:=fun s us _ hl=>by
 rw[List.append_nil]at hl ⊢;exact .of_eq (h us hl)
def mJ (CX:CXT)(X:Cx)(E:XK):Prop:=∀(pins:List (Addr×Obj)) (σ:St) (H:Hp) (s:Shared) (e:Value) (s':Shared),Inv X pins σ H s->CX X.stack H s E e s'->X.xe e s'
section
variable {X:Cx}{CX:CXT}{k:Nat}{f C:Addr}{fd:FuncData}{ps:List Str}{sp:Sp}{dvs:List V}{ds:List Value}{E:XK}{x m:Str}{p pos apos:Pos}{e o:Expr}{es:List Expr}{ta:TE}{t:TA}
theorem AT {pins:List (Addr×Obj)}{σ:St}{H:Hp}{s:Shared}{Q:VK}{us:List Value}{vs:List V} (F:bK X.prog X.w X.K X.mg X.base CX k f fd ps sp) (hr:Room k X.A) (hb:Binds X.K fd ps ds) (hd:Vals dvs ds) (hx:mJ CX X E)
  (I:Inv X pins σ H s)(r:Vals vs us)(h:sp (vs++dvs) H Q E):wpAny (model X.prog X.w) X.A (call (.ref f) us) (EP X pins σ Q) X.xe s:=by
 have r2:Vals (vs++dvs) (us++ds):=r.append hd;have hl:(us++ds).length=ps.length:=by rw[←r2.length];exact F.len _ _ _ _ h
 refine wpAny_call (codeAny_mono (F.run X.A X.stack s H ⟨us,[]⟩ (us++ds) (vs++dvs) Q E hr I.env0 (hb s us I.kIn hl) r2 h) fun r s' hq=> ?_);cases r with
 | error e=>exact hx pins σ H s e s' I hq
 | ok fl =>
  cases fl with
  | ret u=>exact I.after hq
  | next=>exact False.elim hq
  | brk=>exact False.elim hq
  | cont=>exact False.elim hq
theorem HV (F:bK X.prog X.w X.K X.mg X.base CX k f fd ps sp)(hr:Room k X.A)(hg:Gl X x)(hm:X.mg x=some (.ref f))(hk:PySem.W.keepIn X.K (.ref f)=true)(hb:Binds X.K fd ps ds)(hd:Vals dvs ds)(hx:mJ CX X E)
  (ha:PA X (e::es) t)(hdb:(x==("__debug__" :Str))=false:=by decide)(he:starEach (e::es) X.env=(false,eval e X.env)::starEach es X.env:=by rfl)(hpl:(backTo pos (starEach es X.env)).any (·.1)=false:=by rfl) :
  PE X (.Call (.Name x p) (e::es) [] pos) (t0 sp dvs E t):=by
 intro pins s σ H Q I h;refine wpAny_Call_Name_kw (qZ I hg hm ?_ hdb);refine PySem.W.callWith_K (h₀:=X.base) I.ok.mod.kin hk (thn (ha pos pins s σ H _ I h) fun us s1 ⟨vs,H1,I1,r,q⟩=>⟨I1.kIn,?_⟩) he hpl;exact AT F hr hb hd hx I1 r q
structure Mk (K:PySem.W.Frag)(C f:Addr):Prop where
 makes:PySem.W.makesIn K C=true
 init:PySem.W.findIn K (.ref C) "__init__" =some (some (.ref f))
 fn:PySem.W.isFn K (.ref f)=true
 kp:PySem.W.keepIn K (.ref C)=true
theorem DR {pins:List (Addr×Obj)}{σ:St}{H:Hp}{s:Shared}{Q:VK}{us:List Value}{vs:List V} (M:Mk X.K C f) (F:bK X.prog X.w X.K X.mg X.base CX k f fd ps sp) (hr:Room (k+1) X.A) (hb:Binds X.K fd ps ds) (hd:Vals dvs ds)
  (hx:mJ CX X E)(I:Inv X pins σ H s)(r:Vals vs us)
  (h:∀x dx,H x=none->H dx=none->dx≠x->sp (.ref x::(vs++dvs)) (upd (upd H dx (.own x)) x (.ins C dx [])) (fun v H2=>v= .non/\Q (.ref x) H2) E) :
  wpAny (model X.prog X.w) X.A (call (.ref C) us) (EP X pins σ Q) X.xe s:=by
 have hq:=h (s.heap.objs.size+1) s.heap.objs.size (I.hok.fresh (Nat.le_succ _)) (I.hok.fresh (Nat.le_refl _)) (Nat.ne_of_lt (Nat.lt_succ_self _));have I2:=Inv.made (C:=C) I;have r2:Vals (V.ref (s.heap.objs.size+1)::(vs++dvs)) (Value.ref (s.heap.objs.size+1)::(us++ds)):= .cons rfl (r.append hd);have hl:(Value.ref (s.heap.objs.size+1)::us++ds).length=ps.length:=by
  have e:=r2.length;rw[F.len _ _ _ _ hq]at e;exact e.symm
 refine wpAny_call (ES (f:=f) I.kIn M.makes M.init (beq_iff_eq.mp M.fn) (codeAny_mono (F.run _ X.stack _ _ ⟨Value.ref (s.heap.objs.size+1)::us,[]⟩ (Value.ref (s.heap.objs.size+1)::(us++ds)) _ _ E (hr.make C us [])
  (I2.env0.make C us []) (hb _ (Value.ref (s.heap.objs.size+1)::us) I2.kIn hl) r2 hq) fun r s' hq'=> ?_))
 cases r with
 | error e=>exact hx pins σ _ _ e s' I2 hq'
 | ok fl =>
  cases fl with
  | ret u =>
   obtain⟨v,H',I3,rv,ev,q3⟩:=I2.after hq';subst ev;exact⟨rv,⟨V.ref (s.heap.objs.size+1),H',I3,rfl,q3⟩⟩
  | next=>exact False.elim hq'
  | brk=>exact False.elim hq'
  | cont=>exact False.elim hq'
theorem J5 (M:Mk X.K C f)(F:bK X.prog X.w X.K X.mg X.base CX k f fd ps sp)(hr:Room (k+1) X.A)(hg:Gl X x)(hm:X.mg x=some (.ref C))(hb:Binds X.K fd ps ds)(hd:Vals dvs ds)(hx:mJ CX X E)
  (ha:PA X (e::es) t)(hdb:(x==("__debug__" :Str))=false:=by decide)(he:starEach (e::es) X.env=(false,eval e X.env)::starEach es X.env:=by rfl)(hpl:(backTo pos (starEach es X.env)).any (·.1)=false:=by rfl) :
  PE X (.Call (.Name x p) (e::es) [] pos) (y3 C sp dvs E t):=by
 intro pins s σ H Q I h;refine wpAny_Call_Name_kw (qZ I hg hm ?_ hdb);refine PySem.W.callWith_K (h₀:=X.base) I.ok.mod.kin M.kp (thn (ha pos pins s σ H _ I h) fun us s1 ⟨vs,H1,I1,r,q⟩=>⟨I1.kIn,?_⟩) he hpl;exact DR M F hr hb hd hx I1 r q
end
section
variable {X:Cx}{CX:CXT}{k:Nat}{f C:Addr}{fd:FuncData}{ps ks:List Str}{sp:Sp}{E:XK}{x m:Str}{p pos apos kpos:Pos}{e o:Expr}{es:List Expr}{kws:List Keyword}{te ta:TE}{t tk:TA}{nm:Option Str}
variable {g:List Value->List Value->List Value}{gV:List V->List V->List V}
end
structure bA (N P:List Str)(sc:Scope):Prop where
 kind:sc.kind= .function
 co:sc.isCoroutine=false
 gen:sc.isGenerator=false
 nd:N.Nodup
 pre:N.take P.length=P
 par:∀x∈P,sc.names.lookup x=some .local∨sc.names.lookup x=some .cell
 nofree:∀y∈sc.names,y.2≠ .free
theorem sL {kindOf:Str->Option NameKind}{x:Str}:∀{binds:List (Str×Value)}{m:Str->Option Value},(∀v,(x,v)∉binds)->bindL kindOf binds m x=m x
 | [],_,_=>rfl
 | (n,v)::r,m,h=>by
  unfold bindL;rw[sL fun w hw=>h w (List.mem_cons_of_mem _ hw)]
  split
  ·have:x≠n:=by rintro rfl;exact h v List.mem_cons_self
   simp[this]
  ·rfl
theorem sZ {kindOf:Str->Option NameKind}{x:Str}:∀{binds:List (Str×Value)}{m:Str->Option Value},(∀v,(x,v)∉binds)->bindC kindOf binds m x=m x
 | [],_,_=>rfl
 | (n,v)::r,m,h=>by
  unfold bindC;rw[sZ fun w hw=>h w (List.mem_cons_of_mem _ hw)]
  split
  ·rfl
  ·have:x≠n:=by rintro rfl;exact h v List.mem_cons_self
   simp[this]
theorem tF {kindOf:Str->Option NameKind}{x:Str}{v:Value}:∀{P:List Str}{vs:List Value}{i:Nat}{m:Str->Option Value},P.Nodup->P[i]? =some x->vs[i]? =some v->kindOf x=some .local →
  bindL kindOf (P.zip vs) m x=some v
 | [],_,_,_,_,h,_,_=>by simp at h
 | _::_,[],_,_,_,_,h,_=>by simp at h
 | p::P,w::vs,0,m,nd,h1,h2,hk=>by
  simp at h1 h2;subst h1;subst h2;show bindL kindOf ((p,w)::P.zip vs) m p=_;unfold bindL;rw[sL fun v hv=>(List.nodup_cons.mp nd).1 (List.of_mem_zip hv).1,if_pos hk];simp
 | p::P,w::vs,i+1,m,nd,h1,h2,hk=>by
  show bindL kindOf ((p,w)::P.zip vs) m x=_;unfold bindL;exact tF (i:=i) (List.nodup_cons.mp nd).2 (by simpa using h1) (by simpa using h2) hk
theorem sQ {kindOf:Str->Option NameKind}{x:Str}{v:Value}:∀{P:List Str}{vs:List Value}{i:Nat}{m:Str->Option Value},P.Nodup->P[i]? =some x->vs[i]? =some v->kindOf x≠some .local →
  bindC kindOf (P.zip vs) m x=some v
 | [],_,_,_,_,h,_,_=>by simp at h
 | _::_,[],_,_,_,_,h,_=>by simp at h
 | p::P,w::vs,0,m,nd,h1,h2,hk=>by
  simp at h1 h2;subst h1;subst h2;show bindC kindOf ((p,w)::P.zip vs) m p=_;unfold bindC;rw[sZ fun v hv=>(List.nodup_cons.mp nd).1 (List.of_mem_zip hv).1,if_neg hk];simp
 | p::P,w::vs,i+1,m,nd,h1,h2,hk=>by
  show bindC kindOf ((p,w)::P.zip vs) m x=_;unfold bindC;exact sQ (i:=i) (List.nodup_cons.mp nd).2 (by simpa using h1) (by simpa using h2) hk
def iK (N:List Str)(vs:List V):St:=vs.map some++List.replicate (N.length - vs.length) none
def rF (CX:CXT)(P:Program)(w:World)(K:PySem.W.Frag)(mg:Str->Option Value)(base:Heap)(N:List Str)(qual:Str)(scope:Scope)(f:Addr)(cd:Value)(A:Around)(outer:List Env)(s:Shared)(H:Hp)(E:XK):Cx where
 prog:=P
 w:=w
 K:=K
 mg:=mg
 base:=base
 A:=A.deeper (envOfC qual scope s.heap.objs.size f cd)
 N:=N
 s₀:=s
 H₀:=H
 env:=envOfC qual scope s.heap.objs.size f cd
 outer:=outer
 stack:=envOfC qual scope s.heap.objs.size f cd::outer
 ex:=[]
 calm:=true
 fn:=fun _=>true
 pn:=[]
 xe:=fun e s'=>wpAny (model P w) (A.deeper (envOfC qual scope s.heap.objs.size f cd)) (leaving (envOfC qual scope s.heap.objs.size f cd) e) (fun _ s''=>CX outer H s E e s'') (fun e' s''=>CX outer H s E e' s'') s'
theorem o7 {sc:Scope}{n:Nat}{x:Str} (h:sc.names.lookup x=some .cell):∃c,(cellsFrom n sc.names []).lookup x=some c:=by
 have q:=PySem.W.cellsFrom_some sc.names n [] (.inl h);exact Option.isSome_iff_exists.mp q
theorem AE {CX:CXT}{P:Program}{w:World}{K:PySem.W.Frag}{mg:Str->Option Value}{base:Heap}{N ps:List Str}{qual:Str}{scope:Scope}{f:Addr}{cd:Value}{A:Around}{outer:List Env}{s s1:Shared}{H:Hp}{E:XK}{us:List Value}{vs:List V}
  (S:bA N ps scope)(hd:A.handled=none)(e0:Env0 P w K mg base A outer s H)(hl:vs.length=ps.length)(r:Vals vs us)
  (x:InCallC s s.heap.objs.size (bindL (envOfC qual scope s.heap.objs.size f cd).kindOf (ps.zip us) fun _=>none) (cellsFrom (s.heap.objs.size+1) scope.names []) (bindC (envOfC qual scope s.heap.objs.size f cd).kindOf (ps.zip us) fun _=>none) s1) :
  Inv (rF CX P w K mg base N qual scope f cd A outer s H E) [] (iK N vs) H s1:=by
 have hpl:ps.length<=N.length:=by have:=congrArg List.length S.pre;rw[List.length_take]at this;lia
 obtain⟨h1,tk,rfl,hk⟩:=x.done;have noA:∀b:Addr,b∉(rF CX P w K mg base N qual scope f cd A outer s H E).ex:=fun b z=>absurd (show b∈([]:List Addr) from z) (by simp);refine⟨⟨e0.mod,S.kind,rfl,rfl,Nat.le_refl _,fun y z c h1 h2=> ?_,fun y hy=> ?_,fun y c _ h=> ?_,fun _=>hd,Around.frames_deeper e0.frames,.inr ⟨rfl,rfl⟩,fun b z=>absurd z (noA b),e0.bs,e0.bsz,fun b _ _=>noA b,fun b z=>absurd z (noA b),e0.funs,e0.frf⟩,
  rfl,e0.bare,Un.kept hk,⟨_,x.toInCall.ns,fun i y v h1 h2 h3=> ?_⟩,fun y c h=>⟨_,x.cell y c h⟩,e0.hok.fresh (Nat.le_refl _),fun y c h=> ?_,fun p hp=>absurd (show p∈([]:List (Addr×Obj)) from hp) (by simp),e0.hok.kept hk,?_⟩
 ·exact name_of_addr x.apart (PySem.mem_of_lookup h1) (PySem.mem_of_lookup h2)
 ·have hy:scope.names.lookup y=some .cell∨scope.names.lookup y=some .free:=hy;rcases hy with hy|hy
  ·exact o7 hy
  ·exact absurd rfl (S.nofree _ (PySem.mem_of_lookup hy))
 ·exact Nat.le_of_lt (x.above y c (PySem.mem_of_lookup h))
 ·have hi:i<vs.length:=by
   unfold iK at h2
   by_cases hi:i<vs.length
   ·exact hi
   ·rw[List.getElem?_append_right (by simpa using hi)]at h2;rw[List.getElem?_replicate]at h2
    split at h2<;>cases h2
  have ha:vs[i]? =some v:=by
   unfold iK at h2;rw[List.getElem?_append_left (by simpa using hi),List.getElem?_map]at h2;cases e:vs[i]? with
   | none=>rw[e]at h2;cases h2
   | some a=>rw[e]at h2;cases h2;rfl
  obtain⟨u,hu,rv⟩:=r.get ha;have hp:ps[i]? =some y:=by
   rw[←S.pre,List.getElem?_take_of_lt (by lia)];exact h1
  have ndP:ps.Nodup:=by rw[←S.pre];exact S.nd.sublist (List.take_sublist _ _)
  refine⟨u,rv,?_⟩;rcases S.par y (List.mem_of_getElem? hp) with k|k
  ·exact .inl ⟨k,tF ndP hp hu k⟩
  ·obtain⟨c,e⟩:=o7 (n:=s.heap.objs.size+1) k;refine .inr ⟨.inl k,c,e,?_⟩;have q:=x.cell y c e;rw[sQ ndP hp hu (by show scope.names.lookup y≠_;rw[k];decide)]at q;exact q
 ·exact e0.hok.fresh (Nat.le_of_lt (x.above y c (PySem.mem_of_lookup h)))
 ·unfold iK;show _=N.length;rw[List.length_append,List.length_map,List.length_replicate]
  lia
theorem OQ {CX:CXT}{P:Program}{w:World}{K:PySem.W.Frag}{mg:Str->Option Value}{base:Heap}{k:Nat}{f:Addr}{name qual:Str}{params:Arguments}{body:List Stmt}{scope:Scope}{dV kV doc pm cdv ct oc:Value}{an od:Option Addr}
  {osl:Array (Option Value)}{N ps:List Str}{sp:Sp} (lk:K.lookup f=some ⟨oc,od,.func (PySem.W.fnOf name qual params body scope dV kV doc pm an cdv ct),osl⟩) (hcd:PySem.W.codeIn K cdv qual=true) (S:bA N ps scope)
  (len:∀vs H Q E,sp vs H Q E->vs.length=ps.length)
  (hbody:∀(A:Around) (outer:List Env) (s:Shared) (H:Hp) (vs:List V) (Q:VK) (E:XK),Room k (A.deeper (envOfC qual scope s.heap.objs.size f cdv))->sp vs H Q E →
   ∃t,PSs (rF CX P w K mg base N qual scope f cdv A outer s H E) body t/\t { nx:=fun _ H'=>Q .non H',rt:=Q } (iK N vs) H) :
  bK P w K mg base CX (k+1) f (PySem.W.fnOf name qual params body scope dV kV doc pm an cdv ct) ps sp:=by
 refine⟨len,fun A outer s H args us vs Q E hr e0 hb r hsp=> ?_⟩;have hl:=len _ _ _ _ hsp;have KX:K.In s.heap:=e0.mod.kin.keeps fun b o e=>(e0.bs b o e).1;have lim:s.heap.NoLimit:=e0.mod.nolimit.keeps fun b o e=>(e0.bs b o e).1;have hkind:∀y∈ps.zip us,scope.names.lookup y.1=some .local∨(scope.names.lookup y.1=some .cell/\((cellsFrom (s.heap.objs.size+1) scope.names []).lookup y.1).isSome=true):=fun⟨n,v⟩ hy=>by
  rcases S.par n (List.of_mem_zip hy).1 with q|q
  ·exact .inl q
  ·exact .inr ⟨q,PySem.W.cellsFrom_some _ _ _ (.inl q)⟩
 refine codeAny_call_function hr.depth (KX _ _ lk) rfl S.co S.gen rfl (PySem.W.codeRec_of KX hcd) (hb _ _ _ _ ?_);refine wpAny_newFunctionEnv_cells S.kind hkind fun env he s1 x=> ?_;subst he;refine⟨lim.keeps x.toInCall.keep,codeAny_func ?_⟩;obtain⟨t,ht,hq⟩:=hbody A outer s H vs Q E (hr.deeper _) hsp;have I:Inv (rF CX P w K mg base N qual scope f cdv A outer s H E) [] (iK N vs) H s1:=AE S hr.hd e0 hl r x;refine wpAny_mono (ht [] s1 (iK N vs) H _ I hq) (fun fl s' hs=> ?_) fun e s' hs=>hs;have fin:∀{σ':St}{H':Hp}{v:V}{u:Value},Inv (rF CX P w K mg base N qual scope f cdv A outer s H E) [] σ' H' s'->RelV v u->Q v H'->CE outer P w H s Q u s' :=
  fun {σ' H' v u} J rv q=>⟨v,H',J.os,J.bare,J.base,J.hok,rv,q⟩
 cases fl with
 | ret u =>
  obtain⟨v,σ',H',J,rv,q⟩:=hs;exact fin J rv q
 | next =>
  obtain⟨σ',H',J,q⟩:=hs;exact fin (v:=V.non) (u:=Value.none) J rfl q
 | brk =>
  obtain⟨_,_,_,q⟩:=hs;exact False.elim q
 | cont =>
  obtain⟨_,_,_,q⟩:=hs;exact False.elim q
end L2
namespace L2
open PySem PySem.Spec PyProof.Rows
section
variable {X:Cx}{x:Str}{p pos:Pos}{e:Expr}{es:List Expr}{t:TA}{id T:String}{r:List V->Hp->VK->Prop}
def tCB (r:List V->Hp->VK->Prop)(t:TA):TE:=fun σ H Q=>t σ H fun vs H1=>r vs H1 Q
theorem bG (hc:d9 X (.builtin id) r)(hg:Gl X x)(hm:X.mg x=none)(hv:bootBuiltins x=some (.builtin id))(ha:PA X (e::es) t)(hn:x≠ "__name__" :=by decide)(hdb:(x==("__debug__" :Str))=false:=by decide)
  (he:starEach (e::es) X.env=(false,eval e X.env)::starEach es X.env:=by rfl)(hpl:(backTo pos (starEach es X.env)).any (·.1)=false:=by rfl):PE X (.Call (.Name x p) (e::es) [] pos) (tCB r t):=by
 intro pins s σ H Q I h;refine wpAny_Call_Name_kw (mL I hg hm hv ?_ hn hdb);exact PyProof.Rows.callWith_builtin1 (thn (ha pos pins s σ H _ I h) fun us s1 ⟨vs,H1,I1,r1,q1⟩=>hc pins s1 σ H1 vs us Q I1 r1 q1) he hpl
theorem sI (hc:d9 X (.type T) r)(hg:Gl X x)(hm:X.mg x=none)(hv:bootBuiltins x=some (.type T))(ha:PA X (e::es) t)(hn:x≠ "__name__" :=by decide)(hdb:(x==("__debug__" :Str))=false:=by decide)
  (he:starEach (e::es) X.env=(false,eval e X.env)::starEach es X.env:=by rfl)(hpl:(backTo pos (starEach es X.env)).any (·.1)=false:=by rfl):PE X (.Call (.Name x p) (e::es) [] pos) (tCB r t):=by
 intro pins s σ H Q I h;refine wpAny_Call_Name_kw (mL I hg hm hv ?_ hn hdb);exact PyProof.Rows.callWith_type1 (thn (ha pos pins s σ H _ I h) fun us s1 ⟨vs,H1,I1,r1,q1⟩=>hc pins s1 σ H1 vs us Q I1 r1 q1) he hpl
end
end L2
namespace HT
open PySem PyProof.Rows
section
open PySem.SeqAt
open PySem.AutoSeq1 (wpAny_loadPart')
open PySem.MeetsSeq PySem.MeetsSeq2 PySem.MeetsSeq3
end
section
variable {prog:Program}{w:World}{A:Around}{E:Value->Shared->Prop}{s:Shared}
def sIx (n d:Nat):Option Int->Nat
 | none=>d
 | some v=>if v<0 then (v+(n:Int)).toNat else min v.toNat n
theorem sIx_nat (n d k:Nat):sIx n d (some (k:Int))=min k n:=by
 show (if (k:Int)<0 then ((k:Int)+(n:Int)).toNat else min (k:Int).toNat n)=min k n;rw[if_neg (by lia),Int.toNat_natCast]
end
end HT
namespace L2
open PySem PySem.Spec PyProof.Rows
abbrev TO:=St->Hp->(Option Int->Hp->Prop)->Prop
def PO (X:Cx)(e:Option Expr)(t:TO):Prop :=
 ∀(pins:List (Addr×Obj)) (s:Shared) (σ:St) (H:Hp) (Q:Option Int->Hp->Prop),Inv X pins σ H s->t σ H Q →
  wpAny (model X.prog X.w) X.A (evalPart e X.env) (fun u s'=>∃o H',Inv X pins σ H' s'/\IsPart u o/\Q o H') X.xe s
def xF:TO:=fun _ H Q=>Q none H
def GO (t:TE):TO:=fun σ H Q=>t σ H fun x H1=>∃i,x= .int i/\Q (some i) H1
section
variable {X:Cx}{e:Expr}{te:TE}{lo hi:Option Expr}{tl th:TO}{pos p2:Pos}
theorem jE:PO X none xF:=by
 intro pins s σ H Q I h;rw[evalPart_none];exact wpAny_pure ⟨none,H,I,.none,h⟩
theorem g8 (h:PE X e te):PO X (some e) (GO te):=by
 intro pins s σ H Q I hw;rw[evalPart_some];refine thn (h pins s σ H _ I hw) fun u s1 ⟨x,H1,I1,r1,q1⟩=> ?_;obtain⟨i,rfl,q⟩:=q1;obtain⟨t,rfl⟩:=r1;exact⟨some i,H1,I1,.int i t,q⟩
def SlR (X:Cx)(r:V->Option Int->Option Int->Hp->VK->Prop):Prop :=
 ∀(pins:List (Addr×Obj)) (s:Shared) (σ:St) (H:Hp) (x:V) (v vl vu:Value) (lo hi:Option Int) (sl:Addr) (Q:VK),Inv X pins σ H s->RelV x v->s.heap.IsSliceOf sl vl vu .none->IsPart vl lo->IsPart vu hi->r x lo hi H Q →
  ∃T id,typeLookup (.type T) "__getitem__" =pure (some (.builtin id))/\s.TypeIs v T/\wpAny (model X.prog X.w) X.A (getItem v (.ref sl)) (EP X pins σ Q) X.xe s
def tSl (r:V->Option Int->Option Int->Hp->VK->Prop)(te:TE)(tl th:TO):TE:=fun σ H Q=>te σ H fun x H1=>tl σ H1 fun l H2=>th σ H2 fun u H3=>r x l u H3 Q
theorem jO {r:V->Option Int->Option Int->Hp->VK->Prop}(hr:SlR X r)(he:PE X e te)(hl:PO X lo tl)(hu:PO X hi th):PE X (.Subscript e (.Slice lo hi none p2) pos) (tSl r te tl th):=by
 intro pins s σ H Q I h;refine Subscript_ (thn (he pins s σ H _ I h) fun v s1 ⟨x,H1,I1,r1,q1⟩=> ?_);refine wpAny_Slice (thn (hl pins s1 σ H1 _ I1 q1) fun vl s2 ⟨l,H2,I2,pl,q2⟩=>thn (hu pins s2 σ H2 _ I2 q2) fun vu s3 ⟨u,H3,I3,pu,q3⟩=> ?_);rw[evalPart_none];refine wpAny_pure ?_;have I4:Inv X pins σ H3 { s3 with heap:=s3.heap.push { cls:= .type "slice",data:= .fields #[vl,vu,.none] } }:=I3.kept (t':=s3.toks) fun b ob q=>Heap.get?_push_of_some _ q;obtain⟨T,id,hT,ht,hg⟩:=hr pins { s3 with heap:=s3.heap.push { cls:= .type "slice",data:= .fields #[vl,vu,.none] } } σ H3 x v vl vu l u s3.heap.objs.size Q I4 r1 (Heap.IsSliceOf.new ..) pl pu q3;show wpAny (model X.prog X.w) X.A (subscriptTail e (.Slice lo hi none p2) v (.ref s3.heap.objs.size)) (EP X pins σ Q) X.xe { s3 with heap:=s3.heap.push { cls:= .type "slice",data:= .fields #[vl,vu,.none] } };exact tail_any (ops:=[.ref s3.heap.objs.size,v]) ht hT hg (by with_unfolding_all rfl)
def pF (xs:List V)(lo hi:Option Int):List V:=(xs.drop (HT.sIx xs.length 0 lo)).take (HT.sIx xs.length xs.length hi - HT.sIx xs.length 0 lo)
theorem wR (xs:List V)(lo hi:Option Int):(pF xs lo hi).length<=xs.length:=by
 unfold pF;rw[List.length_take,List.length_drop]
 lia
end
end L2
namespace L2
open PySem PySem.Spec PyProof.Rows
def ixN (n:Nat)(i:Int):Option Nat:=if 0<=i then (if i<n then some i.toNat else none) else if -(n:Int)<=i then some (i+n).toNat else none
def atI {α:Type}(xs:List α)(i:Int):Option α:=(ixN xs.length i).bind fun j=>xs[j]?
theorem JV {n:Nat}{i:Int}{j:Nat} (h:ixN n i=some j):seqIndex? i n=some j/\j<n/\ -(n:Int)<=i/\i<n:=by
 unfold ixN at h
 by_cases h0:0<=i
 ·rw[if_pos h0]at h
  by_cases h1:i<n
  ·rw[if_pos h1]at h;have e:i.toNat=j:=Option.some.inj h;exact⟨by rw[seqIndex_of h0 h1,e],by lia,by lia,h1⟩
  ·rw[if_neg h1]at h;cases h
 ·rw[if_neg h0]at h
  by_cases h1: -(n:Int)<=i
  ·rw[if_pos h1]at h;have e:(i+n).toNat=j:=Option.some.inj h;exact⟨by rw[seqIndex_neg (by lia) h1,e],by lia,h1,by lia⟩
  ·rw[if_neg h1]at h;cases h
theorem rJ {α:Type}{xs:List α}{i:Int}{v:α} (h:atI xs i=some v):∃j,seqIndex? i xs.length=some j/\xs[j]? =some v/\j<xs.length/\ -(xs.length:Int)<=i/\i<xs.length:=by
 unfold atI at h;cases e:ixN xs.length i with
 | none=>rw[e]at h;cases h
 | some j =>
  rw[e]at h;obtain⟨h1,h2,h3,h4⟩:=JV e;exact⟨j,h1,h,h2,h3,h4⟩
theorem nH {α:Type}{xs:List α}{j:Nat}{v:α} (h:xs[j]? =some v):atI xs (j:Int)=some v:=by
 have hj:j<xs.length:=(List.getElem?_eq_some_iff.mp h).1;have e:ixN xs.length (j:Int)=some j:=by
  unfold ixN;rw[if_pos (by lia),if_pos (by lia)];simp
 unfold atI;rw[e];exact h
def HL (b:Expr):Prop:=∀o i,subscripted b false o i=operate [o,i] (getItem o i)
def IxR (X:Cx)(r:R2):Prop :=
 ∀(value slice:Expr) (pins:List (Addr×Obj)) (s:Shared) (σ:St) (H:Hp) (x y:V) (v u:Value) (Q:VK),Inv X pins σ H s->RelV x v->RelV y u->r x y H Q →
  subscripted slice false v u=operate [v,u] (getItem v u)->wpAny (model X.prog X.w) X.A (subscriptTail value slice v u) (EP X pins σ Q) X.xe s
def MtR (X:Cx)(id:String)(r:V->List V->Hp->VK->Prop):Prop :=
 ∀(pins:List (Addr×Obj)) (s:Shared) (σ:St) (H:Hp) (x:V) (xs:List V) (v:Value) (us:List Value) (Q:VK),Inv X pins σ H s->RelV x v->Vals xs us->r x xs H Q →
  wpAny (model X.prog X.w) X.A (call (.builtin id) (v::us)) (EP X pins σ Q) X.xe s
section
variable {X:Cx}{a b:Expr}{ta tb:TE}{pos:Pos}
theorem dW {r:R2}(hr:IxR X r)(ha:PE X a ta)(hb:PE X b tb)(hs:HL b):PE X (.Subscript a b pos) (tOp r ta tb):=by
 intro pins s σ H Q I h;exact Subscript_ (EG ha hb I h fun v u s2 x y H2 I2 rx ry q=>hr a b pins s2 σ H2 x y v u Q I2 rx ry q (hs _ _))
def y6 (K:PySem.W.Frag):R2:=fun x y H Q=>∃p xs i v,x= .ref p/\y= .int i/\SqL K H p xs/\atI xs i=some v/\Q v H
def LL (K:PySem.W.Frag):R2:=fun x y H Q=>∃p xs i v,x= .ref p/\y= .int i/\SqT K H p xs/\atI xs i=some v/\Q v H
def QJ:R2:=fun x y H Q=>∃z i c,x= .str z/\y= .int i/\z.length<=sizeLine/\atI z.cps.toList i=some c/\Q (.str ⟨#[c]⟩) H
theorem eM:IxR X (y6 X.K):=by
 intro value slice pins s σ H x y v u Q I rx ry h hs;obtain⟨p,xs,i,z,rfl,rfl,hq,he,q⟩:=h;cases rx;obtain⟨t,rfl⟩:=ry;obtain⟨its,r,pl,hz⟩:=I.list hq;obtain⟨j,h1,h2,h3,h4,h5⟩:=rJ he;obtain⟨w,ew,rw'⟩:=r.get h2;have hl:=r.length;have hn:=mI;have fin:EP X pins σ Q w s:=⟨z,H,I,rw',q⟩
 by_cases h0:0<=i
 ·have hj:i.toNat=j:=by
   rw[seqIndex_of h0 h5]at h1;exact Option.some.inj h1
  exact item_listR pl.isList h0 (by lia) (by rw[hj];simpa using ew) fin hs
 ·have hj:(i+(its.toArray.size:Int)).toNat=j:=by
   rw[seqIndex_neg (by lia) h4]at h1;rw[List.size_toArray,←hl];exact Option.some.inj h1
  exact subscriptTail_builtinR (x:=w) pl.isList.typeIs slot_list_getitem.lookup
   (wpAny_getItem_list_neg (Q:=fun r s'=>r=w/\EP X pins σ Q r s') pl.isList (by lia) (by rw[List.size_toArray]<;>lia) (by lia) (by rw[hj];simpa using ew) ⟨rfl,fin⟩) hs
theorem u0:IxR X (LL X.K):=by
 intro value slice pins s σ H x y v u Q I rx ry h hs;obtain⟨p,xs,i,z,rfl,rfl,hq,he,q⟩:=h;cases rx;obtain⟨t,rfl⟩:=ry;obtain⟨its,r,pl,hz⟩:=I.tuple hq;obtain⟨j,h1,h2,h3,h4,h5⟩:=rJ he;obtain⟨w,ew,rw'⟩:=r.get h2;have hl:=r.length;have hn:=mI;have fin:EP X pins σ Q w s:=⟨z,H,I,rw',q⟩
 exact subscriptTail_builtinR (x:=w) pl.typeIs slot_tuple_getitem.lookup
  (getItem_tuple (j:=j) (Q:=fun r s'=>r=w/\EP X pins σ Q r s') pl (by lia) (by lia) (by rw[List.size_toArray,←hl];exact h1) (by simpa using ew) ⟨rfl,fin⟩) hs
theorem NG:IxR X QJ:=by
 intro value slice pins s σ H x y v u Q I rx ry h hs;obtain⟨z,i,c,rfl,rfl,hz,he,q⟩:=h;obtain⟨t,rfl⟩:=rx;obtain⟨t',rfl⟩:=ry;obtain⟨j,h1,h2,h3,h4,h5⟩:=rJ he;have hl:z.cps.toList.length=z.length:=by simp[Str.length]
 rw[hl]at h1 h4 h5;have hn:=mI;exact tail_any (typeIs_str s z t) slot_str_getitem.lookup (getItem_str (c:=c) (by
  have e1:decide (i< -(2^63:Int))=false:=decide_eq_false (by lia);have e2:decide (i≥2^63)=false:=decide_eq_false (by lia);rw[e1,e2,Bool.or_false]) (by rw[h1];simpa using h2) ⟨.str ⟨#[c]⟩,H,I.tok _,⟨_,rfl⟩,q⟩) hs
theorem uQ (lo hi:Option Int)(n:Nat):(sliceBounds lo hi none n).1=((HT.sIx n 0 lo:Nat):Int)/\(sliceBounds lo hi none n).2.1=((HT.sIx n n hi:Nat):Int)/\(sliceBounds lo hi none n).2.2=1:=by
 refine⟨?_,?_,rfl⟩
 ·cases lo with
  | none=>simp[sliceBounds,HT.sIx]
  | some i =>
   simp only[sliceBounds,HT.sIx,Option.getD_none,show (1:Int)>0 by decide,if_true]
   by_cases h:i<0
   ·simp only[h,if_true]<;>lia
   ·simp only[h,if_false]<;>lia
 ·cases hi with
  | none=>simp[sliceBounds,HT.sIx]
  | some i =>
   simp only[sliceBounds,HT.sIx,Option.getD_none,show (1:Int)>0 by decide,if_true]
   by_cases h:i<0
   ·simp only[h,if_true]<;>lia
   ·simp only[h,if_false]<;>lia
theorem tJ (its:List Value)(lo hi:Option Int):slicePick its.toArray lo hi none=((its.drop (HT.sIx its.length 0 lo)).take (HT.sIx its.length its.length hi - HT.sIx its.length 0 lo)).toArray:=by
 obtain⟨h1,h2,h3⟩:=uQ lo hi its.toArray.size;unfold slicePick;rw[h1,h2,h3];simp only[sliceRange_one,pick_run,List.size_toArray]<;>rfl
def EB (K:PySem.W.Frag):V->Option Int->Option Int->Hp->VK->Prop:=fun x lo hi H Q=>∃a xs,x= .ref a/\SqL K H a xs/\∀p,H p=none->Q (.ref p) (upd H p (.lst (pF xs lo hi)))
theorem IQ:SlR X (EB X.K):=by
 intro pins s σ H x v vl vu lo hi sl Q I rx hs pl pu h;obtain⟨a,xs,rfl,hx,q⟩:=h;cases rx;obtain⟨its,r,ht,hz⟩:=I.list hx;have hlen:=r.length;refine⟨"list",_,slot_list_getitem.lookup,ht.isList.typeIs,?_⟩;refine wpAny_getItem_list_slice ht.isList hs pl pu .none (by simp) ?_ (by rw[List.size_toArray]<;>lia);rw[tJ,←hlen];refine⟨.ref s.heap.objs.size,_,I.laid (t':=s.toks) (o:= .lst (pF xs lo hi)) (fun b ob q=>Heap.get?_push_of_some _ q) (Nat.le_refl _) ?_,rfl,q _ (I.hok.fresh (Nat.le_refl _))⟩;exact⟨Nat.le_trans (wR xs lo hi) hz,_,0,(r.drop (HT.sIx xs.length 0 lo)).take (HT.sIx xs.length xs.length hi - HT.sIx xs.length 0 lo),Heap.get?_push_size _ rfl⟩
def pZ:V->Bool
 | .non=>true
 | .bl _=>true
 | .int _=>true
 | .str _=>true
 | _=>false
def eqV:V->V->Bool
 | .non,.non=>true
 | .bl a,.bl b=>a==b
 | .bl a,.int b=>(if a then 1 else 0)==b
 | .int a,.bl b=>a==(if b then 1 else 0)
 | .int a,.int b=>a==b
 | .str a,.str b=>a==b
 | _,_=>false
theorem NR {A:Around}{s:Shared}{y x:V}{u v:Value} (ry:RelV y u) (rx:RelV x v) (fy:pZ y=true) (fx:pZ x=true):SeqAt.EqAt A s u v (eqV y x):=by
 cases y with
 | non =>
  cases ry;cases x with
  | non=>cases rx;exact SeqAt.EqAt.same _
  | bl b=>cases rx;exact SeqAt.EqAt.none_bool b
  | int b=>obtain⟨t,rfl⟩:=rx;exact SeqAt.EqAt.none_int b t
  | str b=>obtain⟨t,rfl⟩:=rx;exact SeqAt.EqAt.none_str b t
  | _=>exact absurd (show false=true from fx) Bool.false_ne_true
 | bl a =>
  cases ry;cases x with
  | non=>cases rx;exact SeqAt.EqAt.bool_none a
  | bl b=>cases rx;exact SeqAt.EqAt.bool_bool a b
  | int b=>obtain⟨t,rfl⟩:=rx;exact SeqAt.EqAt.bool_int a b t
  | str b=>obtain⟨t,rfl⟩:=rx;exact SeqAt.EqAt.bool_str a b t
  | _=>exact absurd (show false=true from fx) Bool.false_ne_true
 | int a =>
  obtain⟨t',rfl⟩:=ry;cases x with
  | non=>cases rx;exact SeqAt.EqAt.int_none a t'
  | bl b=>cases rx;exact SeqAt.EqAt.int_bool a t' b
  | int b=>obtain⟨t,rfl⟩:=rx;exact SeqAt.EqAt.int_int a t' b t
  | str b=>obtain⟨t,rfl⟩:=rx;exact SeqAt.EqAt.int_str a t' b t
  | _=>exact absurd (show false=true from fx) Bool.false_ne_true
 | str a =>
  obtain⟨t',rfl⟩:=ry;cases x with
  | non=>cases rx;exact SeqAt.EqAt.str_none a t'
  | bl b=>cases rx;exact SeqAt.EqAt.str_bool a t' b
  | int b=>obtain⟨t,rfl⟩:=rx;exact SeqAt.EqAt.str_int a t' b t
  | str b=>obtain⟨t,rfl⟩:=rx;exact SeqAt.EqAt.str_str a t' b t
  | _=>exact absurd (show false=true from fx) Bool.false_ne_true
 | _=>exact absurd (show false=true from fy) Bool.false_ne_true
theorem u6:d9 X (.builtin "len") (fun xs H Q=>∃p ys,xs=[.ref p]/\(SqL X.K H p ys∨SqT X.K H p ys)/\Q (.int ys.length) H):=by
 intro pins s σ H xs us Q I r h;obtain⟨p,ys,rfl,hq,q⟩:=h;obtain⟨u,rfl,rx⟩:=j5 r;cases rx;have hn:=mI;rcases hq with hq|hq
 ·obtain⟨its,r',pl,hz⟩:=I.list hq;have hlen:=r'.length;exact Calls.call_len_list pl.isList (by simp only[List.size_toArray]<;>lia) ⟨.int ys.length,H,I.tok _,⟨s.toks+1,by rw[List.size_toArray,hlen]⟩,q⟩
 ·obtain⟨its,r',pl,hz⟩:=I.tuple hq;have hlen:=r'.length;exact len_tuple pl (by simp only[List.size_toArray]<;>lia) ⟨.int ys.length,H,I.tok _,⟨s.toks+1,by rw[List.size_toArray,hlen]⟩,q⟩
theorem u8:d9 X (.builtin "len") (fun xs H Q=>∃z,xs=[.str z]/\z.length<=sizeLine/\Q (.int z.length) H):=by
 intro pins s σ H xs us Q I r h;obtain⟨z,rfl,hz,q⟩:=h;obtain⟨u,rfl,t,rfl⟩:=j5 r;have hn:=mI;exact len_str (by lia) ⟨.int z.length,H,I.tok _,⟨_,rfl⟩,q⟩
theorem uO:d9 X (.type "list") (fun xs H Q=>∃p ys,xs=[.ref p]/\(SqL X.K H p ys∨SqT X.K H p ys)/\∀l,H l=none->Q (.ref l) (upd H l (.lst ys))):=by
 intro pins s σ H xs us Q I r h;obtain⟨p,ys,rfl,hq,q⟩:=h;obtain⟨u,rfl,rx⟩:=j5 r;cases rx;have fin:∀(its:List Value),Vals ys its->ys.length<=sizeLine->∀(h':Heap) (c':Nat),(∀b o',s.heap.get? b=some o'->h'.get? b=some o') →
   h'.get? s.heap.objs.size=some { cls:= .type "list",dict:=none,data:= .seq its.toArray c',slots:= #[] }->EP X pins σ Q (.ref s.heap.objs.size) { s with heap:=h' }:=fun its r' hz h' c' kp e =>
  ⟨.ref s.heap.objs.size,_,I.laid (t':=s.toks) kp (Nat.le_refl _) (show ObjOk X.prog X.w _ h' _ (.lst ys) from⟨hz,its,c',r',e⟩),rfl,q _ (I.hok.fresh (Nat.le_refl _))⟩
 rcases hq with hq|hq
 ·obtain⟨its,r',pl,hz⟩:=I.list hq;have hlen:=r'.length;obtain⟨o,ho,hc,n,hd⟩:=pl.isList;exact call_list_seq p (.inl rfl) ho hc hd (fun h' c' kp e=>fin its r' hz h' c' kp e) (by simp only[List.size_toArray]<;>lia)
 ·obtain⟨its,r',pl,hz⟩:=I.tuple hq;have hlen:=r'.length;obtain⟨o,ho,hc,n,hd⟩:=pl;exact call_list_seq p (.inr rfl) ho hc hd (fun h' c' kp e=>fin its r' hz h' c' kp e) (by simp only[List.size_toArray]<;>lia)
def tyV (K:PySem.W.Frag)(T:String)(x:V)(H:Hp):Prop:=match x with
 | .str _=>T= "str"
 | .int _=>T= "int"
 | .ref p=>(T= "list" /\∃xs,SqL K H p xs)∨(T= "tuple" /\∃o,K.lookup p=some o/\o.cls= .type "tuple" /\o.dict=none) ∨
   (T= "dict" /\((∃kvs,H p=some (.dK kvs))∨∃kvs,H p=some (.dT kvs)))∨(T= "set" /\∃S n,H p=some (.set S n))
 | _=>False
theorem L3 {pins:List (Addr×Obj)}{σ:St}{H:Hp}{s:Shared}{T:String}{x:V}{v:Value} (I:Inv X pins σ H s) (r:RelV x v) (ty:tyV X.K T x H) :
  s.TypeIs v T/\∀a,v= .ref a->∃ob,s.heap.get? a=some ob/\ob.dict=none:=by
 cases x with
 | str z =>
  obtain⟨t,rfl⟩:=r;cases (show T= "str" from ty);exact⟨typeIs_str s z t,fun _ e=>nomatch e⟩
 | int i =>
  obtain⟨t,rfl⟩:=r;cases (show T= "int" from ty);exact⟨typeIs_int s i t,fun _ e=>nomatch e⟩
 | ref p =>
  cases r;rcases ty with⟨rfl,xs,hq⟩|⟨rfl,o,hk,hc,hd⟩|⟨rfl,hk⟩|⟨rfl,S,n,hk⟩
  ·obtain⟨its,_,pl,_⟩:=I.list hq;refine⟨pl.isList.typeIs,fun a e=> ?_⟩;cases e;obtain⟨o,n,e,c,hd,_⟩:=pl;exact⟨o,e,hd⟩
  ·refine⟨⟨o,I.kIn p o hk,hc⟩,fun a e=> ?_⟩;cases e;exact⟨o,I.kIn _ o hk,hd⟩
  ·have z:∃o,s.heap.get? p=some o/\o.ExactDict:=by
    rcases hk with⟨kvs,hk⟩|⟨kvs,hk⟩
    ·obtain⟨_,_,_,_,o,_,_,e,ex,_⟩:=I.hok p _ hk;exact⟨o,e,ex⟩
    ·obtain⟨_,_,_,_,o,_,_,e,ex,_⟩:=I.hok p _ hk;exact⟨o,e,ex⟩
   obtain⟨o,e,ex⟩:=z;refine⟨⟨o,e,ex.1⟩,fun a e2=> ?_⟩;cases e2;exact⟨o,e,ex.2.1⟩
  ·obtain⟨o,_,_,_,e,ex,_⟩:=I.hok p _ hk;refine⟨⟨o,e,ex.1⟩,fun a e2=> ?_⟩;cases e2;exact⟨o,e,ex.2.1⟩
 | _=>exact False.elim ty
def tBM (K:PySem.W.Frag)(T:String)(r:V->List V->Hp->VK->Prop)(to:TE)(t:TA):TE:=fun σ H Q=>to σ H fun x H1=>tyV K T x H1/\t σ H1 fun xs H2=>r x xs H2 Q
variable {o e:Expr}{es:List Expr}{to:TE}{t:TA}{name:Str}{apos cpos:Pos}{T id:String}{r:V->List V->Hp->VK->Prop}
theorem k5 (pa:PlainAttrs T)(slot:Slot T name id)(hty:typeOf (.builtin id)=pure (.type "method_descriptor"))(hm:MtR X id r)(ho:PE X o to)(ha:PA X (e::es) t)
  (hbase:attributeBase o name X.env (eval o X.env)=eval o X.env:=by rfl)
  (hfew:((backTo cpos (starEach (e::es) X.env)).all (fun x=> !x.1)&&(backToKw cpos (keywordEach [] X.env)).all (fun x=>x.1.isSome)
   && decide ((e::es).length+([]:List Keyword).length+(if ([]:List Keyword).isEmpty then 0 else 1)<30))=true:=by rfl)
  (hline:(apos.endLine==cpos.line)=true:=by rfl)(hs:starEach (e::es) X.env=(false,eval e X.env)::starEach es X.env:=by rfl)(hplain:(backTo cpos (starEach es X.env)).any (·.1)=false:=by rfl) :
  PE X (.Call (.Attribute o name apos) (e::es) [] cpos) (tBM X.K T r to t):=by
 intro pins s σ H Q I h;refine wpAny_Call_method_late hbase hfew hline rfl (thn (ho pins s σ H _ I h) fun v s1 ⟨x,H1,I1,r1,ty,q1⟩=> ?_);obtain⟨h1,h2⟩:=L3 I1 r1 ty;refine⟨T,id,pa,slot,hty,h1,h2,?_⟩;have hA:=ha cpos pins s1 σ H1 _ I1 q1;rw[hs]at hA ⊢;refine Calls.callWith_builtin (by show (false||(backTo cpos (starEach es X.env)).any (·.1))=false;rw[hplain]<;>rfl) (Calls.evalArgs_plain ?_);exact thn hA fun us s2 ⟨vs,H2,I2,r2,q2⟩=>hm pins s2 σ H2 x vs v us Q I2 r1 r2 q2
end
end L2
namespace L2
open PySem PySem.Spec PyProof.Rows
def MtM (X:Cx)(id:String)(r:V->List V->Hp->VK->Prop):Prop :=
 ∀(pins:List (Addr×Obj)) (s:Shared) (σ:St) (H:Hp) (x:V) (xs:List V) (v:Value) (us:List Value) (Q:VK),Inv X pins σ H s->RelV x v->Vals xs us->r x xs H Q →
  wpAny (model X.prog X.w) X.A (call (.builtin id) (v::us)) (EP X pins σ Q) X.xe s
theorem Vals.one:∀{x:V}{us:List Value},Vals [x] us->∃u,us=[u]/\RelV x u
 | _,_,.cons r .nil=>⟨_,rfl,r⟩
section
variable {X:Cx}{pins:List (Addr×Obj)}{σ:St}{H:Hp}{s:Shared}{l b:Addr}{xs ys zs:List V}
theorem Inv.lset {its its':List Value}{n:Nat}{f:Array Value->Array Value}{t':Nat} (I:Inv X pins σ H s) (hH:H l=some (.lst xs))
  (e:s.heap.get? l=some { cls:= .type "list",data:= .seq its.toArray n })(hf:f its.toArray=its'.toArray)(hv:Vals ys its')(hz:ys.length<=sizeLine) :
  Inv X pins σ (upd H l (.lst ys)) { s with heap:=s.heap.update l (Obj.mapSeq f),toks:=t' }:=by
 have q:=PySem.IsL.update e f;rw[hf]at q;refine I.write (x:=l) (e:=l) (by rw[hH];exact trivial) (.inl rfl) (fun b' u hb hu=>(Heap.get?_update_other s.heap (Obj.mapSeq f) (Ne.symm hb)).trans hu) ⟨_,q⟩ ?_;exact⟨hz,its',_,hv,q⟩
theorem Inv.lnew {its:List Value}{t':Nat} (I:Inv X pins σ H s) (hv:Vals ys its) (hz:ys.length<=sizeLine) :
  Inv X pins σ (upd H s.heap.objs.size (.lst ys)) { s with heap:=s.heap.push { cls:= .type "list",data:= .seq its.toArray },toks:=t' } :=
 I.laid (fun _ _ q=>Heap.get?_push_of_some _ q) (Nat.le_refl _) ⟨hz,its,0,hv,Heap.get?_push_size _ rfl⟩
theorem Inv.fresh (I:Inv X pins σ H s):H s.heap.objs.size=none:=I.hok.fresh (Nat.le_refl _)
theorem Inv.lstM (I:Inv X pins σ H s)(hH:H l=some (.lst xs)):xs.length<=sizeLine/\∃(its:List Value) (n:Nat),Vals xs its/\xs.length=its.length/\s.heap.get? l=some { cls:= .type "list",data:= .seq its.toArray n }:=by
 obtain⟨z,its,n,r,e⟩:=I.hok l _ hH;exact⟨z,its,n,r,r.length,e⟩
end
section
variable {X:Cx}
def yA:V->List V->Hp->VK->Prop:=fun x vs H Q=>∃l xs y,x= .ref l/\vs=[y]/\H l=some (.lst xs)/\xs.length<sizeLine/\Q .non (upd H l (.lst (xs++[y])))
theorem eN:MtM X "list.append" yA:=by
 intro pins s σ H x vs v us Q I rx rv h;obtain⟨l,xs,y,rfl,rfl,hH,hz,q⟩:=h;cases rx;obtain⟨u,rfl,ru⟩:=rv.one;obtain⟨z,its,n,r,hl,e⟩:=I.lstM hH;refine call_meets F.slot_list_append ⟨_,e,rfl⟩ F.entry_list_append (F.args_list_append_2 _ _) (PySem.list_append l its.toArray n u (by rw[List.size_toArray];lia)) ⟨e,?_⟩;refine⟨.non,_,I.lset (its':=its++[u]) hH e (by simp) (r.append (.cons ru .nil)) ?_,rfl,q⟩;rw[List.length_append,List.length_singleton]
 lia
def K0:R2:=fun x y H Q=>∃l b xs zs,x= .ref l/\y= .ref b/\H l=some (.lst xs)/\H b=some (.lst zs)/\xs.length+zs.length<=sizeLine/\∀p,H p=none->Q (.ref p) (upd H p (.lst (xs++zs)))
theorem A5:OpR X (binaryOp .Add) K0:=by
 intro pins s σ H x y v u Q I rx ry h;obtain⟨l,b,xs,zs,rfl,rfl,hH,hB,hz,q⟩:=h;cases rx;cases ry;obtain⟨z,its,n,r,hl,e⟩:=I.lstM hH;obtain⟨z2,its2,n2,r2,hl2,e2⟩:=I.lstM hB;refine PySem.P.add_list e e2 ?_ (by rw[List.size_toArray,List.size_toArray];lia);have ea:its.toArray++its2.toArray=(its++its2).toArray:=by simp
 rw[ea];exact⟨.ref _,_,I.lnew (t':=s.toks) (r.append r2) (by rw[List.length_append];lia),rfl,q _ I.fresh⟩
end
section
variable {prog:Program}{w:World}{A:Around}{E:Value->Shared->Prop}{s:Shared}
set_option maxRecDepth 100000 in
end
section
variable {X:Cx}
end
end L2
namespace Att
open PySem PySem.W PySem.Calls PyProof.Rows
theorem p6 {P:Params}{h:Heap}:∀(ns:List Int) (vs:List Value),WellAll P h vs (ns.map WData.int)->IntsAre vs ns:=by
 intro ns
 induction ns with
 | nil =>
  intro vs w;rw[List.map_nil]at w;cases w;exact .nil
 | cons n ns ih =>
  intro vs w;rw[List.map_cons]at w;cases w with
  | cons a b =>
   cases a;exact .cons _ _ (ih _ b)
theorem CY {l:OpenLaw}{n:Nat} (hn:l.most=some n) {P:Params}{h:Heap}{args:List WData}{vals:List Value}
  (hpre:l.row.toRowW.claim.pre args=true)(hwl:WellAll P h vals args) :
  ∃a vs ns,vals=[Value.ref a]/\args=[WData.list (ns.map WData.int)]/\h.get? a=some { cls:= .type "list",data:= .seq vs.toArray }/\IntsAre vs ns/\ns.length<=n:=by
 have hsh:WShape.hasAll [] args [.list .int]=true:=(pre_splitW hpre).1;have hc:l.pre.holds [] { args:=args }=true:=(pre_splitW hpre).2;obtain⟨d,r,rfl,h1,h2⟩:=hasAllW_cons hsh;obtain rfl:=hasAllW_nil h2;obtain⟨xs,rfl,h3⟩:=hasW_list h1;obtain⟨ns,rfl⟩:=items_int h3;have hlen:ns.length<=n:=by
  unfold OpenLaw.pre at hc;have h4:(WTm.not (.lt (.lit (.int (n:Int))) (.len (.arg 0)))).holds [] { args:=[.list (ns.map .int)] }=true:=by
   have h4:=(holds_andW hc).1;rw[hn]at h4;exact h4
  have h5:=condW_of h4 (w_not (w_lt w_lit (w_len_list (w_arg rfl))));rw[List.length_map]at h5;refine Nat.le_of_not_lt fun q=> ?_;have q':(n:Int)<((ns.length:Nat):Int):=by lia
  first
   | (rw[decide_eq_true q']at h5;exact absurd h5 (by decide))
   | (simp at h5;lia)
 cases hwl with
 | cons w1 w2 =>
  cases w2;cases w1 with
  | list ho hall=>exact⟨_,_,ns,rfl,rfl,ho,p6 ns _ hall,hlen⟩
theorem BS (l:OpenLaw)(args:List WData):l.row.toRowW.claim.post args (.bool true) args=true :=
 postW_of (r:=l.row.toRowW) (X:=(true==true))
  (show WShape.has [] (.bool true) .bool=true by first|rfl|decide|simp[WShape.has,WShape.arms,WShape.armsAll])
  (show (WTm.eq .res (.lit (.bool true))).value [] { args:=args,res:=some (.bool true),after:=args }=some (.bool (true==true)) from w_eq_bool (w_res rfl) w_lit) rfl
theorem attach_call {l:OpenLaw}{n:Nat}{q:Program}{loose:List Str}{XP:(Str->Option Value)->Heap->Prop}{YP:World->Heap->Prop}{d:DefRec}
  (hn:l.most=some n)(hdf:d.params.defaults=[])
  (call:∀(w:World) (s₀ s₁:Shared) (mg mb:Str->Option Value) (fa:Addr) (o:Obj) (pm cd doc:Value) (a:Addr) (vs:List Value) (ns:List Int),
   Ground q loose [] XP w s₀ mg mb s₁.heap->YP w s₁.heap →
   s₁.heap.get? fa=some o->o.data= .func (docDef d.name d.params d.body d.scope pm cd doc)->s₁.heap.CodeRec cd d.name->mg d.name=some (.ref fa) →
   s₁.heap.get? a=some { cls:= .type "list",data:= .seq vs.toArray }->IntsAre vs ns->ns.length<=n->s₁.gens= #[] →
   codeAny (model l.prog w) callerA (.call (.ref fa) ⟨[.ref a],[]⟩) (fun r s'=>r= .ok (.ret (.bool true))/\OldK s₁.heap s'.heap/\s'.os=s₁.os/\AllBare s'.gens) s₁) :
  WalkO q loose XP YP l.row.toRowW d [] (fun f vs=>PySem.call f vs):=by
 intro w s₀ s₁ mg mb G Y fa o pm cd doc dV kV ho hd hcd hD hmg hg args vals as hpre hlay hrd hwl hlo;obtain rfl:dV= .none:=Dflts.none hD hdf;obtain rfl:kV= .none:=Dflts.noKw hD;obtain⟨a,vs,ns,rfl,rfl,hobj,hints,hlen⟩:=CY hn hpre hwl;refine enter_call (codeAny_mono (call w s₀ s₁ mg mb fa o pm cd doc a vs ns G Y ho (fd_plain hd) hcd hmg hobj hints hlen hg) fun r s' hq=> ?_);obtain⟨rfl,h2,h3,h4⟩:=hq;exact⟨.inl ⟨.bool true,.bool true,[],rfl,fun _=>rfl,.bool true,BS l _,fun _=>⟨List.Pairwise.nil,fun _ hm=>(nomatch hm)⟩⟩,h2,h3,h4⟩
section
variable {prog:Program}{w:World}{A:Around}{E:Value->Shared->Prop}{s:Shared}{K:Frag}
end
end Att
namespace L2
open PySem PySem.Spec PyProof.Rows
theorem sY:∀{vs:List Value}{ns:List Int},IntsAre vs ns->Vals (ns.map V.int) vs
 | _,_,.nil=> .nil
 | _,_,.cons n t h=> .cons ⟨t,rfl⟩ (sY h)
def FF (H:Hp):Prop:=∀b,H b=none∨∃o xs,H b=some (.frz o (.lst xs))
theorem FZ {P:Program}{w:World}{K:PySem.W.Frag}{mg mb:Str->Option Value}{CX:CXT}{k:Nat}{fa a:Addr}{fd:FuncData}{x:Str}{sp:Sp}{s₁:Shared}{vs:List Value}{ns:List Int}
  (KX:K.In s₁.heap)(hns:s₁.heap.Ns mainGlobals mg)(hb:s₁.heap.Ns builtinsNs mb)(hbb:∀x:Str,x≠ "__name__" ->mb x=bootBuiltins x)(hlim:s₁.heap.NoLimit)(hg:s₁.gens= #[])
  (ha:s₁.heap.get? a=some { cls:= .type "list",data:= .seq vs.toArray })(hi:IntsAre vs ns)(hl:ns.length<=sizeLine)(hr:Room k callerA)
  (F:∀base:Heap,K.In base->base.Ns mainGlobals mg->bK P w K mg base CX k fa fd [x] sp)(hbind:∀(s:Shared) (u:Value),BindsTo s fd ⟨[u],[]⟩ [(x,u)])
  (hsp:∀H:Hp,FF H->SqL K H a (ns.map V.int)->sp [.ref a] H (fun v _=>v= .bl true) fun _ _ _=>False)
  (hCX:∀H e s',CX [] H s₁ (fun _ _ _=>False) e s'->False) :
  codeAny (model P w) callerA (.call (.ref fa) ⟨[.ref a],[]⟩) (fun r s'=>r= .ok (.ret (.bool true))/\OldK s₁.heap s'.heap/\s'.os=s₁.os/\AllBare s'.gens) s₁:=by
 have rv:=sY hi;have lenV:=hi.length;have core:∀H:Hp,FF H->SqL K H a (ns.map V.int)->HOk P w H s₁.heap->(∀b,H b≠none->b=a)->(H a≠none->K.lookup a=none) →
   codeAny (model P w) callerA (.call (.ref fa) ⟨[.ref a],[]⟩) (fun r s'=>r= .ok (.ret (.bool true))/\OldK s₁.heap s'.heap/\s'.os=s₁.os/\AllBare s'.gens) s₁:=by
  intro H hO hS hok hA hK;have base_of:∀{b:Addr}{o:Obj},s₁.heap.get? b=some o->H b=none->(kW s₁.heap H).get? b=some o:=fun e n=>D9 e n;have noA:∀{b:Addr}{o:Obj}{es:Array DictEntry}{ep:Nat},s₁.heap.get? b=some o->o.data= .dict es ep->H b=none:=fun {b o es ep} e d=>by
   cases q:H b with
   | none=>rfl
   | some u =>
    have e':b=a:=hA b (by rw[q];simp);subst e';rw[ha]at e;cases e;have d':Data.seq vs.toArray _=Data.dict es ep:=d;cases d'
  have nsK:∀{b:Addr}{m:Str->Option Value},s₁.heap.Ns b m->(kW s₁.heap H).Ns b m:=fun {b m} ⟨o,es,ep,e,d,r⟩=>⟨o,es,ep,base_of e (noA e d),d,r⟩
  have hKb:K.In (kW s₁.heap H):=fun b o e=>base_of (KX b o e) (by
   cases q:H b with
   | none=>rfl
   | some u =>
    have e':b=a:=hA b (by rw[q];simp);subst e';rw[hK (by rw[q];simp)]at e;cases e)
  have hM:Mod K mg (kW s₁.heap H):=⟨hKb,nsK hns,⟨mb,nsK hb,hbb⟩,let ⟨mc,h1,h2⟩:=hlim;⟨mc,nsK h1,h2⟩⟩
  have e0:Env0 P w K mg (kW s₁.heap H) callerA [] s₁ H:=⟨rfl,hM,fun b o e=>J0 e,Nat.le_of_eq (BA _ _),trivial,fun b hb=>absurd (show b∈([]:List Addr) from hb) (by simp),hok,.of_eq hg⟩
  refine codeAny_mono ((F _ hKb (nsK hns)).run callerA [] s₁ H ⟨[.ref a],[]⟩ [.ref a] [.ref a] _ _ hr e0 (hbind s₁ (.ref a)) (.cons rfl .nil) (hsp H hO hS)) fun r s' h=> ?_;cases r with
  | error e=>exact(hCX H e s' h).elim
  | ok fl =>
   cases fl with
   | next=>exact False.elim h
   | brk=>exact False.elim h
   | cont=>exact False.elim h
   | ret u =>
    obtain⟨v,H',os,bare,un,hok',r',q⟩:=h;have q':v= .bl true:=q;subst q';obtain rfl:u=Value.bool true:=r';refine⟨rfl,OldK.of_keep fun b o e=> ?_,os,bare⟩;cases q:H b with
    | none=>exact un.keep b o e q (by intro z;exact absurd (show b∈([]:List Addr) from z) (by simp)) (by simp)
    | some u =>
     rcases hO b with z|⟨ob,xs,z⟩
     ·rw[q]at z;cases z
     ·have z2:=un.frzs b ob _ z;obtain⟨e1,_⟩:=hok b _ z;obtain⟨e2,_⟩:=hok' b _ z2;rw[e]at e1;cases e1;exact e2
 cases hk:K.lookup a with
 | some o =>
  have e:=KX a o hk;rw[ha]at e;cases e;refine core (fun _=>none) (fun _=> .inl rfl) (.inr ⟨_,vs.toArray,_,hk,rfl,rfl,rfl,by rw[List.size_toArray,lenV];exact hl,by simpa using rv⟩) (fun b u z=>by have z':(none:Option HO)=some u:=z;cases z') (fun b z=>absurd rfl z) fun z=>absurd rfl z
 | none =>
  refine core (fun b=>if b=a then some (.frz { cls:= .type "list",data:= .seq vs.toArray } (.lst (ns.map V.int))) else none) (fun b=> ?_) (.inl (.inr ⟨{ cls:= .type "list",data:= .seq vs.toArray },if_pos rfl⟩)) (fun b u z=> ?_) (fun b z=> ?_) fun _=>hk
  ·by_cases hb:b=a
   ·exact .inr ⟨_,_,if_pos hb⟩
   ·exact .inl (if_neg hb)
  ·by_cases hb:b=a
   ·have z':=(if_pos hb).symm.trans z;cases z';subst hb;exact⟨ha,by rw[List.length_map];exact hl,vs,_,rv,ha⟩
   ·have z':=(if_neg hb).symm.trans z;cases z'
  ·by_cases hb:b=a
   ·exact hb
   ·exact absurd (if_neg hb) z
end L2
namespace L2
open PySem PySem.Spec PyProof.Rows
theorem walk_of {l:PySem.W.OpenLaw}{n k:Nat}{q:Program}{loose:List Str}{XP:(Str->Option Value)->Heap->Prop}{YP:World->Heap->Prop}{d:DefRec}{K:Params->PySem.W.Frag}{CX:World->CXT}{sp:World->Sp}{x:Str}
  (hn:l.most=some n)(hn2:n<=sizeLine)(hdf:d.params.defaults=[])(hr:Room k callerA)
  (hY:∀(w:World) (h:Heap),YP w h->(K w.params).In h)
  (F:∀(w:World) (mg:Str->Option Value) (fa:Addr) (h:Heap),(K w.params).In h->h.Ns mainGlobals mg->mg d.name=some (.ref fa) →
   ∃fd:FuncData,(∀(s:Shared) (u:Value),BindsTo s fd ⟨[u],[]⟩ [(x,u)]) ∧
    ∀base:Heap,(K w.params).In base->base.Ns mainGlobals mg->bK l.prog w (K w.params) mg base (CX w) k fa fd [x] (sp w))
  (hsp:∀(w:World) (H:Hp) (a:Addr) (ns:List Int),ns.length<=n->FF H->SqL (K w.params) H a (ns.map V.int)->sp w [.ref a] H (fun v _=>v= .bl true) fun _ _ _=>False)
  (hCX:∀(w:World) (H:Hp) (s:Shared) (e:Value) (s':Shared),CX w [] H s (fun _ _ _=>False) e s'->False) :
  PySem.W.WalkO q loose XP YP l.row.toRowW d [] (fun f vs=>PySem.call f vs):=by
 refine Att.attach_call hn hdf fun w s₀ s₁ mg mb fa o pm cd doc a vs ns G Y ho hd hcd hmg hobj hints hlen hg=> ?_;have KX:=hY w _ Y;obtain⟨fd,hb,hF⟩:=F w mg fa _ KX G.T.g hmg;exact FZ KX G.T.g G.T.b G.T.builtins G.T.nolimit hg hobj hints (Nat.le_trans hlen hn2) hr hF hb (fun H hO hS=>hsp w H a ns hlen hO hS) fun H e s'=>hCX w H s₁ e s'
end L2
namespace L2
open PySem PySem.Spec PyProof.Rows
def cD (s:Stmt)(j:Nat):Stmt:=match s with
 | .ClassDef _ _ _ body _ _ _ _ _ _ _=>body.getD j (.Pass ⟨0,0,0,0⟩)
 | _=> .Pass ⟨0,0,0,0⟩
def aL (s:Stmt):Arguments:=match s with
 | .FunctionDef _ a _ _ _ _ _ _ _ _=>a
 | _=>{ posonlyargs:=[],args:=[],vararg:=none,kwonlyargs:=[],kw_defaults:=[],kwarg:=none,defaults:=[] }
def aK (s:Stmt):List Stmt:=match s with
 | .FunctionDef _ _ b _ _ _ _ _ _ _=>b
 | _=>[]
def aB (s:Stmt):Scope:=match s with
 | .FunctionDef _ _ _ _ _ _ sc _ _ _=>sc
 | _=>{ kind:= .function,names:=[],isGenerator:=false,isCoroutine:=false }
abbrev CX0:CXT:=fun _ _ _ _ _ _=>False
abbrev E0:XK:=fun _ _ _=>False
theorem yL {X:Cx}:mJ CX0 X E0:=fun _ _ _ _ _ _ _ h=>h.elim
section
variable {P:Program}{w:World}{K:PySem.W.Frag}{mg:Str->Option Value}{base:Heap}
end
theorem BE {n:Nat}(h:n<=1000):n<sizeLine:=Nat.lt_of_le_of_lt h (by decide)
section
variable {X:Cx}
theorem pv (i:Nat){x:Str}{pos:Pos} (hN:X.N[i]? =some x:=by rfl) (hv:Vis X.env.scope x:=by first|exact Or.inl rfl|exact Or.inr (Or.inl rfl)|exact Or.inr (Or.inr rfl)) (hd:(x==("__debug__" :Str))=false:=by decide)
  (hcd:(x==("__classdict__" :Str))=false:=by decide):PE X (.Name x pos) (fF i):=MZ hN hv hd hcd
end
theorem rG {c A B:Prop}[Decidable c](h1:c->A)(h2:¬c->B):if c then A else B:=by
 by_cases h:c
 ·rw[if_pos h];exact h1 h
 ·rw[if_neg h];exact h2 h
def Same (H H':Hp):Prop:=∀b o,H b=some o->H' b=some o
theorem Same.refl (H:Hp):Same H H:=fun _ _ h=>h
theorem Same.trans {H H1 H2:Hp}(a:Same H H1)(b:Same H1 H2):Same H H2:=fun c o h=>b c o (a c o h)
theorem Same.seq {K:PySem.W.Frag}{H H':Hp}{a:Addr}{xs:List V} (e:Same H H') (h:SqL K H a xs):SqL K H' a xs:=by
 rcases h with (h|⟨o,h⟩)|h
 ·exact .inl (.inl (e _ _ h))
 ·exact .inl (.inr ⟨o,e _ _ h⟩)
 ·exact .inr h
end L2
namespace L2
open PySem PySem.Spec PyProof.Rows
section
variable {X:Cx}{pins:List (Addr×Obj)}{σ:St}{H:Hp}{s:Shared}{D:Addr}{ys:List V}
theorem HOk.adds {P:Program}{w:World}{h:Heap}{o:HO} (x:HOk P w H h) (hn:H D=none) (new:ObjOk P w (upd H D o) h D o):HOk P w (upd H D o) h:=fun b u e=>by
 by_cases hb:b=D
 ·subst hb;rw[aW]at e;cases e;exact new
 ·rw[aI hb]at e;exact(x b u e).stay (fun c v _ q=>q) (fun c q=>by rw[aI (aT q hn)];exact q) fun c xs q=>by rw[aI (aT q hn)];exact q
theorem HOk.drops {P:Program}{w:World}{h:Heap} (x:HOk P w (upd H D (.lst ys)) h) (hn:H D=none):HOk P w H h:=fun b u e=>by
 have hb:b≠D:=aT e hn;refine(x b u (by rw[aI hb];exact e)).stay (fun c v _ q=>q) (fun c q=> ?_) fun c xs q=> ?_
 ·by_cases hc:c=D
  ·subst hc;rw[aW]at q;cases q
  ·rw[aI hc]at q;exact q
 ·by_cases hc:c=D
  ·subst hc;rw[aW]at q;cases q
  ·rw[aI hc]at q;exact q
theorem Inv.track {its:List Value}{n:Nat} (I:Inv X pins σ H s) (hn:H D=none) (e:s.heap.get? D=some { cls:= .type "list",data:= .seq its.toArray n }) (r:Vals ys its) (hz:ys.length<=sizeLine)
  (h0:X.s₀.heap.objs.size<=D)(h1:D≠X.env.locals)(h2:∀x c,X.env.cells.lookup x=some c->c≠D)(h3:∀p∈X.pn++pins,p.1≠D):Inv X pins σ (upd H D (.lst ys)) s where
 ok:=I.ok
 os:=I.os
 bare:=I.bare
 base:=by
  have lt:∀b o,X.s₀.heap.get? b=some o->b≠D:=fun b o q=>Nat.ne_of_lt (Nat.lt_of_lt_of_le (Heap.lt_size q) h0);refine⟨I.base.keep,I.base.slot,fun b o q n' hx=> ?_,I.base.there,fun b xs q=> ?_,fun b o u q=> ?_,fun b ps q=> ?_⟩
  ·rw[aI (lt b o q)];exact I.base.free b o q n' hx
  ·have z:=I.base.tups b xs q;rw[aI (aT z hn)];exact z
  ·have z:=I.base.frzs b o u q;rw[aI (aT z hn)];exact z
  ·obtain⟨more,z⟩:=I.base.tbls b ps q;exact⟨more,by rw[aI (aT z hn)];exact z⟩
 loc:=I.loc
 cell:=I.cell
 free:=by rw[aI (Ne.symm h1)];exact I.free
 freeC:=fun x c q=>by rw[aI (h2 x c q)];exact I.freeC x c q
 pin:=fun p hp=>by
  obtain⟨a,b,c⟩:=I.pin p hp;exact⟨a,by rw[aI (h3 p hp)];exact b,c⟩
 hok:=I.hok.adds hn ⟨hz,its,n,r,e⟩
 len:=I.len
theorem Inv.untrack (I:Inv X pins σ (upd H D (.lst ys)) s)(hn:H D=none):Inv X pins σ H s where
 ok:=I.ok
 os:=I.os
 bare:=I.bare
 base:=by
  have low:∀b u,upd H D (.lst ys) b=some u->(∀xs,u≠ .lst xs)->H b=some u:=fun b u q nl=>by
   by_cases hb:b=D
   ·subst hb;rw[aW]at q;cases q;exact absurd rfl (nl ys)
   ·rw[aI hb]at q;exact q
  refine⟨I.base.keep,I.base.slot,fun b o q n' hx=> ?_,I.base.there,fun b xs q=> ?_,fun b o u q=> ?_,fun b ps q=> ?_⟩
  ·have z:=I.base.free b o q n' hx
   by_cases hb:b=D
   ·subst hb;exact hn
   ·rw[aI hb]at z;exact z
  ·exact low _ _ (I.base.tups b xs q) (fun _ z=>by cases z)
  ·exact low _ _ (I.base.frzs b o u q) (fun _ z=>by cases z)
  ·obtain⟨more,z⟩:=I.base.tbls b ps q;exact⟨more,low _ _ z (fun _ z=>by cases z)⟩
 loc:=I.loc
 cell:=I.cell
 free:=by
  have z:=I.free
  by_cases hb:X.env.locals=D
  ·rw[hb];exact hn
  ·rw[aI hb]at z;exact z
 freeC:=fun x c q=>by
  have z:=I.freeC x c q
  by_cases hb:c=D
  ·rw[hb];exact hn
  ·rw[aI hb]at z;exact z
 pin:=fun p hp=>by
  obtain⟨a,b,c⟩:=I.pin p hp;refine⟨a,?_,c⟩
  by_cases hb:p.1=D
  ·rw[hb];exact hn
  ·rw[aI hb]at b;exact b
 hok:=I.hok.drops hn
 len:=I.len
end
def aU (X:Cx)(scope:Scope)(cl:List (Str×Addr))(N:List Str)(C:Addr)(s0:Shared)(H0:Hp)(fp:List Addr):Cx where
 prog:=X.prog
 w:=X.w
 K:=X.K
 mg:=X.mg
 base:=X.base
 A:=X.A
 N:=N
 s₀:=s0
 H₀:=H0
 env:=compEnvC scope cl C X.env
 outer:=X.stack
 stack:=X.stack
 ex:=fp
 fn:=fun _=>false
 calm:=X.calm
 pn:=[]
 xe:=fun _ _=>False
structure Blk (X:Cx)(scope:Scope)(cl:List (Str×Addr))(N:List Str)(nl:Nat)(ci:List Nat):Prop where
 kind:scope.kind= .function
 names:∀y∈scope.names,y.2= .local->scope.names.lookup y.1=some .local
 nocell:∀y∈scope.names,y.2≠ .cell
 clos:closureFor scope X.env=pure cl
 sub:∀n c,cl.lookup n=some c->X.env.cells.lookup n=some c
 has:∀n,((relabel scope X.env).names.lookup n=some .cell∨(relabel scope X.env).names.lookup n=some .free)->∃c,cl.lookup n=some c
 len:N.length=nl+ci.length
 cap:∀(j i:Nat),ci[j]? =some i->∃n,N[nl+j]? =some n/\X.N[i]? =some n/\(X.env.scope.names.lookup n=some .cell∨X.env.scope.names.lookup n=some .free) ∧
  ((relabel scope X.env).names.lookup n=some .cell∨(relabel scope X.env).names.lookup n=some .free)/\cl.lookup n=X.env.cells.lookup n
def bD (nl:Nat)(ci:List Nat)(σ:St):St:=List.replicate nl none++ci.map fun i=>(σ[i]?).join
theorem BJ {nl:Nat}{ci:List Nat}{σ:St}{k:Nat}{v:V} (h:(bD nl ci σ)[k]? =some (some v)):∃j i,k=nl+j/\ci[j]? =some i/\σ[i]? =some (some v):=by
 unfold bD at h
 by_cases hk:k<nl
 ·rw[List.getElem?_append_left (by simpa using hk),List.getElem?_replicate]at h
  split at h<;>cases h
 ·rw[List.getElem?_append_right (by simpa using hk),List.length_replicate,List.getElem?_map]at h;cases e:ci[k - nl]? with
  | none=>rw[e]at h;cases h
  | some i =>
   rw[e]at h;have h':(σ[i]?).join=some v:=by simpa using h
   refine⟨k - nl,i,by lia,e,?_⟩;cases q:σ[i]? with
   | none=>rw[q]at h';cases h'
   | some o=>rw[q]at h';simp at h';rw[h']
theorem uI {nl:Nat}{ci:List Nat}{σ:St}:(bD nl ci σ).length=nl+ci.length:=by unfold bD;simp
section
variable {X:Cx}{scope:Scope}{cl:List (Str×Addr)}{N:List Str}{nl:Nat}{ci:List Nat}{pins:List (Addr×Obj)}{σ:St}{H2:Hp}{s2:Shared}{fp:List Addr}
theorem wW (B:Blk X scope cl N nl ci)(I:Inv X pins σ H2 s2)(f2:∀b∈fp,h9 X pins H2 b)(fo:∀b∈fp,∃o,s2.heap.get? b=some o){C:Addr}{h4:Heap}{t4:Nat}{m4:Str->Option Value} (hC:s2.heap.objs.size<=C) (hns:h4.Ns C m4)
  (hk:∀b o,s2.heap.get? b=some o->h4.get? b=some o):Inv (aU X scope cl N C s2 H2 fp) [] (bD nl ci σ) H2 { s2 with heap:=h4,toks:=t4 }:=by
 have lt2:∀b∈fp,b<s2.heap.objs.size:=fun b hb=>by obtain⟨o,e⟩:=fo b hb;exact Heap.lt_size e
 have ok:(aU X scope cl N C s2 H2 fp).Ok:=by
  refine⟨I.ok.mod,B.kind,I.ok.glob,I.ok.blt,hC,fun x y c h1 h2=>I.ok.inj x y c (B.sub x c h1) (B.sub y c h2),fun x hx=>B.has x hx,fun x c hf _=>(by cases hf),I.ok.hd,I.ok.frames,.inl rfl,fun b hb=>⟨?_,?_⟩,I.bs,?_,fun b o e hb=> ?_,fun b hb z=> ?_,I.stack,I.stkFree⟩
  ·exact Nat.ne_of_lt (Nat.lt_of_lt_of_le (lt2 b hb) hC)
  ·exact fun x c h=>(f2 b hb).2.2.2.2.1 x c (B.sub x c h)
  ·exact Nat.le_trans I.ok.bsz I.sz
  ·rcases (f2 b hb).2.2.2.1 with z|z
   ·exact I.ok.noex b o e z
   ·exact absurd (Nat.lt_of_lt_of_le (Heap.lt_size e) (Nat.le_trans I.ok.bsz z)) (Nat.lt_irrefl _)
  ·rcases List.mem_cons.mp (I.stkSub b z) with q|q
   ·exact(f2 b hb).2.1 q
   ·exact(f2 b hb).2.2.1 q
 refine⟨ok,rfl,I.bare,Un.kept hk,⟨m4,hns,fun k x v e1 e2 e3=> ?_⟩,fun x c e=> ?_,I.hok.fresh hC,fun x c e=>I.freeC x c (B.sub x c e),fun p hp=>(by cases hp),I.hok.kept hk,?_⟩
 ·obtain⟨j,i,rfl,hj,hσ⟩:=BJ e2;obtain⟨n,hn1,hn2,hk1,hk2,hl⟩:=B.cap j i hj;have en:x=n:=by
   have e1':N[nl+j]? =some x:=e1;rw[hn1]at e1';exact(Option.some.inj e1').symm
  subst en;obtain⟨m,hm,hloc⟩:=I.loc;have vis:Vis X.env.scope x:= .inr hk1;obtain⟨u,ru,lk⟩:=hloc i x v hn2 hσ vis;refine⟨u,ru,.inr ⟨hk2,?_⟩⟩;rcases lk with⟨kl,_⟩|⟨_,c,ec,hc⟩
  ·have kl':X.env.scope.names.lookup x=some .local:=kl;rcases hk1 with z|z<;>· rw[z]at kl';cases kl'
  ·refine⟨c,hl.trans ec,?_⟩;obtain⟨o,ho,hd⟩:=hc;exact⟨o,hk _ _ ho,hd⟩
 ·obtain⟨v,o,ho,hd⟩:=I.cell x c (B.sub x c e);exact⟨v,o,hk _ _ ho,hd⟩
 ·show (bD nl ci σ).length=N.length;rw[uI,B.len]
theorem AG {C:Addr}{σ':St}{H':Hp}{s':Shared}{pb:List (Addr×Obj)} (I:Inv X pins σ H2 s2) (f2:∀b∈fp,h9 X pins H2 b) (J:Inv (aU X scope cl N C s2 H2 fp) pb σ' H' s'):Inv X pins σ H' s' :=
 I.call' J.os J.base J.hok J.bare fun b hb=>⟨(f2 b hb).2.2.2.1,(f2 b hb).2.1,(f2 b hb).2.2.2.2.1,(f2 b hb).2.2.2.2.2⟩
end
section
variable {prog:Program}{w:World}{A:Around}{R:Result->Shared->Prop}{s:Shared}
theorem wZ {elt target iter:Expr}{ifs:List Expr}{scope:Scope}{pos:Pos}{it acc:Value}{env:Env} (I:Nat->Shared->Prop)
  (turn:∀n s,I n s->wpAny (model prog w) A (pyNext it) (fun r s₁=>match r with
   | none=>R (.ok .next) s₁
   | some v=>wpAny (model prog w) A (letOwnedTupleGo target it v) (fun _ s₁'=>wpAny (model prog w) A (assign target env v) (fun _ s₂ =>
     wpAny (model prog w) A (forIn ifs true fun c r=>if r=true then do let ok ←isTrue c env (eval c env);pure (ForInStep.yield ok) else pure (ForInStep.yield r)) (fun ok s₃ =>
      if ok=true then wpAny (model prog w) A (eval elt env) (fun x s₄ =>
       wpAny (model prog w) A (call (.builtin "list.append") [acc,x]) (fun _ s₅=>∃m,m<n/\I m s₅) (notedBy (model prog w) A env fun e s'=>R (.error e) s') s₄) (notedBy (model prog w) A env fun e s'=>R (.error e) s') s₃
      else ∃m,m<n/\I m s₃) (notedBy (model prog w) A env fun e s'=>R (.error e) s') s₂) (notedBy (model prog w) A env fun e s'=>R (.error e) s') s₁') (notedBy (model prog w) A env fun e s'=>R (.error e) s') s₁) (notedBy (model prog w) A env fun e s'=>R (.error e) s') s)
  (n:Nat)(h:I n s) :
  codeAny (model prog w) A (.compLoop (.ListComp elt [⟨target,iter,ifs,0⟩] scope pos) 0 it acc env) R s:=by
 refine codeAny_loop rfl I (fun n s hI=> ?_) n h;show wpAny _ A ((compTurn (.ListComp elt [⟨target,iter,ifs,0⟩] scope pos) 0 it acc env).onRaise (fun x=>do noteFrame x env;theTreesLotGoes x)) _ _ s;refine wpAny_noted ?_;rw[compTurn_list];refine wpAny_bind (wpAny_standAt (wpAny_bind (wpAny_mono (turn n s hI) (fun r s₁ h₁=> ?_) fun _ _ h'=>h')));cases r with
 | none=>exact wpAny_pure h₁
 | some v =>
  refine wpAny_bind (wpAny_mono h₁ (fun _ s₁' h₁'=> ?_) fun _ _ h'=>h');refine wpAny_bind (wpAny_mono h₁' (fun _ s₂ h₂=>wpAny_bind (wpAny_mono h₂ (fun ok s₃ h₃=> ?_) fun _ _ h'=>h')) fun _ _ h'=>h');cases ok with
  | false=>exact wpAny_pure ⟨rfl,h₃⟩
  | true =>
   exact wpAny_bind (wpAny_bind (wpAny_mono h₃ (fun x s₄ h₄=>wpAny_bind (wpAny_mono h₄ (fun _ s₅ h₅=>wpAny_pure (wpAny_pure ⟨rfl,h₅⟩)) fun _ _ h'=>h')) fun _ _ h'=>h'))
end
def PF (X:Cx)(ifs:List Expr)(t:TT):Prop :=
 ∀(pins:List (Addr×Obj)) (s:Shared) (σ:St) (H:Hp) (Q:Bool->Hp->Prop),Inv X pins σ H s->t σ H Q →
  wpAny (model X.prog X.w) X.A (forIn ifs true fun c r=>if r=true then do let ok ←isTrue c X.env (eval c X.env);pure (ForInStep.yield ok) else pure (ForInStep.yield r)) (TP X pins σ Q) X.xe s
def rH:TT:=fun _ H Q=>Q true H
theorem eY {X:Cx}:PF X [] rH:=fun _ _ _ H _ I h=>wpAny_tests_nil ⟨H,I,h⟩
theorem BB {X:Cx}{c:Expr}{t:TT} (h:PT X c t):PF X [c] t:=fun pins s σ H Q I q=>wpAny_tests_one (h pins s σ H Q I q)
def dC (J:It)(g:TG)(ti:TT)(te:TE)(σ0:St)(fin:List V->Hp->Prop)(H1:Hp):Prop :=
 ∃W:Nat->Nat->List V->Hp->Prop,(∃m,W 0 m [] H1)/\∀i m ys H,W i m ys H →
  (J.stop i H/\fin ys H) ∨
  (J.go i H/\∀x H',J.yld i H x H'->g x σ0 H' fun σ2 H2=>(σ2.length=σ0.length/\∀(j:Nat) v,σ0[j]? =some (some v)->σ2[j]? =some (some v)) ∧
   ti σ2 H2 fun b H3=>if b=true then te σ2 H3 fun y H4=>ys.length<sizeLine/\∃m',m'<m/\W (i+1) m' (ys++[y]) H4 else ∃m',m'<m/\W (i+1) m' ys H3)
def zE (wi:TI)(nl:Nat)(ci:List Nat)(g:TG)(ti:TT)(te:TE):TE:=fun σ H Q =>
 wi σ H fun J H1=>dC J g ti te (bD nl ci σ) (fun ys H'=>∀p,H' p=none->Q (.ref p) (upd H' p (.lst ys))) H1
section
variable {X:Cx}{scope:Scope}{cl:List (Str×Addr)}{N:List Str}{nl:Nat}{ci:List Nat}{tg elt iter:Expr}{ifs:List Expr}{pos:Pos}{wi:TI}{g:TG}{ti:TT}{te:TE}
theorem rZ {pins:List (Addr×Obj)}{σ:St}{H2:Hp}{s2:Shared}{fp:List Addr}{it:Addr}{J:It}{tn:Nat->Heap->Prop}{E:Value->Shared->Prop}{RR:Value->Addr->Result->Shared->Prop}{fin:List V->Hp->Prop}
  (hc:X.calm=true)(B:Blk X scope cl N nl ci)(hg:∀C s0 H0 fp,PG (aU X scope cl N C s0 H0 fp) tg g)(hi:∀C s0 H0 fp,PF (aU X scope cl N C s0 H0 fp) ifs ti)(he:∀C s0 H0 fp,PE (aU X scope cl N C s0 H0 fp) elt te)
  (I2:Inv X pins σ H2 s2)(T:kY X.prog X.w X.K tg J fp it tn)(st2:tn 0 s2.heap)(f2:∀b∈fp,h9 X pins H2 b)(hW:dC J g ti te (bD nl ci σ) fin H2)
  (hfin:∀(D C:Addr) (s':Shared) (H':Hp) (ys:List V) (oC:Obj) (m:Str->Option Value),H' D=none->Inv X (pins++[(C,oC)]) σ (upd H' D (.lst ys)) s'->s'.heap.Ns C m->s2.heap.objs.size<=C->fin ys H'->RR (.ref D) C (.ok .next) s') :
  wpAny (model X.prog X.w) X.A (newList []) (fun acc s₃=>wpAny (model X.prog X.w) X.A (newFunctionEnv scope X.env.globals cl [] X.env.qual none .none (some X.env)) (fun cenv s₄ =>
   codeAny (model X.prog X.w) X.A (.compStart (.ListComp elt [⟨tg,iter,ifs,0⟩] scope pos) 0 (.ref it) acc { cenv with scope:=relabel scope X.env }) (RR acc cenv.locals) s₄) E s₃) E s2:=by
 obtain⟨W,⟨m0,w0⟩,turn⟩:=hW;refine wpAny_newObj_type (wpAny_newFunctionEnv B.nocell (by intro y hy;simp at hy) (fun h1 hns1 hsb1=> ?_) B.kind)
 dsimp only at hns1 hsb1 ⊢
 generalize hH2:s2.heap.push { cls:= .type "list",dict:=none,data:= .seq ([]:List Value).toArray }=G2 at hns1 hsb1 ⊢;have hCs:G2.objs.size=s2.heap.objs.size+1:=by rw[←hH2,Heap.size_push]
 generalize hCe:G2.objs.size=C at hns1 hsb1 hCs ⊢;have hDC:s2.heap.objs.size≠C:=by rw[hCs];exact Nat.ne_of_lt (Nat.lt_succ_self _)
 have hCle:s2.heap.objs.size<=C:=by rw[hCs];exact Nat.le_succ _
 have old:∀b o,s2.heap.get? b=some o->h1.get? b=some o:=fun b o e=>hsb1.extBut b o (by rw[hCs];exact Nat.ne_of_lt (Nat.lt_succ_of_lt (Heap.lt_size e))) (Heap.get?_push_of_some _ (hH2▸Heap.get?_push_of_some _ e));have hacc:h1.get? s2.heap.objs.size=some { cls:= .type "list",data:= .seq ([]:List Value).toArray 0 }:=hsb1.extBut _ _ hDC (Heap.get?_push_of_some _ (hH2▸Heap.get?_push_size _ rfl));have fo:∀b∈fp,∃o,s2.heap.get? b=some o:=fun b hb=>let ⟨o,e,_⟩:=T.obj 0 _ st2 b hb;⟨o,e⟩;have lt2:∀b∈fp,b<s2.heap.objs.size:=fun b hb=>let ⟨o,e⟩:=fo b hb;Heap.lt_size e;have hDfp:s2.heap.objs.size∉fp:=fun z=>Nat.lt_irrefl _ (lt2 _ z);have hCfp:C∉fp:=fun z=>Nat.lt_irrefl _ (Nat.lt_of_lt_of_le (lt2 _ z) hCle);generalize hDe:s2.heap.objs.size=D at hCs hDC hCle hacc hDfp lt2;have loop:∀s3:Shared,s3={ s2 with heap:=h1,toks:=s2.toks+([]:List (Str×Value)).length } →
   codeAny (model X.prog X.w) X.A (.compLoop (.ListComp elt [⟨tg,iter,ifs,0⟩] scope pos) 0 (.ref it) (.ref D) (compEnvC scope cl C X.env)) (RR (.ref D) C) s3:=by
  rintro s3 rfl;have I4:Inv (aU X scope cl N C s2 H2 fp) [] (bD nl ci σ) H2 { s2 with heap:=h1,toks:=s2.toks+([]:List (Str×Value)).length }:=wW B I2 f2 fo (by rw[hDe];exact hCle) hns1 old;have fpk:∀{H':Hp},(∀b∈fp,H' b=none)->∀b∈fp,h9 (aU X scope cl N C s2 H2 fp) [] H' b:=fun hn b hb =>
   ⟨hn b hb,(I4.ok.exf b hb).1,I4.ok.exfs b hb,.inl hb,(I4.ok.exf b hb).2,fun p hp=>by cases hp⟩
  have hDX:∀x c,(aU X scope cl N C s2 H2 fp).env.cells.lookup x=some c->c≠D:=fun x c e=>by
   obtain⟨v,o,ho,_⟩:=I2.cell x c (B.sub x c e);rw[←hDe];exact Nat.ne_of_lt (Heap.lt_size ho)
  have hDL:D≠(aU X scope cl N C s2 H2 fp).env.locals:=hDC;have hDf:D∉(aU X scope cl N C s2 H2 fp).fs:=fun z=>by
   rcases List.mem_cons.mp (I2.stkSub D z) with q|q
   ·exact Nat.lt_irrefl _ (by have:=I2.lt;rw[hDe,←q]at this;exact this)
   ·exact I2.nofs (by rw[hDe];exact Nat.le_refl _) q
  refine wZ (fun n s'=>∃i ys its k H',W i n ys H'/\Inv (aU X scope cl N C s2 H2 fp) [] (bD nl ci σ) H' s'/\tn i s'.heap/\(∀b∈fp,H' b=none)/\H' D=none ∧
   s'.heap.get? D=some { cls:= .type "list",data:= .seq its.toArray k }/\Vals ys its/\ys.length<=sizeLine) ?_ m0 ?_
  ·rintro n s' ⟨i,ys,its,k,H',w',I',st',fr',hD',eD,rv,hz⟩;have IP:Inv (aU X scope cl N C s2 H2 fp) [(D,{ cls:= .type "list",data:= .seq its.toArray k })] (bD nl ci σ) H' s':=I'.pins_of fun p hp=>by
    obtain rfl:p=_:=by simpa using hp
    exact⟨eD,hD',hDL,hDf,fun v z=>by cases z⟩
   have fpD:∀{H'':Hp},(∀b∈fp,H'' b=none)->∀b∈fp,h9 (aU X scope cl N C s2 H2 fp) [(D,{ cls:= .type "list",data:= .seq its.toArray k })] H'' b:=fun hn b hb =>
    ⟨hn b hb,(I4.ok.exf b hb).1,I4.ok.exfs b hb,.inl hb,(I4.ok.exf b hb).2,fun p hp=>by
     obtain rfl:p=_:=by simpa [aU] using hp
     exact fun z=>hDfp ((show D=b from z)▸hb)⟩
   rcases turn i n ys H' w' with⟨stop,q⟩|⟨go,step⟩
   ·refine thn (T.done (aU X scope cl N C s2 H2 fp) rfl rfl rfl hc i _ s' (bD nl ci σ) H' _ IP (fpD fr') st' stop) fun r s'' ⟨hr,I''⟩=> ?_;subst hr;have eD2:=(I''.pin (D,_) (List.mem_append_right _ List.mem_cons_self)).1;have J1:Inv (aU X scope cl N C s2 H2 fp) [] (bD nl ci σ) (upd H' D (.lst ys)) s'' :=
     (I''.pins_of (pins':=[]) fun p hp=>by cases hp).track hD' eD2 rv hz (by show s2.heap.objs.size<=D;rw[hDe];exact Nat.le_refl _) hDL hDX fun p hp=>by cases hp
    have K1:Inv X pins σ (upd H' D (.lst ys)) s'':=AG I2 f2 J1;obtain⟨mC,nsC,_⟩:=J1.loc;obtain⟨oC,es,ep,hoC,hdC,rC⟩:=id nsC;refine hfin D C s'' H' ys oC mC hD' (K1.pins_of fun p hp=> ?_) nsC (by rw[hDe];exact hCle) q;rcases List.mem_append.mp hp with hp|hp
    ·exact K1.pin p (List.mem_append_right _ hp)
    ·obtain rfl:p=(C,oC):=by simpa using hp
     refine⟨hoC,J1.free,Nat.ne_of_gt (Nat.lt_of_lt_of_le I2.lt (by rw[hDe];exact hCle)),I2.nofs (by rw[hDe];exact hCle),fun v z=> ?_⟩;rw[hdC]at z;cases z
   ·refine thn (T.item (aU X scope cl N C s2 H2 fp) rfl rfl rfl hc i _ s' (bD nl ci σ) H' _ IP (fpD fr') st' go) fun r s4 ⟨u,hr,h4⟩=> ?_;subst hr;refine thn h4 fun _ s5 ⟨x,H5,I5,r5,y5,st5,fr5⟩=> ?_;have I5':=I5.pinned (fpD fr5) (T.obj _ _ st5);refine wpAny_mono (hg C s2 H2 fp _ s5 (bD nl ci σ) H5 x u _ I5' r5 (step x H5 y5)) (fun _ s6 ⟨σ6,H6,I6,⟨hl6,hk6⟩,q6⟩=> ?_) fun _ _ f=>f.elim;refine wpAny_mono (hi C s2 H2 fp _ s6 σ6 H6 _ I6 q6) (fun b s7 ⟨H7,I7,q7⟩=> ?_) fun _ _ f=>f.elim;have pinD:∀{pp:List (Addr×Obj)}{σx:St}{Hx:Hp}{sx:Shared},Inv (aU X scope cl N C s2 H2 fp) ([(D,({ cls:= .type "list",data:= .seq its.toArray k }:Obj))]++iN fp s5.heap) σx Hx sx →
      sx.heap.get? D=some { cls:= .type "list",data:= .seq its.toArray k }/\Hx D=none/\tn (i+1) sx.heap/\(∀b∈fp,Hx b=none):=fun {pp σx Hx sx} Ix=>by
     refine⟨(Ix.pin (D,_) (List.mem_append_right _ (List.mem_append_left _ List.mem_cons_self))).1,(Ix.pin (D,_) (List.mem_append_right _ (List.mem_append_left _ List.mem_cons_self))).2.1,T.keep _ _ _ st5 fun b hb o e=>(Ix.pin (b,o) (List.mem_append_right _ (List.mem_append_right _ (gO hb e)))).1,fun b hb=> ?_⟩;obtain⟨o,e,d⟩:=T.obj _ _ st5 b hb;exact(Ix.pin (b,o) (List.mem_append_right _ (List.mem_append_right _ (gO hb e)))).2.1
    cases b with
    | false =>
     rw[if_neg Bool.false_ne_true]at q7 ⊢;obtain⟨m',hm',w7⟩:=q7;obtain⟨e7,n7,st7,fr7⟩:=pinD (pp:=[]) I7;exact⟨m',hm',i+1,ys,its,k,H7,w7,(I7.pins_of (pins':=[]) fun p hp=>by cases hp).weak hl6.symm hk6,st7,fr7,n7,e7,rv,hz⟩
    | true =>
     rw[if_pos rfl]at q7 ⊢;refine wpAny_mono (he C s2 H2 fp _ s7 σ6 H7 _ I7 q7) (fun y' s8 ⟨y,H8,I8,r8,hlt,m',hm',w8⟩=> ?_) fun _ _ f=>f.elim;obtain⟨e8,n8,st8,fr8⟩:=pinD (pp:=[]) I8;have I8f:Inv (aU X scope cl N C s2 H2 fp) (iN fp s5.heap) σ6 H8 s8:=I8.pins_of fun p hp=>I8.pin p (List.mem_append_right _ (List.mem_append_right _ hp));have I8t:=I8f.track n8 e8 rv hz (by show s2.heap.objs.size<=D;rw[hDe];exact Nat.le_refl _) hDL hDX fun p hp=>by
      have hp':p∈iN fp s5.heap:=by simpa [aU] using hp
      exact fun z=>hDfp (z▸(tI hp').1)
     refine wpAny_mono (eN (X:=aU X scope cl N C s2 H2 fp) (iN fp s5.heap) s8 σ6 _ (.ref D) [y] (.ref D) [y'] (fun _ H9=>H9=upd H8 D (.lst (ys++[y]))) I8t rfl (.cons r8 .nil)
      ⟨D,ys,y,rfl,rfl,aW,hlt,HX⟩) (fun _ s9 ⟨_,H9,I9,_,e9⟩=> ?_) fun _ _ f=>f.elim
     subst e9;obtain⟨hz9,its9,k9,rv9,e9⟩:=I9.hok D _ aW;have I9u:=I9.untrack n8;refine⟨m',hm',i+1,ys++[y],its9,k9,H8,w8,(I9u.pins_of (pins':=[]) fun p hp=>by cases hp).weak hl6.symm hk6,?_,fr8,n8,e9,rv9,hz9⟩;exact T.keep _ _ _ st5 fun b hb o e=>(I9u.pin (b,o) (List.mem_append_right _ (gO hb e))).1
  ·exact⟨0,[],[],0,H2,w0,I4,T.keep _ _ _ st2 fun b hb o e=>old b o e,fun b hb=>(f2 b hb).1,I2.hok.fresh (by rw[hDe];exact Nat.le_refl _),hacc,.nil,Nat.zero_le _⟩
 exact codeAny_compStart_list (loop _ rfl) (T.self _ 0 _ _ _ (T.keep _ _ _ st2 fun b hb o e=>old b o e) (loop _ rfl))
theorem fB (hc:X.calm=true)(B:Blk X scope cl N nl ci)(hp:PI X tg iter wi)(hg:∀C s0 H0 fp,PG (aU X scope cl N C s0 H0 fp) tg g)(hi:∀C s0 H0 fp,PF (aU X scope cl N C s0 H0 fp) ifs ti)
  (he:∀C s0 H0 fp,PE (aU X scope cl N C s0 H0 fp) elt te)(hs:∀x,foldedSetIterable iter X.env x=pure x:=by intro _;rfl):PE X (.ListComp elt [⟨tg,iter,ifs,0⟩] scope pos) (zE wi nl ci g ti te):=by
 intro pins s σ H Q I h;rw[eval_ListComp];refine wpAny_comprehension_free (use:=none) rfl hs B.clos B.kind B.names (thn (hp pins s σ H _ I h) fun v s1 h1=>thn h1 fun itv s2 h2=> ?_);obtain⟨it,fp,tn,J,H2,e,I2,T,st2,f2,hW⟩:=h2;subst e;refine rZ (RR:=fun acc C=>compPost (model X.prog X.w) X.A X.xe none (EP X pins σ Q) acc C) hc B hg hi he I2 T st2 f2 hW ?_;intro D C s' H' ys oC m hD K1 hn hC q;refine⟨m,hn,fun h' hs'=> ?_⟩;have hL:C≠X.env.locals:=(K1.pin (C,oC) (by simp)).2.2.1;have I9:Inv X pins σ (upd H' D (.lst ys)) { s' with heap:=h',toks:=s'.toks }:=K1.unpinned.turned (t':=s'.toks) (it:=C) (fun b o hb e=>hs'.extBut b o hb e) (K1.pin (C,oC) (by simp)).2.1 hL (.inr (Nat.le_trans I2.sz hC)) (fun x c e z=> ?_) fun p hp z=> ?_
 ·exact⟨.ref D,_,I9,rfl,q D hD⟩
 ·obtain⟨v,o,ho,_⟩:=I2.cell x c e;exact absurd (Nat.lt_of_lt_of_le (Heap.lt_size ho) (z▸hC)) (Nat.lt_irrefl _)
 ·exact absurd (Nat.lt_of_lt_of_le (Heap.lt_size (I2.pin p hp).1) (z▸hC)) (Nat.lt_irrefl _)
theorem i7 {i:Nat}{x:Str}{pos' spos:Pos} (hN:X.N.Nodup) (hix:X.N[i]? =some x) (hx:Loc X.env.scope x) (hc:X.calm=true) (B:Blk X scope cl N nl ci) (hp:PI X tg iter wi) (hg:∀C s0 H0 fp,PG (aU X scope cl N C s0 H0 fp) tg g)
  (hi:∀C s0 H0 fp,PF (aU X scope cl N C s0 H0 fp) ifs ti)(he:∀C s0 H0 fp,PE (aU X scope cl N C s0 H0 fp) elt te)
  (hsw:swapsWith (.ListComp elt [⟨tg,iter,ifs,0⟩] scope pos) (some (.Name x pos')) spos.line X.env=pure true:=by rfl)(hs:∀x,foldedSetIterable iter X.env x=pure x:=by intro _;rfl)
  (hf:X.fn x=true∨X.env.scope.names.lookup x=some .local:=by first|exact .inl rfl|exact .inr rfl|assumption) :
  PS X (.Assign [.Name x pos'] (.ListComp elt [⟨tg,iter,ifs,0⟩] scope pos) spos) (EA (zE wi nl ci g ti te) (bC i)):=by
 intro pins s σ H D I h;rw[exec_Assign_Name_used _ _ _ _ hsw];refine wpAny_bind (wpAny_standAt (wpAny_bind ?_));show wpAny _ X.A (do let _ ←comprehension (.ListComp elt [⟨tg,iter,ifs,0⟩] scope pos) scope X.env _ (newList []) false (eval iter X.env) (some (assign (.Name x pos') X.env))) _ _ s;refine wpAny_bind (wpAny_mono (wpAny_comprehension_free (use:=some (assign (.Name x pos') X.env)) (Q:=fun _ s'=>SP X pins D .next s') rfl hs B.clos B.kind B.names
  (thn (hp pins s σ H _ I h) fun v s1 h1=>thn h1 fun itv s2 h2=> ?_)) (fun _ s' hq=>wpAny_pure (wpAny_pure hq)) fun _ _ e=>e)
 obtain⟨it,fp,tn,J,H2,e,I2,T,st2,f2,hW⟩:=h2;subst e;refine rZ (RR:=fun acc C=>compPost (model X.prog X.w) X.A X.xe (some (assign (.Name x pos') X.env)) (fun _ s'=>SP X pins D .next s') acc C) hc B hg hi he I2 T st2 f2 hW ?_;intro Dd C s' H' ys oC m hD K1 hn hC q;show wpAny _ X.A (assign (.Name x pos') X.env (.ref Dd)) _ _ _;refine thn (aJ (i:=i) hN hix hx hf (pins++[(C,oC)]) s' σ (upd H' Dd (.lst ys)) (.ref Dd) (.ref Dd) (fun σ' H''=>D.nx σ' H'') K1 rfl (q Dd hD)) fun _ s'' ⟨σ',H'',K2,q2⟩=> ?_;have eC:=K2.pin (C,oC) (by simp);obtain⟨oC',es,ep,hoC,hdC,rC⟩:=id hn;have eo:oC'=oC:=by
  have:=(K1.pin (C,oC) (by simp)).1;rw[hoC]at this;exact Option.some.inj this
 subst eo;refine⟨m,⟨oC',es,ep,eC.1,hdC,rC⟩,fun h' hs'=> ?_⟩;have hL:C≠X.env.locals:=eC.2.2.1;have I9:Inv X pins σ' H'' { s'' with heap:=h',toks:=s''.toks }:=K2.unpinned.turned (t':=s''.toks) (it:=C) (fun b o hb e=>hs'.extBut b o hb e) eC.2.1 hL (.inr (Nat.le_trans I2.sz hC)) (fun x c e z=> ?_) fun p hp z=> ?_
 ·exact⟨σ',H'',I9,q2⟩
 ·obtain⟨v,o,ho,_⟩:=I2.cell x c e;exact absurd (Nat.lt_of_lt_of_le (Heap.lt_size ho) (z▸hC)) (Nat.lt_irrefl _)
 ·exact absurd (Nat.lt_of_lt_of_le (Heap.lt_size (I2.pin p hp).1) (z▸hC)) (Nat.lt_irrefl _)
end
end L2
namespace L2
open PySem PySem.Spec PyProof.Rows
def Its (x:Str):It:=⟨fun i _=>i<x.cps.size,fun i H v H'=>H'=H/\∃c,x.cps[i]? =some c/\v= .str ⟨#[c]⟩,fun i _=>i=x.cps.size⟩
theorem vD {P:Program}{w:World}{K:PySem.W.Frag}{tg:Expr} (it:Addr) (x:Str) (t:Tok) (ty:String)
  (hty:["enumerate","zip","dict_itemiterator","dict_reverseitemiterator","odict_iterator","itertools.zip_longest","itertools.pairwise"].contains ty=false)
  (W:∀A':Around,A'.handled=none->Walks P w A' it [it] [it] x.cps.size (SignAt x) (fun i h=>h.IsStrIter it ty x t i))
  (hself:∀(A:Around) (i:Nat) (s:Shared) (Q:Value->Shared->Prop) (E:Value->Shared->Prop),s.heap.IsStrIter it ty x t i->Q (.ref it) s->wpAny (model P w) A (pyIter (.ref it)) Q E s) :
  kY P w K tg (Its x) [it] it (fun i h=>h.IsStrIter it ty x t i) where
 mem:=by simp
 obj:=fun i h st b hb=>by
  have e:b=it:=by simpa using hb
  subst e;obtain⟨o,e,c,d⟩:=st;exact⟨o,e,fun v z=>by rw[d]at z;cases z⟩
 keep:=fun i h h' st k=>let ⟨o,ho,r⟩:=st;⟨o,k it (by simp) o ho,r⟩
 item:=by
  intro X hP hw hK hc i pins s σ H E I hf st hg;subst hP hw hK;obtain⟨f0,f1,f2,f3,f4,f5⟩:=hf it (by simp);refine(W X.A (I.ok.hd hc)).item i s _ _ hg st fun v h' tk hv st' kk=> ?_;obtain⟨c,u,hc',rfl⟩:=hv;have I1:Inv X pins σ H { s with heap:=h',toks:=tk }:=I.turned (fun b o hb e=>kk b o (by simpa using hb) e) f0 f1 f3 f4 f5;obtain⟨o,e,c1,d⟩:=id st';exact⟨_,rfl,z5 (s:={ s with heap:=h',toks:=tk }) e c1 d hty ⟨.str ⟨#[c]⟩,H,I1,⟨u,rfl⟩,⟨rfl,c,hc',rfl⟩,st',fun b hb=>(hf b hb).1⟩⟩
 done:=by
  intro X hP hw hK hc i pins s σ H E I hf st hg;subst hP hw hK;obtain⟨f0,f1,f2,f3,f4,f5⟩:=hf it (by simp);have e:i=x.cps.size:=hg;subst e;exact(W X.A (I.ok.hd hc)).done s _ _ st fun h' tk kk=>⟨rfl,I.turned (fun b o hb e=>kk b o (by simpa using hb) e) f0 f1 f3 f4 f5⟩
 self:=hself
def QD (tl:TE):TI:=fun σ H R=>tl σ H fun x H1=>∃z,x= .str z/\R (Its z) H1
theorem LK {X:Cx}{tg l:Expr}{tl:TE} (hl:PE X l tl):PI X tg l (QD tl):=by
 intro pins s σ H R I h;refine thn (hl pins s σ H _ I h) fun v s1 ⟨x,H1,I1,rx,z,ez,q⟩=> ?_;subst ez;obtain⟨t,rfl⟩:=rx;cases ha:z.cps.all (·<128)
 ·refine wpAny_pyIter_wide ha ⟨s1.heap.objs.size,[s1.heap.objs.size],_,Its z,H1,rfl,I1.kept (t':=s1.toks) fun b u e=>Heap.get?_push_of_some _ e,vD _ z t "str_iterator" (by decide) (fun A' hA=>Walks.strWide hA _ z t) (fun _ _ _ _ _ st h=>wpAny_pyIter_striter_wide st h),⟨_,Heap.get?_push_size _ rfl,rfl,rfl⟩,fun b hb=> ?_,q⟩;have e:b=s1.heap.objs.size:=by simpa using hb
  subst e;exact I1.fpOk (Nat.le_refl _) (I1.hok.fresh (Nat.le_refl _))
 ·refine wpAny_pyIter_ascii ha ⟨s1.heap.objs.size,[s1.heap.objs.size],_,Its z,H1,rfl,I1.kept (t':=s1.toks) fun b u e=>Heap.get?_push_of_some _ e,vD _ z t "str_ascii_iterator" (by decide) (fun A' hA=>Walks.strAscii hA _ z t) (fun _ _ _ _ _ st h=>wpAny_pyIter_striter_ascii st h),⟨_,Heap.get?_push_size _ rfl,rfl,rfl⟩,fun b hb=> ?_,q⟩;have e:b=s1.heap.objs.size:=by simpa using hb
  subst e;exact I1.fpOk (Nat.le_refl _) (I1.hok.fresh (Nat.le_refl _))
theorem JL {J:It}{g:TG}{ti:TT}{te:TE}{σ0:St}{fin:List V->Hp->Prop}{H1:Hp} (n:Nat) (f:Nat->V) (hn:n<=sizeLine) (Ok:Hp->Prop) (h0:Ok H1)
  (hst:∀H,Ok H->J.stop n H)(hgo:∀i H,i<n->Ok H->J.go i H)
  (hstep:∀i H x H',i<n->Ok H->J.yld i H x H'->g x σ0 H' fun σ2 H2=>(σ2.length=σ0.length/\∀(j:Nat) v,σ0[j]? =some (some v)->σ2[j]? =some (some v))/\ti σ2 H2 fun b H3=>b=true/\te σ2 H3 fun y H4=>y=f i/\Ok H4)
  (mono:∀σ H (Q Q':Bool->Hp->Prop),(∀b H',Q b H'->Q' b H')->ti σ H Q->ti σ H Q')(mono2:∀σ H (Q Q':VK),(∀b H',Q b H'->Q' b H')->te σ H Q->te σ H Q')(mono3:∀x σ H (Q Q':St->Hp->Prop),(∀σ' H',Q σ' H'->Q' σ' H')->g x σ H Q->g x σ H Q')
  (hfin:∀H,Ok H->fin ((List.range n).map f) H):dC J g ti te σ0 fin H1:=by
 refine⟨fun i m ys H=>m=n - i/\i<=n/\ys=(List.range i).map f/\Ok H,⟨n,by simp,Nat.zero_le _,rfl,h0⟩,?_⟩;rintro i m ys H ⟨rfl,hi,rfl,ok⟩
 by_cases hlt:i<n
 ·refine .inr ⟨hgo i H hlt ok,fun x H' y=> ?_⟩;refine mono3 _ _ _ _ _ (fun σ' H'' q=>⟨q.1,mono _ _ _ _ (fun b H3 q=> ?_) q.2⟩) (hstep i H x H' hlt ok y);obtain⟨rfl,q⟩:=q;rw[if_pos rfl];refine mono2 _ _ _ _ (fun v H4 q=> ?_) q;obtain⟨rfl,ok4⟩:=q;refine⟨by rw[List.length_map,List.length_range];lia,n - (i+1),by lia,rfl,hlt,?_,ok4⟩;rw[List.range_succ,List.map_append];rfl
 ·have e:i=n:=by lia
  subst e;exact .inl ⟨hst H ok,hfin H ok⟩
section
variable {X:Cx}
theorem t8:∀bs:List Bool,(List.range bs.length).all (fun i=>bs.getD i true)=bs.all id
 | []=>rfl
 | b::bs=>by
  rw[List.length_cons,List.range_succ_eq_map,List.all_cons,List.all_map,List.all_cons,←t8 bs];rfl
theorem qS (hc:X.calm=true):d9 X (.builtin "all") (fun xs H Q=>∃(p:Addr) (bs:List Bool),xs=[.ref p]/\SqL X.K H p (bs.map V.bl)/\Q (.bl (bs.all id)) H):=by
 intro pins s σ H xs us Q I r h;obtain⟨p,bs,rfl,hq,q⟩:=h;obtain⟨u,rfl,rx⟩:=j5 r;cases rx;obtain⟨its,r',pl,hz⟩:=I.list hq;have hl:=pl.isList;have hlt:p<s.heap.objs.size:=by obtain⟨_,e,_⟩:=hl;exact Heap.lt_size e
 have hlen:bs.length=its.length:=by have:=r'.length;rw[List.length_map]at this;exact this
 refine call_all_walk (wpAny_pyIter_list hl ?_);refine⟨s.heap.objs.size,_,_,its.toArray.size,_,_,fun i=>bs.getD i true,rfl,Walks.list (show X.A.in1.handled=none from I.ok.hd hc) s.heap.objs.size p (Nat.ne_of_lt hlt) its.toArray,⟨⟨_,Heap.get?_push_size _ rfl,rfl,rfl⟩,hl.push _⟩,?_,?_⟩
 ·intro i v s' Q' E' hi hQ;have hi':its[i]? =some v:=by simpa using hi
  have hib:i<bs.length:=by rw[hlen];exact(List.getElem?_eq_some_iff.mp hi').1
  obtain⟨u,hu,ru⟩:=r'.get (i:=i) (x:=V.bl bs[i]) (by rw[List.getElem?_map,List.getElem?_eq_getElem hib];rfl);rw[hi']at hu;cases hu;have:v=Value.bool bs[i]:=ru;subst this;refine wpAny_truthy_bool ?_;have eb:bs.getD i true=bs[i]:=by rw[List.getD_eq_getElem?_getD,List.getElem?_eq_getElem hib];rfl
  have hQ':Q' (bs.getD i true) s':=hQ;rw[eb]at hQ';exact hQ'
 ·intro h' tk hk;have eall:(List.range its.toArray.size).all (fun i=>bs.getD i true)=bs.all id:=by
   rw[List.size_toArray,←hlen];exact t8 bs
  rw[eall];refine⟨.bl (bs.all id),H,?_,rfl,q⟩;have I1:Inv X pins σ H { s with heap:=s.heap.push { cls:= .type "list_iterator",data:= .fields #[.ref p,.int 0 0] },toks:=s.toks }:=I.kept fun b u e=>Heap.get?_push_of_some _ e;obtain⟨f0,f1,f2,f3,f4,f5⟩:=I.fpOk (Nat.le_refl _) (I.hok.fresh (Nat.le_refl _));exact I1.turned (fun b o hb e=>hk b o (by simpa using hb) e) f0 f1 f3 f4 f5
theorem wY:d9 X (.builtin "isinstance") (fun xs H Q=>∃x c t u b,xs=[x,c]/\gB X.K H x t/\RelV c u/\PySem.W.kitOne X.K t u=some b/\Q (.bl b) H):=by
 intro pins s σ H xs us Q I r h;obtain⟨x,c,t,u,b,rfl,ty,rc,e,q⟩:=h;obtain⟨v1,v2,rfl,r1,r2⟩:=OH r;have e2:v2=u:=by
  cases c with
  | non=>exact(show v2=_ from r2).trans (show u=_ from rc).symm
  | bl b=>exact(show v2=_ from r2).trans (show u=_ from rc).symm
  | ref b=>exact(show v2=_ from r2).trans (show u=_ from rc).symm
  | ty b=>exact(show v2=_ from r2).trans (show u=_ from rc).symm
  | int i =>
   obtain⟨t1,rfl⟩:=(show ∃t,u=_ from rc)
   cases ty<;>simp[PySem.W.kitOne,PySem.W.kitCls]at e
  | str i =>
   obtain⟨t1,rfl⟩:=(show ∃t,u=_ from rc)
   cases ty<;>simp[PySem.W.kitOne,PySem.W.kitCls]at e
  | byt i =>
   obtain⟨t1,rfl⟩:=(show ∃t,u=_ from rc)
   cases ty<;>simp[PySem.W.kitOne,PySem.W.kitCls]at e
  | flt i =>
   obtain⟨t1,rfl⟩:=(show ∃t,u=_ from rc)
   cases ty<;>simp[PySem.W.kitOne,PySem.W.kitCls]at e
 subst e2;exact CO I r1 ty e fun tk=>⟨.bl b,H,I.tok tk,rfl,q⟩
theorem CP:OpR X (compareOp .LtE) (fun x y H Q=>∃i j,x= .str i/\y= .str j/\Q (.bl (!decide (j.cps.toList<i.cps.toList))) H):=by
 intro pins s σ H x y v u Q I rx ry h;obtain⟨i,j,rfl,rfl,q⟩:=h;obtain⟨t,rfl⟩:=rx;obtain⟨t',rfl⟩:=ry;exact P.le_str ⟨.bl _,H,I,rfl,q⟩
theorem pY {v:Value}{o:Option Int} (p:IsPart v o):∃l:Option (Int×Tok),v=partValue l/\o=l.map (·.1):=by
 cases p with
 | none=>exact⟨none,rfl,rfl⟩
 | int i u=>exact⟨some (i,u),rfl,rfl⟩
def NB:V->Option Int->Option Int->Hp->VK->Prop:=fun x lo hi H Q=>∃z,x= .str z/\z.length<=sizeLine/\Q (.str (Txt.slice z lo hi)) H
theorem qA:SlR X NB:=by
 intro pins s σ H x v vl vu lo hi sl Q I rx hs pl pu h;obtain⟨z,rfl,hz,q⟩:=h;obtain⟨t,rfl⟩:=rx;obtain⟨l,rfl,rfl⟩:=pY pl;obtain⟨u,rfl,rfl⟩:=pY pu;refine⟨"str",_,F.slot_str_getitem.lookup,typeIs_str _ _ _,?_⟩;exact wpAny_getItem_str_slice (l:=l) (u:=u) (st:=none) hs rfl (post_val_or_str ⟨Nat.le_trans (Txt.slice_le z _ _) hz,fun t' k=>⟨.str _,H,I.tok k,⟨t',rfl⟩,q⟩⟩)
end
end L2
namespace L2
open PySem PySem.Spec PyProof.Rows
def GX (xs:List (Str×NameKind))(XN:List Str)(ns:List (Str×NameKind))(N:List Str)(nl:Nat)(ci:List Nat):Bool :=
 (ns.all fun y=>y.2 != .cell&&(y.2 != .local||ns.lookup y.1==some .local)&&(y.2 != .free||(xs.lookup y.1==some .cell&&ns.lookup y.1==some .free))) &&
 (N.length==nl+ci.length) &&
 (List.range ci.length).all fun j=>match ci[j]?,N[nl+j]? with
  | some i,some n=>XN[i]? ==some n&&xs.lookup n==some .cell&&ns.lookup n==some .free
  | _,_=>false
def kT (ns:List (Str×NameKind))(cs:List (Str×Addr)):List (Str×Addr)->List (Str×Addr)
 | acc=>ns.foldl (fun acc y=>if y.2== .free then (y.1,(cs.lookup y.1).getD 0)::acc else acc) acc
theorem lN {env:Env}:∀(ns:List (Str×NameKind)) (acc:List (Str×Addr)),(∀y∈ns,y.2= .free->∃c,env.cells.lookup y.1=some c) →
  (forIn ns acc fun x r=>(do
   let (name,kind):=x
   if (kind==NameKind.free)=true then do
     let c ←cellOf env name
     pure (ForInStep.yield ((name,c)::r))
    else pure (ForInStep.yield r)):Sem (List (Str×Addr)))=pure (kT ns env.cells acc)
 | [],acc,_=>rfl
 | (n,k)::r,acc,h=>by
  have ih:=fun acc=>lN r acc fun y hy=>h y (List.mem_cons_of_mem _ hy);rw[List.forIn_cons]
  by_cases hk:k= .free
  ·subst hk;obtain⟨c,e⟩:=h (n,.free) List.mem_cons_self rfl;have e1:cellOf env n=pure c:=by unfold cellOf;rw[e]
   simp only[beq_self_eq_true,if_true,e1];show (forIn r ((n,c)::acc) _:Sem (List (Str×Addr)))=_;rw[ih];show _=pure (kT ((n,NameKind.free)::r) env.cells acc);simp only[kT,List.foldl_cons,beq_self_eq_true,if_true,e,Option.getD_some]
  ·have hb:(k==NameKind.free)=false:=by simpa using hk
   simp only[hb,Bool.false_eq_true,if_false];show (forIn r acc _:Sem (List (Str×Addr)))=_;rw[ih];simp only[kT,List.foldl_cons,hb,Bool.false_eq_true,if_false]
theorem fV {cs:List (Str×Addr)}:∀(ns:List (Str×NameKind)) (acc:List (Str×Addr)) (n:Str),(∀y∈ns,y.2= .free->∃c,cs.lookup y.1=some c) →
  ((n,NameKind.free)∈ns∨acc.lookup n=cs.lookup n)->(∀c,acc.lookup n=some c->cs.lookup n=some c)->(kT ns cs acc).lookup n=cs.lookup n
 | [],acc,n,_,h,_=>by
  rcases h with h|h
  ·cases h
  ·exact h
 | (m,k)::r,acc,n,hc,h,hs=>by
  have hc':∀y∈r,y.2= .free->∃c,cs.lookup y.1=some c:=fun y hy=>hc y (List.mem_cons_of_mem _ hy);show (kT r cs (if k== .free then (m,(cs.lookup m).getD 0)::acc else acc)).lookup n=cs.lookup n
  by_cases hk:k= .free
  ·subst hk;obtain⟨c,e⟩:=hc (m,.free) List.mem_cons_self rfl;simp only[beq_self_eq_true,if_true,e,Option.getD_some]
   by_cases hm:n=m
   ·subst hm;have q:List.lookup n ((n,c)::acc)=some c:=by simp[List.lookup_cons]
    exact fV r _ n hc' (.inr (q.trans e.symm)) fun c' z=>by rw[q]at z;cases z;exact e
   ·have hb:(n==m)=false:=by simpa using hm
    have q:List.lookup n ((m,c)::acc)=acc.lookup n:=by simp[List.lookup_cons,hb]
    refine fV r _ n hc' ?_ fun c' z=>hs c' (q▸z);rcases h with h|h
    ·rcases List.mem_cons.mp h with z|z
     ·cases z;exact absurd rfl hm
     ·exact .inl z
    ·exact .inr (q.trans h)
  ·have hb:(k==NameKind.free)=false:=by simpa using hk
   simp only[hb,Bool.false_eq_true,if_false];refine fV r _ n hc' ?_ hs;rcases h with h|h
   ·rcases List.mem_cons.mp h with z|z
    ·cases z;exact absurd rfl hk
    ·exact .inl z
   ·exact .inr h
theorem uM {cs:List (Str×Addr)}:∀(ns:List (Str×NameKind)) (acc:List (Str×Addr)),(∀y∈ns,y.2= .free->∃c,cs.lookup y.1=some c) →
  (∀n c,acc.lookup n=some c->cs.lookup n=some c)->∀n c,(kT ns cs acc).lookup n=some c->cs.lookup n=some c
 | [],acc,_,hs,n,c,h=>hs n c h
 | (m,k)::r,acc,hc,hs,n,c,h=>by
  have hc':∀y∈r,y.2= .free->∃c,cs.lookup y.1=some c:=fun y hy=>hc y (List.mem_cons_of_mem _ hy);have h':(kT r cs (if k== .free then (m,(cs.lookup m).getD 0)::acc else acc)).lookup n=some c:=h;refine uM r _ hc' ?_ n c h';intro n' c' z
  by_cases hk:k= .free
  ·subst hk;obtain⟨d,e⟩:=hc (m,.free) List.mem_cons_self rfl;simp only[beq_self_eq_true,if_true,e,Option.getD_some]at z
   by_cases hm:n'=m
   ·subst hm;simp[List.lookup_cons]at z;subst z;exact e
   ·have hb:(n'==m)=false:=by simpa using hm
    simp[List.lookup_cons,hb]at z;exact hs n' c' z
  ·have hb:(k==NameKind.free)=false:=by simpa using hk
   simp only[hb,Bool.false_eq_true,if_false]at z;exact hs n' c' z
theorem g6 {env:Env}(hkf:env.scope.kind= .function):∀{names:List (Str×NameKind)}{x:Str},names.lookup x=some .free->env.kindOf x=some .cell →
  (names.map fun (n,k)=>if (k==NameKind.free&&env.scope.kind== .function&&env.kindOf n==some .cell) then (n,NameKind.cell) else (n,k)).lookup x=some .cell
 | [],_,h,_=>by simp at h
 | (n,k)::r,x,h,hc=>by
  show List.lookup x ((if (k==NameKind.free&&env.scope.kind== .function&&env.kindOf n==some .cell)=true then (n,NameKind.cell) else (n,k))::_)=_;cases hx:x==n with
  | true =>
   simp only[List.lookup_cons,hx]at h;cases h;have e:x=n:=by simpa using hx
   subst e;rw[hkf,hc];simp[List.lookup_cons]
  | false =>
   simp only[List.lookup_cons,hx]at h;have ih:=g6 hkf h hc
   split
   ·simp only[List.lookup_cons,hx];exact ih
   ·simp only[List.lookup_cons,hx];exact ih
theorem fG {env:Env}:∀{names:List (Str×NameKind)}{x:Str}{k':NameKind},(∀y∈names,y.2≠ .cell)->(k'= .cell∨k'= .free) →
  (names.map fun (n,k)=>if (k==NameKind.free&&env.scope.kind== .function&&env.kindOf n==some .cell) then (n,NameKind.cell) else (n,k)).lookup x=some k'->(x,NameKind.free)∈names
 | [],_,_,_,_,h=>by simp at h
 | (n,k)::r,x,k',hn,hk',h=>by
  have h':List.lookup x ((if (k==NameKind.free&&env.scope.kind== .function&&env.kindOf n==some .cell)=true then (n,NameKind.cell) else (n,k))::r.map _)=some k':=h;cases hx:x==n with
  | true =>
   have e:x=n:=by simpa using hx
   subst e
   by_cases hf:k= .free
   ·subst hf;exact List.mem_cons_self
   ·have hb:(k==NameKind.free)=false:=by simpa using hf
    simp only[hb,Bool.false_and,Bool.false_eq_true,if_false,List.lookup_cons,hx]at h';cases h';rcases hk' with z|z
    ·exact absurd z (hn (x,k) List.mem_cons_self)
    ·exact absurd z hf
  | false =>
   have h2:List.lookup x (r.map fun (n,k)=>if (k==NameKind.free&&env.scope.kind== .function&&env.kindOf n==some .cell) then (n,NameKind.cell) else (n,k))=some k':=by
    split at h'
    ·simp only[List.lookup_cons,hx]at h';exact h'
    ·simp only[List.lookup_cons,hx]at h';exact h'
   exact List.mem_cons_of_mem _ (fG (fun y hy=>hn y (List.mem_cons_of_mem _ hy)) hk' h2)
theorem blk {X:Cx}{scope:Scope}{N:List Str}{nl:Nat}{ci:List Nat} (n0:Nat) (hX:X.env.cells=cellsFrom n0 X.env.scope.names []) (hkf:X.env.scope.kind= .function) (hk:scope.kind= .function)
  (h:GX X.env.scope.names X.N scope.names N nl ci=true):Blk X scope (kT scope.names X.env.cells []) N nl ci:=by
 unfold GX at h;rw[Bool.and_eq_true,Bool.and_eq_true]at h;obtain⟨⟨h1,h2⟩,h3⟩:=h;rw[List.all_eq_true]at h1;have h1':∀y∈scope.names,y.2≠ .cell/\(y.2= .local->scope.names.lookup y.1=some .local)/\(y.2= .free->X.env.scope.names.lookup y.1=some .cell/\scope.names.lookup y.1=some .free):=fun y hy=>by
  have q:=h1 y hy;simp only[Bool.and_eq_true,Bool.or_eq_true,bne_iff_ne,ne_eq,beq_iff_eq]at q;obtain⟨⟨q1,q2⟩,q3⟩:=q;exact⟨q1,fun e=>q2.resolve_left fun z=>z e,fun e=>q3.resolve_left fun z=>z e⟩
 have hcs:∀y∈scope.names,y.2= .free->∃c,X.env.cells.lookup y.1=some c:=fun y hy e=>by
  rw[hX];exact o7 ((h1' y hy).2.2 e).1
 refine⟨hk,fun y hy=>(h1' y hy).2.1,fun y hy=>(h1' y hy).1,?_,?_,?_,by simpa using h2,?_⟩
 ·unfold closureFor;refine(congrArg (fun m:Sem (List (Str×Addr))=>m >>= fun cs=>pure cs) (lN scope.names [] hcs)).trans ?_;rfl
 ·exact uM scope.names [] hcs fun n c z=>by cases z
 ·intro n hn;have hm:(n,NameKind.free)∈scope.names:=by
   rcases hn with z|z
   ·exact fG (fun y hy=>(h1' y hy).1) (.inl rfl) z
   ·exact fG (fun y hy=>(h1' y hy).1) (.inr rfl) z
  obtain⟨c,e⟩:=hcs _ hm rfl;exact⟨c,(fV scope.names [] n hcs (.inl hm) fun c z=>by cases z).trans e⟩
 ·intro j i hj;have hjl:j<ci.length:=(List.getElem?_eq_some_iff.mp hj).1;rw[List.all_eq_true]at h3;have q:=h3 j (List.mem_range.mpr hjl);rw[hj]at q;cases e:N[nl+j]? with
  | none=>rw[e]at q;cases q
  | some n =>
   rw[e]at q;simp only[Bool.and_eq_true,beq_iff_eq]at q;obtain⟨⟨q1,q2⟩,q3⟩:=q;refine⟨n,rfl,q1,.inl q2,.inl (g6 hkf q3 q2),?_⟩;exact fV scope.names [] n hcs (.inl (PySem.mem_of_lookup q3)) fun c z=>by cases z
structure Fc (P:Program)(w:World)(K:PySem.W.Frag)(mg:Str->Option Value)(base:Heap)(x:Str)(k:Nat)(ps:List Str)(sp:Sp):Prop where
 ex:∃f fd,mg x=some (.ref f)/\PySem.W.keepIn K (.ref f)=true/\Binds K fd ps []/\bK P w K mg base CX0 k f fd ps sp
theorem bI {X:Cx}{x:Str}{k k':Nat}{ps:List Str}{sp:Sp}{e:Expr}{es:List Expr}{t:TA}{p pos:Pos} (F:Fc X.prog X.w X.K X.mg X.base x k ps sp) (hr:Room k' X.A) (ha:PA X (e::es) t) (hk:k<=k':=by decide) (hg:Gl X x:=by rfl)
  (hdb:(x==("__debug__" :Str))=false:=by decide)(he:starEach (e::es) X.env=(false,eval e X.env)::starEach es X.env:=by rfl)(hpl:(backTo pos (starEach es X.env)).any (·.1)=false:=by rfl) :
  PE X (.Call (.Name x p) (e::es) [] pos) (t0 sp [] E0 t):=by
 obtain⟨f,fd,hm,kp,b,G⟩:=F.ex;exact HV G (hr.mono hk) hg hm kp b .nil yL ha hdb he hpl
theorem tZ {X:Cx}{x:Str}{n:String}{pos:Pos} (hg:Gl X x) (hm:X.mg x=none) (hv:bootBuiltins x=some (.type n)) (hn:x≠ "__name__" :=by decide) (hd:(x==("__debug__" :Str))=false:=by decide):PE X (.Name x pos) (tC (.ty n)):=HI hg hm hv rfl hn hd
theorem IN {X:Cx}{x:Str}{i:Int}{t:Tok}{pos:Pos} (hg:Gl X x) (hm:X.mg x=some (.int i t)) (hd:(x==("__debug__" :Str))=false:=by decide):PE X (.Name x pos) (tC (.int i)):=IE hg hm ⟨t,rfl⟩ hd
theorem fX:bootBuiltins "isinstance" =some (.builtin "isinstance"):=by decide +kernel
theorem NY:bootBuiltins "all" =some (.builtin "all"):=by decide +kernel
theorem gI:bootBuiltins "len" =some (.builtin "len"):=by decide +kernel
theorem LR:bootBuiltins "int" =some (.type "int"):=by decide +kernel
theorem K3:bootBuiltins "str" =some (.type "str"):=by decide +kernel
theorem IW:bootBuiltins "bool" =some (.type "bool"):=by decide +kernel
theorem xU:bootBuiltins "list" =some (.type "list"):=by decide +kernel
theorem HD:bootBuiltins "dict" =some (.type "dict"):=by decide +kernel
inductive BTy (K:PySem.W.Frag)(H:Hp):V->String->Prop where
 | non:BTy K H .non "NoneType"
 | bl (x:Bool):BTy K H (.bl x) "bool"
 | int (i:Int):BTy K H (.int i) "int"
 | str (x:Str):BTy K H (.str x) "str"
 | lst {a:Addr}{xs:List V} (e:H a=some (.lst xs)):BTy K H (.ref a) "list"
 | tup {a:Addr}{xs:List V} (e:H a=some (.tup xs)):BTy K H (.ref a) "tuple"
 | dK {a:Addr}{kvs:List (Key×V)} (e:H a=some (.dK kvs)):BTy K H (.ref a) "dict"
theorem BTy.ty {K:PySem.W.Frag}{H:Hp}{x:V}{n:String} (b:BTy K H x n):gB K H x (.type n):=by
 cases b with
 | non=>exact .non
 | bl=>exact .bl _
 | int=>exact .int _
 | str=>exact .str _
 | lst e=>exact .lst e
 | tup e=>exact .tup e
 | dK e=>exact .dK e
def isB (n c:String):Bool:=n==c||(n== "bool" &&c== "int")
theorem zL {K:PySem.W.Frag}{H:Hp}{x:V}{n:String} (b:BTy K H x n) (c:String) (hc:c= "int" ∨c= "bool" ∨c= "str"):PySem.W.kitOne K (.type n) (.type c)=some (isB n c):=by
 cases b<;>rcases hc with rfl|rfl|rfl<;>kernel_rfl
end L2
namespace L2
open PySem PySem.Spec PyProof.Rows
theorem AV {J:It}{te:TE}{σ0:St}{fin:List V->Hp->Prop}{H1:Hp} (n:Nat) (Ok:Nat->List V->Hp->Prop) (hn:n<=sizeLine) (h00:σ0[0]? =some none) (h0:Ok 0 [] H1) (hlen:∀i ys H,Ok i ys H->ys.length<=i)
  (hst:∀ys H,Ok n ys H->J.stop n H/\fin ys H)(hstep:∀i ys H,i<n->Ok i ys H->J.go i H/\∀x H',J.yld i H x H'->∀R:VK,(∀y H4,Ok (i+1) (ys++[y]) H4->R y H4)->te (σ0.set 0 (some x)) H' R):dC J (bC 0) rH te σ0 fin H1:=by
 refine⟨fun i m ys H=>m=n - i/\i<=n/\Ok i ys H,⟨n,by simp,Nat.zero_le _,h0⟩,?_⟩;rintro i m ys H ⟨rfl,hi,ok⟩
 by_cases hlt:i<n
 ·obtain⟨go,st⟩:=hstep i ys H hlt ok;refine .inr ⟨go,fun x H' y=>⟨⟨by simp,fun j v hv=> ?_⟩,?_⟩⟩
  ·cases j with
   | zero=>rw[h00]at hv;cases hv
   | succ j=>rw[List.getElem?_set_ne (by lia)];exact hv
  ·unfold rH
   dsimp only
   rw[if_pos rfl];exact st x H' y _ fun z H4 ok4=>⟨by have:=hlen i ys H ok;lia,n - (i+1),by lia,rfl,hlt,ok4⟩
 ·have e:i=n:=by lia
  subst e;exact .inl (hst ys H ok)
theorem yM {lo:Int}{n:Nat}{te:TE}{σ0:St}{fin:List V->Hp->Prop}{H1:Hp} (Ok:Nat->List V->Hp->Prop) (hn:n<=sizeLine) (h00:σ0[0]? =some none) (h0:Ok 0 [] H1) (hlen:∀i ys H,Ok i ys H->ys.length<=i) (hfin:∀ys H,Ok n ys H->fin ys H)
  (hstep:∀i ys H,i<n->Ok i ys H->∀R:VK,(∀y H4,Ok (i+1) (ys++[y]) H4->R y H4)->te (σ0.set 0 (some (.int (lo+i)))) H R):dC (Itr lo n) (bC 0) rH te σ0 fin H1 :=
 AV n Ok hn h00 h0 hlen (fun ys H ok=>⟨Nat.le_refl _,hfin ys H ok⟩) fun i ys H hi ok=>⟨hi,fun x H' y=>by
  obtain⟨e1,e2⟩:=y;subst e1 e2;exact hstep i ys _ hi ok⟩
section
variable {X:Cx}
theorem E7 {x:V}(h:pZ x=true):eqV x x=true:=by
 cases x<;>first|rfl|(simp[eqV];done)|exact absurd h Bool.false_ne_true
theorem kZ (n:Nat):(List.range n).all (fun _=>true)=true:=by simp
end
structure FunV (K:PySem.W.Frag)(x qual:Str)(st:Stmt)(f:Addr)(fd:FuncData):Prop where
 ex:∃(oc:Value) (od:Option Addr) (dV kV doc pm:Value) (an:Option Addr) (cdv ct:Value) (osl:Array (Option Value)),
  fd=PySem.W.fnOf x qual (aL st) (aK st) (aB st) dV kV doc pm an cdv ct/\K.lookup f=some ⟨oc,od,.func fd,osl⟩/\PySem.W.codeIn K cdv qual=true
 kp:PySem.W.keepIn K (.ref f)=true
section
variable {P:Program}{w:World}{K:PySem.W.Frag}{mg:Str->Option Value}{base:Heap}
theorem FunV.ok {x qual:Str}{st:Stmt}{f:Addr}{fd:FuncData}{N ps:List Str}{k:Nat}{sp:Sp} (F:FunV K x qual st f fd) (S:bA N ps (aB st)) (len:∀vs H Q E,sp vs H Q E->vs.length=ps.length)
  (hbody:∀(cdv:Value) (A:Around) (outer:List Env) (s:Shared) (H:Hp) (vs:List V) (Q:VK) (E:XK),Room k (A.deeper (envOfC qual (aB st) s.heap.objs.size f cdv))->sp vs H Q E →
   ∃t,PSs (rF CX0 P w K mg base N qual (aB st) f cdv A outer s H E).nox (aK st) t/\t { nx:=fun _ H'=>Q .non H',rt:=Q } (iK N vs) H):bK P w K mg base CX0 (k+1) f fd ps sp:=by
 obtain⟨oc,od,dV,kV,doc,pm,an,cdv,ct,osl,rfl,lk,hcd⟩:=F.ex;refine OQ lk hcd S len fun A outer s H vs Q E hr h=> ?_;obtain⟨t,h1,h2⟩:=hbody cdv A outer s H vs Q E hr h;exact⟨t,PSs.nox h1,h2⟩
theorem aQ {x qual:Str}{st:Stmt}{f:Addr}{oc:Value}{od an:Option Addr}{osl:Array (Option Value)}{dV kV doc pm cdv ct:Value} (l:K.lookup f=some ⟨oc,od,.func (PySem.W.fnOf x qual (aL st) (aK st) (aB st) dV kV doc pm an cdv ct),osl⟩) (c:PySem.W.codeIn K cdv qual=true)
  (k:PySem.W.keepIn K (.ref f)=true):FunV K x qual st f (PySem.W.fnOf x qual (aL st) (aK st) (aB st) dV kV doc pm an cdv ct):=⟨⟨oc,od,dV,kV,doc,pm,an,cdv,ct,osl,rfl,l,c⟩,k⟩
structure Mc (P:Program)(w:World)(K:PySem.W.Frag)(mg:Str->Option Value)(base:Heap)(C:Addr)(nm:Str)(k:Nat)(sp:Sp):Prop where
 ex:∃f fd ps,Cls K C/\fR K C nm f/\Binds K fd ps []/\bK P w K mg base CX0 k f fd ps sp
structure Kc (P:Program)(w:World)(K:PySem.W.Frag)(mg:Str->Option Value)(base:Heap)(x:Str)(C:Addr)(k:Nat)(dvs:List V)(sp:Sp):Prop where
 ex:∃f fd ps ds,mg x=some (.ref C)/\Mk K C f/\Vals dvs ds/\Binds K fd ps ds/\bK P w K mg base CX0 k f fd ps sp
end
section
variable {X:Cx}{k k':Nat}{sp:Sp}{x m:Str}{p pos apos:Pos}{e o:Expr}{es:List Expr}{ta:TE}{t:TA}{C:Addr}{dvs:List V}
def tMD (M:Addr->Sp->Prop)(m:Str)(ta:TE)(t:TA):TE:=fun σ H Q=>ta σ H fun x H1=>∃a C dx fs sp,x= .ref a/\H1 a=some (.ins C dx fs)/\fs.lookup m=none/\M C sp/\t σ H1 fun vs H2=>sp (x::vs) H2 Q E0
theorem M0 (k:Nat){pl:Sem Bool}(hr:Room k' X.A)(ho:PE X o ta)(hk:k<=k':=by decide)
  (ht:eval (.Call (.Attribute o m apos) [] [] pos) X.env=(do
   let ov ←eval o X.env
   standAt apos.atName
   let (f,first) ←holding [ov] (getMethod ov m pl)
   callWith pos f first (backTo pos (starEach [] X.env)) (backToKw pos (keywordEach [] X.env))):=by rfl) :
  PE X (.Call (.Attribute o m apos) [] [] pos) (tMD (fun C sp=>Mc X.prog X.w X.K X.mg X.base C m k sp) m ta FK):=by
 intro pins s σ H Q I h;refine PySem.W.methodCall_KW (pl:=pl) (thn (ho pins s σ H _ I h) fun u s1 ⟨x,H1,I1,rx,a,C,dx,fs,sp,ex,ea,l,M,q⟩=> ?_) ht;subst ex;obtain rfl:u=Value.ref a:=rx;obtain⟨f,fd,ps,c,hm,hb,F⟩:=M.ex;refine yO I1 ea c hm l ?_;exact PySem.W.callWith_K0 (first:=[.ref a]) I1.kIn hm.kp (AT (us:=[.ref a]) (vs:=[.ref a]) (dvs:=[]) F (hr.mono hk) hb .nil yL I1 (.cons rfl .nil) q)
theorem GS (F:Kc X.prog X.w X.K X.mg X.base x C k dvs sp)(hr:Room k' X.A)(ha:PA X (e::es) t)(hk:k+1<=k':=by decide)(hg:Gl X x:=by rfl)
  (hdb:(x==("__debug__" :Str))=false:=by decide)(he:starEach (e::es) X.env=(false,eval e X.env)::starEach es X.env:=by rfl)(hpl:(backTo pos (starEach es X.env)).any (·.1)=false:=by rfl) :
  PE X (.Call (.Name x p) (e::es) [] pos) (y3 C sp dvs E0 t):=by
 obtain⟨f,fd,ps,ds,hm,M,hd,hb,G⟩:=F.ex;exact J5 M G (hr.mono hk) hg hm hb hd yL ha hdb he hpl
end
end L2
namespace L2
open PySem PySem.Spec PyProof.Rows
def GI:R2:=fun x y H Q=>∃i j,x= .str i/\y= .str j/\i.length+j.length<=sizeLine/\Q (.str (i++j)) H
def L4:R2:=fun x y H Q=>y= .non/\Q (.bl (decide (x= .non))) H
def zG:R2:=fun x y H Q=>y= .non/\Q (.bl (!decide (x= .non))) H
def QM:R2:=fun x y H Q=>∃i j,x= .str i/\y= .str j/\Q (.bl (!decide (j.cps.toList<i.cps.toList))) H
def MT (K:PySem.W.Frag):List V->Hp->VK->Prop:=fun xs H Q=>∃x c t u b,xs=[x,c]/\gB K H x t/\RelV c u/\PySem.W.kitOne K t u=some b/\Q (.bl b) H
def QF (K:PySem.W.Frag):List V->Hp->VK->Prop:=fun xs H Q=>∃(p:Addr) (bs:List Bool),xs=[.ref p]/\SqL K H p (bs.map V.bl)/\Q (.bl (bs.all id)) H
def GL:List V->Hp->VK->Prop:=fun xs H Q=>∃z,xs=[.str z]/\z.length<=sizeLine/\Q (.int z.length) H
def GJ (K:PySem.W.Frag):List V->Hp->VK->Prop:=fun xs H Q=>∃p ys,xs=[.ref p]/\(SqL K H p ys∨SqT K H p ys)/\Q (.int ys.length) H
def qU (K:PySem.W.Frag):List V->Hp->VK->Prop:=fun xs H Q=>∃p ys,xs=[.ref p]/\(SqL K H p ys∨SqT K H p ys)/\∀l,H l=none->Q (.ref l) (upd H l (.lst ys))
section
variable {X:Cx}
theorem xY:OpR X (binaryOp .Add) GI:=zH
theorem LT:OpR X (compareOp .Is) L4:=LG
theorem nS:OpR X (compareOp .IsNot) zG:=HP
theorem A2:OpR X (compareOp .LtE) QM:=CP
theorem lE:d9 X (.builtin "isinstance") (MT X.K):=wY
theorem FJ (hc:X.calm=true):d9 X (.builtin "all") (QF X.K):=qS hc
theorem tD:d9 X (.builtin "len") GL:=u8
theorem fM:d9 X (.builtin "len") (GJ X.K):=u6
theorem yR:d9 X (.type "list") (qU X.K):=uO
theorem xO {i j:Int}(n:Int){k1 k2 p1 p2 pos}(h:i^j.toNat=n)(c:MG i j):PE X (.BinOp (.Constant (.int i) k1 p1) .Pow (.Constant (.int j) k2 p2) pos) (tC (.int n)):=by
 subst h;intro pins s σ H Q I q;exact aN NV aE aE pins s σ H Q I ⟨i,j,rfl,rfl,c,q⟩
end
def zZ (P:Bool->Hp->Prop):VK:=fun x H=>∃k,x= .bl k/\P k H
def NZ (O:Option Int->Hp->Prop):VK:=fun x H=>∃i,x= .int i/\O (some i) H
def NO (Q:VK):List V->Hp->Prop:=fun xs H=>xs.length<=sizeLine/\∀p,H p=none->Q (.ref p) (upd H p (.lst xs))
def LA (Q:VK):List V->Hp->Prop:=fun xs H=>xs.length<=sizeLine/\∀p,H p=none->Q (.ref p) (upd H p (.tup xs))
def MC (Q:VK):List V->Hp->Prop:=fun ys H=>∀p,H p=none->Q (.ref p) (upd H p (.lst ys))
def MO (K:PySem.W.Frag)(f:Str)(Q:VK):VK:=fun x H=>∃a C dx fs v,x= .ref a/\H a=some (.ins C dx fs)/\Cls K C/\NoAttr K C f/\fs.lookup f=some v/\Q v H
def G5 (K:PySem.W.Frag)(f:Str)(y:V)(q:Hp->Prop):VK:=fun x H=>∃a C dx fs,x= .ref a/\H a=some (.ins C dx fs)/\Cls K C/\NoAttr K C f/\fs.length<1000/\q (upd H a (.ins C dx (cB f y fs)))
def MdP (M:Addr->Sp->Prop)(m:Str)(t:TA)(σ:St)(Q:VK):VK:=fun x H=>∃a C dx fs sp,x= .ref a/\H a=some (.ins C dx fs)/\fs.lookup m=none/\M C sp/\t σ H fun vs H2=>sp (x::vs) H2 Q E0
def tW (C:Addr)(sp:Sp)(dvs:List V)(E:XK)(Q:VK):List V->Hp->Prop:=fun vs H1=>∀x dx,H1 x=none->H1 dx=none->dx≠x →
 sp (.ref x::(vs++dvs)) (upd (upd H1 dx (.own x)) x (.ins C dx [])) (fun v H2=>v= .non/\Q (.ref x) H2) E
def BmP (K:PySem.W.Frag)(T:String)(r:V->List V->Hp->VK->Prop)(t:TA)(σ:St)(Q:VK):VK:=fun x H1=>tyV K T x H1/\t σ H1 fun xs H2=>r x xs H2 Q
def L8 (K:PySem.W.Frag)(R:It->Hp->Prop):VK:=fun x H1=>∃a,x= .ref a/\(∃xs,SqL K H1 a xs)/\R (Itl K a) H1
def ML (R:It->Hp->Prop):List V->Hp->Prop:=fun vs H1=>∃j:Int,vs=[.int j]/\ -(2^62)<=j/\j<2^62/\R (Itr 0 j.toNat) H1
section
variable {nx bk ct:St->Hp->Prop}{rt:VK}{σ:St}{H:Hp}{Q:VK}{t u:TS}{te ta tb tc:TE}{g:TG}{c d:TT}{v:V}{K:PySem.W.Frag}{E:XK}
theorem ND (h:t ⟨u ⟨nx,rt,bk,ct⟩,rt,bk,ct⟩ σ H):zU t u ⟨nx,rt,bk,ct⟩ σ H:=h
theorem DT {v:TS}(h:zU (yU c t u) v ⟨nx,rt,bk,ct⟩ σ H):zU (yU c t u) v ⟨nx,rt,bk,ct⟩ σ H:=h
theorem HB (h:nx σ H):GZ ⟨nx,rt,bk,ct⟩ σ H:=h
theorem MA (h:te σ H fun x H1=>g x σ H1 nx):EA te g ⟨nx,rt,bk,ct⟩ σ H:=h
theorem MV (h:te σ H rt):K7 te ⟨nx,rt,bk,ct⟩ σ H:=h
theorem IF (h:te σ H fun _ H1=>nx σ H1):GP te ⟨nx,rt,bk,ct⟩ σ H:=h
theorem O4 (h:c σ H fun b H1=>if b=true then t ⟨nx,rt,bk,ct⟩ σ H1 else u ⟨nx,rt,bk,ct⟩ σ H1):yU c t u ⟨nx,rt,bk,ct⟩ σ H:=h
def qR (J:It)(g:TG)(tb:TS)(D:j8)(σ:St)(H:Hp):Prop :=
 ∃W:Nat->Nat->St->Hp->Prop,(∃m,W 0 m σ H)/\∀i m σ H,W i m σ H →
  (J.stop i H/\D.nx σ H)∨(J.go i H/\∃N:St->Hp->Prop,(∀σ' H',N σ' H'->∃m',m'<m/\W (i+1) m' σ' H')/\∀x H',J.yld i H x H'->g x σ H' fun σ2 H2=>tb { D with nx:=N,ct:=N,bk:=D.nx } σ2 H2)
theorem LI {wi:TI}{tb:TS} (h:wi σ H fun J H1=>qR J g tb ⟨nx,rt,bk,ct⟩ σ H1):NH wi g tb ⟨nx,rt,bk,ct⟩ σ H:=h
theorem O9 {l:St}(h:Q v H):fF 0 (some v::l) H Q:=⟨v,rfl,h⟩
theorem OY {a0}{l:St} (h:Q v H):fF 1 (a0::some v::l) H Q:=⟨v,rfl,h⟩
theorem PD {a0 a1}{l:St} (h:Q v H):fF 2 (a0::a1::some v::l) H Q:=⟨v,rfl,h⟩
theorem OT {a0 a1 a2}{l:St} (h:Q v H):fF 3 (a0::a1::a2::some v::l) H Q:=⟨v,rfl,h⟩
theorem OO {a0 a1 a2 a3}{l:St} (h:Q v H):fF 4 (a0::a1::a2::a3::some v::l) H Q:=⟨v,rfl,h⟩
theorem PN {a0 a1 a2 a3 a4}{l:St} (h:Q v H):fF 5 (a0::a1::a2::a3::a4::some v::l) H Q:=⟨v,rfl,h⟩
theorem OZ {a0 a1 a2 a3 a4 a5}{l:St} (h:Q v H):fF 6 (a0::a1::a2::a3::a4::a5::some v::l) H Q:=⟨v,rfl,h⟩
theorem PZ {a0 a1 a2 a3 a4 a5 a6}{l:St} (h:Q v H):fF 7 (a0::a1::a2::a3::a4::a5::a6::some v::l) H Q:=⟨v,rfl,h⟩
theorem O3 {a0 a1 a2 a3 a4 a5 a6 a7}{l:St} (h:Q v H):fF 8 (a0::a1::a2::a3::a4::a5::a6::a7::some v::l) H Q:=⟨v,rfl,h⟩
theorem OP {a0 a1 a2 a3 a4 a5 a6 a7 a8}{l:St} (h:Q v H):fF 9 (a0::a1::a2::a3::a4::a5::a6::a7::a8::some v::l) H Q:=⟨v,rfl,h⟩
theorem LU {a0 a1 a2 a3 a4 a5 a6 a7 a8 a9}{l:St} (h:Q v H):fF 10 (a0::a1::a2::a3::a4::a5::a6::a7::a8::a9::some v::l) H Q:=⟨v,rfl,h⟩
theorem NS {a0 a1 a2 a3 a4 a5 a6 a7 a8 a9 a10 a11}{l:St} (h:Q v H):fF 12 (a0::a1::a2::a3::a4::a5::a6::a7::a8::a9::a10::a11::some v::l) H Q:=⟨v,rfl,h⟩
variable {q:St->Hp->Prop}
theorem O8 {a0 a}{l:St} (h:q (a0::some v::l) H):bC 1 v (a0::a::l) H q:=h
theorem O1 {a0 a1 a}{l:St} (h:q (a0::a1::some v::l) H):bC 2 v (a0::a1::a::l) H q:=h
theorem P1 {a0 a1 a2 a}{l:St} (h:q (a0::a1::a2::some v::l) H):bC 3 v (a0::a1::a2::a::l) H q:=h
theorem OG {a0 a1 a2 a3 a}{l:St} (h:q (a0::a1::a2::a3::some v::l) H):bC 4 v (a0::a1::a2::a3::a::l) H q:=h
theorem PV {a0 a1 a2 a3 a4 a}{l:St} (h:q (a0::a1::a2::a3::a4::some v::l) H):bC 5 v (a0::a1::a2::a3::a4::a::l) H q:=h
theorem ON {a0 a1 a2 a3 a4 a5 a}{l:St} (h:q (a0::a1::a2::a3::a4::a5::some v::l) H):bC 6 v (a0::a1::a2::a3::a4::a5::a::l) H q:=h
theorem O6 {a0 a1 a2 a3 a4 a5 a6 a}{l:St} (h:q (a0::a1::a2::a3::a4::a5::a6::some v::l) H):bC 7 v (a0::a1::a2::a3::a4::a5::a6::a::l) H q:=h
theorem PX {a0 a1 a2 a3 a4 a5 a6 a7 a}{l:St} (h:q (a0::a1::a2::a3::a4::a5::a6::a7::some v::l) H):bC 8 v (a0::a1::a2::a3::a4::a5::a6::a7::a::l) H q:=h
theorem PM {a0 a1 a2 a3 a4 a5 a6 a7 a8 a}{l:St} (h:q (a0::a1::a2::a3::a4::a5::a6::a7::a8::some v::l) H):bC 9 v (a0::a1::a2::a3::a4::a5::a6::a7::a8::a::l) H q:=h
theorem NT {a0 a1 a2 a3 a4 a5 a6 a7 a8 a9 a}{l:St} (h:q (a0::a1::a2::a3::a4::a5::a6::a7::a8::a9::some v::l) H):bC 10 v (a0::a1::a2::a3::a4::a5::a6::a7::a8::a9::a::l) H q:=h
theorem LN {a0 a1 a2 a3 a4 a5 a6 a7 a8 a9 a10 a}{l:St} (h:q (a0::a1::a2::a3::a4::a5::a6::a7::a8::a9::a10::some v::l) H):bC 11 v (a0::a1::a2::a3::a4::a5::a6::a7::a8::a9::a10::a::l) H q:=h
theorem LP {a0 a1 a2 a3 a4 a5 a6 a7 a8 a9 a10 a11 a}{l:St} (h:q (a0::a1::a2::a3::a4::a5::a6::a7::a8::a9::a10::a11::some v::l) H):bC 12 v (a0::a1::a2::a3::a4::a5::a6::a7::a8::a9::a10::a11::a::l) H q:=h
theorem QN (h:Q v H):tC v σ H Q:=h
theorem PQ {r:R2}(h:ta σ H fun x H1=>tb σ H1 fun y H2=>r x y H2 Q):tOp r ta tb σ H Q:=h
theorem O7 {r:V->Hp->VK->Prop}(h:ta σ H fun x H1=>r x H1 Q):tUn r ta σ H Q:=h
theorem PY {f:Int->Int->V}{i j:Int} (h:Q (f i j) H):rI0 f (.int i) (.int j) H Q:=⟨i,j,rfl,rfl,h⟩
theorem QO {f:Int->V}{i:Int} (h:Q (f i) H):rU f (.int i) H Q:=⟨i,rfl,h⟩
theorem LB {f:Int->Int->V}{i j:Int} (h0:0<j) (h1:j<1073741824) (h:Q (f i j) H):rI M9 f (.int i) (.int j) H Q:=⟨i,j,rfl,rfl,⟨h0,h1⟩,h⟩
theorem MB {f:Int->Int->V}{i j:Int} (h0:0<j) (h:Q (f i j) H):rI (fun _ j=>0<j) f (.int i) (.int j) H Q:=⟨i,j,rfl,rfl,h0,h⟩
theorem IB {f:Int->Int->V}{i j:Int} (h0: -18446744073709551616<i) (h1:i<18446744073709551616) (h:Q (f i j) H):rI CMul f (.int i) (.int j) H Q:=⟨i,j,rfl,rfl,.inl ⟨by lia,by lia⟩,h⟩
theorem JA {f:Int->Int->V}{i j:Int} (h0: -18446744073709551616<j) (h1:j<18446744073709551616) (h:Q (f i j) H):rI CMul f (.int i) (.int j) H Q:=⟨i,j,rfl,rfl,.inr ⟨by lia,by lia⟩,h⟩
theorem PU {i j:Str}:decide (V.str i=V.str j)=decide (i=j):=by simp
theorem LJ {i j:Str}(h:Q (.bl (decide (i=j))) H):rEq (.str i) (.str j) H Q:=⟨rfl,by rw[PU];exact h⟩
theorem IA (h:Q (.bl (decide (v= .non))) H):L4 v .non H Q:=⟨rfl,h⟩
theorem JW (h:Q (.bl false) H):zG .non .non H Q:=⟨rfl,h⟩
theorem IJ {i:Str}(h:Q (.bl true) H):zG (.str i) .non H Q:=⟨rfl,by rw[decide_eq_false (fun z=>by cases z)];exact h⟩
theorem IX {i j:Str}(hl:i.length+j.length<=sizeLine)(h:Q (.str (i++j)) H):GI (.str i) (.str j) H Q:=⟨i,j,rfl,rfl,hl,h⟩
theorem HR {sp:Sp}{t:TA} (h:t σ H fun vs H1=>sp vs H1 Q E):t0 sp [] E t σ H Q:=by
 unfold t0;simp only[List.append_nil];exact h
theorem PP {r:List V->Hp->VK->Prop}{t:TA} (h:t σ H fun vs H1=>r vs H1 Q):tCB r t σ H Q:=h
theorem LQ {t:TA}(h:t σ H (NO Q)):L7 t σ H Q:=h
theorem MK {t:TA}(h:t σ H (LA Q)):MN t σ H Q:=h
theorem eK {o:HO}{R:V->Hp->Prop} (h:∀p H',H p=none->Same H H'->H' p=some o->R (.ref p) H'):∀p,H p=none->R (.ref p) (upd H p o) :=
 fun p hp=>h p _ hp (fun b u e=>by rw[aI (aT e hp)];exact e) aW
theorem JO {xs:List V}(hn:xs.length<=sizeLine)(h:∀p H',H p=none->Same H H'->H' p=some (.lst xs)->Q (.ref p) H'):NO Q xs H:=⟨hn,eK h⟩
theorem JK {xs:List V}(hn:xs.length<=sizeLine)(h:∀p H',H p=none->Same H H'->H' p=some (.tup xs)->Q (.ref p) H'):LA Q xs H:=⟨hn,eK h⟩
theorem IK {xs:List V}(h:∀p H',H p=none->Same H H'->H' p=some (.lst xs)->Q (.ref p) H'):MC Q xs H:=eK h
theorem M4 {f:Str}(h:ta σ H (MO K f Q)):D3 K ta f σ H Q:=h
theorem JH {a C dx:Addr}{fs:List (Str×V)}{f:Str} (e:H a=some (.ins C dx fs)) (cl:Cls K C) (na:NoAttr K C f) (l:fs.lookup f=some v) (h:Q v H):MO K f Q (.ref a) H:=⟨a,C,dx,fs,v,rfl,e,cl,na,l,h⟩
theorem HF {f:Str}(h:ta σ H fun y H1=>tb σ H1 (G5 K f y (nx σ))):L1 K tb ta f ⟨nx,rt,bk,ct⟩ σ H:=h
theorem EY {a C dx:Addr}{fs:List (Str×V)}{f:Str}{y:V}{w:Hp->Prop} (e:H a=some (.ins C dx fs)) (cl:Cls K C) (na:NoAttr K C f) (l:decide (fs.length<1000)=true)
  (h:∀H',(∀b o,H b=some o->b≠a->H' b=some o)->H' a=some (.ins C dx (cB f y fs))->w H'):G5 K f y w (.ref a) H :=
 ⟨a,C,dx,fs,rfl,e,cl,na,of_decide_eq_true l,h _ (fun b o q hb=>by rw[aI hb];exact q) aW⟩
theorem P0 {M:Addr->Sp->Prop}{m:Str}{t:TA} (h:ta σ H (MdP M m t σ Q)):tMD M m ta t σ H Q:=h
theorem M8 {M:Addr->Sp->Prop}{m:Str}{t:TA}{a C dx:Addr}{fs:List (Str×V)}{sp:Sp} (e:H a=some (.ins C dx fs)) (l:fs.lookup m=none) (F:M C sp) (h:t σ H fun vs H2=>sp (.ref a::vs) H2 Q E0):MdP M m t σ Q (.ref a) H :=
 ⟨a,C,dx,fs,sp,rfl,e,l,F,h⟩
theorem HA {C:Addr}{sp:Sp}{dvs:List V}{t:TA} (h:t σ H (tW C sp dvs E Q)):y3 C sp dvs E t σ H Q:=h
theorem E3 {C:Addr}{sp:Sp}{dvs vs:List V}{fs:List (Str×V)}
  (hsp:∀p dx H0 (Q':VK),H0 p=some (.ins C dx [])->(∀H',(∀b o,H0 b=some o->b≠p->H' b=some o)->H' p=some (.ins C dx fs)->Q' .non H')->Same H H0->sp (.ref p::(vs++dvs)) H0 Q' E)
  (k:∀p dx H',H p=none->Same H H'->H' p=some (.ins C dx fs)->Q (.ref p) H'):tW C sp dvs E Q vs H:=by
 intro x dx nx nd ne;have s0:Same H (upd (upd H dx (.own x)) x (.ins C dx [])):=fun b o e=>by
  rw[aI (aT e nx),aI (aT e nd)];exact e
 exact hsp x dx _ _ aW (fun H' sb e=>⟨rfl,k x dx H' nx (fun b o q=>sb b o (s0 b o q) (aT q nx)) e⟩) s0
theorem JJ {wi:TI}{nl:Nat}{ci:List Nat}{ti:TT} (h:wi σ H fun J H1=>dC J g ti te (bD nl ci σ) (MC Q) H1):zE wi nl ci g ti te σ H Q:=h
theorem O5 {r:V->Option Int->Option Int->Hp->VK->Prop}{tl th:TO} (h:te σ H fun x H1=>tl σ H1 fun l H2=>th σ H2 fun u H3=>r x l u H3 Q):tSl r te tl th σ H Q:=h
theorem NW {z:Str}{lo hi:Option Int} (hz:z.length<=sizeLine) (h:(Txt.slice z lo hi).length<=z.length->Q (.str (Txt.slice z lo hi)) H):NB (.str z) lo hi H Q:=⟨z,rfl,hz,h (Txt.slice_le _ _ _)⟩
theorem CH {a:Addr}{xs:List V}{lo hi:Option Int} (e:SqL K H a xs) (h:∀p H',H p=none->Same H H'->H' p=some (.lst (pF xs lo hi))->Q (.ref p) H'):EB K (.ref a) lo hi H Q:=⟨a,xs,rfl,e,eK h⟩
theorem qG {p:Addr}{xs:List V}{i:Int} (e:SqL K H p xs) (l:atI xs i=some v) (h:Q v H):y6 K (.ref p) (.int i) H Q:=⟨p,xs,i,v,rfl,rfl,e,l,h⟩
theorem JZ {p:Addr}{a b i:Int} (e:SqL K H p [.int a,.int b]) (h0:0<=i) (h1:i<2) (h:∀v,(i=0/\v=a)∨(i=1/\v=b)->Q (.int v) H):y6 K (.ref p) (.int i) H Q:=by
 have:i=0∨i=1:=by lia
 rcases this with rfl|rfl
 ·exact⟨p,_,0,_,rfl,rfl,e,rfl,h a (.inl ⟨rfl,rfl⟩)⟩
 ·exact⟨p,_,1,_,rfl,rfl,e,rfl,h b (.inr ⟨rfl,rfl⟩)⟩
def oV (ns:List Int)(lo hi:Option Int):List Int:=(ns.drop (HT.sIx ns.length 0 lo)).take (HT.sIx ns.length ns.length hi - HT.sIx ns.length 0 lo)
theorem BO (ns:List Int)(lo hi:Option Int):pF (ns.map V.int) lo hi=(oV ns lo hi).map V.int:=by
 unfold pF oV;rw[List.length_map,List.map_take,List.map_drop]
theorem LS {a:Addr}{ns:List Int}{lo hi:Option Int} (e:SqL K H a (ns.map V.int)) (h:∀p H',H p=none->Same H H'->H' p=some (.lst ((oV ns lo hi).map V.int))->Q (.ref p) H'):EB K (.ref a) lo hi H Q :=
 CH e (by rw[BO];exact h)
theorem IZ {l b:Addr}{xs zs:List V} (e:H l=some (.lst xs)) (e2:H b=some (.lst zs)) (hn:xs.length+zs.length<=sizeLine) (h:∀p H',H p=none->Same H H'->H' p=some (.lst (xs++zs))->Q (.ref p) H'):K0 (.ref l) (.ref b) H Q :=
 ⟨l,b,xs,zs,rfl,rfl,e,e2,hn,eK h⟩
theorem OK {T:String}{r:V->List V->Hp->VK->Prop}{to:TE}{t:TA} (h:to σ H (BmP K T r t σ Q)):tBM K T r to t σ H Q:=h
theorem MR {r:V->List V->Hp->VK->Prop}{t:TA}{p:Addr}{xs:List V} (e:SqL K H p xs) (h:t σ H fun xs H2=>r (.ref p) xs H2 Q):BmP K "list" r t σ Q (.ref p) H:=⟨.inl ⟨rfl,xs,e⟩,h⟩
structure ICls (K:PySem.W.Frag)(C:Addr):Prop where
 cl:Cls K C
 ha:PySem.W.findIn K (.ref C) "__class__" =some (some (.builtin "object.__class__"))
 hn:PySem.W.specialIn K (.builtin "object.__class__") "__get__" =some (some (.builtin "getset_descriptor.__get__"))
 tk:PySem.W.takesIn K (.builtin "object.__class__")=some true
 hm:PySem.W.mroIn K C (.type "object")=some true
theorem G9 {z:Str}(hz:z.length<=sizeLine)(h:Q (.int z.length) H):GL [.str z] H Q:=⟨z,rfl,hz,h⟩
theorem HY {p:Addr}{ys:List V} (e:SqL K H p ys) (h:Q (.int ys.length) H):GJ K [.ref p] H Q:=⟨p,ys,rfl,.inl e,h⟩
theorem AR {p:Addr}{ys:List V} (e:SqL K H p ys) (h:∀l H',H l=none->Same H H'->H' l=some (.lst ys)->Q (.ref l) H'):qU K [.ref p] H Q:=⟨p,ys,rfl,.inl e,eK h⟩
variable {B:Bool->Hp->Prop}
theorem J2 (h:te σ H (zZ B)):G6 te σ H B:=h
theorem OI (h:te σ H (zZ B)):tB te σ H B:=h
theorem OL (h:c σ H fun k H1=>if k=true then B true H1 else d σ H1 B):tOr c d σ H B:=h
theorem MH (h:c σ H fun k H1=>B (!k) H1):NC c σ H B:=h
theorem MD {b:Bool}{P:Bool->Hp->Prop} (h:P b H):zZ P (.bl b) H:=⟨b,rfl,h⟩
theorem BG {A B:Prop}(h:A):if true=true then A else B:=by rw[if_pos rfl];exact h
theorem CI {A B:Prop}(h:B):if false=true then A else B:=by rw[if_neg Bool.false_ne_true];exact h
theorem JQ {A B:Prop}(h:B):if (!true)=true then A else B:=CI h
theorem ID {A B:Prop}(h:A):if (!false)=true then A else B:=BG h
theorem MW {p A B:Prop}[Decidable p](hp:¬p)(h:B):if decide p=true then A else B:=by rw[if_neg (by rw[decide_eq_false hp];exact Bool.false_ne_true)];exact h
theorem C4 {p A B:Prop}[Decidable p](h1:p->A)(h2:¬p->B):if decide p=true then A else B:=rG (fun h=>h1 (of_decide_eq_true h)) fun h=>h2 fun z=>h (decide_eq_true z)
variable {L:List V->Hp->Prop}{O:Option Int->Hp->Prop}{tr:TA}
theorem LH (h:L [] H):FK σ H L:=h
theorem HM (h:te σ H fun x H1=>tr σ H1 fun xs H2=>L (x::xs) H2):GN te tr σ H L:=h
theorem C7 (h:O none H):xF σ H O:=h
theorem HN (h:te σ H (NZ O)):GO te σ H O:=h
theorem LO {i:Int}(h:O (some i) H):NZ O (.int i) H:=⟨i,rfl,h⟩
variable {vs:List V}{gs:TGs}
theorem HZ (h:q σ H):qP [] σ H q:=⟨rfl,h⟩
theorem D2 (h:g v σ H fun σ' H'=>gs vs σ' H' q):gK g gs (v::vs) σ H q:=⟨v,vs,rfl,h⟩
theorem IL {a:Addr}{n:Nat} (e:SqT K H a vs) (hl:vs.length=n) (h:gs vs σ H q):oX K n gs (.ref a) σ H q:=⟨a,vs,rfl,e,hl,h⟩
variable {R:It->Hp->Prop}
theorem D0 (h:te σ H (L8 K R)):GU K te σ H R:=h
theorem sX {a:Addr}{xs:List V} (e:SqL K H a xs) (h:R (Itl K a) H):L8 K R (.ref a) H:=⟨a,rfl,⟨xs,e⟩,h⟩
theorem E1 (h:tr σ H (ML R)):GV tr σ H R:=h
theorem A3 {j:Int}(h0: -4611686018427387904<=j)(h1:j<4611686018427387904)(h:R (Itr 0 j.toNat) H):ML R [.int j] H:=⟨j,rfl,by lia,by lia,h⟩
theorem gF {a:Addr}{tb:TS} (xs:List V) (Pv:Nat->St->Hp->Prop) (h0:Pv 0 σ H) (hl:∀i σ H,i<=xs.length->Pv i σ H->SqL K H a xs)
  (hs:∀i x σ H,xs[i]? =some x->Pv i σ H->g x σ H fun σ2 H2=>tb ⟨Pv (i+1),rt,nx,Pv (i+1)⟩ σ2 H2)(hd:∀σ H,Pv xs.length σ H->nx σ H):qR (Itl K a) g tb ⟨nx,rt,bk,ct⟩ σ H :=
 FT (D:=⟨nx,rt,bk,ct⟩) Pv h0 hl hs hd
theorem nV {lo:Int}{n:Nat}{tb:TS} (Pv:Nat->St->Hp->Prop) (h0:Pv 0 σ H)
  (hs:∀i σ H,i<n->Pv i σ H->g (.int (lo+i)) σ H fun σ2 H2=>tb ⟨Pv (i+1),rt,nx,Pv (i+1)⟩ σ2 H2)(hd:∀σ H,Pv n σ H->nx σ H):qR (Itr lo n) g tb ⟨nx,rt,bk,ct⟩ σ H :=
 CJ (D:=⟨nx,rt,bk,ct⟩) Pv h0 hs hd
theorem FL {lo:Int}{n:Nat}{tb:TS} (S:St->Prop) (h0:S σ)
  (hs:∀(i:Nat) σ' H',i<n->Same H H'->S σ'->g (.int (lo+i)) σ' H' fun σ2 H2=>tb ⟨fun σ3 H3=>Same H H3/\S σ3,rt,nx,fun σ3 H3=>Same H H3/\S σ3⟩ σ2 H2)(hd:∀σ' H',Same H H'->S σ'->nx σ' H'):qR (Itr lo n) g tb ⟨nx,rt,bk,ct⟩ σ H :=
 nV (fun _ σ' H'=>Same H H'/\S σ') ⟨Same.refl _,h0⟩ (fun i σ' H' hi p=>hs i σ' H' hi p.1 p.2) fun σ' H' p=>hd σ' H' p.1 p.2
end
section
variable {K:PySem.W.Frag}{te:TE}{σ:St}{ci:List Nat}{rest:St}{fin:List V->Hp->Prop}{H:Hp}{a:Addr}
theorem vQ (hr:ci.map (fun i=>(σ[i]?).join)=rest):bD 1 ci σ=none::rest:=by
 unfold bD;rw[hr];rfl
theorem wV {lo:Int}{n:Nat} (P:Nat->V->Prop) (hn:n<=sizeLine) (hr:ci.map (fun i=>(σ[i]?).join)=rest)
  (hs:∀i H1,i<n->Same H H1->∀R:VK,(∀y H2,P i y->Same H1 H2->R y H2)->te (some (.int (lo+i))::rest) H1 R)
  (hf:∀ys H1,Same H H1->ys.length=n->(∀i y,ys[i]? =some y->P i y)->fin ys H1):dC (Itr lo n) (bC 0) rH te (bD 1 ci σ) fin H:=by
 rw[vQ hr];refine yM (fun i ys H1=>Same H H1/\ys.length=i/\∀j y,ys[j]? =some y->P j y) hn rfl ⟨Same.refl _,rfl,fun j y h=>by simp at h⟩ (fun i ys H1 ok=>Nat.le_of_eq ok.2.1) (fun ys H1 ok=>hf ys H1 ok.1 ok.2.1 ok.2.2) ?_;intro i ys H1 hi ⟨s1,hl,hp⟩ R hR;refine hs i H1 hi s1 R fun y H2 hy s2=>hR y H2 ⟨s1.trans s2,by simp[hl],fun j z hz=> ?_⟩
 by_cases hj:j<ys.length
 ·rw[List.getElem?_append_left hj]at hz;exact hp j z hz
 ·rw[List.getElem?_append_right (by lia)]at hz;have hj0:j - ys.length=0:=by
   cases e:j - ys.length with
   | zero=>rfl
   | succ k=>rw[e]at hz;simp at hz
  rw[hj0]at hz;have:z=y:=by simpa using hz.symm
  subst this;have:j=i:=by lia
  subst this;exact hy
end
section
variable {K:PySem.W.Frag}{te:TE}{σ:St}{ci:List Nat}{rest:St}{fin:List V->Hp->Prop}{H:Hp}{a:Addr}
theorem zA {α β:Type}{xs:List α}{ys:List β}{f:α->β} (hl:ys.length=xs.length) (h:∀(i:Nat) y,ys[i]? =some y->∃x,xs[i]? =some x/\y=f x):ys=xs.map f:=by
 apply List.ext_getElem?
 intro i;rw[List.getElem?_map];cases e:ys[i]? with
 | none =>
  have:xs[i]? =none:=by
   rw[List.getElem?_eq_none_iff]at e ⊢
   lia
  rw[this];rfl
 | some y =>
  obtain⟨x,hx,rfl⟩:=h i y e;rw[hx];rfl
theorem EX {lo:Int}{n:Nat} (f:Nat->V) (hn:n<=sizeLine) (hr:ci.map (fun i=>(σ[i]?).join)=rest)
  (hs:∀i H1,i<n->Same H H1->∀R:VK,(∀H2,Same H1 H2->R (f i) H2)->te (some (.int (lo+i))::rest) H1 R)
  (hf:∀H1,Same H H1->fin ((List.range n).map f) H1):dC (Itr lo n) (bC 0) rH te (bD 1 ci σ) fin H:=by
 refine wV (fun i y=>y=f i) hn hr (fun i H1 hi s1 R hR=>hs i H1 hi s1 R fun H2 s2=>hR _ H2 rfl s2) ?_;intro ys H1 s1 hl hp;have e:ys=(List.range n).map f:=by
  refine zA (by rw[hl,List.length_range]) fun i y hy=> ?_;have hi:i<n:=by
   rw[←hl];exact(List.getElem?_eq_some_iff.mp hy).1
  exact⟨i,by simp[hi],hp i y hy⟩
 rw[e];exact hf H1 s1
end
theorem Same.at {H H':Hp}{b:Addr}{o:HO} (s:Same H H') (h:H b=some o):H' b=some o:=s b o h
def SameBut (p:Addr)(H H':Hp):Prop:=∀b o,H b=some o->b≠p->H' b=some o
theorem SameBut.upd {p:Addr}{H:Hp}{o:HO}:SameBut p H (upd H p o):=fun b u e hb=>by rw[aI hb];exact e
theorem SameBut.trans {p:Addr}{H H1 H2:Hp} (a:SameBut p H H1) (b:SameBut p H1 H2):SameBut p H H2:=fun c o h hc=>b c o (a c o h hc) hc
theorem Same.but {p:Addr}{H H':Hp} (s:Same H H'):SameBut p H H':=fun b o e _=>s b o e
theorem SameBut.same {p:Addr}{H H0 H':Hp} (n:H0 p=none) (s:Same H0 H) (b:SameBut p H H'):Same H0 H':=fun c o e=>b c o (s c o e) (aT e n)
theorem aZ {t:TS}{D:j8}{N:List Str}{vs:List V}{σ:St}{H:Hp} (e:iK N vs=σ) (h:t D σ H):t D (iK N vs) H:=e▸h
theorem SameBut.refl {p:Addr}{H:Hp}:SameBut p H H:=fun _ _ e _=>e
theorem SameBut.snoc {p:Addr}{H H1 H2:Hp} (b:∀c o,H1 c=some o->c≠p->H2 c=some o) (a:SameBut p H H1):SameBut p H H2:=fun c o h hc=>b c o (a c o h hc) hc
theorem SameBut.snocS {p:Addr}{H H1 H2:Hp} (b:Same H1 H2) (a:SameBut p H H1):SameBut p H H2:=fun c o h hc=>b c o (a c o h hc)
theorem Same.snoc {H H1 H2:Hp}(b:Same H1 H2)(a:Same H H1):Same H H2:=a.trans b
theorem JU {f:Str}{v:V}{fs:List (Str×V)}:(cB f v fs).lookup f=some v:=by rw[iL,if_pos rfl]
theorem P2 {f g:Str}{v:V}{o:Option V}{fs:List (Str×V)} (h:decide (g=f)=false) (l:fs.lookup g=o):(cB f v fs).lookup g=o:=by rw[iL,if_neg (of_decide_eq_false h)];exact l
theorem MI {f:Str}:([]:List (Str×V)).lookup f=none:=rfl
section
variable {K:PySem.W.Frag}{x qual:Str}{st:Stmt}{kV doc pm cdv ct:Value}{an:Option Addr}{ps:List Str}
theorem aR (h:∀us:List Value,us.length=ps.length->bindArgs (PySem.W.fnOf x qual (aL st) (aK st) (aB st) .none kV doc pm an cdv ct) ⟨us,[]⟩=pure (ps.zip us)) :
  Binds K (PySem.W.fnOf x qual (aL st) (aK st) (aB st) .none kV doc pm an cdv ct) ps []:= .all h
theorem kL (k:Nat){T:Addr}{ds:List Value}{oc:Value}{od:Option Addr}{sl:Array (Option Value)}{items:Array Value}{n:Nat} (lt:K.lookup T=some ⟨oc,od,.seq items n,sl⟩)
  (h:∀us:List Value,us.length=k->∃k,bindArgs (PySem.W.fnOf x qual (aL st) (aK st) (aB st) (.ref T) kV doc pm an cdv ct) ⟨us,[]⟩=seqItems? (.ref T) >>= k/\k (some items)=pure (ps.zip (us++ds)))(hk:k+ds.length=ps.length:=by rfl) :
  Binds K (PySem.W.fnOf x qual (aL st) (aK st) (aB st) (.ref T) kV doc pm an cdv ct) ps ds:=fun s us hK hl=>by
 obtain⟨k,h1,h2⟩:=h us (by rw[List.length_append]at hl;lia);exact .of_defaults (T:=T) (items:=items) (n:=n) rfl (hK T _ lt) rfl h1 h2
end
theorem cF (s:String):(Str.ofString s).length=s.length:=by
 rw[Str.ofString_eq_toList];show (s.toList.map Char.toNat).toArray.size=_;rw[List.size_toArray,List.length_map,String.length_toList]
def sgB (c:Nat):Bool:=decide (97<=c)&&decide (c<=122)
def fS (z:Str):Bool:=z.cps.toList.all sgB
def bF (z:Str):Bool:=decide (1<=(z.length:Int))&&decide ((z.length:Int)<=8)&&fS z
theorem AQ {z:Str}(h:bF z=true):z.length<=8:=by
 unfold bF at h;simp only[Bool.and_eq_true,decide_eq_true_eq]at h
 lia
theorem FI {z:Str}(h0:1<=z.length)(h1:z.length<=8)(h2:fS z=true):bF z=true:=by
 unfold bF;simp only[Bool.and_eq_true,decide_eq_true_eq];exact⟨⟨by lia,by lia⟩,h2⟩
theorem u3 {c:Nat}{z:Str} (h:fS z=true) (hc:c∈z.cps.toList):fS ⟨#[c]⟩=true:=by
 unfold fS at h ⊢;rw[List.all_eq_true]at h;show [c].all sgB=true;rw[List.all_cons,h c hc];rfl
theorem CU {z:Str}{l u:Option Int}{c:Nat} (h:c∈(Txt.slice z l u).cps.toList):c∈z.cps.toList:=by
 unfold Txt.slice at h
 split at h
 ·exact h
 ·rw[List.toList_toArray]at h;obtain⟨i,_,hi⟩:=List.mem_filterMap.mp h;rw[←Array.getElem?_toList]at hi;exact List.mem_of_getElem? hi
theorem gH {z:Str}{l u:Option Int} (h:fS z=true):fS (Txt.slice z l u)=true:=by
 unfold fS at h ⊢;rw[List.all_eq_true]at h ⊢;exact fun c hc=>h c (CU hc)
theorem oH (x y:Str):(x++y).cps.toList=x.cps.toList++y.cps.toList:=by
 show (x.cps++y.cps).toList=_;simp
theorem d0 (x y:Str):(x++y).length=x.length+y.length:=by
 show (x.cps++y.cps).size=_;rw[Array.size_append];rfl
theorem q0 (c:Nat):(⟨#[c]⟩:Str).length=1:=rfl
theorem uN {x y:Str}(h:fS x=true)(h':fS y=true):fS (x++y)=true:=by
 unfold fS at h h' ⊢;rw[oH,List.all_append,h,h'];rfl
end L2
namespace L2
open PySem PySem.Spec PyProof.Rows
section
variable {prog:Program}{w:World}{A:Around}{E:Value->Shared->Prop}{s:Shared}
end
section
variable {X:Cx}{pos:Pos}
end
section
variable {nx bk ct:St->Hp->Prop}{rt:VK}{σ:St}{H:Hp}{g:TG}{K:PySem.W.Frag}{a:Addr}{tb:TS}{xs:List V}
end
theorem JM {H:Hp}{Q:VK}{i j:Int} (h0:0<j) (h:0<=i%j->i%j<j->Q (.int (i%j)) H):rI (fun _ j=>0<j) (fun i j=> .int (i%j)) (.int i) (.int j) H Q:=⟨i,j,rfl,rfl,h0,h (Int.emod_nonneg _ (by lia)) (Int.emod_lt_of_pos _ h0)⟩
end L2
namespace L2
open PySem PySem.Spec PyProof.Rows PySem.W
section
variable {prog:Program}{w:World}{A:Around}{E:Value->Shared->Prop}{h:Heap}{g:Array GenState}{d:Drawn}{t:Nat}{os:OsState}{a C:Addr}{o:Obj}{vs:Array Value}{K:Frag}
end
end L2
namespace L2
open PySem PySem.Spec PyProof.Rows PySem.W
section
variable {M:Model}{A:Around}{E:Value->Shared->Prop}{s:Shared}{base:Heap}{env:Env}{outer:List Env}{L ea:Addr}{Q:Unit->Shared->Prop}
end
end L2
namespace L2
open PySem PySem.Spec PyProof.Rows PySem.W
section
variable {P:Program}{w:World}{H H':Hp}{h h':Heap}{a:Addr}{o:HO}
end
section
variable {X:Cx}{pins:List (Addr×Obj)}{σ:St}{H H1:Hp}{s s1:Shared}{h2 B:Heap}
end
end L2
namespace L2
open PySem PySem.Spec PyProof.Rows PySem.W
section
variable {X:Cx}{E:XK}{x:Str}{C:Addr}{np cpos pos:Pos}{e:Expr}{es:List Expr}{t:TA}
end
section
variable {X:Cx}{k k':Nat}{sp:Sp}{x m:Str}{p pos apos:Pos}{e o:Expr}{es:List Expr}{ta:TE}{t:TA}{C:Addr}{dvs:List V}{E:XK}{ps:List Str}
end
section
variable {P:Program}{w:World}{K:PySem.W.Frag}{mg:Str->Option Value}{base:Heap}
end
end L2
namespace L2
open PySem PySem.Spec PyProof.Rows PySem.W
section
variable {M:Model}{A:Around}{E:Value->Shared->Prop}{s:Shared}{base:Heap}{env:Env}{outer:List Env}{L ea:Addr}{Q:Unit->Shared->Prop}
end
end L2
namespace L2
open PySem PySem.Spec PyProof.Rows PySem.W
section
variable {X:Cx}{pins:List (Addr×Obj)}{σ:St}{H:Hp}{s:Shared}{ea:Addr}
end
section
variable {X:Cx}{k k':Nat}{sp:Sp}{x m:Str}{p pos apos:Pos}{e o:Expr}{es:List Expr}{ta:TE}{t:TA}{C f:Addr}{dvs:List V}{ds:List Value}{R:XK}{ps:List Str}{fd:FuncData}
end
section
variable {X:Cx}{k k':Nat}{sp:Sp}{x m:Str}{p pos apos:Pos}{e o:Expr}{es:List Expr}{ta:TE}{t:TA}{C:Addr}{dvs:List V}{R:XK}
end
section
variable {X:Cx}{i:Nat}{n x:Str}{T:Addr}{np hpos pos epos:Pos}{e:Expr}{tc:XK->TE}{b₀:Stmt}{suite:List Stmt}{ts:TS}
end
end L2
namespace L2
open PySem PySem.Spec PyProof.Rows PySem.W
section
variable {X:Cx}{x:Str}{j:Nat}{p pos:Pos}{e v1 v2:Expr}{es:List Expr}{te:TE}{t:TJ}
end
end L2
namespace L2
open PySem PySem.W
section
variable {K:Frag}{C D:Addr}{cd:ClassData}{b:Bool}
end
variable {K:Frag}{H:Hp}{Q:VK}
end L2
namespace L2
open PySem PySem.W
end L2
set_option maxHeartbeats 4000000
namespace L2
open PySem PySem.Spec PyProof.Rows
section
variable {X:Cx}{pins:List (Addr×Obj)}{σ:St}{H:Hp}{s:Shared}
end
section
variable {X:Cx}{CX:CXT}{k k':Nat}{sp:Sp}{E:XK}{x y:Str}{p pos:Pos}{e:Expr}{es:List Expr}{t:TA}{i:Nat}{c:Addr}
end
section
variable {P:Program}{w:World}{K:PySem.W.Frag}{mg:Str->Option Value}{base:Heap}
end
section
variable {X:Cx}{k k':Nat}{x:Str}{p pos:Pos}{e:Expr}{es:List Expr}{t:TA}
end
section
variable {X:Cx}{args:Arguments}{body:Expr}{lsc:Scope}{pos:Pos}{y:Str}{c cL PL:Addr}
end
end L2
namespace L2
open PySem PySem.Spec PyProof.Rows
section
variable {P:Program}{w:World}{K:PySem.W.Frag}{mg:Str->Option Value}{base:Heap}
end
section
variable {X:Cx}{o:Expr}{to:TE}{ap pos:Pos}
end
section
variable {X:Cx}{k k':Nat}{sp:Sp}{x m:Str}{p pos apos:Pos}{e:Expr}{es:List Expr}{t:TA}{dvs:List V}
end
end L2
namespace L2
open PySem PySem.Spec PyProof.Rows
section
variable {P:Program}{w:World}
end
section
variable {P:Program}{w:World}{K:PySem.W.Frag}{mg:Str->Option Value}{base:Heap}
end
section
variable {X:Cx}{st:Stmt}{rest:List Stmt}{t:TS}{u:j8->(St->V->Hp->Prop)->St->Hp->Prop}{e:Expr}{te:TE}{pos:Pos}
end
section
variable {P:Program}{w:World}{K:PySem.W.Frag}{mg:Str->Option Value}{base:Heap}
end
section
open PySem.W
variable {X:Cx}{i j:Nat}{n x y:Str}{T:Addr}{np yp hpos pos epos:Pos}{e:Expr}{tc:XK->TE}{b₀:Stmt}{suite:List Stmt}{ts:TS}
end
end L2
namespace L2
open PySem PySem.Spec PyProof.Rows
end L2
namespace L2
open PySem PySem.Spec PyProof.Rows
section
variable {X:Cx}
end
end L2
namespace L2
open PySem PySem.Spec PyProof.Rows
section
variable {κ:Type}[DecidableEq κ]
def aV (kvs:List (κ×V))(k:κ):Option V:=(kvs.find? fun kv=>decide (kv.1=k)).map (·.2)
def cI (kvs:List (κ×V))(k:κ)(v:V):List (κ×V) :=
 if (kvs.any fun kv=>decide (kv.1=k))=true then kvs.map (fun kv=>if kv.1=k then (kv.1,v) else kv) else kvs++[(k,v)]
theorem cN {p:κ×V}{r:List (κ×V)}{k:κ} (e:p.1=k):aV (p::r) k=some p.2:=by simp[aV,List.find?_cons,e]
theorem cA {p:κ×V}{r:List (κ×V)}{k:κ} (e:¬p.1=k):aV (p::r) k=aV r k:=by simp[aV,List.find?_cons,e]
theorem jN (k:κ):∀kvs:List (κ×V),(kvs.any fun kv=>decide (kv.1=k))=(aV kvs k).isSome
 | []=>rfl
 | p::r=>by
  rw[List.any_cons]
  by_cases e:p.1=k
  ·simp only[cN e,decide_eq_true e,Bool.true_or,Option.isSome_some]
  ·rw[cA e,decide_eq_false e,Bool.false_or];exact jN k r
theorem vG (k j:κ)(y:V):∀kvs:List (κ×V),aV (kvs.map fun kv=>if kv.1=k then (kv.1,y) else kv) j=(aV kvs j).map fun x=>if j=k then y else x
 | []=>rfl
 | p::r=>by
  have ih:=vG k j y r;rw[List.map_cons]
  by_cases h:p.1=k
  ·rw[if_pos h]
   by_cases e:p.1=j
   ·rw[cN (p:=(p.1,y)) e,cN e,Option.map_some,if_pos (e.symm.trans h)]
   ·rw[cA (p:=(p.1,y)) e,cA e,ih]
  ·rw[if_neg h]
   by_cases e:p.1=j
   ·rw[cN (p:=p) e,cN e,Option.map_some,if_neg (fun z=>h (e.trans z))]
   ·rw[cA (p:=p) e,cA e,ih]
theorem tG (k j:κ)(y:V):∀kvs:List (κ×V),aV kvs k=none->aV (kvs++[(k,y)]) j=if j=k then some y else aV kvs j
 | [],_=>by
  by_cases e:k=j
  ·rw[if_pos e.symm];exact cN (p:=(k,y)) e
  ·rw[if_neg (fun z=>e z.symm)];exact cA (p:=(k,y)) e
 | p::r,hn=>by
  rw[List.cons_append];have hk:¬p.1=k:=fun z=>by rw[cN z]at hn;cases hn
  rw[cA hk]at hn;have ih:=tG k j y r hn
  by_cases e:p.1=j
  ·rw[cN e,cN e,if_neg (fun z=>hk (e.trans z))]
  ·rw[cA e,cA e,ih]
theorem o0 (kvs:List (κ×V))(k j:κ)(y:V):aV (cI kvs k y) j=if j=k then some y else aV kvs j:=by
 unfold cI
 by_cases a:(kvs.any fun kv=>decide (kv.1=k))=true
 ·rw[if_pos a,vG];rw[jN]at a
  by_cases e:j=k
  ·obtain⟨x,hx⟩:=Option.isSome_iff_exists.mp a;rw[if_pos e,e,hx,Option.map_some,if_pos rfl]
  ·rw[if_neg e];cases aV kvs j with
   | none=>rfl
   | some x=>rw[Option.map_some,if_neg e]
 ·rw[if_neg a];refine tG k j y kvs ?_;rw[jN]at a;cases q:aV kvs k with
  | none=>rfl
  | some x=>rw[q]at a;exact(a rfl).elim
theorem fC (kvs:List (κ×V))(k:κ)(v:V):(cI kvs k v).length<=kvs.length+1:=by
 unfold cI
 split
 ·rw[List.length_map];lia
 ·rw[List.length_append,List.length_cons,List.length_nil];lia
theorem vR {kvs:List (κ×V)}{k:κ} (v:V) (h:aV kvs k=none):cI kvs k v=kvs++[(k,v)]:=by
 unfold cI;rw[jN,h];exact if_neg (by decide)
theorem RelO.isSome_eq {o:Option V}{u:Option Value} (r:RelO o u):o.isSome=u.isSome:=by
 cases o with
 | none=>cases u with
  | none=>rfl
  | some _=>exact(show False from r).elim
 | some _=>cases u with
  | none=>exact(show False from r).elim
  | some _=>rfl
theorem RelO.getD {o:Option V}{u:Option Value}{d:V}{d':Value} (r:RelO o u) (rd:RelV d d'):RelV (o.getD d) (u.getD d'):=by
 cases o with
 | none=>cases u with
  | none=>exact rd
  | some _=>exact(show False from r).elim
 | some _=>cases u with
  | none=>exact(show False from r).elim
  | some _=>exact r
theorem KV.val {kvs:List (κ×V)}{vs:List (κ×Value)} (r:KV kvs vs) (k:κ):RelO (aV kvs k) (valueAt vs k):=by
 unfold KV at r
 induction r with
 | nil=>exact True.intro
 | @cons p q ps qs h t ih =>
  obtain⟨h1,h2⟩:=h
  by_cases e:p.1=k
  ·have e':q.1=k:=h1.symm.trans e;have b:valueAt (q::qs) k=some q.2:=by simp[valueAt,List.find?_cons,e']
   rw[cN e,b];exact h2
  ·have e':¬q.1=k:=fun z=>e (h1.trans z);have b:valueAt (q::qs) k=valueAt qs k:=by simp[valueAt,List.find?_cons,e']
   rw[cA e,b];exact ih
theorem KV.any {kvs:List (κ×V)}{vs:List (κ×Value)} (r:KV kvs vs) (k:κ):(kvs.any fun kv=>decide (kv.1=k))=vs.any fun kv=>decide (kv.1=k):=by
 unfold KV at r
 induction r with
 | nil=>rfl
 | cons h t ih=>rw[List.any_cons,List.any_cons,ih,h.1]
theorem KV.repl {kvs:List (κ×V)}{vs:List (κ×Value)} (r:KV kvs vs) (k:κ) {y:V}{u:Value} (ry:RelV y u) :
  KV (kvs.map fun kv=>if kv.1=k then (kv.1,y) else kv) (vs.map fun kv=>if kv.1=k then (kv.1,u) else kv):=by
 unfold KV at r ⊢
 induction r with
 | nil=>exact .nil
 | @cons p q ps qs h t ih =>
  rw[List.map_cons,List.map_cons];refine .cons ?_ ih;obtain⟨h1,h2⟩:=h
  by_cases e:p.1=k
  ·rw[if_pos e,if_pos (h1.symm.trans e)];exact⟨h1,ry⟩
  ·rw[if_neg e,if_neg (fun z=>e (h1.trans z))];exact⟨h1,h2⟩
theorem KV.put {kvs:List (κ×V)}{vs:List (κ×Value)} (r:KV kvs vs) (k:κ) {y:V}{u:Value} (ry:RelV y u):KV (cI kvs k y) (stored vs k u):=by
 unfold cI stored;rw[r.any k]
 by_cases e:(vs.any fun kv=>decide (kv.1=k))=true
 ·rw[if_pos e,if_pos e];exact r.repl k ry
 ·rw[if_neg e,if_neg e];exact Paired.snoc r ⟨rfl,ry⟩
theorem KV.length {kvs:List (κ×V)}{vs:List (κ×Value)} (r:KV kvs vs):kvs.length=vs.length:=Paired.length r
end
theorem k3 {P:Program}{w:World}{k:Key}{u:Value} (r:RelV (kV k) u):(bM P w).is k u=true:=by
 cases k with
 | inl i=>obtain⟨t,e⟩:=(show ∃t,u=Value.int i t from r);subst e;exact wL P w i t
 | inr x=>obtain⟨t,e⟩:=(show ∃t,u=Value.str x t from r);subst e;exact wJ P w x t
theorem rX {P:Program}{w:World}:∀{ks:List Key}{us:List Value},Vals (ks.map kV) us->ItemsAre (bM P w) ks us
 | [],_,r=>by rw[List.map_nil]at r;cases r;exact .nil
 | k::ks,_,r=>by
  rw[List.map_cons]at r;cases r with
  | cons h t=>exact .cons (k3 h) (rX t)
abbrev KT (H:Hp):List (List Key×V)->List (List Key×Addr×Value)->Prop:=Paired fun p q=>p.1=q.1/\H q.2.1=some (.tup (p.1.map kV))/\RelV p.2 q.2.2
theorem KT.val {H:Hp}{kvs:List (List Key×V)}{xs:List (List Key×Addr×Value)} (r:KT H kvs xs) (k:List Key):RelO (aV kvs k) ((atKey xs k).map (·.2)):=by
 induction r with
 | nil=>exact True.intro
 | @cons p q ps qs h t ih =>
  obtain⟨h1,_,h2⟩:=h
  by_cases e:p.1=k
  ·have e':q.1=k:=h1.symm.trans e;have b:atKey (q::qs) k=some q.2:=by simp[atKey,List.find?_cons,e']
   rw[cN e,b];exact h2
  ·have e':¬q.1=k:=fun z=>e (h1.trans z);have b:atKey (q::qs) k=atKey qs k:=by simp[atKey,List.find?_cons,e']
   rw[cA e,b];exact ih
theorem KT.repl {H:Hp}{kvs:List (List Key×V)}{xs:List (List Key×Addr×Value)} (r:KT H kvs xs) (k:List Key) {y:V}{u:Value} (ry:RelV y u) :
  KT H (kvs.map fun kv=>if kv.1=k then (kv.1,y) else kv) (xs.map (putAt k u)):=by
 induction r with
 | nil=>exact .nil
 | @cons p q ps qs h t ih =>
  rw[List.map_cons,List.map_cons];refine .cons ?_ ih;obtain⟨h1,h2,h3⟩:=h;unfold putAt
  by_cases e:p.1=k
  ·rw[if_pos e,if_pos (h1.symm.trans e)];exact⟨h1,h2,ry⟩
  ·rw[if_neg e,if_neg (fun z=>e (h1.trans z))];exact⟨h1,h2,h3⟩
theorem KT.put {H:Hp}{kvs:List (List Key×V)}{xs:List (List Key×Addr×Value)} (r:KT H kvs xs) (k:List Key) {b:Addr}{y:V}{u:Value} (hb:H b=some (.tup (k.map kV))) (ry:RelV y u) :
  KT H (cI kvs k y) (storedH xs k b u):=by
 have e:(kvs.any fun kv=>decide (kv.1=k))=(atKey xs k).isSome:=by
  rw[jN,(r.val k).isSome_eq,Option.isSome_map]
 unfold cI storedH;rw[e]
 by_cases q:(atKey xs k).isSome=true
 ·rw[if_pos q,if_pos q];exact r.repl k ry
 ·rw[if_neg q,if_neg q];exact Paired.snoc r ⟨rfl,hb,ry⟩
theorem KT.keeps {H H':Hp}{kvs:List (List Key×V)}{xs:List (List Key×Addr×Value)} (r:KT H kvs xs) (ht:∀b ys,H b=some (.tup ys)->H' b=some (.tup ys)):KT H' kvs xs :=
 Paired.mapP r fun _ _ z=>⟨z.1,ht _ _ z.2.1,z.2.2⟩
section
variable {P:Program}{w:World}{H:Hp}{h:Heap}{a:Addr}
theorem G3 {u:HO}(ok:HOk P w H h)(e:Rd H a u):ObjOk P w H h a u:=e.ok ok
theorem kX {kvs:List (Key×V)}(ok:HOk P w H h)(e:Rd H a (.dK kvs)):kvs.length<=sizeLine/\(a==sysModules)=false/\∃vs,KV kvs vs/\h.DictOf (bM P w) a vs :=
 show ObjOk P w H h a (.dK kvs) from G3 ok e
theorem PJ {kvs:List (Key×V)}(ok:HOk P w H h)(e:H a=some (.dK kvs)):kvs.length<=sizeLine/\(a==sysModules)=false/\∃vs,KV kvs vs/\h.DictOf (bM P w) a vs:=kX ok (.inl e)
theorem kI {ks:List Key}(ok:HOk P w H h)(e:H a=some (.tup (ks.map kV))):(tupleKind (bM P w)).is h ks a:=by
 obtain⟨_,its,r,o,h1,h2,n,h3⟩:=(show ObjOk P w H h a (.tup (ks.map kV)) from ok a _ e)
 exact⟨o,its.toArray,n,h1,h2,h3,by simpa using rX r⟩
theorem kS {kvs:List (List Key×V)}(ok:HOk P w H h)(e:Rd H a (.dT kvs)):kvs.length<=sizeLine/\(a==sysModules)=false ∧
  ∃xs,KT H kvs xs/\h.DictOfH (tupleKind (bM P w)) a xs:=by
 obtain⟨z,y,xs,r,o,es,ep,h1,h2,h3,h4,h5⟩:=(show ObjOk P w H h a (.dT kvs) from G3 ok e)
 refine⟨z,y,xs,r,o,es,ep,h1,h2,h3,h4,fun x hx=> ?_,h5⟩;have all:∀{l:List (List Key×V)}{m:List (List Key×Addr×Value)},KT H l m->∀x∈m,(tupleKind (bM P w)).is h x.1 x.2.1:=by
  intro l m q
  induction q with
  | nil=>intro x hx;exact nomatch hx
  | @cons p q ps qs hq t ih =>
   intro x hx;rcases List.mem_cons.mp hx with e|hx
   ·subst e;exact kI ok (by rw[←hq.1];exact hq.2.1)
   ·exact ih x hx
 exact all r x hx
theorem P5 {kvs:List (List Key×V)}(ok:HOk P w H h)(e:H a=some (.dT kvs)):kvs.length<=sizeLine/\(a==sysModules)=false ∧
  ∃xs,KT H kvs xs/\h.DictOfH (tupleKind (bM P w)) a xs:=kS ok (.inl e)
end
def DGet (H:Hp)(a:Addr)(y:V)(r:Option V):Prop :=
 (∃kvs k,Rd H a (.dK kvs)/\y=kV k/\r=aV kvs k)∨∃kvs k b,Rd H a (.dT kvs)/\y= .ref b/\H b=some (.tup (k.map kV))/\r=aV kvs k
def DPut (H:Hp)(a:Addr)(y v:V)(H':Hp):Prop :=
 (∃kvs k,H a=some (.dK kvs)/\y=kV k/\kvs.length<sizeLine/\H'=upd H a (.dK (cI kvs k v))) ∨
 ∃kvs k b,H a=some (.dT kvs)/\y= .ref b/\H b=some (.tup (k.map kV))/\kvs.length<sizeLine/\H'=upd H a (.dT (cI kvs k v))
theorem DGet.t {H:Hp}{a b:Addr}{kvs:List (List Key×V)}{k:List Key} (e:H a=some (.dT kvs)) (eb:H b=some (.tup (k.map kV))):DGet H a (.ref b) (aV kvs k):= .inr ⟨kvs,k,b,.inl e,rfl,eb,rfl⟩
theorem DPut.k {H:Hp}{a:Addr}{kvs:List (Key×V)}{k:Key}{v:V} (e:H a=some (.dK kvs)) (hl:kvs.length<sizeLine):DPut H a (kV k) v (upd H a (.dK (cI kvs k v))):= .inl ⟨kvs,k,e,rfl,hl,rfl⟩
theorem DPut.t {H:Hp}{a b:Addr}{kvs:List (List Key×V)}{k:List Key}{v:V} (e:H a=some (.dT kvs)) (eb:H b=some (.tup (k.map kV))) (hl:kvs.length<sizeLine) :
  DPut H a (.ref b) v (upd H a (.dT (cI kvs k v))):= .inr ⟨kvs,k,b,e,rfl,eb,hl,rfl⟩
section
variable {X:Cx}{pins:List (Addr×Obj)}{σ:St}{H:Hp}{s:Shared}{a:Addr}{y v:V}{u r:Value}{o:Option V}{A:Around}{E:Value->Shared->Prop}
theorem Inv.big (I:Inv X pins σ H s):sysModules<s.heap.objs.size:=by
 have h:mainGlobals<s.heap.objs.size:=(I.mod.glob.keeps I.bk).lt;exact Nat.lt_trans (by decide) h
theorem C9 {Q:Value->Shared->Prop}(hu:A.units+1<cLine)(I:Inv X pins σ H s)(g:DGet H a y (some v))(ry:RelV y u)(h:∀w' s',Inv X pins σ H s'->RelV v w'->Q w' s') :
  wpAny (model X.prog X.w) A (getItem (.ref a) u) Q E s:=by
 rcases g with⟨kvs,k,e,ey,l⟩|⟨kvs,k,b,e,ey,eb,l⟩
 ·subst ey;obtain⟨z,hd,vs,rel,dd⟩:=kX I.hok e;obtain⟨w',hw,rw'⟩:=RelO.some_of (v:=v) (o:=valueAt vs k) (by rw[l];exact rel.val k);exact wpAny_getItem_of (k3 ry) dd.mapOf hw (h w' _ (I.tok _) rw')
 ·subst ey;cases (show u=Value.ref b from ry);obtain⟨z,hd,xs,rel,dd⟩:=kS I.hok e;obtain⟨w',hw,rw'⟩:=RelO.some_of (v:=v) (o:=(atKey xs k).map (·.2)) (by rw[l];exact rel.val k);obtain⟨p,hp,hp2⟩:=Option.map_eq_some_iff.mp hw;refine wpAny_getItem_heap (tupleKind_room_in1 hu) (kI I.hok eb) dd hp ?_;rw[hp2];exact h w' _ (I.tok _) rw'
theorem QE {Q:Value->Shared->Prop}(hu:A.units+1<cLine)(I:Inv X pins σ H s)(g:DGet H a y o)(ry:RelV y u)(h:∀s',Inv X pins σ H s'->Q (.bool o.isSome) s') :
  wpAny (model X.prog X.w) A (compareOp .In u (.ref a)) Q E s:=by
 rcases g with⟨kvs,k,e,ey,l⟩|⟨kvs,k,b,e,ey,eb,l⟩
 ·subst ey;obtain⟨z,hd,vs,rel,dd⟩:=kX I.hok e;refine wpAny_in_of (k3 ry) hd dd.mapOf ?_;rw[←(rel.val k).isSome_eq,←l];exact h _ (I.tok _)
 ·subst ey;cases (show u=Value.ref b from ry);obtain⟨z,hd,xs,rel,dd⟩:=kS I.hok e;refine wpAny_in_heap (tupleKind_room_in1 hu) (kI I.hok eb) hd dd ?_;have q:=(rel.val k).isSome_eq;rw[Option.isSome_map]at q;rw[←q,←l];exact h _ (I.tok _)
theorem JC {Q:Value->Shared->Prop}(hu:A.units+1<cLine)(I:Inv X pins σ H s)(g:DGet H a y o)(ry:RelV y u)(h:∀s',Inv X pins σ H s'->Q (.bool (!o.isSome)) s') :
  wpAny (model X.prog X.w) A (compareOp .NotIn u (.ref a)) Q E s:=by
 rcases g with⟨kvs,k,e,ey,l⟩|⟨kvs,k,b,e,ey,eb,l⟩
 ·subst ey;obtain⟨z,hd,vs,rel,dd⟩:=kX I.hok e;refine wpAny_notIn_of (k3 ry) hd dd.mapOf ?_;rw[←(rel.val k).isSome_eq,←l];exact h _ (I.tok _)
 ·subst ey;cases (show u=Value.ref b from ry);obtain⟨z,hd,xs,rel,dd⟩:=kS I.hok e;refine wpAny_notIn_heap (tupleKind_room_in1 hu) (kI I.hok eb) hd dd ?_;have q:=(rel.val k).isSome_eq;rw[Option.isSome_map]at q;rw[←q,←l];exact h _ (I.tok _)
theorem xJ {h':Heap}{t':Nat}{ob:HO} (I:Inv X pins σ H s) (mu:Mut (H a)) (hs:Heap.SameBut a s.heap h') (he:∃q,h'.get? a=some q) (new:ObjOk X.prog X.w (upd H a ob) h' a ob) :
  Inv X pins σ (upd H a ob) { s with heap:=h',toks:=t' } :=
 I.write (x:=a) (e:=a) mu (.inl rfl) (fun b q hb z=>(hs.2 b hb).trans z) he new
theorem CB {P:Program}{w:World}{H':Hp}{h':Heap}{kvs:List (Key×V)}{vs:List (Key×Value)} (z:kvs.length<=sizeLine) (hd:(a==sysModules)=false) (rel:KV kvs vs) (dd:h'.DictOf (bM P w) a vs) :
  ObjOk P w H' h' a (.dK kvs):=⟨z,hd,vs,rel,dd⟩
theorem B1 {H':Hp}{Q:Unit->Shared->Prop} (hu:A.units+1<cLine) (I:Inv X pins σ H s) (g:DPut H a y v H') (ry:RelV y u) (rv:RelV v r) (h:∀s',Inv X pins σ H' s'->Q () s') :
  wpAny (model X.prog X.w) A (setItem (.ref a) u r) Q E s:=by
 rcases g with⟨kvs,k,e,ey,l,eH⟩|⟨kvs,k,b,e,ey,eb,l,eH⟩
 ·subst ey eH;obtain⟨z,hd,vs,rel,dd⟩:=PJ I.hok e;have hz:vs.length<=sizeLine:=by rw[←rel.length];exact z
  have hl:(cI kvs k v).length<=sizeLine:=by have:=fC kvs k v;lia
  refine wpAny_setItem_pairs (hsz:=hz) (k3 ry) dd fun h' dd' hs=>h _ ?_;have he:∃q,h'.get? a=some q:=let ⟨q,_,_,hq,_⟩:=dd';⟨q,hq⟩;exact xJ I (by rw[e];exact True.intro) hs he (CB hl hd (rel.put k rv) dd')
 ·subst ey eH;cases (show u=Value.ref b from ry);obtain⟨z,hd,xs,rel,dd⟩:=P5 I.hok e;have hz:xs.length<=sizeLine:=by rw[←Paired.length rel];exact z
  have hl:(cI kvs k v).length<=sizeLine:=by have:=fC kvs k v;lia
  refine wpAny_setItem_heap (hsz:=hz) (tupleKind_room_in1 hu) (kI I.hok eb) dd fun h' dd' hs=>h _ ?_;obtain⟨q,es,ep,hq,h2,h3,h4,_,h5⟩:=dd';refine xJ I (by rw[e];exact True.intro) hs ⟨q,hq⟩ ⟨hl,hd,_,(rel.put k eb rv).keeps fun c ys ec=> ?_,q,es,ep,hq,h2,h3,h4,h5⟩;rw[aI (PR ec e (fun z=>nomatch z))];exact ec
end
section
variable {X:Cx}{pins:List (Addr×Obj)}{σ:St}{H:Hp}{s:Shared}{a:Addr}{kvs:List (Key×V)}{k:Key}{u:Value}{A:Around}{E:Value->Shared->Prop}
end
def LW (i:Expr):Prop:=∀ov iv,subscripted i false ov iv=operate [ov,iv] (getItem ov iv)
theorem IV {prog:Program}{w:World}{A:Around}{E:Value->Shared->Prop}{s:Shared}{env:Env}{value slice:Expr}{pos:Pos}{T id:String}{Q:Value->Shared->Prop}
  (hl:typeLookup (.type T) "__getitem__" =pure (some (.builtin id)))(hs:LW slice)
  (h:wpAny (model prog w) A (eval value env) (fun o s₁=>wpAny (model prog w) A (eval slice env) (fun i s₂=>s₂.TypeIs o T/\wpAny (model prog w) A (getItem o i) Q E s₂) E s₁) E s) :
  wpAny (model prog w) A (eval (.Subscript value slice pos) env) Q E s:=by
 refine Subscript_ (wpAny_mono h (fun o s₁ h₁=>wpAny_mono h₁ (fun i s₂ h₂=> ?_) fun _ _ x=>x) fun _ _ x=>x);obtain⟨hT,h₂⟩:=h₂;unfold subscriptTail;refine wpAny_bind ?_;rw[getitemInPython_of_ne hT.not_modules];refine wpAny_bind (wpAny_specialOf hT hl ?_);have fin:wpAny (model prog w) A (subscripted slice false o i) (fun r s₃=>wpAny (model prog w) A (letTemporaryGo value o r >>= fun _=>pure r) Q E s₃) E s₂:=by
  rw[hs o i];exact wpAny_operating (wpAny_mono h₂ (fun r s₃ h₃=>wpAny_bind (wpAny_letTemporaryGo (wpAny_pure h₃))) fun _ _ x=>x)
 first
  | exact wpAny_pure (wpAny_bind fin)
  | exact wpAny_bind (wpAny_pure (wpAny_bind fin))
  | exact wpAny_bind fin
theorem wK {X:Cx}{pins:List (Addr×Obj)}{σ:St}{H:Hp}{s:Shared}{a:Addr}{y:V}{o:Option V} (I:Inv X pins σ H s) (g:DGet H a y o):s.TypeIs (.ref a) "dict" :=by
 rcases g with⟨kvs,k,e,_,_⟩|⟨kvs,k,b,e,_,_,_⟩
 ·obtain⟨_,_,vs,_,dd⟩:=kX I.hok e;exact dd.typeIs
 ·obtain⟨_,_,xs,_,dd⟩:=kS I.hok e;exact dd.typeIs
def GK (td ty:TE):TE:=fun σ H Q=>td σ H fun x H1=>ty σ H1 fun y H2=>∃a v,x= .ref a/\DGet H2 a y (some v)/\Q v H2
def NM (ty td:TE):TE:=fun σ H Q=>ty σ H fun y H1=>td σ H1 fun x H2=>∃a o,x= .ref a/\DGet H2 a y o/\Q (.bl o.isSome) H2
def yB (ty td:TE):TE:=fun σ H Q=>ty σ H fun y H1=>td σ H1 fun x H2=>∃a o,x= .ref a/\DGet H2 a y o/\Q (.bl (!o.isSome)) H2
def G0 (td ty tv:TE):TS:=fun D σ H=>tv σ H fun v H1=>td σ H1 fun x H2=>ty σ H2 fun y H3=>∃a H4,x= .ref a/\DPut H3 a y v H4/\D.nx σ H4
section
variable {X:Cx}{o i e value:Expr}{pos pos' tpos:Pos}{td ty tv:TE}
theorem qY (hu:X.A.units+1<cLine)(ho:PE X o td)(hi:PE X i ty)(hs:LW i):PE X (.Subscript o i pos) (GK td ty):=by
 intro pins s σ H Q I h;refine IV PySem.F.slot_dict_getitem.lookup hs (thn (ho pins s σ H _ I h) fun u s1 ⟨x,H1,I1,rx,q1⟩=>thn (hi pins s1 σ H1 _ I1 q1) fun iv s2 ⟨y,H2,I2,ry,a,v,ex,g,q2⟩=> ?_);subst ex;obtain rfl:u=Value.ref a:=rx;exact⟨wK I2 g,C9 hu I2 g ry fun w' s3 I3 rw'=>⟨v,H2,I3,rw',q2⟩⟩
theorem NU (hu:X.A.units+1<cLine)(hi:PE X i ty)(ho:PE X o td):PC X .In i o (NM ty td):=by
 intro pins s σ H Q I h;refine thn (hi pins s σ H _ I h) fun iv s1 ⟨y,H1,I1,ry,q1⟩=>thn (ho pins s1 σ H1 _ I1 q1) fun u s2 ⟨x,H2,I2,rx,a,ov,ex,g,q2⟩=> ?_;subst ex;obtain rfl:u=Value.ref a:=rx;exact QE hu I2 g ry fun s3 I3=>⟨.bl ov.isSome,H2,I3,rfl,q2⟩
theorem BT (hu:X.A.units+1<cLine)(hi:PE X i ty)(ho:PE X o td):PC X .NotIn i o (yB ty td):=by
 intro pins s σ H Q I h;refine thn (hi pins s σ H _ I h) fun iv s1 ⟨y,H1,I1,ry,q1⟩=>thn (ho pins s1 σ H1 _ I1 q1) fun u s2 ⟨x,H2,I2,rx,a,ov,ex,g,q2⟩=> ?_;subst ex;obtain rfl:u=Value.ref a:=rx;exact JC hu I2 g ry fun s3 I3=>⟨.bl (!ov.isSome),H2,I3,rfl,q2⟩
theorem kP (hu:X.A.units+1<cLine)(ho:PE X o td)(hi:PE X i ty)(hv:PE X value tv)(hs:swapsWith value (some (.Subscript o i pos')) pos.line X.env=pure false) :
  PS X (.Assign [.Subscript o i pos'] value pos) (G0 td ty tv):=by
 intro pins s σ H D I h;refine wpAny_Assign_Subscript (thn (hv pins s σ H _ I h) fun r s1 ⟨v,H1,I1,rv,q1⟩=>thn (ho pins s1 σ H1 _ I1 q1) fun u s2 ⟨x,H2,I2,rx,q2⟩=>thn (hi pins s2 σ H2 _ I2 q2) fun iv s3 ⟨y,H3,I3,ry,a,H4,ex,g,q3⟩=> ?_) hs;subst ex;obtain rfl:u=Value.ref a:=rx;exact B1 hu I3 g ry rv fun s4 I4=>⟨σ,H4,I4,q3⟩
end
theorem EW {P:Program}{w:World}{H:Hp} (h:Heap) (hb:sysModules<h.objs.size):ObjOk P w H (h.push { cls:= .type "dict",data:= .dict #[] }) h.objs.size (.dK []) :=
 ⟨Nat.zero_le _,beq_eq_false_iff_ne.mpr (Ne.symm (Nat.ne_of_lt hb)),[],.nil,Heap.DictOf.new h⟩
theorem DU {P:Program}{w:World}{H:Hp} (h:Heap) (hb:sysModules<h.objs.size):ObjOk P w H (h.push { cls:= .type "dict",data:= .dict #[] }) h.objs.size (.dT []) :=
 ⟨Nat.zero_le _,beq_eq_false_iff_ne.mpr (Ne.symm (Nat.ne_of_lt hb)),[],.nil,_,#[],0,Heap.get?_push_size _ rfl,⟨rfl,rfl,rfl⟩,rfl,rfl,List.nodup_nil⟩
def C0:TE:=fun _ H Q=>∀p,H p=none->Q (.ref p) (upd H p (.dK []))
def AU:TE:=fun _ H Q=>∀p,H p=none->Q (.ref p) (upd H p (.dT []))
section
variable {X:Cx}{pos:Pos}
theorem o8:PE X (.Dict [] [] pos) C0:=fun pins s σ H Q I h =>
 wpAny_Dict_empty ⟨.ref s.heap.objs.size,_,I.laid (a:=s.heap.objs.size) (o:= .dK []) (t':=s.toks) (fun _ _ q=>Heap.get?_push_of_some _ q) (Nat.le_refl _) (EW s.heap I.big),rfl,h _ (I.hok.fresh (Nat.le_refl _))⟩
theorem uA:PE X (.Dict [] [] pos) AU:=fun pins s σ H Q I h =>
 wpAny_Dict_empty ⟨.ref s.heap.objs.size,_,I.laid (a:=s.heap.objs.size) (o:= .dT []) (t':=s.toks) (fun _ _ q=>Heap.get?_push_of_some _ q) (Nat.le_refl _) (DU s.heap I.big),rfl,h _ (I.hok.fresh (Nat.le_refl _))⟩
end
def gQ (kvs more:List (Key×V)):List (Key×V):=more.foldl (fun acc kv=>cI acc kv.1 kv.2) kvs
theorem KV.merge:∀{more:List (Key×V)}{rs:List (Key×Value)}{kvs:List (Key×V)}{vs:List (Key×Value)},KV more rs->KV kvs vs->KV (gQ kvs more) (merged vs rs):=by
 intro more rs kvs vs r;unfold KV at r
 induction r generalizing kvs vs with
 | nil=>intro q;exact q
 | @cons p q ps qs h t ih =>
  intro r0;have e:KV (cI kvs p.1 p.2) (stored vs q.1 q.2):=by
   have:=r0.put p.1 h.2;rw[←h.1];exact this
  exact ih e
theorem lO:∀(more kvs:List (Key×V)),(gQ kvs more).length<=kvs.length+more.length
 | [],kvs=>by show kvs.length<=kvs.length+0;lia
 | p::r,kvs=>by
  have h1:=lO r (cI kvs p.1 p.2);have h2:=fC kvs p.1 p.2;show (gQ (cI kvs p.1 p.2) r).length<=_;rw[List.length_cons];lia
structure M2 (X:Cx)(o:Expr)(m:Str)(apos:Pos)(e f:Expr)(cpos:Pos):Prop where
 base:attributeBase o m X.env (eval o X.env)=eval o X.env
 few:((backTo cpos (starEach [e,f] X.env)).all (fun x=> !x.1)&&(backToKw cpos (keywordEach [] X.env)).all (fun x=>x.1.isSome)
  && decide (([e,f]:List Expr).length+([]:List Keyword).length+(if ([]:List Keyword).isEmpty then 0 else 1)<30))=true
 line:(apos.endLine==cpos.line)=true
 trees:backTo cpos (starEach [e,f] X.env)=[(false,eval e X.env),(false,eval f X.env)]
def IsD (H:Hp)(a:Addr):Prop:=(∃kvs,Rd H a (.dK kvs))∨∃kvs,Rd H a (.dT kvs)
theorem BK {X:Cx}{pins:List (Addr×Obj)}{σ:St}{H:Hp}{s:Shared}{a:Addr} (I:Inv X pins σ H s) (d:IsD H a) :
  s.TypeIs (.ref a) "dict" /\(∀b,Value.ref a= .ref b->∃ob,s.heap.get? b=some ob/\ob.dict=none)/\(a==sysModules)=false:=by
 rcases d with⟨kvs,e⟩|⟨kvs,e⟩
 ·obtain⟨_,hd,vs,_,dd⟩:=kX I.hok e;refine⟨dd.typeIs,fun b q=> ?_,hd⟩;cases q;obtain⟨ob,_,_,h1,h2,_⟩:=dd;exact⟨ob,h1,h2.2.1⟩
 ·obtain⟨_,hd,xs,_,dd⟩:=kS I.hok e;refine⟨dd.typeIs,fun b q=> ?_,hd⟩;cases q;obtain⟨ob,_,_,h1,h2,_⟩:=dd;exact⟨ob,h1,h2.2.1⟩
section
variable {X:Cx}{pins:List (Addr×Obj)}{σ:St}{H:Hp}{s:Shared}{a:Addr}{y d:V}{u r:Value}{o:Option V}{A:Around}{E:Value->Shared->Prop}
theorem M3 {Q:Value->Shared->Prop}(hu:A.units+1<cLine)(I:Inv X pins σ H s)(g:DGet H a y o)(ry:RelV y u)(rd:RelV d r)(h:∀w' s',Inv X pins σ H s'->RelV (o.getD d) w'->Q w' s') :
  wpAny (model X.prog X.w) A (call (.builtin "dict.get") [.ref a,u,r]) Q E s:=by
 rcases g with⟨kvs,k,e,ey,l⟩|⟨kvs,k,b,e,ey,eb,l⟩
 ·subst ey;obtain⟨z,hd,vs,rel,dd⟩:=kX I.hok e;refine call_meetsIn PySem.F.slot_dict_get dd.typeIs PySem.F.entry_dict_get (PySem.F.args_dict_get_3 _ _ _) (meets_dict_get_default (bM X.prog X.w) a (k3 ry) hd r) ⟨_,dd.mapOf,h _ _ (I.tok _) ?_⟩;rw[l];exact(rel.val k).getD rd
 ·subst ey;cases (show u=Value.ref b from ry);obtain⟨z,hd,xs,rel,dd⟩:=kS I.hok e;refine call_meetsIn PySem.F.slot_dict_get dd.typeIs PySem.F.entry_dict_get (PySem.F.args_dict_get_3 _ _ _) (meetsH_dict_get_default (tupleKind (bM X.prog X.w)) a b hd r) ⟨tupleKind_room_in1 hu,k,xs,kI I.hok eb,dd,h _ _ (I.tok _) ?_⟩;rw[l];exact(rel.val k).getD rd
end
def CS (td ty tx:TE):TE:=fun σ H Q=>td σ H fun x H1=>∃a,x= .ref a/\IsD H1 a/\ty σ H1 fun y H2=>tx σ H2 fun z H3=>∃o,DGet H3 a y o/\Q (o.getD z) H3
section
variable {X:Cx}{o e f:Expr}{apos cpos:Pos}{td ty tx:TE}
theorem t5 (hu:X.A.units+1<cLine)(ho:PE X o td)(he:PE X e ty)(hf:PE X f tx)(m:M2 X o "get" apos e f cpos):PE X (.Call (.Attribute o "get" apos) [e,f] [] cpos) (CS td ty tx):=by
 intro pins s σ H Q I h;refine wpAny_Call_method m.base m.few m.line PySem.F.plainAttrs_dict PySem.F.slot_dict_get PySem.F.type_dict_get (thn (ho pins s σ H _ I h) fun u s1 ⟨x,H1,I1,rx,a,ex,d,q1⟩=> ?_);subst ex;obtain rfl:u=Value.ref a:=rx;obtain⟨t1,t2,_⟩:=BK I1 d;refine⟨t1,t2,?_⟩;rw[m.trees];refine Calls.callWith_builtin rfl (Calls.evalArgs_plain (Calls.spliced_cons (thn (he pins s1 σ H1 _ I1 q1) fun iv s2 ⟨y,H2,I2,ry,q2⟩ =>
  Calls.spliced_cons (thn (hf pins s2 σ H2 _ I2 q2) fun fv s3 ⟨z,H3,I3,rz,ov,g,q3⟩=>Calls.spliced_nil ?_))))
 exact M3 hu I3 g ry rz fun w' s4 I4 rw'=>⟨_,H3,I4,rw',q3⟩
end
section
variable {X:Cx}{pins:List (Addr×Obj)}{σ:St}{H:Hp}{s:Shared}{a:Addr}{kvs:List (Key×V)}{A:Around}{E:Value->Shared->Prop}
end
section
variable {X:Cx}{pins:List (Addr×Obj)}{σ:St}{H:Hp}{s:Shared}{a:Addr}{y:V}{u:Value}{A:Around}{E:Value->Shared->Prop}
end
end L2
namespace L2
open PySem PySem.Spec PyProof.Rows
section
variable {κ:Type}[DecidableEq κ]
theorem xN:∀{l:List κ}{k:κ},l.Nodup->¬k∈l->(l++[k]).Nodup
 | [],k,_,_=>by simp
 | a::r,k,h,hk=>by
  obtain⟨h1,h2⟩:=List.nodup_cons.mp h;show (a::(r++[k])).Nodup;refine List.nodup_cons.mpr ⟨fun m=> ?_,xN h2 fun m=>hk (List.mem_cons.mpr (Or.inr m))⟩;rcases List.mem_append.mp m with q|q
  ·exact h1 q
  ·exact hk (List.mem_cons.mpr (Or.inl (List.mem_singleton.mp q).symm))
end
end L2
namespace L2
open PySem PySem.W PyProof.Rows
def aO {α:Type}(c:Nat->Nat->Bool):KasT α->α
 | .ret a=>a
 | .ask i j k=>aO c (k (c i j))
def KasIn {α:Type}(n:Nat)(R:α->Prop):KasT α->Prop
 | .ret a=>R a
 | .ask i j k=>i<n/\j<n/\∀b,KasIn n R (k b)
theorem KasIn.bind {α β:Type}{n:Nat}{R:α->Prop}{S:β->Prop}{f:α->KasT β} (hf:∀a,R a->KasIn n S (f a)):∀{t:KasT α},KasIn n R t->KasIn n S (t.bind f)
 | .ret _,h=>hf _ h
 | .ask _ _ _,h=>⟨h.1,h.2.1,fun b=>KasIn.bind hf (h.2.2 b)⟩
theorem KasIn.val {α:Type}{n:Nat}{R:α->Prop} (c:Nat->Nat->Bool):∀{t:KasT α},KasIn n R t->R (aO c t)
 | .ret _,h=>h
 | .ask i j k,h=>KasIn.val c (t:=k (c i j)) (h.2.2 (c i j))
abbrev Places (n:Nat)(p:Array Nat):Prop:=p.Perm (List.range n).toArray
theorem Places.lt {n:Nat}{p:Array Nat} (h:Places n p) (h0:0<n) (i:Nat):p.getD i 0<n:=by
 by_cases hi:i<p.size
 ·have e:p.getD i 0=p[i]:=by simp[Array.getD,hi]
  rw[e];have:=h.mem_iff.mp (Array.getElem_mem hi)
  simpa using this
 ·have e:p.getD i 0=0:=by simp[Array.getD,hi]
  rw[e];exact h0
theorem gP {n:Nat}{p:Array Nat} (h:Places n p) (i j:Nat):Places n (kas_rev p i j):=(mirror_perm _ _ _ _).trans h
theorem vW {n:Nat}{p:Array Nat} (h0:0<n) (hp:Places n p):∀(f k:Nat),KasIn n (fun _=>True) (kas_asc p f k)
 | 0,_=>trivial
 | f+1,k=>⟨hp.lt h0 _,hp.lt h0 _,fun b=>by cases b with|true=>exact trivial|false=>exact vW h0 hp f (k+1)⟩
theorem nJ {n:Nat}(h0:0<n):∀(f:Nat) {p:Array Nat},Places n p->∀k q,KasIn n (fun r:Array Nat×Nat×Nat=>Places n r.1) (kas_desc f p k q)
 | 0,_,hp,_,_=>hp
 | f+1,p,hp,k,q=>by
  refine⟨hp.lt h0 _,hp.lt h0 _,fun b=> ?_⟩;cases b with
  | true =>
   show KasIn n _ (if q>0 then _ else _)
   split
   ·exact nJ h0 f (gP hp _ _) _ _
   ·exact nJ h0 f hp _ _
  | false =>
   refine⟨hp.lt h0 _,hp.lt h0 _,fun b=> ?_⟩;cases b with
   | true=>exact hp
   | false=>exact nJ h0 f hp _ _
theorem u7 {n k m:Nat}{p:Array Nat} (h0:0<n) (hp:Places n p):KasIn n (fun r:Nat×Array Nat=>Places n r.2) (kas_tail3 k m p) :=
 KasIn.bind (R:=fun _=>True) (S:=fun r:Nat×Array Nat=>Places n r.2) (f:=fun j=> .ret (j,kas_rev p 0 k)) (fun _ _=>gP hp 0 k) (vW h0 (gP hp 0 k) (m - k) k)
theorem oF {n k m:Nat}{p:Array Nat} (h0:0<n) (hp:Places n p):KasIn n (fun r:Nat×Array Nat=>Places n r.2) (kas_descPart k m p) :=
 KasIn.bind (fun r hr=>by
  split
  ·exact u7 h0 (gP hr _ _)
  ·exact u7 h0 hr) (nJ h0 _ hp _ _)
theorem D7 {n m:Nat}{p:Array Nat} (h0:0<n) (hp:Places n p):KasIn n (fun r:Nat×Array Nat=>Places n r.2) (kas_count m p) :=
 KasIn.bind (fun k _=>by
  split
  ·exact hp
  ·split
   ·refine⟨hp.lt h0 _,hp.lt h0 _,fun b=> ?_⟩;cases b with
    | true=>exact hp
    | false=>exact oF h0 (gP hp _ _)
   ·exact oF h0 hp) (vW h0 hp _ _)
theorem oW {n k:Nat}{p:Array Nat} (h0:0<n) (hp:Places n p):∀(f l r:Nat),KasIn n (fun _=>True) (kas_place p k f l r)
 | 0,_,_=>trivial
 | f+1,l,r=>by
  unfold kas_place
  split
  ·exact trivial
  ·refine⟨hp.lt h0 _,hp.lt h0 _,fun b=> ?_⟩;cases b with
   | true=>exact oW h0 hp f _ _
   | false=>exact oW h0 hp f _ _
theorem C6 {n:Nat}(h0:0<n):∀(f:Nat) {p:Array Nat} (k:Nat),Places n p->KasIn n (Places n) (kas_bin f p k)
 | 0,_,_,hp=>hp
 | f+1,_,k,hp=>KasIn.bind (fun _ _=>C6 h0 f (k+1) ((bubble_perm _ _ _).trans hp)) (oW h0 hp _ _ _)
theorem xQ {n:Nat}(h0:0<n):KasIn n (Places n) (kas_sort n) :=
 KasIn.bind (fun r hr=>by
  split
  ·exact C6 h0 _ _ hr
  ·exact hr) (D7 h0 (Array.Perm.refl _))
def bB {α:Type}(d:α)(c:Nat->Nat->Bool)(l:List α):List α:=if l.length<2 then l else (aO c (kas_sort l.length)).toList.map fun i=>l.getD i d
theorem d4 {n:Nat}(c:Nat->Nat->Bool)(h:0<n):Places n (aO c (kas_sort n)):=(xQ h).val c
theorem qX {α:Type}(d:α)(c:Nat->Nat->Bool)(l:List α):(bB d c l).length=l.length:=by
 unfold bB
 split
 ·rfl
 ·have h:=(d4 (n:=l.length) c (by lia)).size_eq;rw[List.length_map,Array.length_toList,h];simp
end L2
namespace L2
open PySem PySem.W PyProof.Rows PySem.Calls
section
variable {prog:Program}{w:World}{A:Around}{E:Value->Shared->Prop}{s:Shared}
abbrev kN (a:Addr)(h h':Heap):Prop:=∀b o,b≠a->h.get? b=some o->h'.get? b=some o
end
end L2
namespace L2
open PySem PySem.W PyProof.Rows
def cX:Key->Bool
 | .inl _=>true
 | .inr _=>false
def eT:Key->Key->Bool
 | .inl i,.inl j=>decide (i<j)
 | .inr x,.inr y=>decide (x.cps.toList<y.cps.toList)
 | _,_=>false
def c9:List Key->List Key->Bool
 | a::as,b::bs=>if a=b then c9 as bs else eT a b
 | _,_=>false
section
variable {prog:Program}{w:World}{A:Around}{s:Shared}
theorem LC {a b:Key}{u v:Value}{Q:Bool->Shared->Prop}{E:Value->Shared->Prop} (k:cX a=cX b) (ru:RelV (kV a) u) (rv:RelV (kV b) v) (q:Q (decide (a=b)) s):wpAny (model prog w) A (eqBool u v) Q E s:=by
 cases a<;>cases b<;>first|(cases k;done)|skip
 ·obtain⟨t,rfl⟩:=ru;obtain⟨t',rfl⟩:=rv;refine wpAny_eqBool_int ?_;rename_i i j;have e:(i==j)=decide ((Sum.inl i:Key)=Sum.inl j):=by
   by_cases z:i=j
   ·subst z;simp
   ·rw[beq_false_of_ne z,decide_eq_false (fun y=>z (Sum.inl.inj y))]
  rw[e];exact q
 ·obtain⟨t,rfl⟩:=ru;obtain⟨t',rfl⟩:=rv;refine wpAny_eqBool_str ?_;rename_i i j;have e:decide (i=j)=decide ((Sum.inr i:Key)=Sum.inr j):=by
   by_cases z:i=j
   ·subst z;simp
   ·rw[decide_eq_false z,decide_eq_false (fun y=>z (Sum.inr.inj y))]
  rw[e];exact q
theorem MY {a b:Key}{u v:Value}{Q:Bool->Shared->Prop}{E:Value->Shared->Prop} (k:cX a=cX b) (ru:RelV (kV a) u) (rv:RelV (kV b) v) (q:Q (eT a b) s) (t:Bool):wpAny (model prog w) A (oneLt' t u v) Q E s:=by
 cases a<;>cases b<;>first|(cases k;done)|skip
 ·obtain⟨t1,rfl⟩:=ru;obtain⟨t2,rfl⟩:=rv;cases t with
  | true=>exact oneLt_int q
  | false=>exact kat_one _ _ (lt_int q)
 ·obtain⟨t1,rfl⟩:=ru;obtain⟨t2,rfl⟩:=rv;cases t with
  | true=>exact oneLt_str q
  | false=>exact kat_one _ _ (lt_str q)
theorem AN {Q:Bool->Shared->Prop}:∀{as bs:List Key}{us vs:List Value} (i:Nat),as.map cX=bs.map cX->Vals (as.map kV) us->Vals (bs.map kV) vs->Q (c9 as bs) s->KatLex prog w A true false Q (us.zip vs) i s
 | [],[],_,_,_,_,.nil,.nil,q=>kat_nil q
 | [],_::_,_,_,_,k,_,_,_=>by cases k
 | _::_,[],_,_,_,k,_,_,_=>by cases k
 | a::as,b::bs,_,_,i,k,.cons ra rs,.cons rb rt,q=>by
  have k1:cX a=cX b:=(List.cons.inj k).1;refine kat_cons (LC k1 ra rb ?_);have q':Q (if a=b then c9 as bs else eT a b) s:=q
  by_cases z:a=b
  ·rw[if_pos z]at q';rw[decide_eq_true z];exact kat_yes (AN (i+1) (List.cons.inj k).2 rs rt q')
  ·rw[if_neg z]at q';rw[decide_eq_false z];exact kat_no (MY k1 ra rb q' _)
end
abbrev KRows (H:Hp):List V->List (List Key)->Prop:=Paired fun v r=>∃p,v= .ref p/\H p=some (.tup (r.map kV))
theorem KRows.map {H H':Hp}(f:∀p xs,H p=some (.tup xs)->H' p=some (.tup xs)):∀{vs:List V}{rs:List (List Key)},KRows H vs rs->KRows H' vs rs
 | _,_,.nil=> .nil
 | _,_,.cons ⟨p,e,h⟩ r=> .cons ⟨p,e,f _ _ h⟩ (KRows.map f r)
theorem KRows.same {H H':Hp}{vs:List V}{rs:List (List Key)} (x:KRows H vs rs) (s:Same H H'):KRows H' vs rs:=x.map fun p xs h=>s _ _ h
theorem KRows.get {H:Hp}:∀{vs:List V}{rs:List (List Key)}{i:Nat}{v:V},KRows H vs rs->vs[i]? =some v->∃p r,v= .ref p/\rs[i]? =some r/\H p=some (.tup (r.map kV))
 | _,_,0,_,.cons ⟨p,e,h⟩ _,z=>by cases z;exact⟨p,_,e,rfl,h⟩
 | _,_,i+1,_,.cons _ t,z=>KRows.get (i:=i) t (by simpa using z)
 | _,_,_,_,.nil,z=>by simp at z
def lD (rs:List (List Key))(i j:Nat):Bool:=c9 (rs.getD i []) (rs.getD j [])
def y9 (rs:List (List Key))(vs:List V):List V:=bB .non (lD rs) vs
section
variable {X:Cx}{pins:List (Addr×Obj)}{σ:St}{H:Hp}{s:Shared}
theorem qQ (I:Inv X pins σ H s){p:Addr}{r:List Key} (e:H p=some (.tup (r.map kV))):∃(o:Obj) (us:List Value) (n:Nat),s.heap.get? p=some o/\o.cls= .type "tuple" /\o.data= .seq us.toArray n/\Vals (r.map kV) us:=by
 obtain⟨_,its,r',o,h1,h2,n,h3⟩:=(show ObjOk X.prog X.w H s.heap p (.tup (r.map kV)) from I.hok p _ e)
 exact⟨o,its,n,h1,h2,h3,r'⟩
theorem rY (I:Inv X pins σ H s){sh:List Bool}{T:Value}{h':Heap} (kp:∀b o,s.heap.get? b=some o->h'.get? b=some o) (hT:∀(k:Key) (u:Value),sh.head? =some (cX k)->RelV (kV k) u->Looks (model X.prog X.w) h' (typeOf u) T) :
  ∀{vs:List V}{rs:List (List Key)}{us:List Value},KRows H vs rs->Vals vs us->(∀r∈rs,r.map cX=sh)->sh≠[]->∃fs,KatTups h' us fs/\fs.length=us.length/\∀v∈fs,Looks (model X.prog X.w) h' (typeOf v) T
 | _,_,_,.nil,.nil,_,_=>⟨[],trivial,rfl,fun _ z=>nomatch z⟩
 | _::_,r::_,_::_,.cons ⟨p,hv,e⟩ q,.cons rv rt,hs,hn=>by
  obtain⟨fs,f1,f2,f3⟩:=rY I kp hT q rt (fun r hr=>hs r (List.mem_cons_of_mem _ hr)) hn;subst hv;cases rv;have hr:=hs r (.head _);cases r with
  | nil=>exact absurd hr.symm hn
  | cons k ks =>
   obtain⟨o,us,n,o1,o2,o3,o4⟩:=qQ I e;cases o4 with
   | cons r1 r2 =>
    rename_i u us;refine⟨u::fs,KatTups.cons (kp _ _ o1) o2 o3 (by simp) f1,by simp[f2],fun v hv=> ?_⟩;rcases List.mem_cons.mp hv with rfl|hv
    ·exact hT k _ (by rw[←hr];rfl) r1
    ·exact f3 v hv
theorem vP {xs:List V}{us:List Value} (c:Nat->Nat->Bool) (r:Vals xs us):Vals (bB .non c xs) (bB Value.none c us):=by
 have hl:=r.length;unfold bB;rw[hl]
 split
 ·exact r
 ·have hp:=d4 (n:=us.length) c (by lia);have hm:∀i∈(aO c (kas_sort us.length)).toList,i<us.length:=fun i hi=>by
   have h:=hp.mem_iff.mp (Array.mem_toList_iff.mp hi)
   simpa using h
  revert hm;generalize (aO c (kas_sort us.length)).toList=l;intro hm
  induction l with
  | nil=>exact .nil
  | cons i l ih =>
   refine .cons ?_ (ih fun j hj=>hm j (List.mem_cons_of_mem _ hj));have hi:=hm i (.head _);have hx:xs[i]? =some (xs[i]'(by lia)):=List.getElem?_eq_getElem _;obtain⟨u,hu,ru⟩:=r.get hx;show RelV (xs.getD i .non) (us.getD i Value.none);rw[List.getD_eq_getElem?_getD,List.getD_eq_getElem?_getD,hx,hu];exact ru
end
end L2
namespace L2
open PySem PySem.W PyProof.Rows
section
variable {prog:Program}{w:World}{A:Around}{E:Value->Shared->Prop}{s:Shared}{d it:Addr}{o:Obj}{es:Array DictEntry}{ep i:Nat}
theorem uU {Q:Value->Shared->Prop}(hd:(d==sysModules)=false)(ho:s.heap.get? d=some o)(hc:o.ExactDict)(hq:o.data= .dict es ep)
  (k:Q (.ref s.heap.objs.size) { s with heap:=s.heap.push { cls:= .type "dict_keyiterator",data:= .fields #[.ref d,.int 0 0,.int es.size 0,.int ep 0] } }):wpAny (model prog w) A (pyIter (.ref d)) Q E s:=by
 have T:s.TypeIs (.ref d) "dict" :=⟨o,ho,hc.1⟩
 refine wpAny_pyIter_slot T F.slot_dict_iter (wpAny_call_entry F.slot_dict_iter T F.entry_dict_iter ?_ (F.args_dict_iter_1 _));unfold Builtin.«dict.__iter__» Builtin.Dict.dictSlotNone;refine wpAny_bind (wpAny_bind (wpAny_notOrdered_dict T (wpAny_pure ?_)));show wpAny _ A.in1 (Builtin.Dict.showsAll d >>= _) _ _ s;unfold Builtin.Dict.showsAll;rw[if_neg (fun z=>by rw[hd]at z;cases z)];refine wpAny_bind (wpAny_pure (wpAny_bind (wpAny_dictEntries ho hq (wpAny_bind (wpAny_dictEpoch ho hq ?_)))));exact wpAny_bind (wpAny_newObj_type (wpAny_pure ⟨_,rfl,"dict_keyiterator",_,⟨_,Heap.get?_push_size _ rfl,rfl⟩,F.slot_dict_keyiterator_next.lookup,k⟩))
theorem vX {Q:Option Value->Shared->Prop}{e:DictEntry} (hit:s.heap.IsKeyIter it d i es.size ep) (ho:s.heap.get? d=some o) (hq:o.data= .dict es ep) (hx:es[i]? =some e)
  (k:∀h',h'.IsKeyIter it d (i+1) es.size ep->Heap.SameBut it s.heap h'->Q (some e.key) { s with heap:=h' }):wpAny (model prog w) A (pyNext (.ref it)) Q E s:=by
 obtain⟨oi,hi,ci,di⟩:=id hit;have T:=hit.typeIs;unfold pyNext;refine wpAny_bind (wpAny_attempt (wpAny_callSpecial?_slot (name:=Str.ofString "__next__") T F.slot_dict_keyiterator_next (wpAny_call_entry F.slot_dict_keyiterator_next T F.entry_dict_keyiterator_next ?_ (F.args_dict_keyiterator_next_1 _))));refine wpAny_bind (wpAny_pure (wpAny_bind (wpAny_bind ?_)))
 first|refine wpAny_bind (wpAny_typeNameOfWhole_keyiter T (wpAny_pure (wpAny_bind (wpAny_fieldsOf hi di ?_))))|refine wpAny_bind (wpAny_typeNameOf_keyiter T (wpAny_pure (wpAny_bind (wpAny_fieldsOf hi di ?_))))
 simp only[show Builtin.Dict_items.ownsTuple "dict_keyiterator" =false by decide,Bool.false_eq_true,if_false];show wpAny _ A.in1 (if (Value.ref d==Value.none)=true then _ else _) _ _ s;rw[if_neg (show ¬(Value.ref d==Value.none)=true from Bool.false_ne_true)];refine wpAny_bind (wpAny_pure (wpAny_bind (wpAny_dictEntries ho hq ?_)));rw[if_neg (by simp)];refine wpAny_bind (wpAny_pure (wpAny_bind (wpAny_dictEpoch ho hq ?_)));rw[if_neg (by simp)];refine wpAny_pure ?_;simp only[show ¬((i:Int)<0) from by lia,if_false,Int.toNat_natCast,hx];refine wpAny_bind ?_
 first|refine wpAny_bind (wpAny_typeNameOfWhole_keyiter T (wpAny_pure (wpAny_bind (wpAny_isOneOf_keyiter T ?_))))|refine wpAny_bind (wpAny_typeNameOf_keyiter T (wpAny_pure (wpAny_bind (wpAny_isOneOf_keyiter T ?_))))
 show wpAny _ A.in1 (setField (.ref it) 1 (rawInt ((i:Int)+1)) >>= _) _ _ s;refine wpAny_bind (wpAny_setField hi di (by simp) ?_);have H2:(s.heap.update it (Obj.mapFields (·.setIfInBounds 1 (rawInt ((i:Int)+1))))).IsKeyIter it d (i+1) es.size ep :=
  ⟨_,Heap.get?_update_self _ hi (Obj.isFreed_of_fields (Obj.data_mapFields di _)),(Obj.cls_mapFields ..).trans ci,(Obj.data_mapFields di _).trans (by simp[rawInt])⟩
 refine wpAny_bind (wpAny_holding (wpAny_bind (wpAny_isOneOf_keyiter (s:={ s with heap:=s.heap.update it (Obj.mapFields (·.setIfInBounds 1 (rawInt ((i:Int)+1)))) }) H2.typeIs ?_)));show wpAny _ A.in1 (pure e.key) _ _ _;exact wpAny_pure (wpAny_pure ⟨_,rfl,wpAny_pure (k _ H2 (Heap.SameBut.update ..))⟩)
theorem xG {Q:Option Value->Shared->Prop}(hh:A.handled=none)(hit:s.heap.IsKeyIter it d i es.size ep)(ho:s.heap.get? d=some o)(hq:o.data= .dict es ep)(hx:es.size<=i)
  (k:∀h',Heap.ExtBut it s.heap h'->Q none { s with heap:=h' }):wpAny (model prog w) A (pyNext (.ref it)) Q E s:=by
 obtain⟨oi,hi,ci,di⟩:=id hit;have T:=hit.typeIs;unfold pyNext;refine wpAny_bind (wpAny_attempt (wpAny_callSpecial?_slot (name:=Str.ofString "__next__") T F.slot_dict_keyiterator_next (wpAny_call_entry F.slot_dict_keyiterator_next T F.entry_dict_keyiterator_next ?_ (F.args_dict_keyiterator_next_1 _))));refine wpAny_bind (wpAny_pure (wpAny_bind (wpAny_bind ?_)))
 first|refine wpAny_bind (wpAny_typeNameOfWhole_keyiter T (wpAny_pure (wpAny_bind (wpAny_fieldsOf hi di ?_))))|refine wpAny_bind (wpAny_typeNameOf_keyiter T (wpAny_pure (wpAny_bind (wpAny_fieldsOf hi di ?_))))
 simp only[show Builtin.Dict_items.ownsTuple "dict_keyiterator" =false by decide,Bool.false_eq_true,if_false];show wpAny _ A.in1 (if (Value.ref d==Value.none)=true then _ else _) _ _ s;rw[if_neg (show ¬(Value.ref d==Value.none)=true from Bool.false_ne_true)];refine wpAny_bind (wpAny_pure (wpAny_bind (wpAny_dictEntries ho hq ?_)));rw[if_neg (by simp)];refine wpAny_bind (wpAny_pure (wpAny_bind (wpAny_dictEpoch ho hq ?_)));rw[if_neg (by simp)];refine wpAny_pure ?_;simp only[show ¬((i:Int)<0) from by lia,if_false,Int.toNat_natCast,Array.getElem?_eq_none hx];refine wpAny_bind ?_
 first|refine wpAny_bind (wpAny_typeNameOfWhole_keyiter T (wpAny_pure ?_))|refine wpAny_bind (wpAny_typeNameOf_keyiter T (wpAny_pure ?_))
 show wpAny _ A.in1 (setField (.ref it) 0 .none >>= _) _ _ s;refine wpAny_bind (wpAny_setField hi di (by simp) ?_);show wpAny _ A.in1 (newExc (.type "StopIteration") [] >>= _) _ _ _;refine wpAny_bind ?_;simp only[newExc,newTuple];refine wpAny_bind (wpAny_newObj_type (wpAny_bind (m:=firstArgMember _ _) (wpAny_of_eq (a:=Value.none) (by first|rfl|(simp only[firstArgMember];rfl)) (wpAny_newObj_type ?_ (by size_fits)))) (by size_fits));simp only[raiseNew];refine wpAny_bind (wpAny_handled ?_);rw[show A.in1.handled=none from hh];refine wpAny_bind (wpAny_pure (wpAny_throw ?_));refine wpAny_bind (wpAny_isInstance (b:=true) (T:= "StopIteration") ⟨_,Heap.get?_push_size _ rfl,rfl⟩ isSubtype_stop ?_);exact wpAny_pure (k _ (((Heap.SameBut.update ..).extBut.push _).push _))
end
end L2
namespace L2
open PySem PySem.W PyProof.Rows
def Itk (a:Addr)(o:Obj)(kvs:List (Key×V)):It :=
 ⟨fun i H=>H a=some (.frz o (.dK kvs))/\i<kvs.length,fun i H x H'=>H'=H/\∃k v,kvs[i]? =some (k,v)/\x=kV k,fun i H=>H a=some (.frz o (.dK kvs))/\kvs.length<=i⟩
def Itq (a:Addr)(o:Obj)(kvs:List (List Key×V)):It :=
 ⟨fun i H=>H a=some (.frz o (.dT kvs))/\i<kvs.length,fun i H x H'=>H'=H/\∃k v q,kvs[i]? =some (k,v)/\x= .ref q/\H q=some (.tup (k.map kV)),fun i H=>H a=some (.frz o (.dT kvs))/\kvs.length<=i⟩
theorem KT.get {H:Hp}:∀{kvs:List (List Key×V)}{xs:List (List Key×Addr×Value)}{i:Nat},KT H kvs xs->i<kvs.length->∃k v b u,kvs[i]? =some (k,v)/\xs[i]? =some (k,b,u)/\H b=some (.tup (k.map kV))
 | _,_,0,.cons h _,_=>⟨_,_,_,_,rfl,by rw[h.1];rfl,h.2.1⟩
 | _,_,i+1,.cons _ t,hi=>by
  obtain⟨k,v,b,u,e1,e2,e3⟩:=KT.get (i:=i) t (by simpa using hi);exact⟨k,v,b,u,by simpa using e1,by simpa using e2,e3⟩
 | _,_,_,.nil,hi=>by simp at hi
theorem KT.len {H:Hp}{kvs:List (List Key×V)}{xs:List (List Key×Addr×Value)} (r:KT H kvs xs):kvs.length=xs.length:=Paired.length r
theorem yW {P:Program}{w:World}{K:PySem.W.Frag}{tg:Expr} (a it:Addr) {o:Obj}{es:Array DictEntry}{ep:Nat} (kvs:List (List Key×V)) (hd:o.data= .dict es ep) (hz:es.size=kvs.length) :
  kY P w K tg (Itq a o kvs) [it] it (fun i h=>h.IsKeyIter it a i es.size ep) where
 mem:=by simp
 obj:=fun i h st b hb=>by
  have e:b=it:=by simpa using hb
  subst e;obtain⟨ob,e,c,d⟩:=st;exact⟨ob,e,fun v z=>by rw[d]at z;cases z⟩
 keep:=fun i h h' st k=>st.at fun ob e=>k it (by simp) ob e
 item:=by
  intro X hP hw hK hc i pins s σ H E I hf st hg;subst hP hw hK;obtain⟨ha,hi⟩:=hg;obtain⟨ho,hok⟩:=(show ObjOk X.prog X.w H s.heap a (.frz o (.dT kvs)) from I.hok a _ ha)
  obtain⟨z,y,xs,r,o',es',ep',h1,h2,h3,h4,h5⟩:=hok;rw[ho]at h1;cases h1;rw[hd]at h3;cases h3;obtain⟨k,v,b,u,e1,e2,e3⟩:=KT.get r hi;have e4:=entry_at h4 i;rw[e2]at e4;obtain⟨f0,f1,f2,f3,f4,f5⟩:=hf it (by simp);refine vX st ho hd e4 fun h' st' sb=> ?_;have I1:Inv X pins σ H { s with heap:=h' }:=I.turned (t':=s.toks) (fun b o hb e=>(sb.2 b hb).trans e) f0 f1 f3 f4 f5;exact⟨_,rfl,letGo_keyiter (s':={ s with heap:=h' }) st' ⟨.ref b,H,I1,rfl,⟨rfl,k,v,b,e1,rfl,e3⟩,st',fun b hb=>(hf b hb).1⟩⟩
 done:=by
  intro X hP hw hK hc i pins s σ H E I hf st hg;subst hP hw hK;obtain⟨ha,hi⟩:=hg;obtain⟨ho,hok⟩:=(show ObjOk X.prog X.w H s.heap a (.frz o (.dT kvs)) from I.hok a _ ha)
  obtain⟨f0,f1,f2,f3,f4,f5⟩:=hf it (by simp);exact xG (I.ok.hd hc) st ho hd (by lia) fun h' eb=>⟨rfl,I.turned (t':=s.toks) (fun b o hb e=>eb b o hb e) f0 f1 f3 f4 f5⟩
 self:=fun _ _ _ _ _ st h=>wpAny_pyIter_keyiter st h
def DA (td:TE):TI:=fun σ H R=>td σ H fun x H1=>∃a kvs,x= .ref a/\H1 a=some (.dT kvs)/\∀o,R (Itq a o kvs) (upd H1 a (.frz o (.dT kvs)))
section
variable {X:Cx}{tg:Expr}
theorem Inv.freeze {pins:List (Addr×Obj)}{σ:St}{H:Hp}{s:Shared}{a:Addr}{u:HO}{o:Obj} (I:Inv X pins σ H s) (mu:Mut (some u)) (e:H a=some u) (ho:s.heap.get? a=some o) (new:ObjOk X.prog X.w (upd H a (.frz o u)) s.heap a (.frz o u)):Inv X pins σ (upd H a (.frz o u)) s :=
 I.write (t':=s.toks) (h':=s.heap) (by rw[e];exact mu) (.inl rfl) (fun b u _ z=>z) ⟨_,ho⟩ new
theorem E2 {l:Expr}{td:TE} (hl:PE X l td):PI X tg l (DA td):=by
 intro pins s σ H R I h;refine thn (hl pins s σ H _ I h) fun v s1 ⟨x,H1,I1,r1,q1⟩=> ?_;obtain⟨a,kvs,rfl,hq,q⟩:=q1;cases r1;obtain⟨z,y,xs,r,o,es,ep,h1,h2,h3,h4,h5⟩:=(show ObjOk X.prog X.w H1 s1.heap a (.dT kvs) from I1.hok a _ hq)
 have hz:es.size=kvs.length:=by rw[size_of_entries h4,KT.len r]
 have hne:∀b ys,H1 b=some (.tup ys)->upd H1 a (.frz o (.dT kvs)) b=some (.tup ys):=fun b ys e=>by
  have hb:b≠a:=fun z=>by rw[z,hq]at e;cases e
  rw[aI hb];exact e
 have new:ObjOk X.prog X.w (upd H1 a (.frz o (.dT kvs))) s1.heap a (.frz o (.dT kvs)):=⟨h1,z,y,xs,KT.keeps r hne,o,es,ep,h1,h2,h3,h4,h5⟩
 have I2:Inv X pins σ (upd H1 a (.frz o (.dT kvs))) s1:=I1.freeze trivial hq h1 new;refine uU y h1 h2 h3 ?_;refine⟨s1.heap.objs.size,[s1.heap.objs.size],_,_,upd H1 a (.frz o (.dT kvs)),rfl,I2.kept (t':=s1.toks) fun b o e=>Heap.get?_push_of_some _ e,yW a _ kvs h3 hz,⟨_,Heap.get?_push_size _ rfl,rfl,rfl⟩,fun b hb=> ?_,q o⟩;have e:b=s1.heap.objs.size:=by simpa using hb
 subst e;exact I2.fpOk (Nat.le_refl _) (I2.hok.fresh (Nat.le_refl _))
end
end L2
namespace L2
open PySem PySem.W PyProof.Rows
def i6 (n:Nat)(lo hi st:Option Int):List Nat:=sliceRange (sliceBounds lo hi st n).1 (sliceBounds lo hi st n).2.1 (sliceBounds lo hi st n).2.2
def nG (xs:List V)(lo hi st:Option Int):List V:=(i6 xs.length lo hi st).filterMap (xs[·]?)
theorem AL (xs:List V)(lo hi st:Option Int):(nG xs lo hi st).length<=(i6 xs.length lo hi st).length:=List.length_filterMap_le _ _
theorem rW {xs:List V}{us:List Value} (r:Vals xs us):∀l:List Nat,Vals (l.filterMap (xs[·]?)) (l.filterMap (us[·]?))
 | []=> .nil
 | i::l=>by
  have ih:=rW r l;have hl:=r.length
  by_cases hi:i<xs.length
  ·have e:xs[i]? =some xs[i]:=List.getElem?_eq_getElem hi;obtain⟨u,e2,ru⟩:=r.get e;rw[List.filterMap_cons_some e,List.filterMap_cons_some e2];exact .cons ru ih
  ·rw[List.filterMap_cons_none (List.getElem?_eq_none (by lia)),List.filterMap_cons_none (List.getElem?_eq_none (by lia))];exact ih
def DY (K:PySem.W.Frag)(x:V)(lo hi st:Option Int)(H:Hp)(Q:VK):Prop:=∃a xs,x= .ref a/\SqL K H a xs/\st≠some 0/\(i6 xs.length lo hi st).length<=sizeLine/\∀p,H p=none->Q (.ref p) (upd H p (.lst (nG xs lo hi st)))
def NQ (K:PySem.W.Frag)(te:TE)(tl th ts:TO):TE:=fun σ H Q=>te σ H fun x H1=>tl σ H1 fun l H2=>th σ H2 fun u H3=>ts σ H3 fun c H4=>DY K x l u c H4 Q
section
variable {X:Cx}{e c:Expr}{te:TE}{lo hi:Option Expr}{tl th ts:TO}{pos p2:Pos}
theorem EQ (he:PE X e te)(hl:PO X lo tl)(hu:PO X hi th)(hc:PO X (some c) ts):PE X (.Subscript e (.Slice lo hi (some c) p2) pos) (NQ X.K te tl th ts):=by
 intro pins s σ H Q I h;refine Subscript_ (thn (he pins s σ H _ I h) fun v s1 ⟨x,H1,I1,r1,q1⟩=> ?_);refine wpAny_Slice (thn (hl pins s1 σ H1 _ I1 q1) fun vl s2 ⟨l,H2,I2,pl,q2⟩=>thn (hu pins s2 σ H2 _ I2 q2) fun vu s3 ⟨u,H3,I3,pu,q3⟩=>thn (hc pins s3 σ H3 _ I3 q3) fun vs s4 ⟨st,H4,I4,ps,q4⟩=> ?_);have I5:Inv X pins σ H4 { s4 with heap:=s4.heap.push { cls:= .type "slice",data:= .fields #[vl,vu,vs] } }:=I4.kept (t':=s4.toks) fun b ob q=>Heap.get?_push_of_some _ q;obtain⟨a,xs,rfl,hx,h0,hz,q⟩:=q4;cases r1;obtain⟨its,r,ht,hzs⟩:=I5.list hx;have hlen:=r.length;show wpAny (model X.prog X.w) X.A (subscriptTail e (.Slice lo hi (some c) p2) (.ref a) (.ref s4.heap.objs.size)) (EP X pins σ Q) X.xe { s4 with heap:=s4.heap.push { cls:= .type "slice",data:= .fields #[vl,vu,vs] } };refine tail_any (T:= "list") (ops:=[.ref a,.ref s4.heap.objs.size]) ht.isList.typeIs slot_list_getitem.lookup ?_ (by with_unfolding_all rfl);refine wpAny_getItem_list_slice ht.isList (Heap.IsSliceOf.new ..) pl pu ps h0 ?_ (by rw[List.size_toArray]<;>lia);have ep:slicePick its.toArray l u st=((i6 xs.length l u st).filterMap (its[·]?)).toArray:=by
  unfold slicePick i6;rw[List.size_toArray,←hlen];rw[show (fun x:Nat=>its.toArray[x]?)=fun x=>its[x]? from funext fun i=>by simp]
 rw[ep];refine⟨.ref _,_,I5.laid (t':=s4.toks) (o:= .lst (nG xs l u st)) (fun b ob q=>Heap.get?_push_of_some _ q) (Nat.le_refl _) ?_,rfl,q _ (I5.hok.fresh (Nat.le_refl _))⟩;exact⟨Nat.le_trans (AL xs l u st) hz,_,0,rW r _,Heap.get?_push_size _ rfl⟩
end
def qB:V->Bool
 | .ref _=>true
 | x=>pZ x
section
variable {X:Cx}
end
section
variable {X:Cx}{pins:List (Addr×Obj)}{σ:St}{H:Hp}{s:Shared}
end
section
variable {X:Cx}
end
end L2
namespace L2
open PySem PySem.W PyProof.Rows
section
variable {K:PySem.W.Frag}{ti:TT}{te:TE}{σ:St}{ci:List Nat}{rest:St}{fin:List V->Hp->Prop}{H:Hp}{a:Addr}
end
end L2
namespace L2
open PySem PySem.W PyProof.Rows
theorem sS:bootBuiltins "sorted" =some (.builtin "sorted"):=by decide +kernel
theorem Room.units1 {k:Nat}{A:Around} (r:Room k A):A.units+1<cLine:=by have:=r.un;lia
section
variable {K:PySem.W.Frag}{H:Hp}{Q:VK}
theorem NA {a:Addr}{xs:List V}{lo hi st:Option Int} (e:SqL K H a xs) (h0:st≠some 0) (hz:(i6 xs.length lo hi st).length<=sizeLine) (k:∀p H',H p=none->Same H H'->H' p=some (.lst (nG xs lo hi st))->Q (.ref p) H'):DY K (.ref a) lo hi st H Q:=⟨a,xs,rfl,e,h0,hz,eK k⟩
end
section
variable {H:Hp}{Q:VK}{σ:St}
theorem FP (h:∀p H',H p=none->Same H H'->H' p=some (.dT [])->Q (.ref p) H'):AU σ H Q:=eK h
theorem u9 {κ:Type}[DecidableEq κ]{kvs:List (κ×V)}{k:κ}{v:V}{e:κ×V} (h:e∈cI kvs k v):e∈kvs∨e.1=k/\e.2=v:=by
 unfold cI at h
 split at h
 ·obtain⟨p,hp,e1⟩:=List.mem_map.mp h
  by_cases z:p.1=k
  ·rw[if_pos z]at e1;subst e1;exact .inr ⟨z,rfl⟩
  ·rw[if_neg z]at e1;subst e1;exact .inl hp
 ·rcases List.mem_append.mp h with h|h
  ·exact .inl h
  ·cases List.mem_singleton.mp h;exact .inr ⟨rfl,rfl⟩
end
end L2
namespace L2
open PySem PySem.W PyProof.Rows
section
variable {X:Cx}{K:PySem.W.Frag}
theorem g7 {es:List Expr}{k:Nat}{t:TGs}{n:Nat}{pos:Pos} (hc:X.calm=true) (h:PGs X es t) (hK:X.K=K:=by rfl)
  (hn:(assignEach es X.env).length=n:=by rfl)(hst:(assignEach es X.env).findIdx? (·.1)=none:=by rfl):PG X (.Tuple es k pos) (oX K n t):=by
 subst hK;exact kG hc h hn hst
theorem qW (hK:X.K=K:=by rfl):IxR X (LL K):=by
 subst hK;exact u0
end
def zC (nx:St->Hp->Prop)(σ:St)(x v:V):VK:=fun y H3=>∃a H4,x= .ref a/\DPut H3 a y v H4/\nx σ H4
def yG (Q:VK)(x:V):VK:=fun y H2=>∃a v,x= .ref a/\DGet H2 a y (some v)/\Q v H2
def GG (R:It->Hp->Prop):VK:=fun x H1=>∃a kvs,x= .ref a/\H1 a=some (.dT kvs)/\∀o,R (Itq a o kvs) (upd H1 a (.frz o (.dT kvs)))
section
variable {K:PySem.W.Frag}{H:Hp}{Q:VK}{σ:St}{nx rt bk ct:St->Hp->Prop}
theorem IH {td ty tv:TE}{nx:St->Hp->Prop}{rt:VK}{bk ct:St->Hp->Prop} (h:tv σ H fun v H1=>td σ H1 fun x H2=>ty σ H2 (zC nx σ x v)):G0 td ty tv ⟨nx,rt,bk,ct⟩ σ H:=h
theorem u5 {p b:Addr}{v:V}{kvs:List (List Key×V)} (k:List Key) (e:H p=some (.dT kvs)) (eb:H b=some (.tup (k.map kV))) (hl:kvs.length<sizeLine)
  (h:∀H',SameBut p H H'->H' p=some (.dT (cI kvs k v))->nx σ H'):zC nx σ (.ref p) v (.ref b) H :=
 ⟨p,_,rfl,DPut.t e eb hl,h _ SameBut.upd aW⟩
theorem HJ {td ty:TE}(h:td σ H fun x H1=>ty σ H1 (yG Q x)):GK td ty σ H Q:=h
theorem D5 {p b:Addr}{v:V}{kvs:List (List Key×V)} (k:List Key) (e:Rd H p (.dT kvs)) (eb:H b=some (.tup (k.map kV))) (hv:aV kvs k=some v) (h:Q v H):yG Q (.ref p) (.ref b) H :=
 ⟨p,v,rfl,.inr ⟨kvs,k,b,e,rfl,eb,hv.symm⟩,h⟩
theorem ED {td:TE}{R:It->Hp->Prop} (h:td σ H (GG R)):DA td σ H R:=h
theorem EK {p:Addr}{kvs:List (List Key×V)}{R:It->Hp->Prop} (e:H p=some (.dT kvs)) (h:∀o H',SameBut p H H'->H' p=some (.frz o (.dT kvs))->R (Itq p o kvs) H'):GG R (.ref p) H :=
 ⟨p,kvs,rfl,e,fun o=>h o _ SameBut.upd aW⟩
theorem P4 {te:TE}{tl th ts:TO} (h:te σ H fun x H1=>tl σ H1 fun l H2=>th σ H2 fun u H3=>ts σ H3 fun c H4=>DY K x l u c H4 Q):NQ K te tl th ts σ H Q:=h
theorem mP {p:Addr}{xs:List V}{i:Int} (e:SqL K H p xs) (h0:0<=i) (h1:i<xs.length) (h:∀v∈xs,Q v H):y6 K (.ref p) (.int i) H Q:=by
 have hl:i.toNat<xs.length:=by lia
 have e1:=nH (xs:=xs) (j:=i.toNat) (v:=xs[i.toNat]) (List.getElem?_eq_getElem hl);rw[show ((i.toNat:Nat):Int)=i by lia]at e1;exact⟨p,xs,i,_,rfl,rfl,e,e1,h _ (List.getElem_mem hl)⟩
end
end L2
namespace L2
open PySem PySem.W PyProof.Rows
theorem l6:entryFor table "dict_itemiterator.__iter__" =some Builtin.«dict_keyiterator.__iter__»:=entryFor_alias (id':= "dict_keyiterator.__iter__") (by kernel_rfl) rfl (by decide +kernel) (by kernel_rfl)
theorem HW {P:Program}{w:World}{k:Key}{u:Value} (h:(bM P w).is k u=true):RelV (kV k) u:=by
 rcases bZ h with⟨i,t,rfl,rfl⟩|⟨x,t,rfl,rfl⟩
 ·exact⟨t,rfl⟩
 ·exact⟨t,rfl⟩
theorem NK {κ:Type}{kvs:List (κ×V)}{vs:List (κ×Value)}{i:Nat} (h:KV kvs vs) (hi:i<kvs.length):∃k v u,kvs[i]? =some (k,v)/\vs[i]? =some (k,u)/\RelV v u:=by
 induction h generalizing i with
 | nil=>exact absurd hi (Nat.not_lt_zero _)
 | @cons x y l m h t ih =>
  cases i with
  | zero=>exact⟨x.1,x.2,y.2,rfl,by rw[h.1];rfl,h.2⟩
  | succ i=>exact ih (Nat.lt_of_succ_lt_succ hi)
theorem sP {P:Program}{w:World}{κ:Type} [DecidableEq κ] {knd:KeyKind P w κ}:∀{es:List DictEntry}{kvs:List (κ×Value)}{i:Nat}{k:κ}{u:Value},Pairs knd es kvs->kvs[i]? =some (k,u)->∃e,es[i]? =some e/\knd.is k e.key=true/\e.val=u
 | _,_,0,_,_,.cons h1 h2 _,z=>by cases z;exact⟨_,rfl,h1,h2⟩
 | _,_,i+1,_,_,.cons _ _ t,z=>by
  obtain⟨e,e1,e2⟩:=sP (i:=i) t (by simpa using z);exact⟨e,by simpa using e1,e2⟩
 | _,_,_,_,_,.nil,z=>by simp at z
theorem yQ {P:Program}{w:World}{K:PySem.W.Frag}{tg:Expr} (a it:Addr) {o:Obj}{es:Array DictEntry}{ep:Nat} (kvs:List (Key×V)) (hd:o.data= .dict es ep) (hz:es.size=kvs.length) :
  kY P w K tg (Itk a o kvs) [it] it (fun i h=>h.IsKeyIter it a i es.size ep) where
 mem:=by simp
 obj:=fun i h st b hb=>by
  have e:b=it:=by simpa using hb
  subst e;obtain⟨ob,e,c,d⟩:=st;exact⟨ob,e,fun v z=>by rw[d]at z;cases z⟩
 keep:=fun i h h' st k=>st.at fun ob e=>k it (by simp) ob e
 item:=by
  intro X hP hw hK hc i pins s σ H E I hf st hg;subst hP hw hK;obtain⟨ha,hi⟩:=hg;obtain⟨ho,z,y,vs,r,o',es',ep',h1,h2,h3,h4,h5,h6⟩:=(show ObjOk X.prog X.w H s.heap a (.frz o (.dK kvs)) from I.hok a _ ha)
  rw[ho]at h1;cases h1;rw[hd]at h3;cases h3;obtain⟨k,v,u,e1,e2,e3⟩:=NK r hi;obtain⟨e,f6,f7,f8⟩:=sP h5 e2;obtain⟨f0,f1,f2,f3,f4,f5⟩:=hf it (by simp);refine vX st ho hd (e:=e) (by simpa using f6) fun h' st' sb=> ?_;have I1:Inv X pins σ H { s with heap:=h' }:=I.turned (t':=s.toks) (fun b o hb e=>(sb.2 b hb).trans e) f0 f1 f3 f4 f5;exact⟨_,rfl,letGo_keyiter (s':={ s with heap:=h' }) st' ⟨kV k,H,I1,HW f7,⟨rfl,k,v,e1,rfl⟩,st',fun b hb=>(hf b hb).1⟩⟩
 done:=by
  intro X hP hw hK hc i pins s σ H E I hf st hg;subst hP hw hK;obtain⟨ha,hi⟩:=hg;obtain⟨ho,hok⟩:=(show ObjOk X.prog X.w H s.heap a (.frz o (.dK kvs)) from I.hok a _ ha)
  obtain⟨f0,f1,f2,f3,f4,f5⟩:=hf it (by simp);exact xG (I.ok.hd hc) st ho hd (by lia) fun h' eb=>⟨rfl,I.turned (t':=s.toks) (fun b o hb e=>eb b o hb e) f0 f1 f3 f4 f5⟩
 self:=fun _ _ _ _ _ st h=>wpAny_pyIter_keyiter st h
def AW (td:TE):TI:=fun σ H R=>td σ H fun x H1=>∃a kvs,x= .ref a/\H1 a=some (.dK kvs)/\∀o,R (Itk a o kvs) (upd H1 a (.frz o (.dK kvs)))
section
variable {X:Cx}{tg:Expr}
theorem uV {l:Expr}{td:TE} (hl:PE X l td):PI X tg l (AW td):=by
 intro pins s σ H R I h;refine thn (hl pins s σ H _ I h) fun v s1 ⟨x,H1,I1,r1,q1⟩=> ?_;obtain⟨a,kvs,rfl,hq,q⟩:=q1;cases r1;obtain⟨z,y,vs,r,o,es,ep,h1,h2,h3,h4,h5,h6⟩:=(show ObjOk X.prog X.w H1 s1.heap a (.dK kvs) from I1.hok a _ hq)
 have hz:es.size=kvs.length:=by rw[r.length,←h5.length];simp
 have new:ObjOk X.prog X.w (upd H1 a (.frz o (.dK kvs))) s1.heap a (.frz o (.dK kvs)):=⟨h1,z,y,vs,r,o,es,ep,h1,h2,h3,h4,h5,h6⟩
 have I2:Inv X pins σ (upd H1 a (.frz o (.dK kvs))) s1:=I1.freeze trivial hq h1 new;refine uU y h1 h2 h3 ?_;refine⟨s1.heap.objs.size,[s1.heap.objs.size],_,_,upd H1 a (.frz o (.dK kvs)),rfl,I2.kept (t':=s1.toks) fun b o e=>Heap.get?_push_of_some _ e,yQ a _ kvs h3 hz,⟨_,Heap.get?_push_size _ rfl,rfl,rfl⟩,fun b hb=> ?_,q o⟩;have e:b=s1.heap.objs.size:=by simpa using hb
 subst e;exact I2.fpOk (Nat.le_refl _) (I2.hok.fresh (Nat.le_refl _))
end
section
variable {X:Cx}
end
end L2
namespace L2
open PySem PySem.W PyProof.Rows
section
variable {X:Cx}{pins:List (Addr×Obj)}{σ:St}{H:Hp}{s:Shared}{a:Addr}{o:Obj}{u:HO}
theorem Inv.thaw (I:Inv X pins σ H s)(h0:∀o u,X.H₀ a≠some (.frz o u))(e:H a=some (.frz o u)):Inv X pins σ (upd H a u) s:=by
 have nn:∀b,H b=none->b≠a:=fun b n z=>by rw[z,e]at n;cases n
 have no:∀b c,H b=some (.own c)->b≠a:=fun b c n z=>by rw[z,e]at n;cases n
 have nt:∀b xs,H b=some (.tup xs)->b≠a:=fun b c n z=>by rw[z,e]at n;cases n
 refine⟨I.ok,I.os,I.bare,⟨I.base.keep,I.base.slot,fun b ob q n hx=> ?_,I.base.there,fun b xs q=> ?_,fun b ob xs q=> ?_,fun b ps q=> ?_⟩,I.loc,I.cell,?_,fun x c ec=> ?_,fun p hp=> ?_,fun b v q=> ?_,I.len⟩
 ·have z:=I.base.free b ob q n hx;rw[aI (nn b z)];exact z
 ·have z:=I.base.tups b xs q;rw[aI (nt b xs z)];exact z
 ·have z:=I.base.frzs b ob xs q;have hb:b≠a:=fun y=>h0 ob xs (by rw[←y];exact q);rw[aI hb];exact z
 ·obtain⟨more,z⟩:=I.base.tbls b ps q;refine⟨more,?_⟩;rw[aI (fun y=>by rw[y,e]at z;cases z)];exact z
 ·rw[aI (nn _ I.free)];exact I.free
 ·rw[aI (nn _ (I.freeC x c ec))];exact I.freeC x c ec
 ·obtain⟨p1,p2,p3⟩:=I.pin p hp;exact⟨p1,by rw[aI (nn _ p2)];exact p2,p3⟩
 ·have so:∀b c,H b=some (.own c)->upd H a u b=some (.own c):=fun b c z=>by rw[aI (no b c z)];exact z
  have st:∀b xs,H b=some (.tup xs)->upd H a u b=some (.tup xs):=fun b c z=>by rw[aI (nt b c z)];exact z
  by_cases hb:b=a
  ·subst hb;rw[aW]at q;cases q;obtain⟨_,z⟩:=(show ObjOk X.prog X.w H s.heap b (.frz o u) from I.hok b _ e)
   exact z.stay (fun _ _ _ q=>q) (fun c z=>so c b z) st
  ·rw[aI hb]at q;exact(I.hok b v q).stay (fun _ _ _ q=>q) (fun c z=>so c b z) st
theorem Inv.wasFree (I:Inv X pins σ H s)(h:∀o u,H a≠some (.frz o u)):∀o u,X.H₀ a≠some (.frz o u):=fun o u z=>h o u (I.base.frzs a o u z)
end
def fI (a:Addr)(R:Hp->Prop):Hp->Prop:=fun H=>∃o u,H a=some (.frz o u)/\R (upd H a u)
def GQ (te:TE):TE:=fun σ H Q=>∃a,(∀o u,H a≠some (.frz o u))/\te σ H fun x=>fI a (Q x)
def G4 (ts:TS):TS:=fun D σ H=>∃a,(∀o u,H a≠some (.frz o u))/\ts ⟨fun σ'=>fI a (D.nx σ'),fun v=>fI a (D.rt v),fun σ'=>fI a (D.bk σ'),fun σ'=>fI a (D.ct σ')⟩ σ H
section
variable {X:Cx}
theorem xT {e:Expr}{te:TE} (he:PE X e te):PE X e (GQ te):=by
 intro pins s σ H Q I h;obtain⟨a,h0,h⟩:=h;refine thn (he pins s σ H _ I h) fun v s1 ⟨x,H1,I1,r1,o,u,e,q⟩=> ?_;exact⟨x,_,I1.thaw (I.wasFree h0) e,r1,q⟩
theorem IR {st:Stmt}{ts:TS} (he:PS X st ts):PS X st (G4 ts):=by
 intro pins s σ H D I h;obtain⟨a,h0,h⟩:=h;refine thn (he pins s σ H _ I h) fun f s1 z=> ?_;cases f with
 | next=>obtain⟨σ1,H1,I1,o,u,e,q⟩:=z;exact⟨σ1,_,I1.thaw (I.wasFree h0) e,q⟩
 | brk=>obtain⟨σ1,H1,I1,o,u,e,q⟩:=z;exact⟨σ1,_,I1.thaw (I.wasFree h0) e,q⟩
 | cont=>obtain⟨σ1,H1,I1,o,u,e,q⟩:=z;exact⟨σ1,_,I1.thaw (I.wasFree h0) e,q⟩
 | ret v=>obtain⟨x,σ1,H1,I1,r,o,u,e,q⟩:=z;exact⟨x,σ1,_,I1.thaw (I.wasFree h0) e,r,q⟩
end
end L2
namespace L2
open PySem PySem.W PyProof.Rows
theorem uX:∀bs:List Bool,((List.range bs.length).any fun i=>bs.getD i false)=bs.any id
 | []=>rfl
 | b::bs=>by
  rw[List.length_cons,List.range_succ_eq_map,List.any_cons,List.any_map,List.any_cons,←uX bs];rfl
section
variable {X:Cx}
def K5 (K:PySem.W.Frag):List V->Hp->VK->Prop:=fun xs H Q=>∃(p:Addr) (bs:List Bool),xs=[.ref p]/\SqL K H p (bs.map V.bl)/\Q (.bl (bs.any id)) H
theorem sM (hc:X.calm=true):d9 X (.builtin "any") (K5 X.K):=by
 intro pins s σ H xs us Q I r h;obtain⟨p,bs,rfl,hq,q⟩:=h;obtain⟨u,rfl,rx⟩:=j5 r;cases rx;obtain⟨its,r',pl,hz⟩:=I.list hq;have hl:=pl.isList;have hlt:p<s.heap.objs.size:=by obtain⟨_,e,_⟩:=hl;exact Heap.lt_size e
 have hlen:bs.length=its.length:=by have:=r'.length;rw[List.length_map]at this;exact this
 refine call_any_walk (wpAny_pyIter_list hl ?_);refine⟨s.heap.objs.size,_,_,its.toArray.size,_,_,fun i=>bs.getD i false,rfl,Walks.list (show X.A.in1.handled=none from I.ok.hd hc) s.heap.objs.size p (Nat.ne_of_lt hlt) its.toArray,⟨⟨_,Heap.get?_push_size _ rfl,rfl,rfl⟩,hl.push _⟩,?_,?_⟩
 ·intro i v s' Q' E' hi hQ;have hi':its[i]? =some v:=by simpa using hi
  have hib:i<bs.length:=by rw[hlen];exact(List.getElem?_eq_some_iff.mp hi').1
  obtain⟨u,hu,ru⟩:=r'.get (i:=i) (x:=V.bl bs[i]) (by rw[List.getElem?_map,List.getElem?_eq_getElem hib];rfl);rw[hi']at hu;cases hu;have:v=Value.bool bs[i]:=ru;subst this;refine wpAny_truthy_bool ?_;have eb:bs.getD i false=bs[i]:=by rw[List.getD_eq_getElem?_getD,List.getElem?_eq_getElem hib];rfl
  have hQ':Q' (bs.getD i false) s':=hQ;rw[eb]at hQ';exact hQ'
 ·intro h' tk hk;have eany:(List.range its.toArray.size).any (fun i=>bs.getD i false)=bs.any id:=by
   rw[List.size_toArray,←hlen];exact uX bs
  rw[eany];refine⟨.bl (bs.any id),H,?_,rfl,q⟩;have I1:Inv X pins σ H { s with heap:=s.heap.push { cls:= .type "list_iterator",data:= .fields #[.ref p,.int 0 0] },toks:=s.toks }:=I.kept fun b u e=>Heap.get?_push_of_some _ e;obtain⟨f0,f1,f2,f3,f4,f5⟩:=I.fpOk (Nat.le_refl _) (I.hok.fresh (Nat.le_refl _));exact I1.turned (fun b o hb e=>hk b o (by simpa using hb) e) f0 f1 f3 f4 f5
end
section
variable {K:PySem.W.Frag}{H:Hp}{Q:VK}
theorem CG {p:Addr}{bs:List Bool} (e:SqL K H p (bs.map V.bl)) (h:Q (.bl (bs.any id)) H):K5 K [.ref p] H Q:=⟨p,bs,rfl,e,h⟩
end
theorem BL:bootBuiltins "any" =some (.builtin "any"):=by decide +kernel
end L2
namespace L2
open PySem PySem.W PyProof.Rows
theorem HH:typeLookup (.type "list") "keys" =pure none:=by rw[typeLookup_type,builtinLookup_eq_fast];kernel_rfl
theorem HK:typeLookup (.type "list") "__getattr__" =pure none:=by rw[typeLookup_type,builtinLookup_eq_fast];kernel_rfl
theorem uB:isSubtype (.type "AttributeError") (.type "AttributeError")=pure true:=by rw[isSubtype_type];kernel_rfl
theorem E6:((Manifest.find? "AttributeError").elim false fun t=>t.mro.contains "StopIteration" ||t.mro.contains "SystemExit")=false:=by decide +kernel
section
variable {prog:Program}{w:World}{A:Around}{E:Value->Shared->Prop}{s:Shared}
theorem FC {α:Type}{v:Value}{a:Addr}{Q:α->Shared->Prop} (hh:A.handled=none)
  (k:∀e h' tk' o,h'.get? e=some o->o.cls= .type "AttributeError" ->(∀b o,s.heap.get? b=some o->h'.get? b=some o)->E (.ref e) { s with heap:=h',toks:=tk' }) :
  wpAny (model prog w) A (do
   let e ←newExc (.type "AttributeError") [v];let l ←mkText "keys"
   noteAttr e (.ref a) l
   raiseNew e) Q E s:=by
 unfold newExc newTuple;refine wpAny_bind (wpAny_bind (wpAny_newObj_type (wpAny_bind (m:=firstArgMember _ _) (wpAny_of_eq (a:=Value.none) (by simp only[firstArgMember,E6];rfl) (wpAny_newObj_type ?_ (by size_fits)))) (by size_fits)));refine wpAny_bind (wpAny_mkText ?_);refine wpAny_bind ?_;unfold noteAttr;refine wpAny_bind ?_;unfold lacksNameAndObj;have e1:(#[Value.ref s.heap.objs.size,.none,.none,.none,.bool false,.none]++ownMembersOf (.type "AttributeError") [v]:Array Value)= #[Value.ref s.heap.objs.size,.none,.none,.none,.bool false,.none,unsetMember,unsetMember]:=rfl;rw[e1];generalize hs:s.heap.push { cls:=Value.type "tuple",data:=Data.seq #[v] }=h1;have ho:(h1.push { cls:= .type "AttributeError",data:= .fields #[Value.ref s.heap.objs.size,.none,.none,.none,.bool false,.none,unsetMember,unsetMember] }).get? h1.objs.size=some { cls:= .type "AttributeError",data:= .fields #[Value.ref s.heap.objs.size,.none,.none,.none,.bool false,.none,unsetMember,unsetMember] }:=Heap.get?_push_size _ rfl;refine wpAny_bind (wpAny_isInstance (b:=true) (T:= "AttributeError") ⟨_,ho,rfl⟩ uB ?_);refine wpAny_bind (wpAny_load ho ?_);refine wpAny_pure ?_;refine wpAny_bind (wpAny_rule ?_);refine wpAny_bind (wpAny_typeOf (T:= "AttributeError") ⟨_,ho,rfl⟩ ?_);unfold layMembers;refine wpAny_bind (wpAny_load ho ?_);refine wpAny_update ho ?_;simp only[raiseNew];refine wpAny_bind (wpAny_handled ?_);rw[hh];refine wpAny_bind (wpAny_pure (wpAny_throw ?_));refine k h1.objs.size _ _ _ (Heap.get?_update_self _ ho (Obj.isFreed_of_fields (Obj.data_mapFields rfl _))) (Obj.cls_mapFields ..) fun b o e=> ?_;have hb:b≠h1.objs.size:=fun z=>by
  have h2:h1.objs.size=s.heap.objs.size+1:=by rw[←hs];simp[Heap.push]
  have h3:=Heap.lt_size e;rw[z,h2]at h3;exact absurd h3 (Nat.not_lt.mpr (Nat.le_succ _))
 exact(Heap.get?_update_other _ _ (Ne.symm hb)).trans (Heap.get?_push_of_some _ (by rw[←hs];exact Heap.get?_push_of_some _ e))
theorem zR {a:Addr}{its:Array Value}{n:Nat}{tk:Tok}{Q:Fin->Shared->Prop} (hh:A.handled=none) (hx:s.heap.get? a=some { cls:= .type "list",data:= .seq its n })
  (k:∀e h' tk' o,h'.get? e=some o->o.cls= .type "AttributeError" ->(∀b o,s.heap.get? b=some o->h'.get? b=some o)->E (.ref e) { s with heap:=h',toks:=tk' }) :
  wpAny (model prog w) A (Builtin.«object.__getattribute__» ⟨[.ref a,.str "keys" tk],[]⟩) Q E s:=by
 obtain⟨h,g,d,t,os⟩:=s;have hT:(⟨h,g,d,t,os⟩:Shared).TypeIs (.ref a) "list" :=⟨_,hx,rfl⟩
 have f4:=HH
 repeat (any_goals (first|assumption|wp_step))
 refine wpAny_bind (wpAny_mkStr ?_ (by rw[sizeLine_eq];decide +kernel));exact FC hh fun e h' tk' o e1 e2 e3=>k e h' tk' o e1 e2 e3
theorem BX {a:Addr}{its:Array Value}{n:Nat}{tk:Tok}{R:Result->Shared->Prop} (hh:A.handled=none) (hx:s.heap.get? a=some { cls:= .type "list",data:= .seq its n })
  (k:∀e h' tk' o,h'.get? e=some o->o.cls= .type "AttributeError" ->(∀b o,s.heap.get? b=some o->h'.get? b=some o)->R (.error (.ref e)) { s with heap:=h',toks:=tk' }) :
  codeAny (model prog w) A (.call (.builtin "list.__getattribute__") ⟨[.ref a,.str "keys" tk],[]⟩) R s:=by
 obtain⟨h,g,d,t,os⟩:=s;exact codeAny_call_builtin F.slot_list_getattribute.plain F.entry_list_ga (F.slot_list_getattribute.check _ _ _ _ _ _ _ _ (show (⟨h,g,d,t,os⟩:Shared).TypeIs (.ref a) "list" from⟨_,hx,rfl⟩) (F.args_list_getattribute_2 _ _) (zR hh hx k))
theorem HC {a:Addr}{its:Array Value}{n:Nat}{Q:Option Value->Shared->Prop} (hh:A.handled=none) (hx:s.heap.get? a=some { cls:= .type "list",data:= .seq its n })
  (k:∀h' tk',(∀b o,s.heap.get? b=some o->h'.get? b=some o)->Q none { s with heap:=h',toks:=tk' }):wpAny (model prog w) A (getAttr? (.ref a) "keys") Q E s:=by
 obtain⟨h,g,d,t,os⟩:=s;have hT:(⟨h,g,d,t,os⟩:Shared).TypeIs (.ref a) "list" :=⟨_,hx,rfl⟩
 have f2:=F.slot_list_getattribute.lookup;have f3:=F.slot_list_getattribute.bind (.ref a);unfold getAttr? getAttrBy?
 repeat (any_goals (first|assumption|wp_step))
 refine BX hh hx fun e h' tk' o e1 e2 e3=> ?_;have hE:(⟨h',g,d,tk',os⟩:Shared).TypeIs (.ref e) "AttributeError" :=⟨_,e1,e2⟩
 show wpAny (model prog w) A (getattributeRaised (Value.ref a) (Value.str (Str.ofString "keys") t) (.type "list") (.ref e) none false false) _ _ (⟨h',g,d,tk',os⟩:Shared);unfold getattributeRaised;refine wpAny_bind (wpAny_isInstance (b:=true) hE uB ?_);show wpAny (model prog w) A (typeLookup (.type "list") "__getattr__" >>= fun x=>hookOrError (Value.ref a) (Value.str (Str.ofString "keys") t) (.ref e) false false x) _ _ (⟨h',g,d,tk',os⟩:Shared);rw[HK];refine wpAny_bind (wpAny_pure ?_);refine wpAny_throw ?_;refine wpAny_bind (wpAny_isInstance (b:=true) hE uB ?_);exact wpAny_pure (k h' tk' e3)
end
end L2
namespace L2
open PySem PySem.W PyProof.Rows
theorem kO:entryFor table "dict.update.loop" =some Builtin.«dict.update.loop»:=entryFor_of_tree (by kernel_rfl)
theorem fQ:plainId "dict.update.loop" =true:=by decide +kernel
def AS {κ:Type}[DecidableEq κ](kvs ps:List (κ×Value)):List (κ×Value):=ps.foldl (fun acc p=>stored acc p.1 p.2) kvs
theorem z0 {κ:Type}[DecidableEq κ](kvs:List (κ×Value))(k:κ)(v:Value):(stored kvs k v).length<=kvs.length+1:=by
 unfold stored
 split
 ·rw[List.length_map];exact Nat.le_succ _
 ·rw[List.length_append];exact Nat.le_refl _
section
variable {prog:Program}{w:World}{A:Around}{E:Value->Shared->Prop}{κ:Type} [DecidableEq κ] {knd:KeyKind prog w κ}{I d:Addr}{fp wr:List Addr}{n:Nat}{P:Nat->Value->Prop}{St:Nat->Heap->Prop}{R:Result->Shared->Prop}
def OV (knd:KeyKind prog w κ)(d:Addr)(wr:List Addr)(P:Nat->Value->Prop)(ps:List (κ×Value))(h:Heap):Prop :=
 ∀i v,P i v->∃(q:Addr) (o:Obj) (key:Value) (k:κ) (u:Value) (c:Nat),v= .ref q/\q∉wr/\q≠d/\h.get? q=some o/\o.cls= .type "tuple" /\o.data= .seq #[key,u] c/\knd.is k key=true/\ps[i]? =some (k,u)
theorem F8 (W:Walks prog w A.in1 I fp wr n P St)(hdf:d∉fp)(ps:List (κ×Value))(hn:ps.length=n)(hsz:n<=sizeLine) :
  ∀(k i:Nat) (s:Shared) (kvs:List (κ×Value)),n - i=k->i<=n->St i s.heap->kvs.length<=i->s.heap.DictOf knd d kvs->OV knd d wr P ps s.heap →
  (∀h' tk,h'.DictOf knd d (AS kvs (ps.drop i))->(∀b o,b∉wr->b≠d->s.heap.get? b=some o->h'.get? b=some o)->R (.ok (.ret .none)) { s with heap:=h',toks:=tk }) →
  codeAny (model prog w) A (.builtin "dict.update.loop" ⟨[.ref d,.ref I,rawInt i,.none],[]⟩) R s:=by
 have hdw:d∉wr:=fun h=>hdf (W.sub _ h);intro k
 induction k with
 | zero =>
  intro i s kvs hk hi hst hl hd hrow hR;have hin:i=n:=by lia
  subst hin;refine codeAny_builtin kO ?_;rw[Around.under_plainId fQ _];show wpAny _ A.in1 (pyNext (.ref I) >>= _) _ _ s;refine wpAny_bind (W.done s _ _ hst fun h' tk hk'=> ?_);show wpAny _ _ (Builtin.Dict.addKeywords d [] >>= _) _ _ _;refine wpAny_bind (wpAny_pure (wpAny_pure (hR h' tk ?_ fun b o hb _ e=>hk' b o hb e)));rw[List.drop_of_length_le (by lia)];exact hd.at fun o e=>hk' d o hdw e
 | succ k ih =>
  intro i s kvs hk hi hst hl hd hrow hR;have hlt:i<n:=by lia
  refine codeAny_builtin kO ?_;rw[Around.under_plainId fQ _];show wpAny _ A.in1 (pyNext (.ref I) >>= _) _ _ s;refine wpAny_bind (W.item i s _ _ hlt hst fun v h' tk hP hst' hk'=> ?_);obtain⟨q,o,key,kk,u,c,rfl,hqw,hqd,ho,hc,hdt,his,hps⟩:=hrow i v hP;have ho':=hk' q o hqw ho;refine wpAny_bind (wpAny_holding (wpAny_bind (wpAny_tryCatch ?_)));unfold Builtin.Dict.pairItems;refine wpAny_bind (wpAny_typeOf (T:= "tuple") ⟨o,ho',hc⟩ ?_);rw[if_pos (by rfl)];refine wpAny_bind (wpAny_seqItems ho' hdt (wpAny_pure ?_));have hd':h'.DictOf knd d kvs:=hd.at fun o e=>hk' d o hdw e;refine wpAny_holding (wpAny_dictSet_pairs his hd' (fun h2 hd2 sb=> ?_) (by lia));have keep:∀b o,b∉wr->b≠d->s.heap.get? b=some o->h2.get? b=some o:=fun b o hb hbd e=>(sb.2 b hbd).trans (hk' b o hb e);refine wpAny_pure ⟨plainId_quiet fQ _,ih (i+1) _ (stored kvs kk u) (by lia) hlt (W.frame _ _ _ hst' fun b hb o e=>(sb.2 b (fun z=>hdf (z▸hb))).trans e) (Nat.le_trans (z0 ..) (by lia)) hd2 (fun j v hj=> ?_) fun h3 tk3 hd3 hk3=> ?_⟩
  ·obtain⟨q,o,key,kk,u,c,e1,e2,e3,e4,e5⟩:=hrow j v hj;exact⟨q,o,key,kk,u,c,e1,e2,e3,keep q o e2 e3 e4,e5⟩
  ·refine hR h3 tk3 ?_ fun b o hb hbd e=>hk3 b o hb hbd (keep b o hb hbd e);have ed:ps.drop i=(kk,u)::ps.drop (i+1):=by
    have hi2:i<ps.length:=by lia
    rw[List.drop_eq_getElem_cons hi2];have:=(List.getElem?_eq_some_iff.mp hps).2;rw[this]
   rw[ed];exact hd3
end
end L2
namespace L2
open PySem PySem.W PyProof.Rows
section
variable {prog:Program}{w:World}{A:Around}{E:Value->Shared->Prop}{κ:Type} [DecidableEq κ] {knd:KeyKind prog w κ}{s:Shared}{l:Addr}{its:Array Value}{c:Nat}
theorem CT {ps:List (κ×Value)}{Q:Value->Shared->Prop} (hh:A.handled=none) (hl:s.heap.get? l=some { cls:= .type "list",data:= .seq its c }) (hsz:its.size<=sizeLine) (hlen:ps.length=its.size)
  (hrow:∀(i:Nat) (v:Value),its[i]? =some v->∃(q:Addr) (o:Obj) (key:Value) (k:κ) (u:Value) (c:Nat),v= .ref q/\s.heap.get? q=some o/\o.cls= .type "tuple" /\o.data= .seq #[key,u] c/\knd.is k key=true/\ps[i]? =some (k,u))
  (h:∀h' tk,h'.DictOf knd s.heap.objs.size (AS [] ps)->(∀b o,s.heap.get? b=some o->h'.get? b=some o)->Q (.ref s.heap.objs.size) { s with heap:=h',toks:=tk }) :
  wpAny (model prog w) A (call (.type "dict") [.ref l]) Q E s:=by
 refine callType_codes (Q₁:=fun obj s₁=>obj= .ref s.heap.objs.size/\s₁={ s with heap:=s.heap.push { cls:= .type "dict",data:= .dict #[] } }) F.kt_called_dict (F.kt_typeCall_dict_1 _) F.entry_dict_init (kt_code_dict_new _ ⟨rfl,rfl⟩) ?_;rintro obj s₁ ⟨rfl,rfl⟩;have hnew:(s.heap.push { cls:= .type "dict",data:= .dict #[] }).DictOf knd s.heap.objs.size []:=Heap.DictOf.new s.heap;have hl':(s.heap.push { cls:= .type "dict",data:= .dict #[] }).get? l=some { cls:= .type "list",data:= .seq its c }:=Heap.get?_push_of_some _ hl;refine⟨hnew.typeIs,F.args_dict_init_2 _ _,?_⟩;unfold Builtin.«dict.__init__»;refine wpAny_bind ?_;unfold Builtin.Dict.selfAndRest;refine wpAny_bind (wpAny_notOrdered_dict hnew.typeIs ?_);show wpAny _ _ (pure (s.heap.objs.size,[Value.ref l])) _ _ _;refine wpAny_pure ?_;show wpAny _ _ (Builtin.Dict.updateFrom "dict.__init__" s.heap.objs.size (.ref l) [] .none) _ _ _;unfold Builtin.Dict.updateFrom;refine wpAny_bind (wpAny_typeOf (T:= "list") ⟨_,hl',rfl⟩ ?_);rw[if_pos (by decide)];refine wpAny_bind (HC hh hl' fun h1 t1 kp1=> ?_);rw[if_pos (show (none:Option Value).isNone=true from rfl)];refine wpAny_bind (wpAny_rule ?_);have hl1:=kp1 _ _ hl';have isl:h1.IsList l its:=⟨_,hl1,rfl,_,rfl⟩
 have lt1:∀b o,s.heap.get? b=some o->b≠h1.objs.size:=fun b o e z=>by
  have:=Heap.lt_size (kp1 b o (Heap.get?_push_of_some _ e));rw[z]at this;exact Nat.lt_irrefl _ this
 have hdI:s.heap.objs.size≠h1.objs.size:=fun z=>by
  have:=Heap.lt_size (kp1 _ _ (Heap.get?_push_size s.heap (o:={ cls:= .type "dict",data:= .dict #[] }) rfl));rw[z]at this;exact Nat.lt_irrefl _ this
 have hdl:∀b o,s.heap.get? b=some o->b≠s.heap.objs.size:=fun b o e z=>by
  have:=Heap.lt_size e;rw[z]at this;exact Nat.lt_irrefl _ this
 refine wpAny_bind (wpAny_pyIter_list isl ?_);refine wpAny_pure ⟨plainId_quiet fQ _,?_⟩;have W:=Walks.list (prog:=prog) (w:=w) (A:=A.in1.in1) hh h1.objs.size l (lt1 _ _ hl) its;refine F8 (knd:=knd) W (by simp only[List.mem_cons,List.not_mem_nil,or_false,not_or];exact⟨hdI,Ne.symm (hdl _ _ hl)⟩) ps hlen hsz its.size 0 _ [] (Nat.sub_zero _) (Nat.zero_le _) ⟨⟨_,Heap.get?_push_size _ rfl,rfl,rfl⟩,isl.push _⟩ (Nat.le_refl _) ((hnew.at fun o e=>kp1 _ o e).push _) (fun i v hi=> ?_) fun h' tk hd hk=> ?_
 ·obtain⟨q,o,key,k,u,c',e1,e2,e3,e4,e5,e6⟩:=hrow i v hi;refine⟨q,o,key,k,u,c',e1,?_,hdl _ _ e2,Heap.get?_push_of_some _ (kp1 _ _ (Heap.get?_push_of_some _ e2)),e3,e4,e5,e6⟩;simp only[List.mem_cons,List.not_mem_nil,or_false];exact lt1 _ _ e2
 ·refine⟨rfl,h h' tk hd fun b o e=>hk b o ?_ (hdl _ _ e) (Heap.get?_push_of_some _ (kp1 _ _ (Heap.get?_push_of_some _ e)))⟩;simp only[List.mem_cons,List.not_mem_nil,or_false];exact lt1 _ _ e
end
end L2
namespace L2
open PySem PySem.W PyProof.Rows
abbrev tX (H:Hp):List V->List (Key×V)->Prop:=Paired fun v p=>∃q,v= .ref q/\H q=some (.tup [kV p.1,p.2])
section
variable {X:Cx}{pins:List (Addr×Obj)}{σ:St}{H:Hp}{s:Shared}
theorem FH (I:Inv X pins σ H s){q:Addr}{k:Key}{x:V} (e:H q=some (.tup [kV k,x])):∃(o:Obj) (key u:Value) (n:Nat),s.heap.get? q=some o/\o.cls= .type "tuple" /\o.data= .seq #[key,u] n/\(bM X.prog X.w).is k key=true/\RelV x u:=by
 obtain⟨_,us,r,o,h1,h2,n,h3⟩:=(show ObjOk X.prog X.w H s.heap q (.tup [kV k,x]) from I.hok q _ e)
 cases r with
 | @cons _ key _ _ r1 r =>
  cases r with
  | @cons _ u _ _ r2 r =>
   cases r;exact⟨o,key,u,n,h1,h2,h3,k3 r1,r2⟩
theorem qH (I:Inv X pins σ H s):∀{vs:List V}{ps:List (Key×V)}{us:List Value},tX H vs ps->Vals vs us →
  ∃rs:List (Key×Value),KV ps rs/\rs.length=us.length/\∀(i:Nat) (v:Value),us[i]? =some v->∃(q:Addr) (o:Obj) (key:Value) (k:Key) (u:Value) (c:Nat),v= .ref q/\s.heap.get? q=some o/\o.cls= .type "tuple" /\o.data= .seq #[key,u] c/\(bM X.prog X.w).is k key=true/\rs[i]? =some (k,u)
 | _,_,_,.nil,.nil=>⟨[],.nil,rfl,fun i v z=>by simp at z⟩
 | _::_,(k,x)::_,_::us,.cons ⟨q,e,hq⟩ t,.cons r rt=>by
  obtain⟨rs,h1,h2,h3⟩:=qH I t rt;obtain⟨o,key,u,n,o1,o2,o3,o4,o5⟩:=FH I hq;subst e;cases r;refine⟨(k,u)::rs,.cons ⟨rfl,o5⟩ h1,by simp[h2],fun i v z=> ?_⟩;cases i with
  | zero=>cases z;exact⟨q,o,key,k,u,n,rfl,o1,o2,o3,o4,rfl⟩
  | succ i =>
   obtain⟨q,o,key,k,u,c,w1⟩:=h3 i v (by simpa using z);exact⟨q,o,key,k,u,c,by simpa using w1⟩
def CN:List V->Hp->VK->Prop:=fun xs H Q=>∃p vs ps,xs=[.ref p]/\Rd H p (.lst vs)/\tX H vs ps/\∀l,H l=none->Q (.ref l) (upd H l (.dK (gQ [] ps)))
theorem yY (hc:X.calm=true):d9 X (.type "dict") CN:=by
 intro pins s σ H xs us Q I r h;obtain⟨p,vs,ps,rfl,hq,pr,q⟩:=h;obtain⟨u,rfl,rx⟩:=j5 r;cases rx;obtain⟨z,its,n,rv,e⟩:=(show ObjOk X.prog X.w H s.heap p (.lst vs) from hq.ok I.hok)
 obtain⟨rs,h1,h2,h3⟩:=qH I pr rv;have hl:=rv.length;have hlp:=h1.length;refine CT (knd:=bM X.prog X.w) (ps:=rs) (I.ok.hd hc) e (by rw[List.size_toArray];lia) (by rw[List.size_toArray];exact h2) (fun i v hv=>h3 i v (by simpa using hv)) fun h' tk hd kp=> ?_;have lm:(gQ [] ps).length<=sizeLine:=Nat.le_trans (lO ps []) (by simp;lia);have nm:(s.heap.objs.size==sysModules)=false:=by
  have:=I.big;simp only[beq_eq_false_iff_ne];exact fun z=>by rw[z]at this;exact Nat.lt_irrefl _ this
 exact⟨.ref _,_,I.laid (t':=tk) kp (Nat.le_refl _) (CB lm nm (KV.merge h1 .nil) hd),rfl,q _ (I.hok.fresh (Nat.le_refl _))⟩
end
end L2
namespace L2
open PySem PySem.W PyProof.Rows
section
variable {prog:Program}{w:World}{A:Around}{E:Value->Shared->Prop}{s:Shared}{d it:Addr}{o:Obj}{es:Array DictEntry}{ep i:Nat}{k0 v0:Value}
theorem C5 {Q:Option Value->Shared->Prop}{e:DictEntry} (st:IsItemIter s.heap it d i es.size ep k0 v0) (ho:s.heap.get? d=some o) (hq:o.data= .dict es ep) (hx:es[i]? =some e)
  (k:∀h',IsItemIterOut h' it d (i+1) es.size ep e.key e.val s.heap.objs.size->h'.get? s.heap.objs.size=some { cls:= .type "tuple",data:= .seq #[e.key,e.val] } →
   (∀b u,b≠it->s.heap.get? b=some u->h'.get? b=some u)->Q (some (.ref s.heap.objs.size)) { s with heap:=h' }):wpAny (model prog w) A (pyNext (.ref it)) Q E s:=by
 obtain⟨hp,g,dr,tk,os⟩:=s;have T:Shared.TypeIs ⟨hp,g,dr,tk,os⟩ (.ref it) "dict_itemiterator" :=⟨_,st,rfl⟩
 unfold pyNext;refine wpAny_bind (wpAny_attempt (wpAny_callSpecial?_slot (name:=Str.ofString "__next__") T F.slot_dict_itemiterator_next (wpAny_call_entry F.slot_dict_itemiterator_next T F.entry_dict_itemiterator_next ?_ (F.args_dict_itemiterator_next_1 _))));refine wpAny_bind (wpAny_pure (wpAny_bind (wpAny_bind ?_)))
 first|refine wpAny_bind (wpAny_typeNameOfWhole_itemiter T (wpAny_pure (wpAny_bind (wpAny_fieldsOf st rfl ?_))))|refine wpAny_bind (wpAny_typeNameOf_itemiter T (wpAny_pure (wpAny_bind (wpAny_fieldsOf st rfl ?_))))
 simp only[show Builtin.Dict_items.ownsTuple "dict_itemiterator" =true by decide,if_true];show wpAny _ A.in1 (if (Value.ref d==Value.none)=true then _ else _) _ _ (⟨hp,g,dr,tk,os⟩:Shared);rw[if_neg (show ¬(Value.ref d==Value.none)=true from Bool.false_ne_true)];refine wpAny_bind (wpAny_pure (wpAny_bind (wpAny_dictEntries ho hq ?_)));rw[if_neg (by simp)];refine wpAny_bind (wpAny_pure (wpAny_bind (wpAny_dictEpoch ho hq ?_)));rw[if_neg (by simp)];refine wpAny_pure ?_;simp only[show ¬((i:Int)<0) from by lia,if_false,Int.toNat_natCast,hx];refine wpAny_bind ?_
 first|refine wpAny_bind (wpAny_typeNameOfWhole_itemiter T (wpAny_pure (wpAny_bind (wpAny_isOneOf_itemiter T ?_))))|refine wpAny_bind (wpAny_typeNameOf_itemiter T (wpAny_pure (wpAny_bind (wpAny_isOneOf_itemiter T ?_))))
 show wpAny _ A.in1 (setField (.ref it) 3 (rawInt ((i:Int)+1)) >>= _) _ _ (⟨hp,g,dr,tk,os⟩:Shared);refine wpAny_bind (wpAny_setField_rec st (by simp) fun h1 e1 s1=> ?_)
 replace s1:Heap.SameBut it hp h1:=s1
 replace e1:IsItemIter h1 it d (i+1) es.size ep k0 v0:=by
  unfold IsItemIter;rw[show ((i+1:Nat):Int)=(i:Int)+1 by lia];simpa [rawInt] using e1
 have T1:Shared.TypeIs ⟨h1,g,dr,tk,os⟩ (.ref it) "dict_itemiterator" :=⟨_,e1,rfl⟩
 refine wpAny_bind (wpAny_holding (wpAny_bind (wpAny_isOneOf_itemiter T1 (wpAny_bind (wpAny_isOneOf_itemiter T1 ?_)))));show wpAny _ A.in1 (Builtin.Dict_items.pairFromOwner (.ref it) 6 e.key e.val) _ _ (⟨h1,g,dr,tk,os⟩:Shared);unfold Builtin.Dict_items.pairFromOwner;refine wpAny_bind (wpAny_newTuple ?_);have e2:IsItemIter (h1.push { cls:= .type "tuple",data:= .seq #[e.key,e.val] }) it d (i+1) es.size ep k0 v0:=Heap.get?_push_of_some _ e1;generalize q2:h1.push { cls:= .type "tuple",data:= .seq #[e.key,e.val] }=h2 at e2;have z1:h1.objs.size=hp.objs.size:=s1.1;have il:it<hp.objs.size:=Heap.lt_size st;have t2:h2.get? hp.objs.size=some { cls:= .type "tuple",data:= .seq #[e.key,e.val] }:=by rw[←q2,←z1];exact Heap.get?_push_size _ rfl
 have k2:∀b u,b≠it->hp.get? b=some u->h2.get? b=some u:=fun b u hb z=>by rw[←q2];exact Heap.get?_push_of_some _ (s1.extBut b u hb z)
 show wpAny _ A.in1 (Builtin.Dict_items.ownedTupleIsFree (.ref it) >>= _) _ _ (⟨h2,g,dr,tk,os⟩:Shared);rw[z1];clear q2 e1 s1 T1 z1 h1;refine wpAny_bind ?_;unfold Builtin.Dict_items.ownedTupleIsFree;refine wpAny_bind (wpAny_field e2 rfl (x:= .none) rfl (wpAny_pure ?_));simp only[if_true];refine wpAny_bind (wpAny_field e2 rfl (x:=k0) rfl (wpAny_bind (wpAny_field e2 rfl (x:=v0) rfl ?_)));refine wpAny_bind (wpAny_setField_rec e2 (by simp) fun h3 e3 s3=> ?_)
 replace s3:Heap.SameBut it h2 h3:=s3
 replace e3:IsItemIter h3 it d (i+1) es.size ep e.key v0:=e3
 refine wpAny_bind (wpAny_setField_rec e3 (by simp) fun h4 e4 s4=> ?_)
 replace s4:Heap.SameBut it h3 h4:=s4
 replace e4:IsItemIter h4 it d (i+1) es.size ep e.key e.val:=e4
 refine wpAny_bind (wpAny_setField_rec e4 (by simp) fun h5 e5 s5=> ?_)
 replace s5:Heap.SameBut it h4 h5:=s5
 replace e5:IsItemIterOut h5 it d (i+1) es.size ep e.key e.val hp.objs.size:=e5
 refine wpAny_bind (wpAny_setField_rec e5 (by simp) fun h6 e6 s6=> ?_)
 replace s6:Heap.SameBut it h5 h6:=s6
 replace e6:IsItemIterOut h6 it d (i+1) es.size ep e.key e.val hp.objs.size:=e6
 have kk:∀b u,b≠it->h2.get? b=some u->h6.get? b=some u:=fun b u hb z=>s6.extBut b u hb (s5.extBut b u hb (s4.extBut b u hb (s3.extBut b u hb z)));exact wpAny_bind (wpAny_letGo (wpAny_pure (wpAny_pure ⟨_,rfl,wpAny_pure (k h6 e6 (kk _ _ (Nat.ne_of_gt il) t2) fun b u hb z=>kk b u hb (k2 b u hb z))⟩)))
theorem DX {Q:Option Value->Shared->Prop}(hh:A.handled=none)(st:IsItemIter s.heap it d i es.size ep k0 v0)(ho:s.heap.get? d=some o)(hq:o.data= .dict es ep)(hx:es.size<=i)
  (k:∀h',Heap.ExtBut it s.heap h'->Q none { s with heap:=h' }):wpAny (model prog w) A (pyNext (.ref it)) Q E s:=by
 have T:s.TypeIs (.ref it) "dict_itemiterator" :=⟨_,st,rfl⟩
 unfold pyNext;refine wpAny_bind (wpAny_attempt (wpAny_callSpecial?_slot (name:=Str.ofString "__next__") T F.slot_dict_itemiterator_next (wpAny_call_entry F.slot_dict_itemiterator_next T F.entry_dict_itemiterator_next ?_ (F.args_dict_itemiterator_next_1 _))));refine wpAny_bind (wpAny_pure (wpAny_bind (wpAny_bind ?_)))
 first|refine wpAny_bind (wpAny_typeNameOfWhole_itemiter T (wpAny_pure (wpAny_bind (wpAny_fieldsOf st rfl ?_))))|refine wpAny_bind (wpAny_typeNameOf_itemiter T (wpAny_pure (wpAny_bind (wpAny_fieldsOf st rfl ?_))))
 simp only[show Builtin.Dict_items.ownsTuple "dict_itemiterator" =true by decide,if_true];show wpAny _ A.in1 (if (Value.ref d==Value.none)=true then _ else _) _ _ s;rw[if_neg (show ¬(Value.ref d==Value.none)=true from Bool.false_ne_true)];refine wpAny_bind (wpAny_pure (wpAny_bind (wpAny_dictEntries ho hq ?_)));rw[if_neg (by simp)];refine wpAny_bind (wpAny_pure (wpAny_bind (wpAny_dictEpoch ho hq ?_)));rw[if_neg (by simp)];refine wpAny_pure ?_;simp only[show ¬((i:Int)<0) from by lia,if_false,Int.toNat_natCast,Array.getElem?_eq_none hx];refine wpAny_bind ?_
 first|refine wpAny_bind (wpAny_typeNameOfWhole_itemiter T (wpAny_pure ?_))|refine wpAny_bind (wpAny_typeNameOf_itemiter T (wpAny_pure ?_))
 show wpAny _ A.in1 (setField (.ref it) 2 .none >>= _) _ _ s;refine wpAny_bind (wpAny_setField st rfl (by simp) ?_);show wpAny _ A.in1 (newExc (.type "StopIteration") [] >>= _) _ _ _;refine wpAny_bind ?_;simp only[newExc,newTuple];refine wpAny_bind (wpAny_newObj_type (wpAny_bind (m:=firstArgMember _ _) (wpAny_of_eq (a:=Value.none) (by first|rfl|(simp only[firstArgMember];rfl)) (wpAny_newObj_type ?_ (by size_fits)))) (by size_fits));simp only[raiseNew];refine wpAny_bind (wpAny_handled ?_);rw[show A.in1.handled=none from hh];refine wpAny_bind (wpAny_pure (wpAny_throw ?_));refine wpAny_bind (wpAny_isInstance (b:=true) (T:= "StopIteration") ⟨_,Heap.get?_push_size _ rfl,rfl⟩ isSubtype_stop ?_);exact wpAny_pure (k _ (((Heap.SameBut.update ..).extBut.push _).push _))
end
end L2
namespace L2
open PySem PySem.W PyProof.Rows
section
variable {prog:Program}{w:World}{A:Around}{E:Value->Shared->Prop}{s:Shared}{d it:Addr}{o:Obj}{es:Array DictEntry}{ep i:Nat}
theorem zN {Q:Value->Shared->Prop}(hd:(d==sysModules)=false)(T:s.TypeIs (.ref d) "dict")
  (k:Q (.ref s.heap.objs.size) { s with heap:=s.heap.push { cls:= .type "dict_items",data:= .fields #[.ref d] } }):wpAny (model prog w) A (call (.builtin "dict.items") [.ref d]) Q E s:=by
 refine wpAny_call_entry F.slot_dict_items T F.entry_dict_items ?_ (F.args_dict_items_1 _);unfold Builtin.«dict.items» Builtin.Dict.noArgs;refine wpAny_bind (wpAny_bind (wpAny_notOrdered_dict T (wpAny_pure ?_)));show wpAny _ A.in1 (Builtin.Dict.showsAll d >>= _) _ _ s;unfold Builtin.Dict.showsAll;rw[if_neg (fun z=>by rw[hd]at z;cases z)];exact wpAny_bind (wpAny_pure (wpAny_bind (wpAny_newObj_type (wpAny_pure ⟨_,rfl,k⟩))))
theorem BV {v:Addr}{Q:Value->Shared->Prop} (hv:s.heap.IsItemsView v d) (ho:s.heap.get? d=some o) (hq:o.data= .dict es ep)
  (k:Q (.ref s.heap.objs.size) { s with heap:=s.heap.push { cls:= .type "dict_itemiterator",data:= .fields #[.none,.bool false,.ref d,.int 0 0,.int es.size 0,.int ep 0,.none,.none] } }):wpAny (model prog w) A (pyIter (.ref v)) Q E s:=by
 obtain⟨ov,hov,hcv,hdv⟩:=id hv;refine wpAny_pyIter_slot hv.typeIs F.slot_dict_items_iter (wpAny_call_entry F.slot_dict_items_iter hv.typeIs F.entry_dict_items_iter ?_ (F.args_dict_items_iter_1 _));unfold Builtin.«dict_items.__iter__» Builtin.Dict_items.dictOf Builtin.Dict_items.newIterator;refine wpAny_bind (wpAny_pure (wpAny_bind (wpAny_bind (wpAny_field hov hdv (x:= .ref d) rfl (wpAny_pure (wpAny_bind (wpAny_bind (wpAny_dictEntries ho hq (wpAny_bind (wpAny_dictEpoch ho hq ?_))))))))));simp only[show Builtin.Dict_items.ownsTuple "dict_itemiterator" =true by decide,if_true];refine wpAny_newObj_type (wpAny_pure ⟨_,rfl,"dict_itemiterator",_,⟨_,Heap.get?_push_size _ rfl,rfl⟩,F.slot_dict_itemiterator_next.lookup,?_⟩) (by simp only[sizeOk,Builtin.Dict_items.ownedTupleFields,List.size_toArray,List.length_append,List.length_cons,List.length_nil,sizeLine_eq];lia)
 simpa [rawInt,Builtin.Dict_items.ownedTupleFields] using k
end
def Itj (a:Addr)(o:Obj)(kvs:List (List Key×V)):It :=
 ⟨fun i H=>H a=some (.frz o (.dT kvs))/\i<kvs.length,fun i H x H'=>∃k v p q,kvs[i]? =some (k,v)/\x= .ref q/\H p=some (.tup (k.map kV))/\H q=none/\H'=upd H q (.tup [.ref p,v]),fun i H=>H a=some (.frz o (.dT kvs))/\kvs.length<=i⟩
theorem KT.get2 {H:Hp}:∀{kvs:List (List Key×V)}{xs:List (List Key×Addr×Value)}{i:Nat},KT H kvs xs->i<kvs.length->∃k v b u,kvs[i]? =some (k,v)/\xs[i]? =some (k,b,u)/\H b=some (.tup (k.map kV))/\RelV v u
 | _,_,0,.cons h _,_=>⟨_,_,_,_,rfl,by rw[h.1];rfl,h.2.1,h.2.2⟩
 | _,_,i+1,.cons _ t,hi=>by
  obtain⟨k,v,b,u,e1,e2,e3⟩:=KT.get2 (i:=i) t (by simpa using hi);exact⟨k,v,b,u,by simpa using e1,by simpa using e2,e3⟩
 | _,_,_,.nil,hi=>by simp at hi
theorem wQ {P:Program}{w:World}{K:PySem.W.Frag}{elts:List Expr}{x1:Nat}{tpos:Pos} (a it:Addr) {o:Obj}{es:Array DictEntry}{ep:Nat} (kvs:List (List Key×V)) (hd:o.data= .dict es ep) (hz:es.size=kvs.length) :
  kY P w K (.Tuple elts x1 tpos) (Itj a o kvs) [it] it (fun i h=>∃ok ov,IsItemIter h it a i es.size ep ok ov) where
 mem:=by simp
 obj:=fun i h st b hb=>by
  have e:b=it:=by simpa using hb
  subst e;obtain⟨ok,ov,e⟩:=st;exact⟨_,e,fun v z=>by cases z⟩
 keep:=fun i h h' st k=>let ⟨ok,ov,e⟩:=st;⟨ok,ov,k it (by simp) _ e⟩
 item:=by
  intro X hP hw hK hc i pins s σ H E I hf st hg;subst hP hw hK;obtain⟨ha,hi⟩:=hg;obtain⟨ok,ov,st⟩:=st;obtain⟨ho,z,y,xs,r,o',es',ep',h1,h2,h3,h4,h5⟩:=(show ObjOk X.prog X.w H s.heap a (.frz o (.dT kvs)) from I.hok a _ ha)
  rw[ho]at h1;cases h1;rw[hd]at h3;cases h3;obtain⟨k,v,b,u,e1,e2,e3,e5⟩:=KT.get2 r hi;have e4:=entry_at h4 i;rw[e2]at e4;obtain⟨f0,f1,f2,f3,f4,f5⟩:=hf it (by simp);refine C5 st ho hd e4 fun h' st' ht kp=> ?_;refine⟨_,rfl,?_⟩;refine wpAny_letOwnedTupleGo_items (s:={ s with heap:=h' }) st' fun h'' st'' sb=> ?_;have hq:H s.heap.objs.size=none:=I.hok.fresh (Nat.le_refl _);have hne:s.heap.objs.size≠it:=fun z=>by
   have:=Heap.lt_size (show s.heap.get? it=some _ from st);rw[z]at this;exact Nat.lt_irrefl _ this
  have tup:Vals [.ref b,v] [.ref b,u]:= .cons rfl (.cons e5 .nil);have I1:Inv X pins σ (upd H s.heap.objs.size (.tup [.ref b,v])) { s with heap:=s.heap.push { cls:= .type "tuple",data:= .seq #[.ref b,u] } } :=
   I.laid (t':=s.toks) (fun b u e=>Heap.get?_push_of_some _ e) (Nat.le_refl _) ⟨(show 2<=sizeLine by rw[sizeLine_eq];decide),[.ref b,u],tup,⟨_,Heap.get?_push_size _ rfl,rfl,0,rfl⟩⟩
  have n0:upd H s.heap.objs.size (.tup [.ref b,v]) it=none:=by rw[aI (Ne.symm hne)];exact f0
  have I2:Inv X pins σ (upd H s.heap.objs.size (.tup [.ref b,v])) { s with heap:=h'' }:=Inv.turned (s:={ s with heap:=s.heap.push { cls:= .type "tuple",data:= .seq #[.ref b,u] } }) (h':=h'') (t':=s.toks) (it:=it) I1 (fun c o hb e=>by
   rcases Heap.get?_push_cases e with⟨rfl,rfl⟩|e
   ·exact(sb.2 _ hb).trans ht
   ·exact(sb.2 c hb).trans (kp c o hb e)) n0 f1 f3 f4 f5
  exact⟨.ref s.heap.objs.size,_,I2,rfl,⟨k,v,b,_,e1,rfl,e3,hq,rfl⟩,⟨_,_,st''⟩,fun b hb=>by
   have e:b=it:=by simpa using hb
   rw[e];exact n0⟩
 done:=by
  intro X hP hw hK hc i pins s σ H E I hf st hg;subst hP hw hK;obtain⟨ha,hi⟩:=hg;obtain⟨ok,ov,st⟩:=st;obtain⟨ho,hok⟩:=(show ObjOk X.prog X.w H s.heap a (.frz o (.dT kvs)) from I.hok a _ ha)
  obtain⟨f0,f1,f2,f3,f4,f5⟩:=hf it (by simp);exact DX (I.ok.hd hc) st ho hd (by lia) fun h' eb=>⟨rfl,I.turned (t':=s.toks) (fun b o hb e=>eb b o hb e) f0 f1 f3 f4 f5⟩
 self:=fun A i s Q E st h=>by
  obtain⟨ok,ov,st⟩:=st;have T:s.TypeIs (.ref it) "dict_itemiterator" :=⟨_,st,rfl⟩
  refine wpAny_pyIter_slot T F.slot_dict_itemiterator_iter (wpAny_call_entry F.slot_dict_itemiterator_iter T l6 ?_ (F.args_dict_itemiterator_iter_1 _));show wpAny _ _ (ret (.ref it)) _ _ s;exact wpAny_pure ⟨_,rfl,"dict_itemiterator",_,T,F.slot_dict_itemiterator_next.lookup,h⟩
def xZ (td:TE):TI:=fun σ H R=>td σ H fun x H1=>∃a kvs,x= .ref a/\H1 a=some (.dT kvs)/\∀o,R (Itj a o kvs) (upd H1 a (.frz o (.dT kvs)))
section
variable {X:Cx}
theorem CM {l:Expr}{td:TE}{elts:List Expr}{x1:Nat}{tpos apos cpos:Pos} (hl:PE X l td) (hbase:attributeBase l "items" X.env (eval l X.env)=eval l X.env:=by rfl) (hline:(apos.endLine==cpos.line)=true:=by rfl) :
  PI X (.Tuple elts x1 tpos) (.Call (.Attribute l "items" apos) [] [] cpos) (xZ td):=by
 intro pins s σ H R I h;refine wpAny_Call_method0_late hbase hline (thn (hl pins s σ H _ I h) fun v s1 ⟨x,H1,I1,r1,q1⟩=> ?_);obtain⟨a,kvs,rfl,hq,q⟩:=q1;cases r1;obtain⟨t1,t2,_⟩:=BK I1 (.inr ⟨kvs,.inl hq⟩);refine⟨"dict","dict.items",F.plainAttrs_dict,F.slot_dict_items,F.type_dict_items,t1,t2,Calls.callWith_builtin rfl (PySem.evalArgs_none ?_)⟩;obtain⟨z,y,xs,r,o,es,ep,h1,h2,h3,h4,h5⟩:=(show ObjOk X.prog X.w H1 s1.heap a (.dT kvs) from I1.hok a _ hq)
 have hz:es.size=kvs.length:=by rw[size_of_entries h4,KT.len r]
 refine zN y t1 ?_;have hne:∀b ys,H1 b=some (.tup ys)->upd H1 a (.frz o (.dT kvs)) b=some (.tup ys):=fun b ys e=>by
  have hb:b≠a:=fun z=>by rw[z,hq]at e;cases e
  rw[aI hb];exact e
 have new:ObjOk X.prog X.w (upd H1 a (.frz o (.dT kvs))) s1.heap a (.frz o (.dT kvs)):=⟨h1,z,y,xs,KT.keeps r hne,o,es,ep,h1,h2,h3,h4,h5⟩
 have I2:Inv X pins σ (upd H1 a (.frz o (.dT kvs))) s1:=I1.freeze trivial hq h1 new;have I3:Inv X pins σ (upd H1 a (.frz o (.dT kvs))) { s1 with heap:=s1.heap.push { cls:= .type "dict_items",data:= .fields #[.ref a] } }:=I2.kept (t':=s1.toks) fun b o e=>Heap.get?_push_of_some _ e;refine BV ⟨_,Heap.get?_push_size _ rfl,rfl,rfl⟩ (Heap.get?_push_of_some _ h1) h3 ?_;refine⟨_,[_],_,_,upd H1 a (.frz o (.dT kvs)),rfl,I3.kept (t':=s1.toks) fun b o e=>Heap.get?_push_of_some _ e,wQ a _ kvs h3 hz,⟨.none,.none,Heap.get?_push_size _ rfl⟩,fun b hb=> ?_,q o⟩;obtain rfl:=List.mem_singleton.mp hb;exact I3.fpOk (Nat.le_refl _) (I3.hok.fresh (Nat.le_refl _))
end
end L2
namespace L2
open PySem PySem.W PyProof.Rows
section
variable (r:Nat->Int)
def rk (p:Array Nat)(i:Nat):Int:=r (p.getD i 0)
def Asc (p:Array Nat)(m:Nat):Prop:=∀i j,i<=j->j<m->rk r p i<=rk r p j
def cR (i j:Nat):Bool:=decide (r i<r j)
variable {r}{p:Array Nat}
theorem jP {p q:Array Nat}{i j:Nat} (h:p[i]? =q[j]?):rk r p i=rk r q j:=by
 unfold rk;rw[Array.getD_eq_getD_getElem?,Array.getD_eq_getD_getElem?,h]
theorem sR {src d:Nat}(hs:src<p.size)(hd:d<=src)(k:Nat):rk r (bubble p src d) k=if k=src - d then rk r p src else if src - d<k/\k<=src then rk r p (k - 1) else rk r p k:=by
 have e:=getElem?_bubble hs d hd k
 split
 ·rename_i h;rw[if_pos h]at e;exact jP e
 ·rename_i h;rw[if_neg h]at e
  split
  ·rename_i h2;rw[if_pos h2]at e;exact jP e
  ·rename_i h2;rw[if_neg h2]at e;exact jP e
theorem iA {α β:Type}(c:Nat->Nat->Bool)(f:α->KasT β):∀t:KasT α,aO c (t.bind f)=aO c (f (aO c t))
 | .ret _=>rfl
 | .ask i j k=>iA c f (k (c i j))
theorem oS {k:Nat}(hk:Asc r p k):∀(f a b:Nat),a<=b->b<=k->b - a<=f->(∀i,i<a->rk r p i<=rk r p k)->(∀i,b<=i->i<k->rk r p k<rk r p i) →
  aO (cR r) (kas_place p k f a b)<=k/\(∀i,i<aO (cR r) (kas_place p k f a b)->rk r p i<=rk r p k)/\∀i,aO (cR r) (kas_place p k f a b)<=i->i<k->rk r p k<rk r p i
 | 0,a,b,h1,h2,h3,h4,h5=>by
  have e:aO (cR r) (kas_place p k 0 a b)=a:=rfl;rw[e];exact⟨by lia,h4,fun i hi=>h5 i (by lia)⟩
 | f+1,a,b,h1,h2,h3,h4,h5=>by
  unfold kas_place
  by_cases hab:a≥b
  ·rw[if_pos hab];show a<=k/\(∀i,i<a->_)/\∀i,a<=i->i<k->_;exact⟨by lia,h4,fun i hi=>h5 i (by lia)⟩
  ·rw[if_neg hab];have ea:aO (cR r) (KasT.ask (p.getD k 0) (p.getD ((a+b)/2) 0) fun c=>if c=true then kas_place p k f a ((a+b)/2) else kas_place p k f ((a+b)/2+1) b) =
    aO (cR r) (if cR r (p.getD k 0) (p.getD ((a+b)/2) 0)=true then kas_place p k f a ((a+b)/2) else kas_place p k f ((a+b)/2+1) b):=rfl
   rw[ea]
   by_cases hc:cR r (p.getD k 0) (p.getD ((a+b)/2) 0)=true
   ·rw[if_pos hc];have hc':rk r p k<rk r p ((a+b)/2):=of_decide_eq_true hc;refine oS hk f a ((a+b)/2) (by lia) (by lia) (by lia) h4 fun i hi hik=> ?_;have:=hk ((a+b)/2) i hi hik
    lia
   ·rw[if_neg hc];have hc':¬rk r p k<rk r p ((a+b)/2):=fun z=>hc (decide_eq_true z);refine oS hk f ((a+b)/2+1) b (by lia) h2 (by lia) (fun i hi=> ?_) h5;have:=hk i ((a+b)/2) (by lia) (by lia)
    lia
theorem y4 {k l:Nat}(hs:k<p.size)(hk:Asc r p k)(hl:l<=k)(h1:∀i,i<l->rk r p i<=rk r p k)(h2:∀i,l<=i->i<k->rk r p k<rk r p i):Asc r (bubble p k (k - l)) (k+1):=by
 intro i j hij hj;rw[sR hs (by lia),sR hs (by lia),show k - (k - l)=l by lia]
 by_cases e1:i=l
 ·rw[if_pos e1]
  by_cases e2:j=l
  ·rw[if_pos e2];exact Int.le_refl _
  ·rw[if_neg e2];rw[if_pos (by lia)];have:=h2 (j - 1) (by lia) (by lia)
   lia
 ·rw[if_neg e1]
  by_cases e2:j=l
  ·rw[if_pos e2,if_neg (by lia)];exact h1 i (by lia)
  ·rw[if_neg e2]
   by_cases e3:l<i
   ·rw[if_pos (by lia),if_pos (by lia)];exact hk (i - 1) (j - 1) (by lia) (by lia)
   ·rw[if_neg (by lia)]
    by_cases e4:l<j
    ·rw[if_pos (by lia)];exact hk i (j - 1) (by lia) (by lia)
    ·rw[if_neg (by lia)];exact hk i j hij (by lia)
theorem CC {n:Nat}:∀(f:Nat) {p:Array Nat} (k:Nat),p.size=n->k+f=n->Asc r p k->Asc r (aO (cR r) (kas_bin f p k)) n
 | 0,p,k,hs,hk,h=>by
  have e:k=n:=by lia
  rw[←e];exact h
 | f+1,p,k,hs,hk,h=>by
  unfold kas_bin;rw[iA];obtain⟨h1,h2,h3⟩:=oS h k 0 k (Nat.zero_le _) (Nat.le_refl _) (by lia) (fun i hi=>by lia) (fun i h1 h2=>by lia);exact CC f (k+1) ((bubble_size _ _ _).trans hs) (by lia) (y4 (by lia) h h1 h2 h3)
theorem vJ:∀(f k:Nat),1<=k->Asc r p k->k<=aO (cR r) (kas_asc p f k)/\aO (cR r) (kas_asc p f k)<=k+f/\Asc r p (aO (cR r) (kas_asc p f k))/\(aO (cR r) (kas_asc p f k)<k+f->rk r p (aO (cR r) (kas_asc p f k))<rk r p (aO (cR r) (kas_asc p f k) - 1))
 | 0,k,h0,h=>by
  show k<=k/\k<=k+0/\Asc r p k/\(k<k+0->_);exact⟨Nat.le_refl _,Nat.le_refl _,h,fun z=>by lia⟩
 | f+1,k,h0,h=>by
  unfold kas_asc;have ea:aO (cR r) (KasT.ask (p.getD k 0) (p.getD (k - 1) 0) fun c=>if c=true then .ret k else kas_asc p f (k+1))=aO (cR r) (if cR r (p.getD k 0) (p.getD (k - 1) 0)=true then .ret k else kas_asc p f (k+1)):=rfl;rw[ea]
  by_cases hc:cR r (p.getD k 0) (p.getD (k - 1) 0)=true
  ·rw[if_pos hc];show k<=k/\k<=k+(f+1)/\Asc r p k/\(k<k+(f+1)->rk r p k<rk r p (k - 1));exact⟨Nat.le_refl _,by lia,h,fun _=>of_decide_eq_true hc⟩
  ·rw[if_neg hc];have hc':¬rk r p k<rk r p (k - 1):=fun z=>hc (decide_eq_true z);have h':Asc r p (k+1):=fun i j hij hj=>by
    by_cases e:j=k
    ·subst e
     by_cases e2:i=j
     ·subst e2;exact Int.le_refl _
     ·have:=h i (j - 1) (by lia) (by lia)
      lia
    ·exact h i j hij (by lia)
   obtain⟨a1,a2,a3,a4⟩:=vJ f (k+1) (by lia) h';exact⟨by lia,by lia,a3,fun z=>a4 (by lia)⟩
end
end L2
namespace L2
open PySem PySem.W PyProof.Rows
section
variable {r:Nat->Int}{p:Array Nat}
def Dif (r:Nat->Int)(p:Array Nat):Prop:=∀i j,i<p.size->j<p.size->rk r p i=rk r p j->i=j
def Dsc (r:Nat->Int)(p:Array Nat)(m:Nat):Prop:=∀i j,i<j->j<m->rk r p j<rk r p i
theorem AY {m:Nat}(hm:m<=p.size)(k:Nat):rk r (kas_rev p 0 m) k=if k<m then rk r p (m - 1 - k) else rk r p k:=by
 have e:=getElem?_mirror_all (i:=0) hm k
 split
 ·rename_i h;rw[if_pos ⟨Nat.zero_le _,h⟩,Nat.zero_add]at e;exact jP e
 ·rename_i h;rw[if_neg (by lia)]at e;exact jP e
theorem xR (hd:Dif r p):∀(f k:Nat),1<=k->k+f<=p.size->Dsc r p k->∃m,aO (cR r) (kas_desc f p k 0)=(p,m,0)/\k<=m/\m<=k+f/\Dsc r p m
 | 0,k,h0,h1,h=>⟨k,rfl,Nat.le_refl _,Nat.le_refl _,h⟩
 | f+1,k,h0,h1,h=>by
  unfold kas_desc
  by_cases hc:cR r (p.getD k 0) (p.getD (k - 1) 0)=true
  ·have hc':rk r p k<rk r p (k - 1):=of_decide_eq_true hc;have h':Dsc r p (k+1):=fun i j hij hj=>by
    by_cases e:j=k
    ·subst e
     by_cases e2:i=j - 1
     ·subst e2;exact hc'
     ·have:=h i (j - 1) (by lia) (by lia)
      lia
    ·exact h i j hij (by lia)
   obtain⟨m,e,a1,a2,a3⟩:=xR hd f (k+1) (by lia) (by lia) h';refine⟨m,?_,by lia,by lia,a3⟩;rw[←e];show aO (cR r) (if cR r (p.getD k 0) (p.getD (k - 1) 0)=true then _ else _)=_;rw[if_pos hc];rfl
  ·have hc':¬rk r p k<rk r p (k - 1):=fun z=>hc (decide_eq_true z);have hn:rk r p (k - 1)<rk r p k:=by
    have h2:rk r p (k - 1)≠rk r p k:=fun z=>by
     have:=hd (k - 1) k (by lia) (by lia) z
     lia
    lia
   refine⟨k,?_,Nat.le_refl _,by lia,h⟩;show aO (cR r) (if cR r (p.getD k 0) (p.getD (k - 1) 0)=true then _ else _)=_;rw[if_neg hc];show aO (cR r) (if cR r (p.getD (k - 1) 0) (p.getD k 0)=true then _ else _)=_;rw[if_pos (show cR r (p.getD (k - 1) 0) (p.getD k 0)=true from decide_eq_true hn)];rfl
theorem F5 {m n:Nat}(h1:1<=m)(hm:m<=n)(hs:p.size=n)(h:Dsc r p m):∃a q,aO (cR r) (kas_tail3 m n p)=(a,q)/\a<=n/\q.size=n/\Asc r q a:=by
 have hasc:Asc r (kas_rev p 0 m) m:=fun i j hij hj=>by
  rw[AY (by lia),AY (by lia),if_pos (by lia),if_pos hj]
  by_cases e:i=j
  ·subst e;exact Int.le_refl _
  ·exact Int.le_of_lt (h (m - 1 - j) (m - 1 - i) (by lia) (by lia))
 obtain⟨a1,a2,a3,_⟩:=vJ (n - m) m h1 hasc;refine⟨_,kas_rev p 0 m,by unfold kas_tail3;rw[iA];rfl,by lia,(mirror_size _ _ _ _).trans hs,a3⟩
theorem E9 {n:Nat}(hn:1<=n)(hs:p.size=n)(hd:Dif r p):∃a q,aO (cR r) (kas_count n p)=(a,q)/\a<=n/\q.size=n/\Asc r q a:=by
 have h0:Asc r p 1:=fun i j hij hj=>by
  have:i=j:=by lia
  subst this;exact Int.le_refl _
 obtain⟨a1,a2,a3,a4⟩:=vJ (n - 1) 1 (Nat.le_refl _) h0;unfold kas_count;rw[iA];generalize aO (cR r) (kas_asc p (n - 1) 1)=k at a1 a2 a3 a4 ⊢
 by_cases e1:k=n
 ·rw[if_pos (by rw[e1];exact beq_self_eq_true _)];exact⟨k,p,rfl,by lia,hs,a3⟩
 ·rw[if_neg (by rw[beq_iff_eq];exact e1)]
  by_cases e2:k>1
  ·rw[if_pos e2];have hlt:rk r p 0<rk r p (k - 1):=by
    have h2:=a3 0 (k - 1) (Nat.zero_le _) (by lia);have h3:rk r p 0≠rk r p (k - 1):=fun z=>by
     have:=hd 0 (k - 1) (by lia) (by lia) z
     lia
    lia
   refine⟨k,p,?_,by lia,hs,a3⟩;show aO (cR r) (if cR r (p.getD 0 0) (p.getD (k - 1) 0)=true then _ else _)=_;rw[if_pos (show cR r (p.getD 0 0) (p.getD (k - 1) 0)=true from decide_eq_true hlt)];rfl
  ·rw[if_neg e2];have ek:k=1:=by lia
   subst ek;have h10:rk r p 1<rk r p 0:=a4 (by lia);unfold kas_descPart;rw[iA];obtain⟨m,e,b1,b2,b3⟩:=xR hd (n - (1+1)) (1+1) (by lia) (by lia) (fun i j hij hj=>by
    have:i=0/\j=1:=by lia
    rw[this.1,this.2];exact h10)
   rw[e];have hmn:m<=n:=by
    have:2<=n:=by lia
    lia
   exact F5 (p:=p) (m:=m) (n:=n) (by lia) hmn hs b3
theorem FV {n:Nat}(hn:1<=n)(hr:∀i j,i<n->j<n->r i=r j->i=j):Asc r (aO (cR r) (kas_sort n)) n:=by
 unfold kas_sort;rw[iA];have hs:(List.range n).toArray.size=n:=by simp
 have eg:∀i,i<n->(List.range n).toArray.getD i 0=i:=fun i hi=>by simp[Array.getD,hi]
 obtain⟨a,q,e,h1,h2,h3⟩:=E9 (r:=r) hn hs (fun i j hi hj z=>by
  unfold rk at z;rw[hs]at hi hj;rw[eg i hi,eg j hj]at z;exact hr i j hi hj z)
 rw[e]
 by_cases hlt:a<n
 ·show Asc r (aO (cR r) (if a<n then _ else _)) n;rw[if_pos hlt];refine CC _ _ h2 (by lia) fun i j hij hj=> ?_
  by_cases ha:a=0
  ·have:i=j:=by lia
   subst this;exact Int.le_refl _
  ·exact h3 i j hij (by lia)
 ·show Asc r (aO (cR r) (if a<n then _ else _)) n;rw[if_neg hlt];have:a=n:=by lia
  rw[←this];exact h3
end
end L2
namespace L2
open PySem PySem.W PyProof.Rows
theorem r6 {α:Type}{n:Nat}{R:α->Prop}{c c':Nat->Nat->Bool} (h:∀i j,i<n->j<n->c i j=c' i j):∀{t:KasT α},KasIn n R t->aO c t=aO c' t
 | .ret _,_=>rfl
 | .ask i j k,q=>by
  show aO c (k (c i j))=aO c' (k (c' i j));rw[h i j q.1 q.2.1];exact r6 h (q.2.2 _)
theorem mF {α:Type}{p q:α->Bool}:∀{l:List α},(∀y∈l,p y=true->q y=true)->(∃x∈l,q x=true/\p x=false)->l.countP p<l.countP q
 | [],_,⟨x,hx,_⟩=>nomatch hx
 | a::l,h,⟨x,hx,h1,h2⟩=>by
  have hl:l.countP p<=l.countP q:=List.countP_mono_left fun y hy=>h y (List.mem_cons_of_mem _ hy);rcases List.mem_cons.mp hx with e|hx
  ·subst e;rw[List.countP_cons_of_pos h1,List.countP_cons_of_neg (by rw[h2];exact Bool.false_ne_true)]
   lia
  ·have ih:=mF (fun y hy=>h y (List.mem_cons_of_mem _ hy)) ⟨x,hx,h1,h2⟩;cases hp:p a with
   | true =>
    rw[List.countP_cons_of_pos hp,List.countP_cons_of_pos (h a (.head _) hp)]
    lia
   | false =>
    rw[List.countP_cons_of_neg (by rw[hp];exact Bool.false_ne_true)];cases hq:q a with
    | true=>rw[List.countP_cons_of_pos hq];lia
    | false=>rw[List.countP_cons_of_neg (by rw[hq];exact Bool.false_ne_true)];exact ih
structure Ord {α:Type}(lt:α->α->Bool)(l:List α):Prop where
 irr:∀x∈l,lt x x=false
 tr:∀x∈l,∀y∈l,∀z∈l,lt x y=true->lt y z=true->lt x z=true
 tot:∀x∈l,∀y∈l,x≠y->lt x y=true∨lt y x=true
section
variable {α:Type}{lt:α->α->Bool}{l:List α}{d:α}
theorem c3 {i:Nat}(h:i<l.length):l.getD i d∈l:=by
 rw[List.getD_eq_getElem?_getD,List.getElem?_eq_getElem h];exact List.getElem_mem h
theorem lF (nd:l.Nodup){i j:Nat}(hi:i<l.length)(hj:j<l.length)(e:l.getD i d=l.getD j d):i=j:=by
 rw[List.getD_eq_getElem?_getD,List.getElem?_eq_getElem hi,List.getD_eq_getElem?_getD,List.getElem?_eq_getElem hj]at e;have hp:=List.pairwise_iff_getElem.mp nd;rcases Nat.lt_trichotomy i j with h|h|h
 ·exact absurd e (hp i j hi hj h)
 ·exact h
 ·exact absurd e.symm (hp j i hj hi h)
theorem AH (o:Ord lt l)(nd:l.Nodup)(h2:2<=l.length):∀i j,i<j->j<l.length->lt (l.getD ((aO (fun i j=>lt (l.getD i d) (l.getD j d)) (kas_sort l.length)).getD i 0) d) (l.getD ((aO (fun i j=>lt (l.getD i d) (l.getD j d)) (kas_sort l.length)).getD j 0) d)=true:=by
 let r:Nat->Int:=fun i=>((l.countP fun y=>lt y (l.getD i d):Nat):Int)
 have hlt:∀i j,i<l.length->j<l.length->lt (l.getD i d) (l.getD j d)=true->r i<r j:=fun i j hi hj h=>by
  have:=mF (l:=l) (p:=fun y=>lt y (l.getD i d)) (q:=fun y=>lt y (l.getD j d)) (fun y hy h'=>o.tr y hy _ (c3 hi) _ (c3 hj) h' h) ⟨l.getD i d,c3 hi,h,o.irr _ (c3 hi)⟩;exact Int.ofNat_lt.mpr this
 have hrc:∀i j,i<l.length->j<l.length->(fun i j=>lt (l.getD i d) (l.getD j d)) i j=cR r i j:=fun i j hi hj=>by
  show lt (l.getD i d) (l.getD j d)=decide (r i<r j);cases e:lt (l.getD i d) (l.getD j d) with
  | true=>rw[decide_eq_true (hlt i j hi hj e)]
  | false =>
   rw[decide_eq_false];intro z
   by_cases e2:l.getD i d=l.getD j d
   ·rw[lF nd hi hj e2]at z;exact absurd z (Int.lt_irrefl _)
   ·rcases o.tot _ (c3 hi) _ (c3 hj) e2 with h|h
    ·rw[h]at e;cases e
    ·have:=hlt j i hj hi h
     lia
 have hinj:∀i j,i<l.length->j<l.length->r i=r j->i=j:=fun i j hi hj e=>by
  by_cases e2:l.getD i d=l.getD j d
  ·exact lF nd hi hj e2
  ·rcases o.tot _ (c3 hi) _ (c3 hj) e2 with h|h
   ·have:=hlt i j hi hj h;lia
   ·have:=hlt j i hj hi h;lia
 rw[r6 hrc (xQ (by lia))];have hs:=FV (n:=l.length) (by lia) hinj;have hp:=d4 (n:=l.length) (cR r) (by lia);generalize aO (cR r) (kas_sort l.length)=q at hs hp;intro i j hij hj;have hqs:q.size=l.length:=by have:=hp.size_eq;simpa using this
 have li:=hp.lt (by lia) i;have lj:=hp.lt (by lia) j;have hne:q.getD i 0≠q.getD j 0:=fun z=>by
  have hnd:q.toList.Nodup:=by
   have h1:=Array.perm_iff_toList_perm.mp hp;exact h1.nodup_iff.mpr (by simpa using List.nodup_range)
  have ei:q.getD i 0=q.toList.getD i 0:=by simp[Array.getD,List.getD_eq_getElem?_getD,show i<q.size by lia]
  have ej:q.getD j 0=q.toList.getD j 0:=by simp[Array.getD,List.getD_eq_getElem?_getD,show j<q.size by lia]
  rw[ei,ej]at z;have:=lF hnd (by rw[Array.length_toList];lia) (by rw[Array.length_toList];lia) z
  lia
 have hle:=hs i j (by lia) (by lia);have e3:l.getD (q.getD i 0) d≠l.getD (q.getD j 0) d:=fun z=>hne (lF nd li lj z);rcases o.tot _ (c3 li) _ (c3 lj) e3 with h|h
 ·exact h
 ·have:=hlt _ _ lj li h;unfold rk at hle
  lia
theorem jH (c:Nat->Nat->Bool):(bB d c l).Perm l:=by
 unfold bB
 split
 ·exact List.Perm.refl _
 ·have h:=Array.perm_iff_toList_perm.mp (d4 (n:=l.length) c (by lia));refine(h.map fun i=>l.getD i d).trans ?_;have e:((List.range l.length).toArray.toList.map fun i=>l.getD i d)=l:=by
   apply List.ext_getElem?
   intro i
   by_cases hi:i<l.length
   ·simp[hi,List.getD_eq_getElem?_getD]
   ·simp[hi]
  rw[e]
theorem qF (o:Ord lt l)(nd:l.Nodup):(bB d (fun i j=>lt (l.getD i d) (l.getD j d)) l).Pairwise fun x y=>lt x y=true:=by
 unfold bB
 split
 ·rename_i h
  match l,h with
  | [],_=>exact .nil
  | [x],_=>exact List.pairwise_singleton _ _
 ·rename_i h;have ha:=AH (d:=d) o nd (by lia);have hp:=d4 (n:=l.length) (fun i j=>lt (l.getD i d) (l.getD j d)) (by lia);generalize aO (fun i j=>lt (l.getD i d) (l.getD j d)) (kas_sort l.length)=q at ha hp;have hqs:q.size=l.length:=by have:=hp.size_eq;simpa using this
  rw[List.pairwise_iff_getElem];intro i j hi hj hij;rw[List.length_map,Array.length_toList]at hi hj;have:=ha i j hij (by lia)
  simpa [Array.getD,hi,hj] using this
theorem qT:∀{l k:List α},(∀x∈l,lt x x=false)->(∀x∈l,∀y∈l,∀z∈l,lt x y=true->lt y z=true->lt x z=true)->l.Perm k->l.Pairwise (fun x y=>lt x y=true)->k.Pairwise (fun x y=>lt x y=true)->l=k
 | [],k,_,_,hp,_,_=>(List.nil_perm.mp hp).symm
 | a::l,[],_,_,hp,_,_=>nomatch (List.perm_nil.mp hp)
 | a::l,b::k,hi,ht,hp,h1,h2=>by
  have ha:a∈b::k:=hp.mem_iff.mp (.head _);have hb:b∈a::l:=hp.mem_iff.mpr (.head _);have e:a=b:=by
   rcases List.mem_cons.mp ha with e|ha'
   ·exact e
   ·rcases List.mem_cons.mp hb with e|hb'
    ·exact e.symm
    ·have q1:=(List.pairwise_cons.mp h2).1 a ha';have q2:=(List.pairwise_cons.mp h1).1 b hb';have:=ht a (.head _) b hb a (.head _) q2 q1;rw[hi a (.head _)]at this;cases this
  subst e;rw[qT (fun x hx=>hi x (List.mem_cons_of_mem _ hx)) (fun x hx y hy z hz=>ht x (List.mem_cons_of_mem _ hx) y (List.mem_cons_of_mem _ hy) z (List.mem_cons_of_mem _ hz)) (List.perm_cons a |>.mp hp) (List.pairwise_cons.mp h1).2 (List.pairwise_cons.mp h2).2]
end
end L2
namespace L2
open PySem PySem.W PyProof.Rows
def ltS (x y:Str):Bool:=decide (x.cps.toList<y.cps.toList)
theorem FM {x y:Str}(h:x.cps.toList=y.cps.toList):x=y:=by
 cases x;cases y
 congr 1
 exact Array.toList_inj.mp h
theorem HQ (x:Str):ltS x x=false:=decide_eq_false (List.lt_irrefl _)
theorem LZ {x y z:Str}(h1:ltS x y=true)(h2:ltS y z=true):ltS x z=true:=decide_eq_true (List.lt_trans (of_decide_eq_true h1) (of_decide_eq_true h2))
theorem JB {x y:Str}(h:x≠y):ltS x y=true∨ltS y x=true:=by
 by_cases h1:x.cps.toList<y.cps.toList
 ·exact .inl (decide_eq_true h1)
 ·by_cases h2:y.cps.toList<x.cps.toList
  ·exact .inr (decide_eq_true h2)
  ·exact absurd (FM (List.le_antisymm (List.not_lt.mp h2) (List.not_lt.mp h1))) h
theorem w4 {α β:Type}(f:α->β)(d:α)(e:β)(c:Nat->Nat->Bool)(l:List α):bB e c (l.map f)=(bB d c l).map f:=by
 unfold bB;rw[List.length_map]
 split
 ·rfl
 ·rename_i h;rw[List.map_map]
  apply List.map_congr_left
  intro i hi;have h':=(d4 (n:=l.length) c (by lia)).mem_iff.mp (Array.mem_toList_iff.mp hi);have hl:i<l.length:=by simpa using h'
  show (l.map f).getD i e=f (l.getD i d);rw[List.getD_eq_getElem?_getD,List.getD_eq_getElem?_getD,List.getElem?_map,List.getElem?_eq_getElem hl];rfl
section
variable {X:Cx}
end
def p8 (rs:List (List Key)):Prop:=∃sh,∀r∈rs,r.map cX=sh
theorem BU (a:Key):eT a a=false:=by
 cases a with
 | inl i=>exact decide_eq_false (Int.lt_irrefl _)
 | inr x=>exact HQ x
theorem FU {a b c:Key}(h1:eT a b=true)(h2:eT b c=true):eT a c=true:=by
 cases a<;>cases b<;>cases c<;>first|(cases h1;done)|(cases h2;done)|skip
 ·exact decide_eq_true (Int.lt_trans (of_decide_eq_true h1) (of_decide_eq_true h2))
 ·exact LZ h1 h2
theorem CV {a b:Key}(k:cX a=cX b)(h:a≠b):eT a b=true∨eT b a=true:=by
 cases a<;>cases b<;>first|(cases k;done)|skip
 ·rename_i i j;have hij:i≠j:=fun z=>h (by rw[z]);rcases Int.lt_or_gt_of_ne hij with z|z
  ·exact .inl (decide_eq_true z)
  ·exact .inr (decide_eq_true z)
 ·rename_i x y;exact JB fun z=>h (by rw[z])
theorem oZ:∀a:List Key,c9 a a=false
 | []=>rfl
 | a::as=>by
  show (if a=a then c9 as as else eT a a)=false;rw[if_pos rfl];exact oZ as
theorem t6:∀{a b:List Key},a.map cX=b.map cX->a≠b->c9 a b=true∨c9 b a=true
 | [],[],_,h=>absurd rfl h
 | [],_::_,k,_=>by cases k
 | _::_,[],k,_=>by cases k
 | a::as,b::bs,k,h=>by
  show (if a=b then c9 as bs else eT a b)=true∨(if b=a then c9 bs as else eT b a)=true
  by_cases e:a=b
  ·subst e;rw[if_pos rfl,if_pos rfl];exact t6 (List.cons.inj k).2 fun z=>h (by rw[z])
  ·rw[if_neg e,if_neg (fun z=>e z.symm)];exact CV (List.cons.inj k).1 e
theorem rA:∀{a b c:List Key},c9 a b=true->c9 b c=true->c9 a c=true
 | [],_,_,h,_=>by cases h
 | _::_,[],_,h,_=>by cases h
 | _::_,_::_,[],_,h=>by cases h
 | a::as,b::bs,c::cs,h1,h2=>by
  have h1':(if a=b then c9 as bs else eT a b)=true:=h1;have h2':(if b=c then c9 bs cs else eT b c)=true:=h2;show (if a=c then c9 as cs else eT a c)=true
  by_cases e1:a=b
  ·subst e1;rw[if_pos rfl]at h1'
   by_cases e2:a=c
   ·subst e2;rw[if_pos rfl]at h2' ⊢;exact rA h1' h2'
   ·rw[if_neg e2]at h2' ⊢;exact h2'
  ·rw[if_neg e1]at h1'
   by_cases e2:b=c
   ·subst e2;rw[if_neg e1];exact h1'
   ·rw[if_neg e2]at h2';have h3:=FU h1' h2'
    by_cases e3:a=c
    ·subst e3;rw[BU]at h3;cases h3
    ·rw[if_neg e3];exact h3
theorem vB {rs:List (List Key)}(h:p8 rs):Ord c9 rs:=⟨fun x _=>oZ x,fun _ _ _ _ _ _ h1 h2=>rA h1 h2,fun x hx y hy e=>by
 obtain⟨sh,h⟩:=h;exact t6 ((h x hx).trans (h y hy).symm) e⟩
def d8 (rs:List (List Key)):List (List Key):=bB [] (lD rs) rs
theorem i3 (rs:List (List Key)):(d8 rs).Perm rs:=jH _
theorem uW {rs:List (List Key)}(h:p8 rs)(nd:rs.Nodup):(d8 rs).Pairwise fun x y=>c9 x y=true:=qF (d:=[]) (vB h) nd
theorem z4 {rs ks:List (List Key)}(h:p8 rs)(nd:rs.Nodup)(p:rs.Perm ks):d8 rs=d8 ks:=by
 have h2:p8 ks:=let ⟨sh,q⟩:=h;⟨sh,fun r hr=>q r (p.mem_iff.mpr hr)⟩;exact qT (lt:=c9) (fun x _=>oZ x) (fun _ _ _ _ _ _ a b=>rA a b) (((i3 rs).trans p).trans (i3 ks).symm) (uW h nd) (uW h2 (p.nodup_iff.mp nd))
theorem zP {H:Hp}{vs:List V}{rs:List (List Key)} (k:KRows H vs rs):KRows H (y9 rs vs) (d8 rs):=by
 have hl:vs.length=rs.length:=Paired.length k;unfold y9 d8 bB;rw[hl]
 split
 ·exact k
 ·have hp:=d4 (n:=rs.length) (lD rs) (by lia);have hm:∀i∈(aO (lD rs) (kas_sort rs.length)).toList,i<rs.length:=fun i hi=>by
   have h:=hp.mem_iff.mp (Array.mem_toList_iff.mp hi)
   simpa using h
  revert hm;generalize (aO (lD rs) (kas_sort rs.length)).toList=l;intro hm
  induction l with
  | nil=>exact .nil
  | cons i l ih =>
   refine .cons ?_ (ih fun j hj=>hm j (List.mem_cons_of_mem _ hj));have hi:=hm i (.head _);obtain⟨p,r,e1,e2,e3⟩:=k.get (i:=i) (v:=vs.getD i .non) (by rw[List.getD_eq_getElem?_getD,List.getElem?_eq_getElem (by lia)];rfl);refine⟨p,e1,?_⟩;show H p=some (.tup ((rs.getD i []).map kV));rw[List.getD_eq_getElem?_getD,e2];exact e3
end L2
namespace L2
open PySem PySem.W PyProof.Rows
section
variable {X:Cx}{pins:List (Addr×Obj)}{σ:St}{H:Hp}{s:Shared}
end
end L2
namespace L2
open PySem PySem.W PyProof.Rows
section
variable {X:Cx}
end
end L2
namespace L2
open PySem PySem.W PyProof.Rows
theorem Paired.snoc {α β:Type}{F:α->β->Prop}:∀{l:List α}{m:List β}{a:α}{b:β},Paired F l m->F a b->Paired F (l++[a]) (m++[b])
 | _,_,_,_,.nil,h=> .cons h .nil
 | _,_,_,_,.cons r t,h=> .cons r (Paired.snoc t h)
theorem Paired.at2 {α β:Type}{F:α->β->Prop}:∀{l:List α}{m:List β}{i:Nat}{a:α}{b:β},Paired F l m->l[i]? =some a->m[i]? =some b->F a b
 | _,_,0,_,_,.cons r _,h1,h2=>by cases h1;cases h2;exact r
 | _,_,i+1,_,_,.cons _ t,h1,h2=>Paired.at2 (i:=i) t (by simpa using h1) (by simpa using h2)
 | _,_,_,_,_,.nil,h1,_=>by simp at h1
theorem g9 {α:Type}{J:It}{g:TG}{ti:TT}{te:TE}{σ0:St}{fin:List V->Hp->Prop}{H:Hp} (xs:List α) (c:α->Bool) (P:α->V->Hp->Prop) (hm:∀x y H1 H2,P x y H1->Same H1 H2->P x y H2) (hn:xs.length<=sizeLine)
  (hgo:∀i H1,Same H H1->i<xs.length->J.go i H1)(hst:∀H1,Same H H1->J.stop xs.length H1)
  (hb:∀i x H1,xs[i]? =some x->Same H H1->∀v H',J.yld i H1 v H'->Same H1 H'/\∃σ2:St,σ2.length=σ0.length/\(∀(j:Nat) v,σ0[j]? =some (some v)->σ2[j]? =some (some v))/\(∀R:St->Hp->Prop,R σ2 H'->g v σ0 H' R) ∧
   (∀R:Bool->Hp->Prop,(∀H2,Same H' H2->R (c x) H2)->ti σ2 H' R)/\(c x=true->∀H2,Same H' H2->∀R:VK,(∀y H3,P x y H3->Same H2 H3->R y H3)->te σ2 H2 R))
  (hf:∀ys H1,Same H H1->Paired (fun x y=>P x y H1) (xs.filter c) ys->fin ys H1):dC J g ti te σ0 fin H:=by
 refine⟨fun i m ys H1=>i+m=xs.length/\Same H H1/\Paired (fun x y=>P x y H1) ((xs.take i).filter c) ys,⟨xs.length,by lia,Same.refl _,.nil⟩,?_⟩;rintro i m ys H1 ⟨e1,s1,pr⟩;cases m with
 | zero =>
  have ei:i=xs.length:=by lia
  subst ei;rw[List.take_length]at pr;exact .inl ⟨hst H1 s1,hf ys H1 s1 pr⟩
 | succ m =>
  have hi:i<xs.length:=by lia
  refine .inr ⟨hgo i H1 s1 hi,fun v H' y=> ?_⟩;have ex:xs[i]? =some xs[i]:=List.getElem?_eq_getElem hi;have etake:xs.take (i+1)=xs.take i++[xs[i]]:=by rw[List.take_succ,ex];rfl
  have hlen:ys.length<=i:=by
   rw[←Paired.length pr];exact Nat.le_trans (List.length_filter_le _ _) (by rw[List.length_take];lia)
  obtain⟨s2,σ2,l2,c2,hg,ht,he⟩:=hb i xs[i] H1 ex s1 v H' y;refine hg _ ⟨⟨l2,c2⟩,ht _ fun H2 s3=> ?_⟩;cases hc:c xs[i] with
  | true =>
   show te σ2 H2 _;refine he hc H2 s3 _ fun y H3 py s4=>⟨by lia,m,by lia,by lia,((s1.trans s2).trans s3).trans s4,?_⟩
   rw[etake,List.filter_append,List.filter_cons_of_pos hc];exact Paired.snoc (Paired.imp' (fun a b h=>hm a b _ _ h ((s2.trans s3).trans s4)) pr) py
  | false =>
   show ∃m',_;refine⟨m,by lia,by lia,(s1.trans s2).trans s3,?_⟩;rw[etake,List.filter_append,List.filter_cons_of_neg (by rw[hc];exact Bool.false_ne_true),List.filter_nil,List.append_nil];exact Paired.imp' (fun a b h=>hm a b _ _ h (s2.trans s3)) pr
section
variable {K:PySem.W.Frag}{ti:TT}{te:TE}{σ:St}{ci:List Nat}{rest:St}{fin:List V->Hp->Prop}{H:Hp}{a:Addr}
theorem zX {n:Nat}(hr:ci.map (fun i=>(σ[i]?).join)=rest):bD n ci σ=List.replicate n none++rest:=by unfold bD;rw[hr]
theorem qV {α:Type}{vs:List V}{xs:List α} (f1 f2:α->V) (c:α->Bool) (P:α->V->Hp->Prop) (hm:∀x y H1 H2,P x y H1->Same H1 H2->P x y H2) (hn:xs.length<=sizeLine) (hr:ci.map (fun i=>(σ[i]?).join)=rest) (hl:SqL K H a vs)
  (hv:Paired (fun v x=>∃q,v= .ref q/\H q=some (.tup [f1 x,f2 x])) vs xs)
  (ht:∀x H1,x∈xs->Same H H1->∀R:Bool->Hp->Prop,(∀H2,Same H1 H2->R (c x) H2)->ti (some (f1 x)::some (f2 x)::rest) H1 R)
  (he:∀x H1,x∈xs->c x=true->Same H H1->∀R:VK,(∀y H2,P x y H2->Same H1 H2->R y H2)->te (some (f1 x)::some (f2 x)::rest) H1 R)
  (hf:∀ys H1,Same H H1->Paired (fun x y=>P x y H1) (xs.filter c) ys->fin ys H1):dC (Itl K a) (oX K 2 (gK (bC 0) (gK (bC 1) qP))) ti te (bD 2 ci σ) fin H:=by
 have e0:bD 2 ci σ=none::none::rest:=zX hr;rw[e0];have hlen:vs.length=xs.length:=Paired.length hv;refine g9 xs c P hm hn (fun i H1 s hi=>⟨vs,vs[i],s.seq hl,List.getElem?_eq_getElem (by lia)⟩) (fun H1 s=>⟨vs,s.seq hl,by lia⟩) (fun i x H1 hx s1 v H' y=> ?_) hf;obtain⟨rfl,e2⟩:=y;have ev:=e2 vs (s1.seq hl);obtain⟨q,rfl,hq⟩:∃q,v= .ref q/\H q=some (.tup [f1 x,f2 x]):=Paired.at2 hv ev hx;have hmem:=List.mem_of_getElem? hx;refine⟨Same.refl _,some (f1 x)::some (f2 x)::rest,rfl,fun j v hv=> ?_,fun R h=>⟨q,[f1 x,f2 x],rfl,.inl (.inl (s1 _ _ hq)),rfl,f1 x,[f2 x],rfl,f2 x,[],rfl,rfl,h⟩,fun R h=>ht x _ hmem s1 R h,fun hc H2 s2 R h=>he x H2 hmem hc (s1.trans s2) R h⟩
 match j,hv with
 | 0,hv=>cases hv
 | 1,hv=>cases hv
 | j+2,hv=>exact hv
end
end L2
namespace L2
open PySem PySem.W PyProof.Rows
section
variable {K:PySem.W.Frag}{ti:TT}{te:TE}{σ:St}{ci:List Nat}{rest:St}{fin:List V->Hp->Prop}{H:Hp}{a:Addr}
theorem uD {H:Hp}{q:Addr}{o:HO} (h:H q=none):Same H (upd H q o):=fun b u e=>by
 have:b≠q:=fun z=>by rw[z,h]at e;cases e
 rw[aI this];exact e
theorem x0 {α:Type}{vs:List V}{xs:List α} (f1 f2 f3:α->V) (c:α->Bool) (P:α->V->Hp->Prop) (hm:∀x y H1 H2,P x y H1->Same H1 H2->P x y H2) (hn:xs.length<=sizeLine) (hr:ci.map (fun i=>(σ[i]?).join)=rest) (hl:SqL K H a vs)
  (hv:Paired (fun v x=>∃q,v= .ref q/\H q=some (.tup [f1 x,f2 x,f3 x])) vs xs)
  (ht:∀x H1,x∈xs->Same H H1->∀R:Bool->Hp->Prop,(∀H2,Same H1 H2->R (c x) H2)->ti (some (f1 x)::some (f2 x)::some (f3 x)::rest) H1 R)
  (he:∀x H1,x∈xs->c x=true->Same H H1->∀R:VK,(∀y H2,P x y H2->Same H1 H2->R y H2)->te (some (f1 x)::some (f2 x)::some (f3 x)::rest) H1 R)
  (hf:∀ys H1,Same H H1->Paired (fun x y=>P x y H1) (xs.filter c) ys->fin ys H1):dC (Itl K a) (oX K 3 (gK (bC 0) (gK (bC 1) (gK (bC 2) qP)))) ti te (bD 3 ci σ) fin H:=by
 have e0:bD 3 ci σ=none::none::none::rest:=zX hr;rw[e0];have hlen:vs.length=xs.length:=Paired.length hv;refine g9 xs c P hm hn (fun i H1 s hi=>⟨vs,vs[i],s.seq hl,List.getElem?_eq_getElem (by lia)⟩) (fun H1 s=>⟨vs,s.seq hl,by lia⟩) (fun i x H1 hx s1 v H' y=> ?_) hf;obtain⟨rfl,e2⟩:=y;have ev:=e2 vs (s1.seq hl);obtain⟨q,rfl,hq⟩:∃q,v= .ref q/\H q=some (.tup [f1 x,f2 x,f3 x]):=Paired.at2 hv ev hx;have hmem:=List.mem_of_getElem? hx;refine⟨Same.refl _,some (f1 x)::some (f2 x)::some (f3 x)::rest,rfl,fun j v hv=> ?_,fun R h=>⟨q,[f1 x,f2 x,f3 x],rfl,.inl (.inl (s1 _ _ hq)),rfl,f1 x,[f2 x,f3 x],rfl,f2 x,[f3 x],rfl,f3 x,[],rfl,rfl,h⟩,fun R h=>ht x _ hmem s1 R h,fun hc H2 s2 R h=>he x H2 hmem hc (s1.trans s2) R h⟩
 match j,hv with
 | 0,hv=>cases hv
 | 1,hv=>cases hv
 | 2,hv=>cases hv
 | j+3,hv=>exact hv
theorem L9 {kvs:List (Key×V)}{o:Obj} (c:Key×V->Bool) (P:Key×V->V->Hp->Prop) (hm:∀x y H1 H2,P x y H1->Same H1 H2->P x y H2) (hn:kvs.length<=sizeLine) (hr:ci.map (fun i=>(σ[i]?).join)=rest) (h0:H a=some (.frz o (.dK kvs)))
  (ht:∀x H1,x∈kvs->Same H H1->∀R:Bool->Hp->Prop,(∀H2,Same H1 H2->R (c x) H2)->ti (some (kV x.1)::rest) H1 R)
  (he:∀x H1,x∈kvs->c x=true->Same H H1->∀R:VK,(∀y H2,P x y H2->Same H1 H2->R y H2)->te (some (kV x.1)::rest) H1 R)
  (hf:∀ys H1,Same H H1->Paired (fun x y=>P x y H1) (kvs.filter c) ys->fin ys H1):dC (Itk a o kvs) (bC 0) ti te (bD 1 ci σ) fin H:=by
 rw[vQ hr];refine g9 kvs c P hm hn (fun i H1 s hi=>⟨s _ _ h0,hi⟩) (fun H1 s=>⟨s _ _ h0,Nat.le_refl _⟩) (fun i x H1 hx s1 v H' y=> ?_) hf;obtain⟨rfl,k,u,e2,rfl⟩:=y;rw[hx]at e2;cases e2;have hmem:=List.mem_of_getElem? hx;refine⟨Same.refl _,some (kV k)::rest,rfl,fun j v hv=> ?_,fun R h=>h,fun R h=>ht _ _ hmem s1 R h,fun hc H2 s2 R h=>he _ H2 hmem hc (s1.trans s2) R h⟩;cases j with
 | zero=>cases hv
 | succ j=>exact hv
theorem K8 {kvs:List (List Key×V)}{o:Obj} (c:List Key×V->Bool) (P:List Key×V->V->Hp->Prop) (hm:∀x y H1 H2,P x y H1->Same H1 H2->P x y H2) (hn:kvs.length<=sizeLine) (hr:ci.map (fun i=>(σ[i]?).join)=rest) (h0:H a=some (.frz o (.dT kvs)))
  (ht:∀x H1 p,x∈kvs->Same H H1->H1 p=some (.tup (x.1.map kV))->∀R:Bool->Hp->Prop,(∀H2,Same H1 H2->R (c x) H2)->ti (some (.ref p)::some x.2::rest) H1 R)
  (he:∀x H1 p,x∈kvs->c x=true->Same H H1->H1 p=some (.tup (x.1.map kV))->∀R:VK,(∀y H2,P x y H2->Same H1 H2->R y H2)->te (some (.ref p)::some x.2::rest) H1 R)
  (hf:∀ys H1,Same H H1->Paired (fun x y=>P x y H1) (kvs.filter c) ys->fin ys H1):dC (Itj a o kvs) (oX K 2 (gK (bC 0) (gK (bC 1) qP))) ti te (bD 2 ci σ) fin H:=by
 have e0:bD 2 ci σ=none::none::rest:=zX hr;rw[e0];refine g9 kvs c P hm hn (fun i H1 s hi=>⟨s _ _ h0,hi⟩) (fun H1 s=>⟨s _ _ h0,Nat.le_refl _⟩) (fun i x H1 hx s1 v H' y=> ?_) hf;obtain⟨k,u,p,q,e2,rfl,hp,hq,rfl⟩:=y;rw[hx]at e2;cases e2;have hmem:=List.mem_of_getElem? hx;have sq:Same H1 (upd H1 q (.tup [.ref p,u])):=uD hq;refine⟨sq,some (.ref p)::some u::rest,rfl,fun j v hv=> ?_,fun R h=>⟨q,[.ref p,u],rfl,.inl (.inl aW),rfl,.ref p,[u],rfl,u,[],rfl,rfl,h⟩,fun R h=>ht _ _ p hmem (s1.trans sq) (sq _ _ hp) R h,fun hc H2 s2 R h=>he _ H2 p hmem hc ((s1.trans sq).trans s2) (s2 _ _ (sq _ _ hp)) R h⟩
 match j,hv with
 | 0,hv=>cases hv
 | 1,hv=>cases hv
 | j+2,hv=>exact hv
end
section
variable {σ:St}{H:Hp}{g:TG}{tb:TS}{nx bk ct:St->Hp->Prop}{rt:VK}
theorem F4 {p:Addr}{o:Obj} (kvs:List (Key×V)) (Pv:Nat->St->Hp->Prop) (h0:Pv 0 σ H) (hl:∀i σ H,Pv i σ H->H p=some (.frz o (.dK kvs)))
  (hs:∀i k v σ H,kvs[i]? =some (k,v)->Pv i σ H->g (kV k) σ H fun σ2 H2=>tb ⟨Pv (i+1),rt,nx,Pv (i+1)⟩ σ2 H2)(hd:∀σ H,Pv kvs.length σ H->nx σ H):qR (Itk p o kvs) g tb ⟨nx,rt,bk,ct⟩ σ H:=by
 refine⟨fun i m σ H=>m=kvs.length - i/\i<=kvs.length/\Pv i σ H,⟨kvs.length,by simp,Nat.zero_le _,h0⟩,?_⟩;rintro i m σ H ⟨rfl,hi,q⟩
 by_cases hlt:i<kvs.length
 ·refine .inr ⟨⟨hl i σ H q,hlt⟩,Pv (i+1),fun σ' H' p'=>⟨kvs.length - (i+1),by lia,rfl,hlt,p'⟩,fun x H' y=> ?_⟩;obtain⟨rfl,k,v,e,rfl⟩:=y;exact hs i k v σ _ e q
 ·have e:i=kvs.length:=by lia
  subst e;exact .inl ⟨⟨hl _ σ H q,Nat.le_refl _⟩,hd σ H q⟩
end
def C3 (R:It->Hp->Prop):VK:=fun x H1=>∃a kvs,x= .ref a/\H1 a=some (.dK kvs)/\∀o,R (Itk a o kvs) (upd H1 a (.frz o (.dK kvs)))
def yC (R:It->Hp->Prop):VK:=fun x H1=>∃a kvs,x= .ref a/\H1 a=some (.dT kvs)/\∀o,R (Itj a o kvs) (upd H1 a (.frz o (.dT kvs)))
def M6 (Q:VK)(y:V):VK:=fun x H2=>∃a o,x= .ref a/\DGet H2 a y o/\Q (.bl o.isSome) H2
def xV (Q:VK)(y:V):VK:=fun x H2=>∃a o,x= .ref a/\DGet H2 a y o/\Q (.bl (!o.isSome)) H2
def A0 (σ:St)(ty tx:TE)(Q:VK):VK:=fun x H1=>∃a,x= .ref a/\IsD H1 a/\ty σ H1 fun y H2=>tx σ H2 fun z H3=>∃o,DGet H3 a y o/\Q (o.getD z) H3
def MQ (a:Addr)(Q:VK)(y:V):VK:=fun z H3=>∃o,DGet H3 a y o/\Q (o.getD z) H3
section
variable {K:PySem.W.Frag}{H:Hp}{Q:VK}{σ:St}{nx:St->Hp->Prop}{R:It->Hp->Prop}{td ty tx:TE}
theorem BI (h:td σ H (C3 R)):AW td σ H R:=h
theorem zK (h:td σ H (yC R)):xZ td σ H R:=h
theorem uP {p:Addr}{kvs:List (Key×V)} (e:H p=some (.dK kvs)) (h:∀o H',SameBut p H H'->H' p=some (.frz o (.dK kvs))->R (Itk p o kvs) H'):C3 R (.ref p) H:=⟨p,kvs,rfl,e,fun o=>h o _ SameBut.upd aW⟩
theorem A6 {p:Addr}{kvs:List (List Key×V)} (e:H p=some (.dT kvs)) (h:∀o H',SameBut p H H'->H' p=some (.frz o (.dT kvs))->R (Itj p o kvs) H'):yC R (.ref p) H:=⟨p,kvs,rfl,e,fun o=>h o _ SameBut.upd aW⟩
theorem NX (h:ty σ H fun y H1=>td σ H1 (M6 Q y)):NM ty td σ H Q:=h
theorem C1 (h:ty σ H fun y H1=>td σ H1 (xV Q y)):yB ty td σ H Q:=h
theorem IC {p:Addr}{z:Str}{kvs:List (Key×V)} (e:Rd H p (.dK kvs)) (h:Q (.bl (aV kvs (.inr z)).isSome) H):M6 Q (.str z) (.ref p) H:=⟨p,_,rfl,.inl ⟨kvs,.inr z,e,rfl,rfl⟩,h⟩
theorem zS {p:Addr}{z:Str}{kvs:List (Key×V)} (e:Rd H p (.dK kvs)) (h:Q (.bl (!(aV kvs (.inr z)).isSome)) H):xV Q (.str z) (.ref p) H:=⟨p,_,rfl,.inl ⟨kvs,.inr z,e,rfl,rfl⟩,h⟩
theorem oQ {p:Addr}{v:V}{z:Str}{kvs:List (Key×V)} (e:H p=some (.dK kvs)) (hl:kvs.length<sizeLine) (h:∀H',SameBut p H H'->H' p=some (.dK (cI kvs (.inr z) v))->nx σ H'):zC nx σ (.ref p) v (.str z) H :=
 ⟨p,_,rfl,DPut.k (k:= .inr z) e hl,h _ SameBut.upd aW⟩
theorem vH {p:Addr}{v:V}{z:Str}{kvs:List (Key×V)} (e:Rd H p (.dK kvs)) (hv:aV kvs (.inr z)=some v) (h:Q v H):yG Q (.ref p) (.str z) H:=⟨p,v,rfl,.inl ⟨kvs,.inr z,e,rfl,hv.symm⟩,h⟩
theorem FO (h:∀p H',H p=none->Same H H'->H' p=some (.dK [])->Q (.ref p) H'):C0 σ H Q:=eK h
theorem F1 (h:td σ H (A0 σ ty tx Q)):CS td ty tx σ H Q:=h
theorem sJ {p:Addr}{kvs:List (List Key×V)} (e:H p=some (.dT kvs)) (h:ty σ H fun y H2=>tx σ H2 (MQ p Q y)):A0 σ ty tx Q (.ref p) H:=⟨p,rfl,.inr ⟨kvs,.inl e⟩,h⟩
theorem vC {p b:Addr}{z:V}{kvs:List (List Key×V)} (k:List Key) (e:H p=some (.dT kvs)) (eb:H b=some (.tup (k.map kV))) (h:Q ((aV kvs k).getD z) H):MQ p Q (.ref b) z H:=⟨_,DGet.t e eb,h⟩
theorem ER {p:Addr}{vs:List V}{ps:List (Key×V)} (e:H p=some (.lst vs)) (r:tX H vs ps) (h:∀l H',H l=none->Same H H'->H' l=some (.dK (gQ [] ps))->Q (.ref l) H'):CN [.ref p] H Q:=⟨p,vs,ps,rfl,.inl e,r,eK h⟩
theorem uL {te:TE}{p:Addr}{u:HO} (e:H p=some u) (nf:∀o x,u≠ .frz o x) (h:te σ H fun x=>fI p (Q x)):GQ te σ H Q:=⟨p,fun o x z=>nf o x (by rw[e]at z;exact Option.some.inj z),h⟩
theorem EL {ts:TS}{bk ct:St->Hp->Prop}{rt:VK}{p:Addr}{u:HO} (e:H p=some u) (nf:∀o x,u≠ .frz o x) (h:ts ⟨fun σ'=>fI p (nx σ'),fun v=>fI p (rt v),fun σ'=>fI p (bk σ'),fun σ'=>fI p (ct σ')⟩ σ H):G4 ts ⟨nx,rt,bk,ct⟩ σ H :=
 ⟨p,fun o x z=>nf o x (by rw[e]at z;exact Option.some.inj z),h⟩
theorem l7 {p:Addr}{o:Obj}{u:HO}{R:Hp->Prop} (e:H p=some (.frz o u)) (h:∀H',SameBut p H H'->H' p=some u->R H'):fI p R H:=⟨o,u,e,h _ SameBut.upd aW⟩
theorem BM {H Hf H1 H2:Hp}{p:Addr}{u:HO} (e:H p=some u) (a:SameBut p H Hf) (b:SameBut p Hf H1) (c:SameBut p H1 H2) (e2:H2 p=some u):Same H H2:=fun x o z=>by
 by_cases hx:x=p
 ·subst hx;rw[e]at z;cases z;exact e2
 ·exact c x o (b x o (a x o z hx) hx) hx
end
section
variable {X:Cx}{K:PySem.W.Frag}
theorem JD {e:Expr}{ta:TE}{f:Str}{pos:Pos} (he:PE X e ta) (hb:attributeBase e f X.env (eval e X.env)=eval e X.env) (hK:X.K=K:=by rfl):PE X (.Attribute e f pos) (D3 K ta f):=by
 subst hK;exact jG he hb
end
end L2
namespace L2
open PySem PySem.W PyProof.Rows
section
variable {K:PySem.W.Frag}{ti:TT}{te:TE}{σ:St}{ci:List Nat}{rest:St}{fin:List V->Hp->Prop}{H:Hp}{a:Addr}{α:Type}
theorem nE {vs:List V}{xs:List α} (F:V->α->Prop) (c:α->Bool) (P:α->V->Hp->Prop) (hm:∀x y H1 H2,P x y H1->Same H1 H2->P x y H2) (hn:xs.length<=sizeLine) (hr:ci.map (fun i=>(σ[i]?).join)=rest) (hl:SqL K H a vs) (hv:Paired F vs xs)
  (ht:∀v x H1,F v x->x∈xs->Same H H1->∀R:Bool->Hp->Prop,(∀H2,Same H1 H2->R (c x) H2)->ti (some v::rest) H1 R)
  (he:∀v x H1,F v x->x∈xs->c x=true->Same H H1->∀R:VK,(∀y H2,P x y H2->Same H1 H2->R y H2)->te (some v::rest) H1 R)
  (hf:∀ys H1,Same H H1->Paired (fun x y=>P x y H1) (xs.filter c) ys->fin ys H1):dC (Itl K a) (bC 0) ti te (bD 1 ci σ) fin H:=by
 rw[vQ hr];have hlen:vs.length=xs.length:=Paired.length hv;refine g9 xs c P hm hn (fun i H1 s hi=>⟨vs,vs[i],s.seq hl,List.getElem?_eq_getElem (by lia)⟩) (fun H1 s=>⟨vs,s.seq hl,by lia⟩) (fun i x H1 hx s1 v H' y=> ?_) hf;obtain⟨rfl,e2⟩:=y;have ev:=e2 vs (s1.seq hl);have hF:=Paired.at2 hv ev hx;have hmem:=List.mem_of_getElem? hx;refine⟨Same.refl _,some v::rest,rfl,fun j v hv=> ?_,fun R h=>h,fun R h=>ht v x _ hF hmem s1 R h,fun hc H2 s2 R h=>he v x H2 hF hmem hc (s1.trans s2) R h⟩;cases j with
 | zero=>cases hv
 | succ j=>exact hv
end
theorem mR {α:Type}{f:α->V}:∀{l:List α}{ys:List V},Paired (fun x y=>y=f x) l ys->ys=l.map f
 | _,_,.nil=>rfl
 | _,_,.cons h t=>by rw[h,mR t];rfl
theorem gA {α:Type}(l:List α):l.filter (fun _=>true)=l:=by simp
end L2
namespace L2
open PySem PySem.W PyProof.Rows
abbrev bQ:=Int×Str×Int
def cZ (t:Int)(n:Str):List Key:=[.inl t,.inr n]
def jM (r:bQ):List Key:=[.inl r.1,.inr r.2.1,.inl r.2.2]
def j4:V->Int
 | .int i=>i
 | _=>0
def uR (kvs:List (List Key×V))(r:bQ):List (List Key×V):=cI kvs (cZ r.1 r.2.1) (.int (j4 ((aV kvs (cZ r.1 r.2.1)).getD (.int 0))+r.2.2))
def dJ (rows:List bQ):List (List Key×V):=rows.foldl uR []
theorem gG (rows:List bQ)(r:bQ):dJ (rows++[r])=uR (dJ rows) r:=by unfold dJ;rw[List.foldl_append];rfl
def gJ (rows:List bQ)(t:Int)(n:Str):Int:=((rows.filter fun r=>decide (r.1=t)&&decide (r.2.1=n)).map (·.2.2)).sum
theorem yS (rows:List bQ)(r:bQ)(t:Int)(n:Str):gJ (rows++[r]) t n=gJ rows t n+if r.1=t/\r.2.1=n then r.2.2 else 0:=by
 unfold gJ;rw[List.filter_append,List.map_append,List.sum_append]
 congr 1
 by_cases h:r.1=t/\r.2.1=n
 ·rw[if_pos h,List.filter_cons_of_pos (by simp[h])];simp
 ·rw[if_neg h,List.filter_cons_of_neg (by simpa using h)];simp
theorem EE {t t':Int}{n n':Str} (h:cZ t n=cZ t' n'):t=t'/\n=n':=by
 unfold cZ at h;injection h with h1 h2;injection h2 with h2;exact⟨Sum.inl.inj h1,Sum.inr.inj h2⟩
theorem nK {α:Type}{P:List α->Prop} (h0:P []) (hs:∀l a,P l->P (l++[a])) (l:List α):P l:=by
 have:∀m:List α,P m.reverse:=fun m=>by
  induction m with
  | nil=>exact h0
  | cons a m ih=>rw[List.reverse_cons];exact hs _ _ ih
 rw[←List.reverse_reverse l];exact this _
theorem vT (t:Int)(n:Str)(rows:List bQ):j4 ((aV (dJ rows) (cZ t n)).getD (.int 0))=gJ rows t n:=by
 induction rows using nK with
 | h0=>rfl
 | hs l r ih =>
  rw[gG,yS];unfold uR;rw[o0]
  by_cases e:cZ t n=cZ r.1 r.2.1
  ·obtain⟨rfl,rfl⟩:=EE e;rw[if_pos rfl,if_pos ⟨rfl,rfl⟩,←ih];rfl
  ·rw[if_neg e,if_neg (fun h=>e (by rw[h.1,h.2])),ih];lia
theorem BH {κ:Type}[DecidableEq κ]{kvs:List (κ×V)}{k:κ}{v:V} (nd:(kvs.map (·.1)).Nodup):((cI kvs k v).map (·.1)).Nodup:=by
 unfold cI
 split
 ·have e:(kvs.map fun kv=>if kv.1=k then (kv.1,v) else kv).map (·.1)=kvs.map (·.1):=by
   rw[List.map_map]
   apply List.map_congr_left
   intro x _;show (if x.1=k then (x.1,v) else x).1=x.1
   split<;>rfl
  rw[e];exact nd
 ·rename_i h;rw[List.map_append];refine xN nd fun hk=>h ?_;obtain⟨x,hx,e⟩:=List.mem_map.mp hk;rw[List.any_eq_true];exact⟨x,hx,decide_eq_true e⟩
theorem rB {κ:Type}[DecidableEq κ]:∀{kvs:List (κ×V)}{e:κ×V},(kvs.map (·.1)).Nodup->e∈kvs->aV kvs e.1=some e.2
 | a::l,e,nd,h=>by
  have nd':=List.pairwise_cons.mp nd;rcases List.mem_cons.mp h with rfl|h
  ·exact cN rfl
  ·rw[cA (nd'.1 e.1 (List.mem_map.mpr ⟨e,h,rfl⟩))];exact rB nd'.2 h
theorem mT {κ:Type}[DecidableEq κ]{kvs:List (κ×V)}{k:κ}{v:V} (h:aV kvs k=some v):(k,v)∈kvs:=by
 unfold aV at h;obtain⟨x,hx,e⟩:=Option.map_eq_some_iff.mp h;have h1:=List.find?_some hx;have h2:=List.mem_of_find?_eq_some hx;have h3:x.1=k:=of_decide_eq_true h1;rw[←h3,←e];exact h2
def QG (kvs:List (List Key×V)):Prop:=(kvs.map (·.1)).Nodup/\∀e∈kvs,∃t n i,e=(cZ t n,.int i)
theorem c0 (rows:List bQ):QG (dJ rows):=by
 induction rows using nK with
 | h0=>exact⟨List.nodup_nil,fun e h=>nomatch h⟩
 | hs l r ih =>
  rw[gG];refine⟨BH ih.1,fun e he=> ?_⟩;rcases u9 he with h|⟨h1,h2⟩
  ·exact ih.2 e h
  ·exact⟨_,_,_,Prod.ext h1 h2⟩
theorem vN (rows:List bQ)(t:Int)(n:Str):∃i,(aV (dJ rows) (cZ t n)).getD (.int 0)= .int i:=by
 cases h:aV (dJ rows) (cZ t n) with
 | none=>exact⟨0,rfl⟩
 | some v =>
  obtain⟨t',n',i,e⟩:=(c0 rows).2 _ (mT h);cases e;exact⟨i,rfl⟩
theorem lB (rows:List bQ):(dJ rows).length<=rows.length:=by
 induction rows using nK with
 | h0=>exact Nat.le_refl _
 | hs l r ih =>
  rw[gG,List.length_append];exact Nat.le_trans (fC _ _ _) (by simp;lia)
def zD (e:List Key×V):Bool:=decide (0<j4 e.2)
def rN (e:List Key×V):List Key:=e.1++[.inl (j4 e.2)]
def dI (rows:List bQ):List (List Key):=((dJ rows).filter zD).map rN
theorem mem_told {rows:List bQ}{k:List Key}:k∈dI rows↔∃t n,k=jM (t,n,gJ rows t n)/\0<gJ rows t n:=by
 unfold dI
 constructor
 ·intro h;obtain⟨e,he,rfl⟩:=List.mem_map.mp h;obtain⟨h1,h2⟩:=List.mem_filter.mp he;obtain⟨t,n,i,rfl⟩:=(c0 rows).2 e h1;have hv:=rB (c0 rows).1 h1;have ht:=vT t n rows;rw[hv]at ht;have ht':i=gJ rows t n:=ht;refine⟨t,n,?_,?_⟩
  ·rw[←ht'];rfl
  ·rw[←ht'];exact of_decide_eq_true h2
 ·rintro ⟨t,n,rfl,h⟩;have ht:=vT t n rows;cases hv:aV (dJ rows) (cZ t n) with
  | none =>
   rw[hv]at ht;have:(0:Int)=gJ rows t n:=ht
   lia
  | some v =>
   have hm:=mT hv;obtain⟨t',n',i,e⟩:=(c0 rows).2 _ hm;obtain⟨e1,e2⟩:=Prod.mk.inj e;subst e2;rw[hv]at ht;have ht':i=gJ rows t n:=ht;refine List.mem_map.mpr ⟨(cZ t n,.int i),List.mem_filter.mpr ⟨hm,?_⟩,?_⟩
   ·show decide (0<i)=true;rw[ht'];exact decide_eq_true h
   ·rw[ht'];rfl
theorem gR (rows:List bQ):(dI rows).Nodup:=by
 unfold dI;have h1:((dJ rows).filter zD).Pairwise fun a b=>a.1≠b.1:=by
  have:=(c0 rows).1;rw[List.Nodup,List.pairwise_map]at this;exact this.filter _
 rw[List.Nodup,List.pairwise_map];refine List.Pairwise.imp_of_mem ?_ h1;intro a b ha hb h z;obtain⟨t,n,i,rfl⟩:=(c0 rows).2 a (List.mem_filter.mp ha).1;obtain⟨t',n',i',rfl⟩:=(c0 rows).2 b (List.mem_filter.mp hb).1
 apply h
 have z':jM (t,n,i)=jM (t',n',i'):=z;unfold jM at z';injection z' with z1 z2;injection z2 with z2 z3;show cZ t n=cZ t' n';have y1:t=t':=Sum.inl.inj z1;have y2:n=n':=Sum.inr.inj z2;rw[y1,y2]
theorem k8 (rows:List bQ):∀r∈dI rows,r.map cX=[true,false,true]:=fun r hr=>by
 obtain⟨t,n,rfl,_⟩:=mem_told.mp hr;rfl
end L2
namespace L2
open PySem PySem.W PyProof.Rows
section
variable {prog:Program}{w:World}{A:Around}{E:Value->Shared->Prop}{s:Shared}{d:Addr}{κ:Type} [DecidableEq κ] {knd:KeyKind prog w κ}{ps:List (κ×Value)}{ep:Nat}
end
section
variable {X:Cx}
end
end L2
namespace L2
open PySem PySem.W PyProof.Rows
section
variable {X:Cx}
end
end L2
namespace L2
open PySem PySem.W PyProof.Rows
section
variable {X:Cx}{pins:List (Addr×Obj)}{σ:St}{H:Hp}{s:Shared}{h':Heap}
theorem Inv.turns {t':Nat}{ch:List Addr} (I:Inv X pins σ H s) (k:∀b o,b∉ch->s.heap.get? b=some o->h'.get? b=some o) (hf:∀b∈ch,h9 X pins H b):Inv X pins σ H { s with heap:=h',toks:=t' }:=by
 have nit:∀b u,H b=some u->b∉ch:=fun b u e z=>by have:=(hf b z).1;rw[e]at this;cases this
 refine I.step (g':=s.gens) (d':=s.drawn) (ch:=ch) (fun b hb=> ?_) (fun b o _ _ hc e _=>k b o hc e) (fun b o _ _ hc e _=>⟨o.slots,k b o hc e⟩) (fun _ _ _ _ n=>n) (fun b o hc e=>⟨o,k b o hc e⟩) (fun _ _ e=>e) (fun _ _ _ e=>e) (fun b ps e=>⟨#[],by rw[e];simp⟩) (fun m hm=> ?_) (fun b u e=> ?_) I.bare
 ·obtain⟨f0,f1,f2,f3,f4,f5⟩:=hf b hb;exact⟨f3,f1,f4,f5⟩
 ·obtain⟨o,es,ep,ho,r⟩:=hm;exact⟨o,es,ep,k _ o (fun z=>(hf _ z).2.1 rfl) ho,r⟩
 ·refine(I.hok b u e).stay (fun c v hc q=>k c v ?_ q) (fun _ q=>q) fun _ _ q=>q;rcases hc with z|z
  ·rw[z];exact nit b u e
  ·exact nit c _ z
end
theorem uE:bootBuiltins "enumerate" =some (.type "enumerate"):=by decide +kernel
section
variable {X:Cx}
end
end L2
namespace L2
open PySem PySem.W PyProof.Rows
section
variable {K:PySem.W.Frag}{H:Hp}{Q:VK}{σ:St}{nx:St->Hp->Prop}{td ty tv:TE}{rd:V->V->Hp->VK->Prop}{rt:VK}{bk ct:St->Hp->Prop}{R:It->Hp->Prop}
end
end L2
namespace L2
open PySem PySem.W PyProof.Rows
end L2
namespace L2
open PySem PySem.W PyProof.Rows PySem.Calls
section
variable {prog:Program}{w:World}{A:Around}{E:Value->Shared->Prop}{s:Shared}{d v:Addr}{o:Obj}{es:Array DictEntry}{ep:Nat}
end
section
variable {X:Cx}
end
section
variable {K:PySem.W.Frag}{H:Hp}{Q:VK}{σ:St}{td:TE}
end
end L2
namespace L2
open PySem PySem.W PyProof.Rows
section
variable {X:Cx}
end
section
variable {X:Cx}{P:Program}{w:World}{K:PySem.W.Frag}{mg:Str->Option Value}{base:Heap}{k':Nat}{o e:Expr}{es:List Expr}{m:Str}{ta:TE}{t:TA}{apos pos:Pos}
end
theorem K4 {v:V}{H:Hp}{Q:VK}{a0 a1 a2 a3 a4 a5 a6 a7 a8 a9 a10 a11 a12:Option V}{l:St} (h:Q v H):fF 13 (a0::a1::a2::a3::a4::a5::a6::a7::a8::a9::a10::a11::a12::some v::l) H Q:=⟨v,rfl,h⟩
theorem MP {v:V}{H:Hp}{q:St->Hp->Prop}{a0 a1 a2 a3 a4 a5 a6 a7 a8 a9 a10 a11 a12 a:Option V}{l:St} (h:q (a0::a1::a2::a3::a4::a5::a6::a7::a8::a9::a10::a11::a12::some v::l) H):bC 13 v (a0::a1::a2::a3::a4::a5::a6::a7::a8::a9::a10::a11::a12::a::l) H q:=h
theorem K6 {v:V}{H:Hp}{Q:VK}{a0 a1 a2 a3 a4 a5 a6 a7 a8 a9 a10 a11 a12 a13:Option V}{l:St} (h:Q v H):fF 14 (a0::a1::a2::a3::a4::a5::a6::a7::a8::a9::a10::a11::a12::a13::some v::l) H Q:=⟨v,rfl,h⟩
theorem NJ {v:V}{H:Hp}{q:St->Hp->Prop}{a0 a1 a2 a3 a4 a5 a6 a7 a8 a9 a10 a11 a12 a13 a:Option V}{l:St} (h:q (a0::a1::a2::a3::a4::a5::a6::a7::a8::a9::a10::a11::a12::a13::some v::l) H):bC 14 v (a0::a1::a2::a3::a4::a5::a6::a7::a8::a9::a10::a11::a12::a13::a::l) H q:=h
theorem N0 {v:V}{H:Hp}{Q:VK}{a0 a1 a2 a3 a4 a5 a6 a7 a8 a9 a10 a11 a12 a13 a14:Option V}{l:St} (h:Q v H):fF 15 (a0::a1::a2::a3::a4::a5::a6::a7::a8::a9::a10::a11::a12::a13::a14::some v::l) H Q:=⟨v,rfl,h⟩
theorem NN {v:V}{H:Hp}{q:St->Hp->Prop}{a0 a1 a2 a3 a4 a5 a6 a7 a8 a9 a10 a11 a12 a13 a14 a:Option V}{l:St} (h:q (a0::a1::a2::a3::a4::a5::a6::a7::a8::a9::a10::a11::a12::a13::a14::some v::l) H):bC 15 v (a0::a1::a2::a3::a4::a5::a6::a7::a8::a9::a10::a11::a12::a13::a14::a::l) H q:=h
theorem MS {v:V}{H:Hp}{Q:VK}{a0 a1 a2 a3 a4 a5 a6 a7 a8 a9 a10 a11 a12 a13 a14 a15:Option V}{l:St} (h:Q v H):fF 16 (a0::a1::a2::a3::a4::a5::a6::a7::a8::a9::a10::a11::a12::a13::a14::a15::some v::l) H Q:=⟨v,rfl,h⟩
theorem M7 {v:V}{H:Hp}{q:St->Hp->Prop}{a0 a1 a2 a3 a4 a5 a6 a7 a8 a9 a10 a11 a12 a13 a14 a15 a:Option V}{l:St} (h:q (a0::a1::a2::a3::a4::a5::a6::a7::a8::a9::a10::a11::a12::a13::a14::a15::some v::l) H):bC 16 v (a0::a1::a2::a3::a4::a5::a6::a7::a8::a9::a10::a11::a12::a13::a14::a15::a::l) H q:=h
end L2
namespace L2
open PySem PySem.W PyProof.Rows
theorem Room.units9 {k:Nat}{A:Around} (r:Room k A):A.units+9<cLine:=by have:=r.un;have:cLine=9900:=rfl;lia
def DeepEq (K:PySem.W.Frag)(H:Hp):Nat->V->V->Prop
 | 0,x,y=>x=y/\qB x=true
 | n+1,x,y=>(x=y/\qB x=true)∨(∃a b xs ys,x= .ref a/\y= .ref b/\SqL K H a xs/\SqL K H b ys/\Paired (DeepEq K H n) xs ys)∨(∃a b xs ys,x= .ref a/\y= .ref b/\H a=some (.tup xs)/\H b=some (.tup ys)/\Paired (DeepEq K H n) xs ys)
theorem sU {A:Around}{s:Shared}{x:V}{u v:Value} (h:qB x=true) (ru:RelV x u) (rv:RelV x v):SeqAt.EqAt A s u v true:=by
 have base:pZ x=true->SeqAt.EqAt A s u v true:=fun hx=>by
  have:=NR (A:=A) (s:=s) ru rv hx hx;rw[E7 hx]at this;exact this
 cases x<;>first|(cases ru;cases rv;exact SeqAt.EqAt.same _)|exact base h
theorem jJ {A:Around}{s:Shared}{F:V->V->Prop} (hF:∀x y u v,F x y->RelV x u->RelV y v->SeqAt.EqAt A s u v true):∀{xs ys:List V}{us ws:List Value},Paired F xs ys->Vals xs us->Vals ys ws->∀j (h1:j<us.length) (h2:j<ws.length),SeqAt.EqAt A s us[j] ws[j] true
 | _,_,_,_,.nil,.nil,.nil,j,h1,_=>absurd h1 (Nat.not_lt_zero _)
 | _,_,_,_,.cons h _,.cons r1 _,.cons r2 _,0,_,_=>hF _ _ _ _ h r1 r2
 | _,_,_,_,.cons _ t,.cons _ t1,.cons _ t2,j+1,h1,h2=>jJ hF t t1 t2 j (Nat.lt_of_succ_lt_succ h1) (Nat.lt_of_succ_lt_succ h2)
section
variable {X:Cx}{pins:List (Addr×Obj)}{σ:St}{H:Hp}{s:Shared}
theorem nI (I:Inv X pins σ H s):∀(n:Nat) (A:Around),A.units+n<cLine->∀x y u v,DeepEq X.K H n x y->RelV x u->RelV y v->SeqAt.EqAt A s u v true
 | 0,A,hu,x,y,u,v,h,ru,rv=>by obtain⟨rfl,h⟩:=h;exact sU h ru rv
 | n+1,A,hu,x,y,u,v,h,ru,rv=>by
  rcases h with⟨rfl,h⟩|⟨a,b,xs,ys,rfl,rfl,ha,hb,pr⟩|⟨a,b,xs,ys,rfl,rfl,ha,hb,pr⟩
  ·exact sU h ru rv
  ·cases ru;cases rv
   by_cases hab:a=b
   ·subst hab;exact SeqAt.EqAt.same _
   ·obtain⟨its,r,pl,hz⟩:=I.list ha;obtain⟨its2,r2,pl2,_⟩:=I.list hb;have hl:its.length=its2.length:=by rw[←r.length,←r2.length];exact Paired.length pr
    have:=SeqAt.EqAt.of_refs hab (SeqAt.RcAt.lists (A:=A) (e:=fun _=>true) pl.isList pl2.isList (by simpa using hl) (by lia) fun j h1 h2=>by
     have h1':j<its.length:=by simpa using h1
     have h2':j<its2.length:=by simpa using h2
     have:=jJ (A:=A.in1) (nI I n A.in1 (by show A.units+1+n<cLine;lia)) pr r r2 j h1' h2'
     simpa using this)
    rw[kZ]at this;exact this
  ·cases ru;cases rv
   by_cases hab:a=b
   ·subst hab;exact SeqAt.EqAt.same _
   ·obtain⟨_,its,r,o1,g1,c1,n1,d1⟩:=(show ObjOk X.prog X.w H s.heap a (.tup xs) from I.hok a _ ha)
    obtain⟨_,its2,r2,o2,g2,c2,n2,d2⟩:=(show ObjOk X.prog X.w H s.heap b (.tup ys) from I.hok b _ hb)
    have hl:its.length=its2.length:=by rw[←r.length,←r2.length];exact Paired.length pr
    have:=SeqAt.EqAt.of_refs hab (SeqAt.RcAt.tuples (A:=A) (e:=fun _=>true) ⟨o1,g1,c1,n1,d1⟩ ⟨o2,g2,c2,n2,d2⟩ (by lia) fun j h1 h2=>by
     have h1':j<its.length:=by simpa using h1
     have h2':j<its2.length:=by simpa using h2
     have:=jJ (A:=A.in1) (nI I n A.in1 (by show A.units+1+n<cLine;lia)) pr r r2 j h1' h2'
     simpa using this)
    simpa [kZ,hl] using this
end
section
variable {X:Cx}
def vY (K:PySem.W.Frag)(r:Bool):R2:=fun x y H Q=>∃a b xs ys,x= .ref a/\y= .ref b/\SqL K H a xs/\SqL K H b ys/\Paired (DeepEq K H 4) xs ys/\Q (.bl r) H
theorem LD (hu:X.A.units+9<cLine):OpR X (compareOp .Eq) (vY X.K true):=by
 intro pins s σ H x y v u Q I rx ry h;obtain⟨a,b,xs,ys,rfl,rfl,ha,hb,pr,q⟩:=h;cases rx;cases ry;obtain⟨its,r,pl,hz⟩:=I.list ha;obtain⟨its2,r2,pl2,_⟩:=I.list hb;have hl:its.length=its2.length:=by rw[←r.length,←r2.length];exact Paired.length pr
 refine SeqAt.eq_listAt (e:=fun _=>true) pl.isList pl2.isList (by simpa using hl) (by lia) (fun j h1 h2=> ?_) ⟨.bl true,H,I,by rw[kZ];rfl,q⟩;have:=jJ (A:=X.A.in1) (nI I 4 X.A.in1 (by show X.A.units+1+4<cLine;lia)) pr r r2 j (by simpa using h1) (by simpa using h2)
 simpa using this
theorem B0 (hu:X.A.units+9<cLine):OpR X (compareOp .NotEq) (vY X.K false):=by
 intro pins s σ H x y v u Q I rx ry h;obtain⟨a,b,xs,ys,rfl,rfl,ha,hb,pr,q⟩:=h;cases rx;cases ry;obtain⟨its,r,pl,hz⟩:=I.list ha;obtain⟨its2,r2,pl2,_⟩:=I.list hb;have hl:its.length=its2.length:=by rw[←r.length,←r2.length];exact Paired.length pr
 refine SeqAt.RcNeAt.lists (e:=fun _=>true) pl.isList pl2.isList (by simpa using hl) (by lia) (fun j h1 h2=> ?_) X.prog X.w X.xe _ ⟨.bl false,H,I,by rw[kZ];rfl,q⟩;have:=jJ (A:=X.A.in1) (nI I 4 X.A.in1 (by show X.A.units+1+4<cLine;lia)) pr r r2 j (by simpa using h1) (by simpa using h2)
 simpa using this
end
section
variable {K:PySem.W.Frag}{H H':Hp}{Q:VK}
theorem pA {a b:Addr}{xs ys:List V}{r:Bool} (ha:SqL K H a xs) (hb:SqL K H b ys) (pr:Paired (DeepEq K H 4) xs ys) (h:Q (.bl r) H):vY K r (.ref a) (.ref b) H Q:=⟨a,b,xs,ys,rfl,rfl,ha,hb,pr,h⟩
theorem DeepEq.self {n:Nat}{x:V} (h:qB x=true):DeepEq K H n x x:=by cases n with|zero=>exact⟨rfl,h⟩|succ n=>exact .inl ⟨rfl,h⟩
theorem DeepEq.lst {n:Nat}{a b:Addr}{xs ys:List V} (ha:SqL K H a xs) (hb:SqL K H b ys) (pr:Paired (DeepEq K H n) xs ys):DeepEq K H (n+1) (.ref a) (.ref b):= .inr (.inl ⟨a,b,xs,ys,rfl,rfl,ha,hb,pr⟩)
theorem DeepEq.tup {n:Nat}{a b:Addr}{xs ys:List V} (ha:H a=some (.tup xs)) (hb:H b=some (.tup ys)) (pr:Paired (DeepEq K H n) xs ys):DeepEq K H (n+1) (.ref a) (.ref b):= .inr (.inr ⟨a,b,xs,ys,rfl,rfl,ha,hb,pr⟩)
theorem lC {n:Nat}:∀{xs:List V},xs.all qB=true->Paired (DeepEq K H n) xs xs
 | [],_=> .nil
 | x::xs,h=>by
  rw[List.all_cons,Bool.and_eq_true]at h;exact .cons (DeepEq.self h.1) (lC h.2)
end
section
variable {H:Hp}{Q:VK}{σ:St}{ty tx:TE}
end
end L2
namespace L2
open PySem PySem.W PyProof.Rows
section
variable {H:Hp}{Q:VK}
end
end L2
namespace L2
open PySem PySem.Spec PyProof.Rows
section
variable {X:Cx}{args:Arguments}{body:Expr}{lsc:Scope}{pos:Pos}{y:Str}{c cL PL:Addr}
end
section
variable {K:PySem.W.Frag}{ti:TT}{te:TE}{σ:St}{ci:List Nat}{rest:St}{fin:List V->Hp->Prop}{H:Hp}{a:Addr}{α:Type}
end
end L2
namespace L2
open PySem PySem.W PyProof.Rows
section
variable {X:Cx}{pins:List (Addr×Obj)}{σ:St}{H:Hp}{s:Shared}
end
open Classical in
section
variable {X:Cx}{K:PySem.W.Frag}
open Classical in
open Classical in
open Classical in
end
end L2
namespace L2
open PySem PySem.W PyProof.Rows
section
variable {K:PySem.W.Frag}{ti:TT}{te:TE}{σ:St}{ci:List Nat}{rest:St}{fin:List V->Hp->Prop}{H:Hp}{a:Addr}
theorem LF {kvs:List (List Key×V)}{o:Obj} (c:List Key×V->Bool) (P:List Key×V->V->Hp->Prop) (hm:∀x y H1 H2,P x y H1->Same H1 H2->P x y H2) (hk:∀e∈kvs,e.1.length=2) (hn:kvs.length<=sizeLine) (hr:ci.map (fun i=>(σ[i]?).join)=rest) (h0:H a=some (.frz o (.dT kvs)))
  (ht:∀k1 k2 v H1,([k1,k2],v)∈kvs->Same H H1->∀R:Bool->Hp->Prop,(∀H2,Same H1 H2->R (c ([k1,k2],v)) H2)->ti (some (kV k1)::some (kV k2)::rest) H1 R)
  (he:∀k1 k2 v H1,([k1,k2],v)∈kvs->c ([k1,k2],v)=true->Same H H1->∀R:VK,(∀y H2,P ([k1,k2],v) y H2->Same H1 H2->R y H2)->te (some (kV k1)::some (kV k2)::rest) H1 R)
  (hf:∀ys H1,Same H H1->Paired (fun x y=>P x y H1) (kvs.filter c) ys->fin ys H1):dC (Itq a o kvs) (oX K 2 (gK (bC 0) (gK (bC 1) qP))) ti te (bD 2 ci σ) fin H:=by
 have e0:bD 2 ci σ=none::none::rest:=zX hr;rw[e0];refine g9 kvs c P hm hn (fun i H1 s hi=>⟨s _ _ h0,hi⟩) (fun H1 s=>⟨s _ _ h0,Nat.le_refl _⟩) (fun i x H1 hx s1 v H' y=> ?_) hf;obtain⟨rfl,k,u,q,e2,rfl,hq⟩:=y;rw[hx]at e2;cases e2;have hmem:=List.mem_of_getElem? hx;have hl2:=hk _ hmem;obtain⟨k1,k2,rfl⟩:∃k1 k2,k=[k1,k2]:=by
  match k,hl2 with
  | [k1,k2],_=>exact⟨k1,k2,rfl⟩
 refine⟨Same.refl _,some (kV k1)::some (kV k2)::rest,rfl,fun j v hv=> ?_,fun R h=>⟨q,[kV k1,kV k2],rfl,.inl (.inl hq),rfl,kV k1,[kV k2],rfl,kV k2,[],rfl,rfl,h⟩,fun R h=>ht _ _ _ _ hmem s1 R h,fun hc H2 s2 R h=>he _ _ _ H2 hmem hc (s1.trans s2) R h⟩
 match j,hv with
 | 0,hv=>cases hv
 | 1,hv=>cases hv
 | j+2,hv=>exact hv
end
end L2
namespace L2
open PySem PySem.W PyProof.Rows
section
variable {X:Cx}
end
end L2
namespace L2
open PySem PySem.W PyProof.Rows
section
variable {X:Cx}{ek ev:Expr}{tk tv:TE}{pos:Pos}
end
end L2
namespace L2
open PySem PySem.W PyProof.Rows
section
variable {K:Frag}{x qual:Str}{st:Stmt}{f:Addr}
end
end L2
namespace L2
open PySem PySem.W PyProof.Rows
def rnk (ρ:Keyed->Int)(a:Array Keyed)(i:Nat):Int:=ρ (a.getD i (.none,.none))
def Up (ρ:Keyed->Int)(a:Array Keyed)(lo hi:Nat):Prop:=∀i j,lo<=i->i<j->j<hi->rnk ρ a i<rnk ρ a j
structure iT (prog:Program)(w:World)(A:Around)(E:Value->Shared->Prop)(s:Shared)(κ:SortKind)(D:Keyed->Prop)(ρ:Keyed->Int):Prop where
 lt:∀{x y:Keyed}{st:SortSt}{Q:Option Bool->SortSt->Prop},D x->D y->kindOf st=κ->Q (some (decide (ρ x<ρ y))) st->wpS (model prog w) A E s (lt' x y) Q st
def xK:Bool->Keyed->Array Keyed->Nat->Nat->Nat->StateT SortSt Sem (Option Nat):=sortPriv% PySem.Builtin.gallop
section
variable {prog:Program}{w:World}{A:Around}{E:Value->Shared->Prop}{s:Shared}{κ:SortKind}{D:Keyed->Prop}{ρ:Keyed->Int}{st:SortSt}
theorem aH {a:Array Keyed}{i:Nat}{Q:Keyed->SortSt->Prop} (hi:i<a.size) (h:Q (a.getD i (.none,.none)) st):wpS (model prog w) A E s (elem' a i) Q st:=by
 rw[elem'_eq];have e:a[i]? =some (a.getD i (.none,.none)):=by simp[Array.getD,hi]
 rw[e];exact wpS_pure h
theorem aG {a:Array Keyed}{i:Nat} (hi:i<a.size):a.getD i (.none,.none)∈a.toList:=by simp[Array.getD,hi]
def bey (ρ:Keyed->Int)(left:Bool)(key:Keyed)(arr:Array Keyed)(i:Nat):Bool:=if left=true then decide (rnk ρ arr i<ρ key) else !decide (ρ key<rnk ρ arr i)
theorem M1 (C:iT prog w A E s κ D ρ)(hk:kindOf st=κ){left:Bool}{key:Keyed}{arr:Array Keyed}{i:Nat} (hD:D key) (hA:∀x∈arr.toList,D x) (hi:i<arr.size) {Q:Option Bool->SortSt->Prop} (h:Q (some (bey ρ left key arr i)) st) :
  wpS (model prog w) A E s (do let x ←elem' arr i;if left=true then lt' x key else do let r ←lt' key x;pure (Option.map (fun x=> !x) r)) Q st:=by
 refine wpS_bind (aH hi ?_);have hx:=hA _ (aG hi);unfold bey at h;cases left with
 | true =>
  rw[if_pos rfl]at h ⊢;exact C.lt hx hD hk h
 | false =>
  rw[if_neg Bool.false_ne_true]at h ⊢;exact wpS_bind (C.lt hD hx hk (wpS_pure h))
theorem EN {left:Bool}{key:Keyed}{arr:Array Keyed}{lo hi i j:Nat} (up:Up ρ arr lo hi) (h0:lo<=i) (hij:i<=j) (hj:j<hi) (h:bey ρ left key arr j=true):bey ρ left key arr i=true:=by
 rcases Nat.lt_or_ge i j with hlt|hge
 ·have:=up i j h0 hlt hj;unfold bey at h ⊢;cases left with
  | true =>
   rw[if_pos rfl]at h ⊢;have:=of_decide_eq_true h;exact decide_eq_true (by omega)
  | false =>
   rw[if_neg Bool.false_ne_true]at h ⊢;simp only[Bool.not_eq_true',decide_eq_false_iff_not]at h ⊢;omega
 ·have:i=j:=by omega
  rw[this];exact h
theorem bR (C:iT prog w A E s κ D ρ)(hk:kindOf st=κ){left:Bool}{key:Keyed}{arr:Array Keyed}{base n hint:Nat} (hD:D key) (hA:∀x∈arr.toList,D x) (hn:base+n<=arr.size) (hh:hint<n) (up:Up ρ arr base (base+n)) {Q:Option Nat->SortSt->Prop}
  (h:∀k,k<=n->(∀i,i<k->bey ρ left key arr (base+i)=true)->(∀i,k<=i->i<n->bey ρ left key arr (base+i)=false)->Q (some k) st) :
  wpS (model prog w) A E s (xK left key arr base n hint) Q st:=by
 unfold xK;have ask:∀{i:Nat}{Q:Option Bool->SortSt->Prop},i<n->Q (some (bey ρ left key arr (base+i))) st->wpS (model prog w) A E s (do let x ←elem' arr (base+i);if left=true then lt' x key else do let r ←lt' key x;pure (Option.map (fun x=> !x) r)) Q st:=fun hi hq=>M1 C hk hD hA (by omega) hq;have anti:∀{i j:Nat},i<=j->j<n->bey ρ left key arr (base+j)=true->bey ρ left key arr (base+i)=true:=fun hij hj hb=>EN up (by omega) (by omega) (by omega) hb;have antiF:∀{i j:Nat},i<=j->j<n->bey ρ left key arr (base+i)=false->bey ρ left key arr (base+j)=false:=fun {i j} hij hj hb=>by
  cases e:bey ρ left key arr (base+j) with
  | false=>rfl
  | true=>rw[anti hij hj e]at hb;cases hb
 have fin:∀lo hi:Nat,lo<=hi->hi<=n->(∀i,i<lo->bey ρ left key arr (base+i)=true)->(∀i,hi<=i->i<n->bey ρ left key arr (base+i)=false)->∀(f:Nat->Option (Option Nat)×Nat×Nat->StateT SortSt Sem (ForInStep (Option (Option Nat)×Nat×Nat))),
   (∀x l r,l<r->r<=n->∀Q':ForInStep (Option (Option Nat)×Nat×Nat)->SortSt->Prop,(bey ρ left key arr (base+(l+(r - l)/2))=true->Q' (.yield (none,l+(r - l)/2+1,r)) st)->(bey ρ left key arr (base+(l+(r - l)/2))=false->Q' (.yield (none,l,l+(r - l)/2)) st)->wpS (model prog w) A E s (f x (none,l,r)) Q' st) →
   (∀x l r,r<=l->∀Q':ForInStep (Option (Option Nat)×Nat×Nat)->SortSt->Prop,Q' (.done (none,l,r)) st->wpS (model prog w) A E s (f x (none,l,r)) Q' st) →
   wpS (model prog w) A E s (forIn [:n] (none,lo,hi) f) (fun c st'=>st'=st/\∃k,c=(none,k,k)/\k<=n/\(∀i,i<k->bey ρ left key arr (base+i)=true)/\(∀i,k<=i->i<n->bey ρ left key arr (base+i)=false)) st:=by
  intro lo hi hlh hhn hl hr f f1 f2;refine wpS_forRange (I:=fun x c st'=>st'=st/\∃l r,c=(none,l,r)/\l<=r/\r<=n/\r - l<=n - x/\(∀i,i<l->bey ρ left key arr (base+i)=true)/\(∀i,r<=i->i<n->bey ρ left key arr (base+i)=false)) ?_ ?_ ⟨rfl,lo,hi,rfl,hlh,hhn,by omega,hl,hr⟩
  ·rintro x c _ _ hx ⟨rfl,l,r,rfl,a1,a2,a3,a4,a5⟩;rcases Nat.lt_or_ge l r with hlr|hlr
   ·refine f1 x l r hlr a2 _ (fun hb=>⟨rfl,_,_,rfl,by omega,a2,by omega,fun i hi=>anti (by omega) (by omega) hb,a5⟩) fun hb=>⟨rfl,_,_,rfl,by omega,by omega,by omega,a4,fun i h1 h2=>antiF h1 h2 hb⟩
   ·have:l=r:=by omega
    subst this;exact f2 x l l hlr _ ⟨rfl,l,rfl,a2,a4,a5⟩
  ·rintro c _ ⟨rfl,l,r,rfl,a1,a2,a3,a4,a5⟩;have:l=r:=by omega
   subst this;exact⟨rfl,l,rfl,a2,a4,a5⟩
 refine wpS_bind (ask hh ?_)
 dsimp only
 cases hb:bey ρ left key arr (base+hint) with
 | true =>
  rw[if_pos rfl];refine wpS_bind (wpS_mono (wpS_forRange (I:=fun x c st'=>st'=st/\∃lo of:Nat,c=(none,lo,of)/\lo<of/\x+1<=of/\hint+lo<n/\bey ρ left key arr (base+(hint+lo))=true) (Q:=fun c st'=>st'=st/\∃lo of:Nat,c=(none,lo,of)/\lo<of/\hint+lo<n/\bey ρ left key arr (base+(hint+lo))=true/\(n - hint<=of∨(hint+of<n/\bey ρ left key arr (base+(hint+of))=false))) ?_ ?_ ⟨rfl,0,1,rfl,by omega,by omega,by omega,hb⟩) ?_)
  ·rintro x c _ _ hx ⟨rfl,lo,of,rfl,a1,a2,a3,a4⟩
   dsimp only
   by_cases hm:of≥n - hint
   ·rw[if_pos hm];exact wpS_pure ⟨rfl,lo,of,rfl,a1,a3,a4,.inl hm⟩
   ·rw[if_neg hm];refine wpS_bind (ask (i:=hint+of) (by omega) ?_)
    dsimp only
    cases hc:bey ρ left key arr (base+(hint+of)) with
    | true =>
     rw[if_neg (by decide)];exact wpS_pure ⟨rfl,of,2 * of+1,rfl,by omega,by omega,by omega,hc⟩
    | false =>
     rw[if_pos (by decide)];exact wpS_pure ⟨rfl,lo,of,rfl,a1,a3,a4,.inr ⟨by omega,hc⟩⟩
  ·rintro c _ ⟨rfl,lo,of,rfl,a1,a2,a3,a4⟩;exact⟨rfl,lo,of,rfl,a1,a3,a4,.inl (by omega)⟩
  ·rintro c _ ⟨rfl,lo,of,rfl,a1,a3,a4,a5⟩
   dsimp only
   refine wpS_bind (wpS_mono (fin (hint+lo+1) (hint+min of (n - hint)) (by omega) (by omega) (fun i hi=>anti (by omega) a3 a4) (fun i h1 h2=> ?_) _ ?_ ?_) ?_)
   ·rcases a5 with a5|⟨a5,a6⟩
    ·omega
    ·exact antiF (by omega) h2 a6
   ·intro x l r hlr hrn Q' q1 q2
    dsimp only
    rw[if_neg (by omega)];refine wpS_bind (ask (i:=l+(r - l)/2) (by omega) ?_)
    dsimp only
    cases hc:bey ρ left key arr (base+(l+(r - l)/2)) with
    | true=>rw[if_pos rfl];exact wpS_pure (q1 hc)
    | false=>rw[if_neg Bool.false_ne_true];exact wpS_pure (q2 hc)
   ·intro x l r hrl Q' q1
    dsimp only
    rw[if_pos hrl];exact wpS_pure q1
   ·rintro c _ ⟨rfl,k,rfl,b1,b2,b3⟩
    dsimp only
    exact wpS_pure (h k b1 b2 b3)
 | false =>
  rw[if_neg Bool.false_ne_true];refine wpS_bind (wpS_mono (wpS_forRange (I:=fun x c st'=>st'=st/\∃lo of:Nat,c=(none,lo,of)/\lo<of/\x+1<=of/\lo<=hint/\bey ρ left key arr (base+(hint - lo))=false) (Q:=fun c st'=>st'=st/\∃lo of:Nat,c=(none,lo,of)/\lo<of/\lo<=hint/\bey ρ left key arr (base+(hint - lo))=false/\(hint+1<=of∨(of<=hint/\bey ρ left key arr (base+(hint - of))=true))) ?_ ?_ ⟨rfl,0,1,rfl,by omega,by omega,by omega,hb⟩) ?_)
  ·rintro x c _ _ hx ⟨rfl,lo,of,rfl,a1,a2,a3,a4⟩
   dsimp only
   by_cases hm:of≥hint+1
   ·rw[if_pos hm];exact wpS_pure ⟨rfl,lo,of,rfl,a1,a3,a4,.inl hm⟩
   ·rw[if_neg hm];refine wpS_bind (ask (i:=hint - of) (by omega) ?_)
    dsimp only
    cases hc:bey ρ left key arr (base+(hint - of)) with
    | true =>
     rw[if_pos rfl];exact wpS_pure ⟨rfl,lo,of,rfl,a1,a3,a4,.inr ⟨by omega,hc⟩⟩
    | false =>
     rw[if_neg Bool.false_ne_true];exact wpS_pure ⟨rfl,of,2 * of+1,rfl,by omega,by omega,by omega,hc⟩
  ·rintro c _ ⟨rfl,lo,of,rfl,a1,a2,a3,a4⟩;exact⟨rfl,lo,of,rfl,a1,a3,a4,.inl (by omega)⟩
  ·rintro c _ ⟨rfl,lo,of,rfl,a1,a3,a4,a5⟩
   dsimp only
   refine wpS_bind (wpS_mono (fin (hint+1 - min of (hint+1)) (hint - lo) (by omega) (by omega) (fun i hi=> ?_) (fun i h1 h2=>antiF h1 h2 a4) _ ?_ ?_) ?_)
   ·rcases a5 with a5|⟨a5,a6⟩
    ·omega
    ·exact anti (by omega) (by omega) a6
   ·intro x l r hlr hrn Q' q1 q2
    dsimp only
    rw[if_neg (by omega)];refine wpS_bind (ask (i:=l+(r - l)/2) (by omega) ?_)
    dsimp only
    cases hc:bey ρ left key arr (base+(l+(r - l)/2)) with
    | true=>rw[if_pos rfl];exact wpS_pure (q1 hc)
    | false=>rw[if_neg Bool.false_ne_true];exact wpS_pure (q2 hc)
   ·intro x l r hrl Q' q1
    dsimp only
    rw[if_pos hrl];exact wpS_pure q1
   ·rintro c _ ⟨rfl,k,rfl,b1,b2,b3⟩
    dsimp only
    exact wpS_pure (h k b1 b2 b3)
end
end L2
namespace L2
open PySem PySem.W PyProof.Rows
def uF:Array Keyed->Array Keyed->StateT SortSt Sem (Array Keyed):=sortPriv% PySem.Builtin.mergeLo
def vI:Array Keyed->Array Keyed->StateT SortSt Sem (Array Keyed):=sortPriv% PySem.Builtin.mergeHi
abbrev aP (st:SortSt)(g:Nat):SortSt:=SortSt.mk' (kindOf st) (arrOf st) (pendingOf st) g (failedOf st)
def SameSt (st st':SortSt):Prop:=kindOf st'=kindOf st/\arrOf st'=arrOf st/\pendingOf st'=pendingOf st/\failedOf st'=failedOf st
theorem SameSt.refl (st:SortSt):SameSt st st:=⟨rfl,rfl,rfl,rfl⟩
section
variable {ρ:Keyed->Int}
abbrev bE (ρ:Keyed->Int)(l:List Keyed):Prop:=l.Pairwise fun x y=>ρ x<ρ y
structure Mi (ρ:Keyed->Int)(all o ra rb:List Keyed):Prop where
 so:bE ρ o
 oa:∀x∈o,∀y∈ra,ρ x<ρ y
 ob:∀x∈o,∀y∈rb,ρ x<ρ y
 sa:bE ρ ra
 sb:bE ρ rb
 pm:(o++ra++rb).Perm all
variable {all o p ra rb:List Keyed}
theorem Mi.goA (h:Mi ρ all o (p++ra) rb)(hp:∀x∈p,∀y∈rb,ρ x<ρ y):Mi ρ all (o++p) ra rb:=by
 obtain⟨so,oa,ob,sa,sb,pm⟩:=h;have sa':=List.pairwise_append.mp sa;refine⟨List.pairwise_append.mpr ⟨so,sa'.1,fun x hx y hy=>oa x hx y (List.mem_append_left _ hy)⟩,fun x hx y hy=> ?_,fun x hx y hy=> ?_,sa'.2.1,sb,?_⟩
 ·rcases List.mem_append.mp hx with hx|hx
  ·exact oa x hx y (List.mem_append_right _ hy)
  ·exact sa'.2.2 x hx y hy
 ·rcases List.mem_append.mp hx with hx|hx
  ·exact ob x hx y hy
  ·exact hp x hx y hy
 ·rw[List.append_assoc o p ra];exact pm
theorem Mi.swap (h:Mi ρ all o ra rb):Mi ρ all o rb ra:=⟨h.so,h.ob,h.oa,h.sb,h.sa,by
 refine List.Perm.trans ?_ h.pm;rw[List.append_assoc,List.append_assoc];exact List.Perm.append_left o List.perm_append_comm⟩
theorem Mi.goB (h:Mi ρ all o ra (p++rb))(hp:∀x∈p,∀y∈ra,ρ x<ρ y):Mi ρ all (o++p) ra rb:=(h.swap.goA hp).swap
theorem Mi.end (h:Mi ρ all o ra rb)(hab:∀x∈ra,∀y∈rb,ρ x<ρ y):bE ρ (o++ra++rb)/\(o++ra++rb).Perm all:=by
 refine⟨List.pairwise_append.mpr ⟨List.pairwise_append.mpr ⟨h.so,h.sa,h.oa⟩,h.sb,fun x hx y hy=> ?_⟩,h.pm⟩;rcases List.mem_append.mp hx with hx|hx
 ·exact h.ob x hx y hy
 ·exact hab x hx y hy
theorem Mi.len (h:Mi ρ all o ra rb):o.length+ra.length+rb.length=all.length:=by
 have:=h.pm.length_eq;rw[List.length_append,List.length_append]at this;exact this
theorem cM {a:Array Keyed}{i:Nat} (hi:i<a.size):a.toList.drop i=a.getD i (.none,.none)::a.toList.drop (i+1):=by
 have h:i<a.toList.length:=by simpa using hi
 rw[List.drop_eq_getElem_cons h]
 congr 1
 simp[Array.getD,hi]
theorem uS {a:Array Keyed}{i:Nat} (hi:a.size<=i):a.toList.drop i=[]:=List.drop_eq_nil_of_le (by simpa using hi)
theorem b9 {a:Array Keyed}{i:Nat}{x:Keyed} (h:x∈a.toList.drop i):∃j,i<=j/\j<a.size/\ρ x=rnk ρ a j:=by
 obtain⟨k,hk,e⟩:=List.getElem_of_mem h;rw[List.length_drop]at hk;rw[List.getElem_drop]at e;refine⟨i+k,by omega,by rw[Array.length_toList]at hk;omega,?_⟩;unfold rnk;have hl:i+k<a.size:=by rw[Array.length_toList]at hk;omega
 rw[←e]
 congr 1
 simp[Array.getD,hl]
theorem nT {a:Array Keyed}(h:Up ρ a 0 a.size):bE ρ a.toList:=by
 rw[bE,List.pairwise_iff_getElem];intro i j hi hj hij;rw[Array.length_toList]at hi hj;have:=h i j (Nat.zero_le _) hij hj;unfold rnk at this
 simpa [Array.getD,hi,hj] using this
theorem hJ {a:Array Keyed}{i k:Nat}:a.toList.drop i=(a.extract i (i+k)).toList++a.toList.drop (i+k):=by
 rw[Array.toList_extract,List.extract_eq_drop_take,Nat.add_sub_cancel_left,←List.drop_drop,List.take_append_drop]
end
end L2
namespace L2
open PySem PySem.W PyProof.Rows
theorem hU {a:Array Keyed}{i:Nat}:(a.extract i).toList=a.toList.drop i:=by
 rw[Array.toList_extract,List.extract_eq_drop_take,List.take_of_length_le];rw[List.length_drop,Array.length_toList];exact Nat.le_refl _
section
variable {prog:Program}{w:World}{A:Around}{E:Value->Shared->Prop}{s:Shared}{κ:SortKind}{D:Keyed->Prop}{ρ:Keyed->Int}{st:SortSt}
theorem eZ {a:Array Keyed}{i n:Nat} (h:Up ρ a 0 a.size) (hn:i+n<=a.size):Up ρ a i (i+n):=fun x y _ h2 h3=>h x y (Nat.zero_le _) h2 (by omega)
theorem hZ {a:Array Keyed}{i k:Nat}{x:Keyed} (h:x∈(a.extract i (i+k)).toList):∃u,(i<=u/\u<i+k/\u<a.size)/\ρ x=rnk ρ a u:=by
 rw[Array.toList_extract,List.extract_eq_drop_take,Nat.add_sub_cancel_left]at h;obtain⟨v,hv,e⟩:=List.getElem_of_mem h;rw[List.length_take,List.length_drop,Array.length_toList]at hv;rw[List.getElem_take,List.getElem_drop]at e;have hl:i+v<a.size:=by omega
 refine⟨i+v,⟨by omega,by omega,hl⟩,?_⟩;unfold rnk;rw[←e]
 congr 1
 simp[Array.getD,hl]
theorem fP {a:Array Keyed}{i:Nat}{y:Keyed}{z:Int} (up:Up ρ a 0 a.size) (hy:y∈a.toList.drop i) (hz:z<ρ (a.getD i (.none,.none))):z<ρ y:=by
 obtain⟨u,h1,h2,e⟩:=b9 (ρ:=ρ) hy;rw[e];have hz:z<rnk ρ a i:=hz;rcases Nat.lt_or_ge i u with h|h
 ·have:=up i u (Nat.zero_le _) h h2;omega
 ·have:i=u:=by omega
  rw[←this];exact hz
theorem OW (C:iT prog w A E s κ D ρ)(hk:kindOf st=κ){a b:Array Keyed}{Q:Array Keyed->SortSt->Prop} (dA:∀x∈a.toList,D x) (dB:∀x∈b.toList,D x) (upA:Up ρ a 0 a.size) (upB:Up ρ b 0 b.size) (a0:0<a.size) (b0:0<b.size) (ne:∀x∈a.toList,∀y∈b.toList,ρ x≠ρ y)
  (fst:rnk ρ b 0<rnk ρ a 0)(lst:rnk ρ b (b.size - 1)<rnk ρ a (a.size - 1))(hQ:∀m st',SameSt st st'->bE ρ m.toList->m.toList.Perm (a.toList++b.toList)->Q m st') :
  wpS (model prog w) A E s (uF a b) Q st:=by
 have bl:∀y∈b.toList,ρ y<rnk ρ a (a.size - 1):=fun y hy=>by
  obtain⟨u,_,h2,e⟩:=b9 (ρ:=ρ) (i:=0) (show y∈b.toList.drop 0 from hy);rw[e];rcases Nat.lt_or_ge u (b.size - 1) with h|h
  ·have:=upB u (b.size - 1) (Nat.zero_le _) h (by omega);omega
  ·have:u=b.size - 1:=by omega
   rw[this];exact lst
 have doneR:∀{o:Array Keyed}{i j:Nat},Mi ρ (a.toList++b.toList) o.toList (a.toList.drop i) (b.toList.drop j)->j=b.size->bE ρ (o++a.extract i++b.extract j).toList/\(o++a.extract i++b.extract j).toList.Perm (a.toList++b.toList):=fun hm hj=>by
  rw[Array.toList_append,Array.toList_append,hU,hU];refine hm.end fun x _ y hy=> ?_;rw[uS (by omega)]at hy;exact nomatch hy
 have doneR2:∀{o:Array Keyed}{i j:Nat},Mi ρ (a.toList++b.toList) o.toList (a.toList.drop i) (b.toList.drop j)->i=a.size->bE ρ (o++a.extract i++b.extract j).toList/\(o++a.extract i++b.extract j).toList.Perm (a.toList++b.toList):=fun hm hj=>by
  rw[Array.toList_append,Array.toList_append,hU,hU];refine hm.end fun x hx y _=> ?_;rw[uS (by omega)]at hx;exact nomatch hx
 have lastR:∀{o:Array Keyed}{i j:Nat},Mi ρ (a.toList++b.toList) o.toList (a.toList.drop i) (b.toList.drop j)->i+1=a.size->bE ρ (o++b.extract j++a.extract i).toList/\(o++b.extract j++a.extract i).toList.Perm (a.toList++b.toList):=fun {o i j} hm hi=>by
  rw[Array.toList_append,Array.toList_append,hU,hU];refine hm.swap.end fun x hx y hy=> ?_;obtain⟨u,h1,h2,e⟩:=b9 (ρ:=ρ) hy;have:u=a.size - 1:=by omega
  rw[e,this];exact bl x (List.mem_of_mem_drop hx)
 unfold uF;refine wpS_bind (wpS_lift (wpAny_rule ⟨rfl,?_⟩))
 try dsimp only
 refine wpS_bind (aH b0 ?_)
 try dsimp only
 have m0:Mi ρ (a.toList++b.toList) (#[b.getD 0 (.none,.none)]:Array Keyed).toList (a.toList.drop 0) (b.toList.drop 1):=by
  have hb:b.toList=b.getD 0 (.none,.none)::b.toList.drop 1:=cM b0;have rb:=nT upB;rw[hb]at rb;have rb':=List.pairwise_cons.mp rb;refine⟨List.pairwise_singleton _ _,fun x hx y hy=> ?_,fun x hx y hy=> ?_,nT upA,rb'.2,?_⟩
  ·cases List.mem_singleton.mp hx;exact fP upA hy fst
  ·cases List.mem_singleton.mp hx;exact rb'.1 y hy
  ·conv=>rhs;rw[hb]
   show (b.getD 0 (.none,.none)::(a.toList++b.toList.drop 1)).Perm _;exact List.perm_middle.symm
 by_cases h1:1=b.size
 ·rw[if_pos (by simpa using h1)];exact wpS_pure (let r:=doneR m0 h1;hQ _ _ (SameSt.refl _) r.1 r.2)
 rw[if_neg (by simpa using h1)]
 by_cases h2:0+1=a.size
 ·rw[if_pos (by simpa using h2)];exact wpS_pure (let r:=lastR m0 h2;hQ _ _ (SameSt.refl _) r.1 r.2)
 rw[if_neg (by simpa using h2)];refine wpS_bind (wpS_get ?_)
 try dsimp only
 have leq:∀{o:Array Keyed}{i j:Nat},Mi ρ (a.toList++b.toList) o.toList (a.toList.drop i) (b.toList.drop j)->i<a.size->j<b.size->o.size+2<=a.size+b.size:=fun hm hi hj=>by
  have:=hm.len;rw[Array.length_toList,List.length_drop,List.length_drop,List.length_append,Array.length_toList,Array.length_toList]at this;omega
 refine wpS_bind (wpS_mono (wpS_forRange (I:=fun x c st'=>SameSt st st'/\∃(o:Array Keyed) (i j g:Nat),c=(none,o,i,j,g)/\x+1<=o.size/\i+1<a.size/\j<b.size/\Mi ρ (a.toList++b.toList) o.toList (a.toList.drop i) (b.toList.drop j))
  (Q:=fun c st'=>SameSt st st'/\∃(r:Array Keyed) (rest:Array Keyed×Nat×Nat×Nat),c=(some r,rest)/\bE ρ r.toList/\r.toList.Perm (a.toList++b.toList)) ?_ ?_ ⟨SameSt.refl _,_,_,_,_,rfl,Nat.le_refl _,by omega,by omega,m0⟩) ?_)
 ·rintro x c st' _ hx ⟨hs,o,i,j,g,rfl,hx1,hi,hj,hm⟩
  try dsimp only
  have hk':kindOf st'=κ:=hs.1.trans hk;refine wpS_bind (wpS_mono (wpS_forRange (I:=fun y c st''=>st''=st'/\∃(oo:Array Keyed) (ii jj ac bc:Nat),c=(none,oo,ii,jj,ac,bc)/\o.size+y<=oo.size/\ii+1<a.size/\jj<b.size/\Mi ρ (a.toList++b.toList) oo.toList (a.toList.drop ii) (b.toList.drop jj))
   (Q:=fun c st''=>st''=st'/\((∃(r:Array Keyed) (rest:Array Keyed×Nat×Nat×Nat×Nat),c=(some r,rest)/\bE ρ r.toList/\r.toList.Perm (a.toList++b.toList))∨∃(oo:Array Keyed) (ii jj ac bc:Nat),c=(none,oo,ii,jj,ac,bc)/\o.size+1<=oo.size/\ii+1<a.size/\jj<b.size/\Mi ρ (a.toList++b.toList) oo.toList (a.toList.drop ii) (b.toList.drop jj))) ?_ ?_ ⟨rfl,o,i,j,0,0,rfl,Nat.le_refl _,hi,hj,hm⟩) ?_)
  ·rintro y c _ _ hy ⟨rfl,oo,ii,jj,ac,bc,rfl,hy1,hi,hj,hM⟩
   try dsimp only
   refine wpS_bind (aH hj (wpS_bind (aH (by omega) (wpS_bind (C.lt (dB _ (aG hj)) (dA _ (aG (by omega))) hk' ?_)))))
   try dsimp only
   by_cases hc:ρ (b.getD jj (.none,.none))<ρ (a.getD ii (.none,.none))
   ·rw[decide_eq_true hc,if_pos rfl];refine wpS_bind (aH hj ?_)
    try dsimp only
    have mB:=(show Mi ρ (a.toList++b.toList) oo.toList (a.toList.drop ii) ([b.getD jj (.none,.none)]++b.toList.drop (jj+1)) by rw[cM hj]at hM;exact hM).goB (fun x hx y hy=>by cases List.mem_singleton.mp hx;exact fP upA hy hc);rw[←Array.toList_push]at mB
    by_cases he:jj+1=b.size
    ·rw[if_pos (by simpa using he)];exact wpS_pure ⟨rfl,.inl ⟨_,_,rfl,doneR mB he⟩⟩
    ·rw[if_neg (by simpa using he)]
     by_cases hg:bc+1≥g
     ·rw[if_pos hg];exact wpS_pure ⟨rfl,.inr ⟨_,_,_,_,_,rfl,by rw[Array.size_push];omega,hi,by omega,mB⟩⟩
     ·rw[if_neg hg];exact wpS_pure ⟨rfl,_,_,_,_,_,rfl,by rw[Array.size_push];omega,hi,by omega,mB⟩
   ·rw[decide_eq_false hc,if_neg Bool.false_ne_true];refine wpS_bind (aH (i:=ii) (by omega) ?_)
    try dsimp only
    have hlt:ρ (a.getD ii (.none,.none))<ρ (b.getD jj (.none,.none)):=by
     have:=ne _ (aG (a:=a) (i:=ii) (by omega)) _ (aG (a:=b) (i:=jj) hj);omega
    have mA:=(show Mi ρ (a.toList++b.toList) oo.toList ([a.getD ii (.none,.none)]++a.toList.drop (ii+1)) (b.toList.drop jj) by rw[cM (i:=ii) (by omega)]at hM;exact hM).goA (fun x hx y hy=>by cases List.mem_singleton.mp hx;exact fP upB hy hlt);rw[←Array.toList_push]at mA
    by_cases he:ii+1+1=a.size
    ·rw[if_pos (by simpa using he)];exact wpS_pure ⟨rfl,.inl ⟨_,_,rfl,lastR mA he⟩⟩
    ·rw[if_neg (by simpa using he)]
     by_cases hg:ac+1≥g
     ·rw[if_pos hg];exact wpS_pure ⟨rfl,.inr ⟨_,_,_,_,_,rfl,by rw[Array.size_push];omega,by omega,hj,mA⟩⟩
     ·rw[if_neg hg];exact wpS_pure ⟨rfl,_,_,_,_,_,rfl,by rw[Array.size_push];omega,by omega,hj,mA⟩
  ·rintro c _ ⟨rfl,oo,ii,jj,ac,bc,rfl,hy1,hi,hj,hM⟩;have:=leq hM (by omega) hj;omega
  ·rintro c _ ⟨rfl,⟨r,rest,rfl,hr⟩|⟨oo,ii,jj,ac,bc,rfl,ho,hi,hj,hM⟩⟩
   ·try dsimp only
    exact wpS_pure ⟨hs,_,_,rfl,hr⟩
   try dsimp only
   refine wpS_bind (wpS_lift (wpAny_rule ⟨rfl,?_⟩));refine wpS_bind (wpS_mono (wpS_forRange (I:=fun y c st''=>SameSt st st''/\∃(oo:Array Keyed) (ii jj gg ac bc:Nat),c=(none,oo,ii,jj,gg,ac,bc)/\x+2<=oo.size/\y<=oo.size/\ii+1<a.size/\jj<b.size/\Mi ρ (a.toList++b.toList) oo.toList (a.toList.drop ii) (b.toList.drop jj))
    (Q:=fun c st''=>SameSt st st''/\((∃(r:Array Keyed) (rest:Array Keyed×Nat×Nat×Nat×Nat×Nat),c=(some r,rest)/\bE ρ r.toList/\r.toList.Perm (a.toList++b.toList))∨∃(oo:Array Keyed) (ii jj gg ac bc:Nat),c=(none,oo,ii,jj,gg,ac,bc)/\x+2<=oo.size/\ii+1<a.size/\jj<b.size/\Mi ρ (a.toList++b.toList) oo.toList (a.toList.drop ii) (b.toList.drop jj))) ?_ ?_ ⟨hs,oo,ii,jj,_,_,_,rfl,by omega,by omega,hi,hj,hM⟩) ?_)
   ·clear hM hi hj ho oo ii jj ac bc;rintro y c st'' _ hy ⟨hs1,oo,ii,jj,gg,ac,bc,rfl,hx2,hy2,hi,hj,hM⟩
    try dsimp only
    by_cases hgg:gg>1
    ·rw[if_pos hgg]
     try dsimp only
     refine wpS_bind (wpS_modify ?_);have hs2:SameSt st (aP st'' (gg - 1)):=hs1;refine wpS_bind (aH hj ?_);refine wpS_bind (bR (st:=aP st'' (gg - 1)) (hint:=0) C (show kindOf (aP st'' (gg - 1))=κ from hs1.1.trans hk) (dB _ (aG hj)) dA (n:=a.size - ii) (by omega) (by omega) (eZ upA (by omega)) fun k1 hk1 r1 r2=> ?_)
     try dsimp only
     have p1:∀x∈(a.extract ii (ii+k1)).toList,∀y∈b.toList.drop jj,ρ x<ρ y:=fun x hx y hy=>by
      obtain⟨u,hu,e⟩:=hZ (ρ:=ρ) hx;have:=r1 (u - ii) (by omega);rw[show ii+(u - ii)=u by omega]at this;have h1:¬ρ (b.getD jj (.none,.none))<rnk ρ a u:=of_decide_eq_false (by unfold bey at this;rw[if_neg Bool.false_ne_true]at this;simpa using this);have h2:=ne _ (aG (a:=a) (i:=u) hu.2.2) _ (aG (a:=b) (i:=jj) hj);refine fP upB hy ?_;rw[e];have h2:rnk ρ a u≠ρ (b.getD jj (.none,.none)):=h2;omega
     have p2':∀y∈a.toList.drop (ii+k1),ρ (b.getD jj (.none,.none))<ρ y:=fun y hy=>by
      obtain⟨u,hu1,hu2,e⟩:=b9 (ρ:=ρ) hy;have:=r2 (u - ii) (by omega) (by omega);rw[show ii+(u - ii)=u by omega]at this;rw[e];unfold bey at this;rw[if_neg Bool.false_ne_true]at this
      simpa using this
     by_cases hk1':k1>0
     ·rw[if_pos hk1'];have mA:Mi ρ (a.toList++b.toList) (oo++a.extract ii (ii+k1)).toList (a.toList.drop (ii+k1)) (b.toList.drop jj):=by
       rw[Array.toList_append (xs:=oo)];exact(show Mi ρ (a.toList++b.toList) oo.toList ((a.extract ii (ii+k1)).toList++a.toList.drop (ii+k1)) (b.toList.drop jj) by rw[←hJ];exact hM).goA p1
      by_cases hl:ii+k1+1=a.size
      ·rw[if_pos (by simpa using hl)];exact wpS_pure ⟨hs2,.inl ⟨_,_,rfl,lastR mA hl⟩⟩
      rw[if_neg (by simpa using hl)]
      by_cases hl2:ii+k1=a.size
      ·rw[if_pos (by simpa using hl2)];exact wpS_pure ⟨hs2,.inl ⟨_,_,rfl,doneR2 mA hl2⟩⟩
      rw[if_neg (by simpa using hl2)];have hM:=mA;have p2:=p2';refine wpS_bind (aH hj ?_)
      try dsimp only
      have mB:=(show Mi ρ (a.toList++b.toList) (oo++a.extract ii (ii+k1)).toList (a.toList.drop (ii+k1)) ([b.getD jj (.none,.none)]++b.toList.drop (jj+1)) by rw[cM hj]at hM;exact hM).goB (fun x hx y hy=>by cases List.mem_singleton.mp hx;exact p2 y hy);rw[←Array.toList_push]at mB
      by_cases he:jj+1=b.size
      ·rw[if_pos (by simpa using he)];exact wpS_pure ⟨hs2,.inl ⟨_,_,rfl,doneR mB he⟩⟩
      ·rw[if_neg (by simpa using he)];have hj2:jj+1<b.size:=by omega
       refine wpS_bind (aH (i:=ii+k1) (by omega) ?_);refine wpS_bind (bR (st:=aP st'' (gg - 1)) (hint:=0) C (show kindOf (aP st'' (gg - 1))=κ from hs1.1.trans hk) (dA _ (aG (by omega))) dB (n:=b.size - (jj+1)) (by omega) (by omega) (eZ upB (by omega)) fun k2 hk2 r1 r2=> ?_)
       try dsimp only
       have q1:∀x∈(b.extract (jj+1) (jj+1+k2)).toList,∀y∈a.toList.drop (ii+k1),ρ x<ρ y:=fun x hx y hy=>by
        obtain⟨u,hu,e⟩:=hZ (ρ:=ρ) hx;rw[e];have:=r1 (u - (jj+1)) (by omega);rw[show jj+1+(u - (jj+1))=u by omega]at this;exact fP upA hy (of_decide_eq_true this)
       have q2:∀y∈b.toList.drop (jj+1+k2),ρ (a.getD (ii+k1) (.none,.none))<ρ y:=fun y hy=>by
        have hym:y∈b.toList:=List.mem_of_mem_drop hy;obtain⟨u,hu1,hu2,e⟩:=b9 (ρ:=ρ) hy;have:=r2 (u - (jj+1)) (by omega) (by omega);rw[show jj+1+(u - (jj+1))=u by omega]at this;have h1:=of_decide_eq_false this;have h2:=ne _ (aG (a:=a) (i:=ii+k1) (by omega)) y hym;rw[e]at h2 ⊢;omega
       by_cases hk0:k2>0
       ·rw[if_pos hk0];have mC:Mi ρ (a.toList++b.toList) ((oo++a.extract ii (ii+k1)).push (b.getD jj (.none,.none))++b.extract (jj+1) (jj+1+k2)).toList (a.toList.drop (ii+k1)) (b.toList.drop (jj+1+k2)):=by
         rw[Array.toList_append (xs:=(oo++a.extract ii (ii+k1)).push (b.getD jj (.none,.none)))];exact(show Mi ρ (a.toList++b.toList) ((oo++a.extract ii (ii+k1)).push (b.getD jj (.none,.none))).toList (a.toList.drop (ii+k1)) ((b.extract (jj+1) (jj+1+k2)).toList++b.toList.drop (jj+1+k2)) by rw[←hJ];exact mB).goB q1
        by_cases hz:jj+1+k2=b.size
        ·rw[if_pos (by simpa using hz)];exact wpS_pure ⟨hs2,.inl ⟨_,_,rfl,doneR mC hz⟩⟩
        ·rw[if_neg (by simpa using hz)];have hj3:jj+1+k2<b.size:=by omega
         refine wpS_bind (aH (i:=ii+k1) (by omega) ?_)
         try dsimp only
         have mD:=(show Mi ρ (a.toList++b.toList) (((oo++a.extract ii (ii+k1)).push (b.getD jj (.none,.none))++b.extract (jj+1) (jj+1+k2))).toList ([a.getD (ii+k1) (.none,.none)]++a.toList.drop (ii+k1+1)) (b.toList.drop (jj+1+k2)) by rw[cM (i:=ii+k1) (by omega)]at mC;exact mC).goA (fun x hx y hy=>by cases List.mem_singleton.mp hx;exact q2 y hy);rw[←Array.toList_push]at mD
         by_cases hl:ii+k1+1+1=a.size
         ·rw[if_pos (by simpa using hl)];exact wpS_pure ⟨hs2,.inl ⟨_,_,rfl,lastR mD hl⟩⟩
         ·rw[if_neg (by simpa using hl)];have sz:oo.size+1<=((((oo++a.extract ii (ii+k1)).push (b.getD jj (.none,.none))++b.extract (jj+1) (jj+1+k2))).push (a.getD (ii+k1) (.none,.none))).size:=by simp only[Array.size_push,Array.size_append];omega
          have ip:ii+k1+1+1<a.size/\(jj+1+k2)<b.size/\Mi ρ (a.toList++b.toList) ((((oo++a.extract ii (ii+k1)).push (b.getD jj (.none,.none))++b.extract (jj+1) (jj+1+k2))).push (a.getD (ii+k1) (.none,.none))).toList (a.toList.drop (ii+k1+1)) (b.toList.drop (jj+1+k2)):=⟨by omega,hj3,mD⟩
          by_cases hg:(decide (k1<7)&&decide (k2<7))=true
          ·rw[if_pos hg];exact wpS_pure ⟨hs2,.inr ⟨_,_,_,_,_,_,rfl,by omega,ip⟩⟩
          ·rw[if_neg hg];exact wpS_pure ⟨hs2,_,_,_,_,_,_,rfl,by omega,by omega,ip⟩
       ·rw[if_neg hk0];have hk00:k2=0:=by omega
        subst hk00;refine wpS_bind (aH (i:=ii+k1) (by omega) ?_)
        try dsimp only
        have mD:=(show Mi ρ (a.toList++b.toList) (((oo++a.extract ii (ii+k1)).push (b.getD jj (.none,.none)))).toList ([a.getD (ii+k1) (.none,.none)]++a.toList.drop (ii+k1+1)) (b.toList.drop (jj+1)) by rw[cM (i:=ii+k1) (by omega)]at mB;exact mB).goA (fun x hx y hy=>by cases List.mem_singleton.mp hx;exact q2 y hy);rw[←Array.toList_push]at mD
        by_cases hl:ii+k1+1+1=a.size
        ·rw[if_pos (by simpa using hl)];exact wpS_pure ⟨hs2,.inl ⟨_,_,rfl,lastR mD hl⟩⟩
        ·rw[if_neg (by simpa using hl)];have sz:oo.size+1<=((((oo++a.extract ii (ii+k1)).push (b.getD jj (.none,.none)))).push (a.getD (ii+k1) (.none,.none))).size:=by simp only[Array.size_push,Array.size_append];omega
         have ip:ii+k1+1+1<a.size/\(jj+1)<b.size/\Mi ρ (a.toList++b.toList) ((((oo++a.extract ii (ii+k1)).push (b.getD jj (.none,.none)))).push (a.getD (ii+k1) (.none,.none))).toList (a.toList.drop (ii+k1+1)) (b.toList.drop (jj+1)):=⟨by omega,hj2,mD⟩
         by_cases hg:(decide (k1<7)&&decide (0<7))=true
         ·rw[if_pos hg];exact wpS_pure ⟨hs2,.inr ⟨_,_,_,_,_,_,rfl,by omega,ip⟩⟩
         ·rw[if_neg hg];exact wpS_pure ⟨hs2,_,_,_,_,_,_,rfl,by omega,by omega,ip⟩
     ·rw[if_neg hk1'];have hk10:k1=0:=by omega
      subst hk10;have p2:=p2';refine wpS_bind (aH hj ?_)
      try dsimp only
      have mB:=(show Mi ρ (a.toList++b.toList) (oo).toList (a.toList.drop (ii)) ([b.getD jj (.none,.none)]++b.toList.drop (jj+1)) by rw[cM hj]at hM;exact hM).goB (fun x hx y hy=>by cases List.mem_singleton.mp hx;exact p2 y hy);rw[←Array.toList_push]at mB
      by_cases he:jj+1=b.size
      ·rw[if_pos (by simpa using he)];exact wpS_pure ⟨hs2,.inl ⟨_,_,rfl,doneR mB he⟩⟩
      ·rw[if_neg (by simpa using he)];have hj2:jj+1<b.size:=by omega
       refine wpS_bind (aH (i:=ii) (by omega) ?_);refine wpS_bind (bR (st:=aP st'' (gg - 1)) (hint:=0) C (show kindOf (aP st'' (gg - 1))=κ from hs1.1.trans hk) (dA _ (aG (by omega))) dB (n:=b.size - (jj+1)) (by omega) (by omega) (eZ upB (by omega)) fun k2 hk2 r1 r2=> ?_)
       try dsimp only
       have q1:∀x∈(b.extract (jj+1) (jj+1+k2)).toList,∀y∈a.toList.drop (ii),ρ x<ρ y:=fun x hx y hy=>by
        obtain⟨u,hu,e⟩:=hZ (ρ:=ρ) hx;rw[e];have:=r1 (u - (jj+1)) (by omega);rw[show jj+1+(u - (jj+1))=u by omega]at this;exact fP upA hy (of_decide_eq_true this)
       have q2:∀y∈b.toList.drop (jj+1+k2),ρ (a.getD (ii) (.none,.none))<ρ y:=fun y hy=>by
        have hym:y∈b.toList:=List.mem_of_mem_drop hy;obtain⟨u,hu1,hu2,e⟩:=b9 (ρ:=ρ) hy;have:=r2 (u - (jj+1)) (by omega) (by omega);rw[show jj+1+(u - (jj+1))=u by omega]at this;have h1:=of_decide_eq_false this;have h2:=ne _ (aG (a:=a) (i:=ii) (by omega)) y hym;rw[e]at h2 ⊢;omega
       by_cases hk0:k2>0
       ·rw[if_pos hk0];have mC:Mi ρ (a.toList++b.toList) ((oo).push (b.getD jj (.none,.none))++b.extract (jj+1) (jj+1+k2)).toList (a.toList.drop (ii)) (b.toList.drop (jj+1+k2)):=by
         rw[Array.toList_append (xs:=(oo).push (b.getD jj (.none,.none)))];exact(show Mi ρ (a.toList++b.toList) ((oo).push (b.getD jj (.none,.none))).toList (a.toList.drop (ii)) ((b.extract (jj+1) (jj+1+k2)).toList++b.toList.drop (jj+1+k2)) by rw[←hJ];exact mB).goB q1
        by_cases hz:jj+1+k2=b.size
        ·rw[if_pos (by simpa using hz)];exact wpS_pure ⟨hs2,.inl ⟨_,_,rfl,doneR mC hz⟩⟩
        ·rw[if_neg (by simpa using hz)];have hj3:jj+1+k2<b.size:=by omega
         refine wpS_bind (aH (i:=ii) (by omega) ?_)
         try dsimp only
         have mD:=(show Mi ρ (a.toList++b.toList) (((oo).push (b.getD jj (.none,.none))++b.extract (jj+1) (jj+1+k2))).toList ([a.getD (ii) (.none,.none)]++a.toList.drop (ii+1)) (b.toList.drop (jj+1+k2)) by rw[cM (i:=ii) (by omega)]at mC;exact mC).goA (fun x hx y hy=>by cases List.mem_singleton.mp hx;exact q2 y hy);rw[←Array.toList_push]at mD
         by_cases hl:ii+1+1=a.size
         ·rw[if_pos (by simpa using hl)];exact wpS_pure ⟨hs2,.inl ⟨_,_,rfl,lastR mD hl⟩⟩
         ·rw[if_neg (by simpa using hl)];have sz:oo.size+1<=((((oo).push (b.getD jj (.none,.none))++b.extract (jj+1) (jj+1+k2))).push (a.getD (ii) (.none,.none))).size:=by simp only[Array.size_push,Array.size_append];omega
          have ip:ii+1+1<a.size/\(jj+1+k2)<b.size/\Mi ρ (a.toList++b.toList) ((((oo).push (b.getD jj (.none,.none))++b.extract (jj+1) (jj+1+k2))).push (a.getD (ii) (.none,.none))).toList (a.toList.drop (ii+1)) (b.toList.drop (jj+1+k2)):=⟨by omega,hj3,mD⟩
          by_cases hg:(decide (0<7)&&decide (k2<7))=true
          ·rw[if_pos hg];exact wpS_pure ⟨hs2,.inr ⟨_,_,_,_,_,_,rfl,by omega,ip⟩⟩
          ·rw[if_neg hg];exact wpS_pure ⟨hs2,_,_,_,_,_,_,rfl,by omega,by omega,ip⟩
       ·rw[if_neg hk0];have hk00:k2=0:=by omega
        subst hk00;refine wpS_bind (aH (i:=ii) (by omega) ?_)
        try dsimp only
        have mD:=(show Mi ρ (a.toList++b.toList) (((oo).push (b.getD jj (.none,.none)))).toList ([a.getD (ii) (.none,.none)]++a.toList.drop (ii+1)) (b.toList.drop (jj+1)) by rw[cM (i:=ii) (by omega)]at mB;exact mB).goA (fun x hx y hy=>by cases List.mem_singleton.mp hx;exact q2 y hy);rw[←Array.toList_push]at mD
        by_cases hl:ii+1+1=a.size
        ·rw[if_pos (by simpa using hl)];exact wpS_pure ⟨hs2,.inl ⟨_,_,rfl,lastR mD hl⟩⟩
        ·rw[if_neg (by simpa using hl)];have sz:oo.size+1<=((((oo).push (b.getD jj (.none,.none)))).push (a.getD (ii) (.none,.none))).size:=by simp only[Array.size_push,Array.size_append];omega
         have ip:ii+1+1<a.size/\(jj+1)<b.size/\Mi ρ (a.toList++b.toList) ((((oo).push (b.getD jj (.none,.none)))).push (a.getD (ii) (.none,.none))).toList (a.toList.drop (ii+1)) (b.toList.drop (jj+1)):=⟨by omega,hj2,mD⟩
         by_cases hg:(decide (0<7)&&decide (0<7))=true
         ·rw[if_pos hg];exact wpS_pure ⟨hs2,.inr ⟨_,_,_,_,_,_,rfl,by omega,ip⟩⟩
         ·rw[if_neg hg];exact wpS_pure ⟨hs2,_,_,_,_,_,_,rfl,by omega,by omega,ip⟩
    ·rw[if_neg hgg]
     try dsimp only
     refine wpS_bind (wpS_modify ?_);have hs2:SameSt st (aP st'' (gg)):=hs1;refine wpS_bind (aH hj ?_);refine wpS_bind (bR (st:=aP st'' (gg)) (hint:=0) C (show kindOf (aP st'' (gg))=κ from hs1.1.trans hk) (dB _ (aG hj)) dA (n:=a.size - ii) (by omega) (by omega) (eZ upA (by omega)) fun k1 hk1 r1 r2=> ?_)
     try dsimp only
     have p1:∀x∈(a.extract ii (ii+k1)).toList,∀y∈b.toList.drop jj,ρ x<ρ y:=fun x hx y hy=>by
      obtain⟨u,hu,e⟩:=hZ (ρ:=ρ) hx;have:=r1 (u - ii) (by omega);rw[show ii+(u - ii)=u by omega]at this;have h1:¬ρ (b.getD jj (.none,.none))<rnk ρ a u:=of_decide_eq_false (by unfold bey at this;rw[if_neg Bool.false_ne_true]at this;simpa using this);have h2:=ne _ (aG (a:=a) (i:=u) hu.2.2) _ (aG (a:=b) (i:=jj) hj);refine fP upB hy ?_;rw[e];have h2:rnk ρ a u≠ρ (b.getD jj (.none,.none)):=h2;omega
     have p2':∀y∈a.toList.drop (ii+k1),ρ (b.getD jj (.none,.none))<ρ y:=fun y hy=>by
      obtain⟨u,hu1,hu2,e⟩:=b9 (ρ:=ρ) hy;have:=r2 (u - ii) (by omega) (by omega);rw[show ii+(u - ii)=u by omega]at this;rw[e];unfold bey at this;rw[if_neg Bool.false_ne_true]at this
      simpa using this
     by_cases hk1':k1>0
     ·rw[if_pos hk1'];have mA:Mi ρ (a.toList++b.toList) (oo++a.extract ii (ii+k1)).toList (a.toList.drop (ii+k1)) (b.toList.drop jj):=by
       rw[Array.toList_append (xs:=oo)];exact(show Mi ρ (a.toList++b.toList) oo.toList ((a.extract ii (ii+k1)).toList++a.toList.drop (ii+k1)) (b.toList.drop jj) by rw[←hJ];exact hM).goA p1
      by_cases hl:ii+k1+1=a.size
      ·rw[if_pos (by simpa using hl)];exact wpS_pure ⟨hs2,.inl ⟨_,_,rfl,lastR mA hl⟩⟩
      rw[if_neg (by simpa using hl)]
      by_cases hl2:ii+k1=a.size
      ·rw[if_pos (by simpa using hl2)];exact wpS_pure ⟨hs2,.inl ⟨_,_,rfl,doneR2 mA hl2⟩⟩
      rw[if_neg (by simpa using hl2)];have hM:=mA;have p2:=p2';refine wpS_bind (aH hj ?_)
      try dsimp only
      have mB:=(show Mi ρ (a.toList++b.toList) (oo++a.extract ii (ii+k1)).toList (a.toList.drop (ii+k1)) ([b.getD jj (.none,.none)]++b.toList.drop (jj+1)) by rw[cM hj]at hM;exact hM).goB (fun x hx y hy=>by cases List.mem_singleton.mp hx;exact p2 y hy);rw[←Array.toList_push]at mB
      by_cases he:jj+1=b.size
      ·rw[if_pos (by simpa using he)];exact wpS_pure ⟨hs2,.inl ⟨_,_,rfl,doneR mB he⟩⟩
      ·rw[if_neg (by simpa using he)];have hj2:jj+1<b.size:=by omega
       refine wpS_bind (aH (i:=ii+k1) (by omega) ?_);refine wpS_bind (bR (st:=aP st'' (gg)) (hint:=0) C (show kindOf (aP st'' (gg))=κ from hs1.1.trans hk) (dA _ (aG (by omega))) dB (n:=b.size - (jj+1)) (by omega) (by omega) (eZ upB (by omega)) fun k2 hk2 r1 r2=> ?_)
       try dsimp only
       have q1:∀x∈(b.extract (jj+1) (jj+1+k2)).toList,∀y∈a.toList.drop (ii+k1),ρ x<ρ y:=fun x hx y hy=>by
        obtain⟨u,hu,e⟩:=hZ (ρ:=ρ) hx;rw[e];have:=r1 (u - (jj+1)) (by omega);rw[show jj+1+(u - (jj+1))=u by omega]at this;exact fP upA hy (of_decide_eq_true this)
       have q2:∀y∈b.toList.drop (jj+1+k2),ρ (a.getD (ii+k1) (.none,.none))<ρ y:=fun y hy=>by
        have hym:y∈b.toList:=List.mem_of_mem_drop hy;obtain⟨u,hu1,hu2,e⟩:=b9 (ρ:=ρ) hy;have:=r2 (u - (jj+1)) (by omega) (by omega);rw[show jj+1+(u - (jj+1))=u by omega]at this;have h1:=of_decide_eq_false this;have h2:=ne _ (aG (a:=a) (i:=ii+k1) (by omega)) y hym;rw[e]at h2 ⊢;omega
       by_cases hk0:k2>0
       ·rw[if_pos hk0];have mC:Mi ρ (a.toList++b.toList) ((oo++a.extract ii (ii+k1)).push (b.getD jj (.none,.none))++b.extract (jj+1) (jj+1+k2)).toList (a.toList.drop (ii+k1)) (b.toList.drop (jj+1+k2)):=by
         rw[Array.toList_append (xs:=(oo++a.extract ii (ii+k1)).push (b.getD jj (.none,.none)))];exact(show Mi ρ (a.toList++b.toList) ((oo++a.extract ii (ii+k1)).push (b.getD jj (.none,.none))).toList (a.toList.drop (ii+k1)) ((b.extract (jj+1) (jj+1+k2)).toList++b.toList.drop (jj+1+k2)) by rw[←hJ];exact mB).goB q1
        by_cases hz:jj+1+k2=b.size
        ·rw[if_pos (by simpa using hz)];exact wpS_pure ⟨hs2,.inl ⟨_,_,rfl,doneR mC hz⟩⟩
        ·rw[if_neg (by simpa using hz)];have hj3:jj+1+k2<b.size:=by omega
         refine wpS_bind (aH (i:=ii+k1) (by omega) ?_)
         try dsimp only
         have mD:=(show Mi ρ (a.toList++b.toList) (((oo++a.extract ii (ii+k1)).push (b.getD jj (.none,.none))++b.extract (jj+1) (jj+1+k2))).toList ([a.getD (ii+k1) (.none,.none)]++a.toList.drop (ii+k1+1)) (b.toList.drop (jj+1+k2)) by rw[cM (i:=ii+k1) (by omega)]at mC;exact mC).goA (fun x hx y hy=>by cases List.mem_singleton.mp hx;exact q2 y hy);rw[←Array.toList_push]at mD
         by_cases hl:ii+k1+1+1=a.size
         ·rw[if_pos (by simpa using hl)];exact wpS_pure ⟨hs2,.inl ⟨_,_,rfl,lastR mD hl⟩⟩
         ·rw[if_neg (by simpa using hl)];have sz:oo.size+1<=((((oo++a.extract ii (ii+k1)).push (b.getD jj (.none,.none))++b.extract (jj+1) (jj+1+k2))).push (a.getD (ii+k1) (.none,.none))).size:=by simp only[Array.size_push,Array.size_append];omega
          have ip:ii+k1+1+1<a.size/\(jj+1+k2)<b.size/\Mi ρ (a.toList++b.toList) ((((oo++a.extract ii (ii+k1)).push (b.getD jj (.none,.none))++b.extract (jj+1) (jj+1+k2))).push (a.getD (ii+k1) (.none,.none))).toList (a.toList.drop (ii+k1+1)) (b.toList.drop (jj+1+k2)):=⟨by omega,hj3,mD⟩
          by_cases hg:(decide (k1<7)&&decide (k2<7))=true
          ·rw[if_pos hg];exact wpS_pure ⟨hs2,.inr ⟨_,_,_,_,_,_,rfl,by omega,ip⟩⟩
          ·rw[if_neg hg];exact wpS_pure ⟨hs2,_,_,_,_,_,_,rfl,by omega,by omega,ip⟩
       ·rw[if_neg hk0];have hk00:k2=0:=by omega
        subst hk00;refine wpS_bind (aH (i:=ii+k1) (by omega) ?_)
        try dsimp only
        have mD:=(show Mi ρ (a.toList++b.toList) (((oo++a.extract ii (ii+k1)).push (b.getD jj (.none,.none)))).toList ([a.getD (ii+k1) (.none,.none)]++a.toList.drop (ii+k1+1)) (b.toList.drop (jj+1)) by rw[cM (i:=ii+k1) (by omega)]at mB;exact mB).goA (fun x hx y hy=>by cases List.mem_singleton.mp hx;exact q2 y hy);rw[←Array.toList_push]at mD
        by_cases hl:ii+k1+1+1=a.size
        ·rw[if_pos (by simpa using hl)];exact wpS_pure ⟨hs2,.inl ⟨_,_,rfl,lastR mD hl⟩⟩
        ·rw[if_neg (by simpa using hl)];have sz:oo.size+1<=((((oo++a.extract ii (ii+k1)).push (b.getD jj (.none,.none)))).push (a.getD (ii+k1) (.none,.none))).size:=by simp only[Array.size_push,Array.size_append];omega
         have ip:ii+k1+1+1<a.size/\(jj+1)<b.size/\Mi ρ (a.toList++b.toList) ((((oo++a.extract ii (ii+k1)).push (b.getD jj (.none,.none)))).push (a.getD (ii+k1) (.none,.none))).toList (a.toList.drop (ii+k1+1)) (b.toList.drop (jj+1)):=⟨by omega,hj2,mD⟩
         by_cases hg:(decide (k1<7)&&decide (0<7))=true
         ·rw[if_pos hg];exact wpS_pure ⟨hs2,.inr ⟨_,_,_,_,_,_,rfl,by omega,ip⟩⟩
         ·rw[if_neg hg];exact wpS_pure ⟨hs2,_,_,_,_,_,_,rfl,by omega,by omega,ip⟩
     ·rw[if_neg hk1'];have hk10:k1=0:=by omega
      subst hk10;have p2:=p2';refine wpS_bind (aH hj ?_)
      try dsimp only
      have mB:=(show Mi ρ (a.toList++b.toList) (oo).toList (a.toList.drop (ii)) ([b.getD jj (.none,.none)]++b.toList.drop (jj+1)) by rw[cM hj]at hM;exact hM).goB (fun x hx y hy=>by cases List.mem_singleton.mp hx;exact p2 y hy);rw[←Array.toList_push]at mB
      by_cases he:jj+1=b.size
      ·rw[if_pos (by simpa using he)];exact wpS_pure ⟨hs2,.inl ⟨_,_,rfl,doneR mB he⟩⟩
      ·rw[if_neg (by simpa using he)];have hj2:jj+1<b.size:=by omega
       refine wpS_bind (aH (i:=ii) (by omega) ?_);refine wpS_bind (bR (st:=aP st'' (gg)) (hint:=0) C (show kindOf (aP st'' (gg))=κ from hs1.1.trans hk) (dA _ (aG (by omega))) dB (n:=b.size - (jj+1)) (by omega) (by omega) (eZ upB (by omega)) fun k2 hk2 r1 r2=> ?_)
       try dsimp only
       have q1:∀x∈(b.extract (jj+1) (jj+1+k2)).toList,∀y∈a.toList.drop (ii),ρ x<ρ y:=fun x hx y hy=>by
        obtain⟨u,hu,e⟩:=hZ (ρ:=ρ) hx;rw[e];have:=r1 (u - (jj+1)) (by omega);rw[show jj+1+(u - (jj+1))=u by omega]at this;exact fP upA hy (of_decide_eq_true this)
       have q2:∀y∈b.toList.drop (jj+1+k2),ρ (a.getD (ii) (.none,.none))<ρ y:=fun y hy=>by
        have hym:y∈b.toList:=List.mem_of_mem_drop hy;obtain⟨u,hu1,hu2,e⟩:=b9 (ρ:=ρ) hy;have:=r2 (u - (jj+1)) (by omega) (by omega);rw[show jj+1+(u - (jj+1))=u by omega]at this;have h1:=of_decide_eq_false this;have h2:=ne _ (aG (a:=a) (i:=ii) (by omega)) y hym;rw[e]at h2 ⊢;omega
       by_cases hk0:k2>0
       ·rw[if_pos hk0];have mC:Mi ρ (a.toList++b.toList) ((oo).push (b.getD jj (.none,.none))++b.extract (jj+1) (jj+1+k2)).toList (a.toList.drop (ii)) (b.toList.drop (jj+1+k2)):=by
         rw[Array.toList_append (xs:=(oo).push (b.getD jj (.none,.none)))];exact(show Mi ρ (a.toList++b.toList) ((oo).push (b.getD jj (.none,.none))).toList (a.toList.drop (ii)) ((b.extract (jj+1) (jj+1+k2)).toList++b.toList.drop (jj+1+k2)) by rw[←hJ];exact mB).goB q1
        by_cases hz:jj+1+k2=b.size
        ·rw[if_pos (by simpa using hz)];exact wpS_pure ⟨hs2,.inl ⟨_,_,rfl,doneR mC hz⟩⟩
        ·rw[if_neg (by simpa using hz)];have hj3:jj+1+k2<b.size:=by omega
         refine wpS_bind (aH (i:=ii) (by omega) ?_)
         try dsimp only
         have mD:=(show Mi ρ (a.toList++b.toList) (((oo).push (b.getD jj (.none,.none))++b.extract (jj+1) (jj+1+k2))).toList ([a.getD (ii) (.none,.none)]++a.toList.drop (ii+1)) (b.toList.drop (jj+1+k2)) by rw[cM (i:=ii) (by omega)]at mC;exact mC).goA (fun x hx y hy=>by cases List.mem_singleton.mp hx;exact q2 y hy);rw[←Array.toList_push]at mD
         by_cases hl:ii+1+1=a.size
         ·rw[if_pos (by simpa using hl)];exact wpS_pure ⟨hs2,.inl ⟨_,_,rfl,lastR mD hl⟩⟩
         ·rw[if_neg (by simpa using hl)];have sz:oo.size+1<=((((oo).push (b.getD jj (.none,.none))++b.extract (jj+1) (jj+1+k2))).push (a.getD (ii) (.none,.none))).size:=by simp only[Array.size_push,Array.size_append];omega
          have ip:ii+1+1<a.size/\(jj+1+k2)<b.size/\Mi ρ (a.toList++b.toList) ((((oo).push (b.getD jj (.none,.none))++b.extract (jj+1) (jj+1+k2))).push (a.getD (ii) (.none,.none))).toList (a.toList.drop (ii+1)) (b.toList.drop (jj+1+k2)):=⟨by omega,hj3,mD⟩
          by_cases hg:(decide (0<7)&&decide (k2<7))=true
          ·rw[if_pos hg];exact wpS_pure ⟨hs2,.inr ⟨_,_,_,_,_,_,rfl,by omega,ip⟩⟩
          ·rw[if_neg hg];exact wpS_pure ⟨hs2,_,_,_,_,_,_,rfl,by omega,by omega,ip⟩
       ·rw[if_neg hk0];have hk00:k2=0:=by omega
        subst hk00;refine wpS_bind (aH (i:=ii) (by omega) ?_)
        try dsimp only
        have mD:=(show Mi ρ (a.toList++b.toList) (((oo).push (b.getD jj (.none,.none)))).toList ([a.getD (ii) (.none,.none)]++a.toList.drop (ii+1)) (b.toList.drop (jj+1)) by rw[cM (i:=ii) (by omega)]at mB;exact mB).goA (fun x hx y hy=>by cases List.mem_singleton.mp hx;exact q2 y hy);rw[←Array.toList_push]at mD
        by_cases hl:ii+1+1=a.size
        ·rw[if_pos (by simpa using hl)];exact wpS_pure ⟨hs2,.inl ⟨_,_,rfl,lastR mD hl⟩⟩
        ·rw[if_neg (by simpa using hl)];have sz:oo.size+1<=((((oo).push (b.getD jj (.none,.none)))).push (a.getD (ii) (.none,.none))).size:=by simp only[Array.size_push,Array.size_append];omega
         have ip:ii+1+1<a.size/\(jj+1)<b.size/\Mi ρ (a.toList++b.toList) ((((oo).push (b.getD jj (.none,.none)))).push (a.getD (ii) (.none,.none))).toList (a.toList.drop (ii+1)) (b.toList.drop (jj+1)):=⟨by omega,hj2,mD⟩
         by_cases hg:(decide (0<7)&&decide (0<7))=true
         ·rw[if_pos hg];exact wpS_pure ⟨hs2,.inr ⟨_,_,_,_,_,_,rfl,by omega,ip⟩⟩
         ·rw[if_neg hg];exact wpS_pure ⟨hs2,_,_,_,_,_,_,rfl,by omega,by omega,ip⟩
   ·rintro c st'' ⟨hs1,oo,ii,jj,gg,ac,bc,rfl,hx2,hy2,hi,hj,hM⟩;have:=leq hM (by omega) hj;omega
   ·rintro c st'' ⟨hs1,⟨r,rest,rfl,hr⟩|⟨oo,ii,jj,gg,ac,bc,rfl,ho,hi,hj,hM⟩⟩
    ·try dsimp only
     exact wpS_pure ⟨hs1,_,_,rfl,hr⟩
    ·try dsimp only
     refine wpS_bind (wpS_modify (wpS_pure ⟨hs1,_,_,_,_,rfl,ho,hi,hj,hM⟩))
 ·rintro c st' ⟨hs,o,i,j,g,rfl,hx1,hi,hj,hm⟩;have:=leq hm (by omega) hj;omega
 ·rintro c st' ⟨hs,r,rest,rfl,hr⟩
  try dsimp only
  exact wpS_pure (hQ _ _ hs hr.1 hr.2)
end
end L2
namespace L2
open PySem PySem.W PyProof.Rows
section
variable {prog:Program}{w:World}{A:Around}{E:Value->Shared->Prop}{s:Shared}{κ:SortKind}{D:Keyed->Prop}{ρ:Keyed->Int}{st:SortSt}
theorem bU {a:Array Keyed}{n:Nat} (h0:0<n) (hn:n<=a.size):(a.toList.take n).reverse=a.getD (n - 1) (.none,.none)::(a.toList.take (n - 1)).reverse:=by
 obtain⟨k,rfl⟩:∃k,n=k+1:=⟨n - 1,by omega⟩
 have h:k<a.toList.length:=by rw[Array.length_toList];omega
 rw[List.take_succ,List.getElem?_eq_getElem h,Nat.add_sub_cancel];show (a.toList.take k++[_]).reverse=_;rw[List.reverse_append];show _::_=_::_
 congr 1
 have hl:k<a.size:=by omega
 simp[Array.getD,hl]
theorem hV {a:Array Keyed}{k n:Nat} (h:k<=n) (hn:n<=a.size):(a.toList.take n).reverse=(a.extract k n).toList.reverse++(a.toList.take k).reverse:=by
 rw[←List.reverse_append,Array.toList_extract,List.extract_eq_drop_take]
 congr 1
 have e:n=k+(n - k):=by omega
 conv=>lhs;rw[e]
 rw[List.take_add]
theorem bS {a:Array Keyed}{n:Nat}{x:Keyed} (h:x∈(a.toList.take n).reverse):∃u,u<n/\u<a.size/\ρ x=rnk ρ a u:=by
 obtain⟨v,hv,e⟩:=List.getElem_of_mem (List.mem_reverse.mp h);rw[List.length_take,Array.length_toList]at hv;rw[List.getElem_take]at e;have hl:v<a.size:=by omega
 refine⟨v,by omega,hl,?_⟩;unfold rnk;rw[←e]
 congr 1
 simp[Array.getD,hl]
theorem hG {a:Array Keyed}{k n:Nat}{x:Keyed} (h:x∈(a.extract k n).toList):∃u,(k<=u/\u<n/\u<a.size)/\ρ x=rnk ρ a u:=by
 rcases Nat.le_total k n with hkn|hkn
 ·rw[show n=k+(n - k) by omega]at h;obtain⟨u,hu,e⟩:=hZ (ρ:=ρ) h;exact⟨u,⟨hu.1,by omega,hu.2.2⟩,e⟩
 ·rw[Array.toList_extract,List.extract_eq_drop_take,show n - k=0 by omega]at h;exact nomatch h
theorem fO {a:Array Keyed}{n:Nat}{y:Keyed}{z:Int} (up:Up ρ a 0 a.size) (h0:0<n) (hn:n<=a.size) (hy:y∈(a.toList.take n).reverse) (hz:ρ (a.getD (n - 1) (.none,.none))<z):ρ y<z:=by
 obtain⟨u,h1,h2,e⟩:=bS (ρ:=ρ) hy;rw[e];have hz:rnk ρ a (n - 1)<z:=hz;rcases Nat.lt_or_ge u (n - 1) with h|h
 ·have:=up u (n - 1) (Nat.zero_le _) h (by omega);omega
 ·have:u=n - 1:=by omega
  rw[this];exact hz
theorem uZ {l:List Keyed}(h:bE (fun x=> - ρ x) l):bE ρ l.reverse:=by
 rw[bE,List.pairwise_reverse];exact List.Pairwise.imp (fun {x y} (hxy: - ρ x< - ρ y)=>by omega) h
theorem OS (C:iT prog w A E s κ D ρ)(hk:kindOf st=κ){a b:Array Keyed}{Q:Array Keyed->SortSt->Prop} (dA:∀x∈a.toList,D x) (dB:∀x∈b.toList,D x) (upA:Up ρ a 0 a.size) (upB:Up ρ b 0 b.size) (a0:0<a.size) (b0:0<b.size) (ne:∀x∈a.toList,∀y∈b.toList,ρ x≠ρ y)
  (fst:rnk ρ b 0<rnk ρ a 0)(lst:rnk ρ b (b.size - 1)<rnk ρ a (a.size - 1))(hQ:∀m st',SameSt st st'->bE ρ m.toList->m.toList.Perm (a.toList++b.toList)->Q m st') :
  wpS (model prog w) A E s (vI a b) Q st:=by
 have doneR:∀{o:Array Keyed}{n m:Nat},Mi (fun x=> - ρ x) (a.toList++b.toList) o.toList (a.toList.take (n)).reverse (b.toList.take (m)).reverse->n=0∨m=0->bE ρ (a.extract 0 n++b.extract 0 m++o.reverse).toList/\(a.extract 0 n++b.extract 0 m++o.reverse).toList.Perm (a.toList++b.toList):=fun {o n m} hm hz=>by
  have e:(a.extract 0 n++b.extract 0 m++o.reverse).toList=(o.toList++(b.toList.take (m)).reverse++(a.toList.take (n)).reverse).reverse:=by
   simp only[Array.toList_append,Array.toList_extract,List.extract_eq_drop_take,List.drop_zero,Nat.sub_zero,Array.toList_reverse,List.reverse_append,List.reverse_reverse,List.append_assoc]
  have h:=hm.swap.end fun x hx y hy=>by
   rcases hz with rfl|rfl
   ·exact nomatch hy
   ·exact nomatch hx
  rw[e];exact⟨uZ h.1,(List.reverse_perm _).trans h.2⟩
 have firstR:∀{o:Array Keyed}{n m:Nat},Mi (fun x=> - ρ x) (a.toList++b.toList) o.toList (a.toList.take (n)).reverse (b.toList.take (m)).reverse->m=1->bE ρ (b.extract 0 m++a.extract 0 n++o.reverse).toList/\(b.extract 0 m++a.extract 0 n++o.reverse).toList.Perm (a.toList++b.toList):=fun {o n m} hm hz=>by
  have e:(b.extract 0 m++a.extract 0 n++o.reverse).toList=(o.toList++(a.toList.take (n)).reverse++(b.toList.take (m)).reverse).reverse:=by
   simp only[Array.toList_append,Array.toList_extract,List.extract_eq_drop_take,List.drop_zero,Nat.sub_zero,Array.toList_reverse,List.reverse_append,List.reverse_reverse,List.append_assoc]
  have h:=hm.end fun x hx y hy=>by
   obtain⟨u,h1,h2,e1⟩:=bS (ρ:=ρ) hx;obtain⟨v,g1,g2,e2⟩:=bS (ρ:=ρ) hy;have hv:v=0:=by omega
   subst hv;show - ρ x< - ρ y;rw[e1,e2];rcases Nat.eq_zero_or_pos u with hu|hu
   ·subst hu;omega
   ·have:=upA 0 u (Nat.le_refl _) hu h2;omega
  rw[e];exact⟨uZ h.1,(List.reverse_perm _).trans h.2⟩
 unfold vI;refine wpS_bind (wpS_lift (wpAny_rule ⟨rfl,?_⟩))
 try dsimp only
 refine wpS_bind (aH (i:=a.size - 1) (by omega) ?_)
 try dsimp only
 have m0:Mi (fun x=> - ρ x) (a.toList++b.toList) (#[a.getD (a.size - 1) (.none,.none)]:Array Keyed).toList (a.toList.take (a.size - 1)).reverse (b.toList.take (b.size)).reverse:=by
  have ha:(a.toList.take a.size).reverse=a.getD (a.size - 1) (.none,.none)::(a.toList.take (a.size - 1)).reverse:=bU a0 (Nat.le_refl _);refine⟨List.pairwise_singleton _ _,fun x hx y hy=> ?_,fun x hx y hy=> ?_,?_,?_,?_⟩
  ·cases List.mem_singleton.mp hx;obtain⟨u,h1,h2,e⟩:=bS (ρ:=ρ) hy;have:=upA u (a.size - 1) (Nat.zero_le _) (by omega) (by omega);show - rnk ρ a (a.size - 1)< - ρ y;rw[e];omega
  ·cases List.mem_singleton.mp hx;have:=fO (z:=rnk ρ a (a.size - 1)) upB b0 (Nat.le_refl _) hy lst;show - rnk ρ a (a.size - 1)< - ρ y;omega
  ·rw[bE,List.pairwise_reverse];exact List.Pairwise.imp (fun {x y} (hxy:ρ x<ρ y)=>by show - ρ y< - ρ x;omega) ((nT upA).take)
  ·rw[bE,List.pairwise_reverse];exact List.Pairwise.imp (fun {x y} (hxy:ρ x<ρ y)=>by show - ρ y< - ρ x;omega) ((nT upB).take)
  ·show (([a.getD (a.size - 1) (.none,.none)]++(a.toList.take (a.size - 1)).reverse)++(b.toList.take b.size).reverse).Perm _;have e1:[a.getD (a.size - 1) (.none,.none)]++(a.toList.take (a.size - 1)).reverse=(a.toList.take a.size).reverse:=ha.symm;have t1:a.toList.take a.size=a.toList:=List.take_of_length_le (by rw[Array.length_toList];exact Nat.le_refl _);have t2:b.toList.take b.size=b.toList:=List.take_of_length_le (by rw[Array.length_toList];exact Nat.le_refl _);rw[e1,t1,t2];exact List.Perm.append (List.reverse_perm _) (List.reverse_perm _)
 by_cases h1:a.size - 1=0
 ·rw[if_pos (by simpa using h1)];exact wpS_pure (let r:=doneR m0 (.inl h1);hQ _ _ (SameSt.refl _) r.1 r.2)
 rw[if_neg (by simpa using h1)]
 by_cases h2:b.size=1
 ·rw[if_pos (by simpa using h2)];exact wpS_pure (let r:=firstR m0 h2;hQ _ _ (SameSt.refl _) r.1 r.2)
 rw[if_neg (by simpa using h2)];refine wpS_bind (wpS_get ?_)
 try dsimp only
 have leq:∀{o:Array Keyed}{n m:Nat},Mi (fun x=> - ρ x) (a.toList++b.toList) o.toList (a.toList.take (n)).reverse (b.toList.take (m)).reverse->0<n->n<=a.size->0<m->m<=b.size->o.size+2<=a.size+b.size:=fun hm h1 h2 h3 h4=>by
  have:=hm.len;rw[Array.length_toList,List.length_reverse,List.length_reverse,List.length_take,List.length_take,List.length_append,Array.length_toList,Array.length_toList]at this;omega
 refine wpS_bind (wpS_mono (wpS_forRange (I:=fun x c st'=>SameSt st st'/\∃(n m:Nat) (o:Array Keyed) (g:Nat),c=(none,n,m,o,g)/\x+1<=o.size/\0<n/\n<=a.size/\1<m/\m<=b.size/\Mi (fun x=> - ρ x) (a.toList++b.toList) o.toList (a.toList.take (n)).reverse (b.toList.take (m)).reverse)
  (Q:=fun c st'=>SameSt st st'/\∃(r:Array Keyed) (rest:Nat×Nat×Array Keyed×Nat),c=(some r,rest)/\bE ρ r.toList/\r.toList.Perm (a.toList++b.toList)) ?_ ?_ ⟨SameSt.refl _,_,_,_,_,rfl,Nat.le_refl _,by omega,by omega,by omega,by omega,m0⟩) ?_)
 ·rintro x c st' _ hx ⟨hs,n,m,o,g,rfl,hx1,hna,hnA,hnb1,hnb,hm⟩
  try dsimp only
  have hk':kindOf st'=κ:=hs.1.trans hk;refine wpS_bind (wpS_mono (wpS_forRange (I:=fun y c st''=>st''=st'/\∃(na nb:Nat) (oo:Array Keyed) (ac bc:Nat),c=(none,na,nb,oo,ac,bc)/\o.size+y<=oo.size/\0<na/\na<=a.size/\1<nb/\nb<=b.size/\Mi (fun x=> - ρ x) (a.toList++b.toList) oo.toList (a.toList.take (na)).reverse (b.toList.take (nb)).reverse)
   (Q:=fun c st''=>st''=st'/\((∃(r:Array Keyed) (rest:Nat×Nat×Array Keyed×Nat×Nat),c=(some r,rest)/\bE ρ r.toList/\r.toList.Perm (a.toList++b.toList))∨∃(na nb:Nat) (oo:Array Keyed) (ac bc:Nat),c=(none,na,nb,oo,ac,bc)/\o.size+1<=oo.size/\0<na/\na<=a.size/\1<nb/\nb<=b.size/\Mi (fun x=> - ρ x) (a.toList++b.toList) oo.toList (a.toList.take (na)).reverse (b.toList.take (nb)).reverse)) ?_ ?_ ⟨rfl,n,m,o,0,0,rfl,Nat.le_refl _,hna,hnA,hnb1,hnb,hm⟩) ?_)
  ·rintro y c _ _ hy ⟨rfl,na,nb,oo,ac,bc,rfl,hy1,hna,hnA,hnb1,hnb,hM⟩
   try dsimp only
   refine wpS_bind (aH (i:=nb - 1) (by omega) (wpS_bind (aH (i:=na - 1) (by omega) (wpS_bind (C.lt (dB _ (aG (by omega))) (dA _ (aG (by omega))) hk' ?_)))))
   try dsimp only
   by_cases hc:ρ (b.getD (nb - 1) (.none,.none))<ρ (a.getD (na - 1) (.none,.none))
   ·rw[decide_eq_true hc,if_pos rfl];refine wpS_bind (aH (i:=na - 1) (by omega) ?_)
    try dsimp only
    have mA:=(show Mi (fun x=> - ρ x) (a.toList++b.toList) oo.toList ([a.getD (na - 1) (.none,.none)]++(a.toList.take (na - 1)).reverse) (b.toList.take (nb)).reverse by rw[bU hna hnA]at hM;exact hM).goA (fun x hx y hy=>by cases List.mem_singleton.mp hx;have:=fO upB (by omega) hnb hy hc;show - _< - _;omega);rw[←Array.toList_push]at mA
    by_cases he:na - 1=0
    ·rw[if_pos (by simpa using he)];exact wpS_pure ⟨rfl,.inl ⟨_,_,rfl,doneR mA (.inl he)⟩⟩
    ·rw[if_neg (by simpa using he)]
     by_cases hg:ac+1≥g
     ·rw[if_pos hg];exact wpS_pure ⟨rfl,.inr ⟨_,_,_,_,_,rfl,by rw[Array.size_push];omega,by omega,by omega,hnb1,hnb,mA⟩⟩
     ·rw[if_neg hg];exact wpS_pure ⟨rfl,_,_,_,_,_,rfl,by rw[Array.size_push];omega,by omega,by omega,hnb1,hnb,mA⟩
   ·rw[decide_eq_false hc,if_neg Bool.false_ne_true];refine wpS_bind (aH (i:=nb - 1) (by omega) ?_)
    try dsimp only
    have hlt:ρ (a.getD (na - 1) (.none,.none))<ρ (b.getD (nb - 1) (.none,.none)):=by
     have:=ne _ (aG (a:=a) (i:=na - 1) (by omega)) _ (aG (a:=b) (i:=nb - 1) (by omega));omega
    have mB:=(show Mi (fun x=> - ρ x) (a.toList++b.toList) oo.toList (a.toList.take (na)).reverse ([b.getD (nb - 1) (.none,.none)]++(b.toList.take (nb - 1)).reverse) by rw[bU (a:=b) (by omega) hnb]at hM;exact hM).goB (fun x hx y hy=>by cases List.mem_singleton.mp hx;have:=fO upA hna hnA hy hlt;show - _< - _;omega);rw[←Array.toList_push]at mB
    by_cases he:nb - 1=1
    ·rw[if_pos (by simpa using he)];exact wpS_pure ⟨rfl,.inl ⟨_,_,rfl,firstR mB he⟩⟩
    ·rw[if_neg (by simpa using he)]
     by_cases hg:bc+1≥g
     ·rw[if_pos hg];exact wpS_pure ⟨rfl,.inr ⟨_,_,_,_,_,rfl,by rw[Array.size_push];omega,hna,hnA,by omega,by omega,mB⟩⟩
     ·rw[if_neg hg];exact wpS_pure ⟨rfl,_,_,_,_,_,rfl,by rw[Array.size_push];omega,hna,hnA,by omega,by omega,mB⟩
  ·rintro c _ ⟨rfl,na,nb,oo,ac,bc,rfl,hy1,hna,hnA,hnb1,hnb,hM⟩;have:=leq hM hna hnA (by omega) hnb;omega
  ·rintro c _ ⟨rfl,⟨r,rest,rfl,hr⟩|⟨na,nb,oo,ac,bc,rfl,ho,hna,hnA,hnb1,hnb,hM⟩⟩
   ·try dsimp only
    exact wpS_pure ⟨hs,_,_,rfl,hr⟩
   try dsimp only
   refine wpS_bind (wpS_lift (wpAny_rule ⟨rfl,?_⟩));refine wpS_bind (wpS_mono (wpS_forRange (I:=fun y c st''=>SameSt st st''/\∃(na nb:Nat) (oo:Array Keyed) (gg ac bc:Nat),c=(none,na,nb,oo,gg,ac,bc)/\x+2<=oo.size/\y<=oo.size/\0<na/\na<=a.size/\1<nb/\nb<=b.size/\Mi (fun x=> - ρ x) (a.toList++b.toList) oo.toList (a.toList.take (na)).reverse (b.toList.take (nb)).reverse)
    (Q:=fun c st''=>SameSt st st''/\((∃(r:Array Keyed) (rest:Nat×Nat×Array Keyed×Nat×Nat×Nat),c=(some r,rest)/\bE ρ r.toList/\r.toList.Perm (a.toList++b.toList))∨∃(na nb:Nat) (oo:Array Keyed) (gg ac bc:Nat),c=(none,na,nb,oo,gg,ac,bc)/\x+2<=oo.size/\0<na/\na<=a.size/\1<nb/\nb<=b.size/\Mi (fun x=> - ρ x) (a.toList++b.toList) oo.toList (a.toList.take (na)).reverse (b.toList.take (nb)).reverse)) ?_ ?_ ⟨hs,na,nb,oo,_,_,_,rfl,by omega,by omega,hna,hnA,hnb1,hnb,hM⟩) ?_)
   ·clear hM hna hnA hnb1 hnb ho oo na nb ac bc;rintro y c st'' _ hy ⟨hs1,na,nb,oo,gg,ac,bc,rfl,hx2,hy2,hna,hnA,hnb1,hnb,hM⟩
    try dsimp only
    by_cases hgg:gg>1
    ·rw[if_pos hgg]
     try dsimp only
     refine wpS_bind (wpS_modify ?_);have hs2:SameSt st (aP st'' (gg - 1)):=hs1;refine wpS_bind (aH (i:=nb - 1) (by omega) ?_);refine wpS_bind (bR (st:=aP st'' (gg - 1)) (base:=0) (n:=na) (hint:=na - 1) C (show kindOf (aP st'' (gg - 1))=κ from hs1.1.trans hk) (dB _ (aG (by omega))) dA (by omega) (by omega) (eZ upA (by omega)) fun k1 hk1 r1 r2=> ?_)
     try dsimp only
     have p1:∀x∈(a.extract k1 na).toList.reverse,∀y∈(b.toList.take (nb)).reverse,ρ y<ρ x:=fun x hx y hy=>by
      obtain⟨u,hu,e⟩:=hG (ρ:=ρ) (List.mem_reverse.mp hx);have:=r2 u (by omega) (by omega);rw[Nat.zero_add]at this;refine fO upB (by omega) hnb hy ?_;rw[e];unfold bey at this;rw[if_neg Bool.false_ne_true]at this
      simpa using this
     have p2':∀y∈(a.toList.take (k1)).reverse,ρ y<ρ (b.getD (nb - 1) (.none,.none)):=fun y hy=>by
      obtain⟨u,hu1,hu2,e⟩:=bS (ρ:=ρ) hy;have:=r1 u hu1;rw[Nat.zero_add]at this;have h1:¬ρ (b.getD (nb - 1) (.none,.none))<rnk ρ a u:=of_decide_eq_false (by unfold bey at this;rw[if_neg Bool.false_ne_true]at this;simpa using this);have h2:=ne _ (aG (a:=a) (i:=u) hu2) _ (aG (a:=b) (i:=nb - 1) (by omega));rw[e];have h2:rnk ρ a u≠ρ (b.getD (nb - 1) (.none,.none)):=h2;omega
     by_cases hk1':na - k1>0
     ·rw[if_pos hk1'];have mA:Mi (fun x=> - ρ x) (a.toList++b.toList) (oo++(a.extract k1 na).reverse).toList (a.toList.take (k1)).reverse (b.toList.take (nb)).reverse:=by
       rw[Array.toList_append (xs:=oo),Array.toList_reverse];exact(show Mi (fun x=> - ρ x) (a.toList++b.toList) oo.toList ((a.extract k1 na).toList.reverse++(a.toList.take (k1)).reverse) (b.toList.take (nb)).reverse by rw[←hV (by omega) (by omega)];exact hM).goA (fun x hx y hy=>by have:=p1 x hx y hy;show - _< - _;omega)
      by_cases hl:k1=0
      ·rw[if_pos (by simpa using hl)];exact wpS_pure ⟨hs2,.inl ⟨_,_,rfl,doneR mA (.inl hl)⟩⟩
      rw[if_neg (by simpa using hl)];have hM:=mA;have p2:=p2';have hna:0<k1:=by omega
      have hnA:k1<=a.size:=by omega
      refine wpS_bind (aH (i:=nb - 1) (by omega) ?_)
      try dsimp only
      have mB:=(show Mi (fun x=> - ρ x) (a.toList++b.toList) (oo++(a.extract k1 na).reverse).toList (a.toList.take (k1)).reverse ([b.getD (nb - 1) (.none,.none)]++(b.toList.take (nb - 1)).reverse) by rw[bU (by omega) hnb]at hM;exact hM).goB (fun x hx y hy=>by cases List.mem_singleton.mp hx;have:=p2 y hy;show - _< - _;omega);rw[←Array.toList_push]at mB
      by_cases he:nb - 1=1
      ·rw[if_pos (by simpa using he)];exact wpS_pure ⟨hs2,.inl ⟨_,_,rfl,firstR mB he⟩⟩
      ·rw[if_neg (by simpa using he)];have hnb2:1<nb - 1:=by omega
       refine wpS_bind (aH (i:=k1 - 1) (by omega) ?_);refine wpS_bind (bR (st:=aP st'' (gg - 1)) (base:=0) (n:=nb - 1) (hint:=nb - 1 - 1) C (show kindOf (aP st'' (gg - 1))=κ from hs1.1.trans hk) (dA _ (aG (by omega))) dB (by omega) (by omega) (eZ upB (by omega)) fun k2 hk2 r1 r2=> ?_)
       try dsimp only
       have q1:∀x∈(b.extract k2 (nb - 1)).toList.reverse,∀y∈(a.toList.take (k1)).reverse,ρ y<ρ x:=fun x hx y hy=>by
        obtain⟨u,hu,e⟩:=hG (ρ:=ρ) (List.mem_reverse.mp hx);have:=r2 u (by omega) (by omega);rw[Nat.zero_add]at this;have h1:¬rnk ρ b u<ρ (a.getD (k1 - 1) (.none,.none)):=of_decide_eq_false (by unfold bey at this;rw[if_pos rfl]at this;exact this);have h2:=ne _ (aG (a:=a) (i:=k1 - 1) (by omega)) _ (aG (a:=b) (i:=u) hu.2.2);refine fO upA hna hnA hy ?_;rw[e];have h2:ρ (a.getD (k1 - 1) (.none,.none))≠rnk ρ b u:=h2;omega
       have q2:∀y∈(b.toList.take (k2)).reverse,ρ y<ρ (a.getD (k1 - 1) (.none,.none)):=fun y hy=>by
        obtain⟨u,hu1,hu2,e⟩:=bS (ρ:=ρ) hy;have:=r1 u hu1;rw[Nat.zero_add]at this;rw[e];unfold bey at this;rw[if_pos rfl]at this;exact of_decide_eq_true this
       by_cases hk0:nb - 1 - k2>0
       ·rw[if_pos hk0];have mC:Mi (fun x=> - ρ x) (a.toList++b.toList) ((oo++(a.extract k1 na).reverse).push (b.getD (nb - 1) (.none,.none))++(b.extract k2 (nb - 1)).reverse).toList (a.toList.take (k1)).reverse (b.toList.take (k2)).reverse:=by
         rw[Array.toList_append (xs:=(oo++(a.extract k1 na).reverse).push (b.getD (nb - 1) (.none,.none))),Array.toList_reverse];exact(show Mi (fun x=> - ρ x) (a.toList++b.toList) ((oo++(a.extract k1 na).reverse).push (b.getD (nb - 1) (.none,.none))).toList (a.toList.take (k1)).reverse ((b.extract k2 (nb - 1)).toList.reverse++(b.toList.take (k2)).reverse) by rw[←hV (by omega) (by omega)];exact mB).goB (fun x hx y hy=>by have:=q1 x hx y hy;show - _< - _;omega)
        by_cases hz:k2=1
        ·rw[if_pos (by simpa using hz)];exact wpS_pure ⟨hs2,.inl ⟨_,_,rfl,firstR mC hz⟩⟩
        rw[if_neg (by simpa using hz)]
        by_cases hz0:k2=0
        ·rw[if_pos (by simpa using hz0)];exact wpS_pure ⟨hs2,.inl ⟨_,_,rfl,doneR mC (.inr hz0)⟩⟩
        rw[if_neg (by simpa using hz0)];have hn3:1<k2:=by omega
        have hn3':k2<=b.size:=by omega
        refine wpS_bind (aH (i:=k1 - 1) (by omega) ?_)
        try dsimp only
        have mD:=(show Mi (fun x=> - ρ x) (a.toList++b.toList) (((oo++(a.extract k1 na).reverse).push (b.getD (nb - 1) (.none,.none))++(b.extract k2 (nb - 1)).reverse)).toList ([a.getD (k1 - 1) (.none,.none)]++(a.toList.take (k1 - 1)).reverse) (b.toList.take (k2)).reverse by rw[bU hna hnA]at mC;exact mC).goA (fun x hx y hy=>by cases List.mem_singleton.mp hx;have:=q2 y hy;show - _< - _;omega);rw[←Array.toList_push]at mD
        by_cases hl:k1 - 1=0
        ·rw[if_pos (by simpa using hl)];exact wpS_pure ⟨hs2,.inl ⟨_,_,rfl,doneR mD (.inl hl)⟩⟩
        ·rw[if_neg (by simpa using hl)];have sz:oo.size+1<=((((oo++(a.extract k1 na).reverse).push (b.getD (nb - 1) (.none,.none))++(b.extract k2 (nb - 1)).reverse)).push (a.getD (k1 - 1) (.none,.none))).size:=by simp only[Array.size_push,Array.size_append];omega
         have ip:0<k1 - 1/\k1 - 1<=a.size/\1<k2/\k2<=b.size/\Mi (fun x=> - ρ x) (a.toList++b.toList) ((((oo++(a.extract k1 na).reverse).push (b.getD (nb - 1) (.none,.none))++(b.extract k2 (nb - 1)).reverse)).push (a.getD (k1 - 1) (.none,.none))).toList (a.toList.take (k1 - 1)).reverse (b.toList.take (k2)).reverse:=⟨by omega,by omega,hn3,hn3',mD⟩
         by_cases hg:(decide (na - k1<7)&&decide (nb - 1 - (k2)<7))=true
         ·rw[if_pos hg];exact wpS_pure ⟨hs2,.inr ⟨_,_,_,_,_,_,rfl,by omega,ip⟩⟩
         ·rw[if_neg hg];exact wpS_pure ⟨hs2,_,_,_,_,_,_,rfl,by omega,by omega,ip⟩
       ·rw[if_neg hk0];have hk00:k2=nb - 1:=by omega
        subst hk00;have hn3':nb - 1<=b.size:=by omega
        refine wpS_bind (aH (i:=k1 - 1) (by omega) ?_)
        try dsimp only
        have mD:=(show Mi (fun x=> - ρ x) (a.toList++b.toList) (((oo++(a.extract k1 na).reverse).push (b.getD (nb - 1) (.none,.none)))).toList ([a.getD (k1 - 1) (.none,.none)]++(a.toList.take (k1 - 1)).reverse) (b.toList.take (nb - 1)).reverse by rw[bU hna hnA]at mB;exact mB).goA (fun x hx y hy=>by cases List.mem_singleton.mp hx;have:=q2 y hy;show - _< - _;omega);rw[←Array.toList_push]at mD
        by_cases hl:k1 - 1=0
        ·rw[if_pos (by simpa using hl)];exact wpS_pure ⟨hs2,.inl ⟨_,_,rfl,doneR mD (.inl hl)⟩⟩
        ·rw[if_neg (by simpa using hl)];have sz:oo.size+1<=((((oo++(a.extract k1 na).reverse).push (b.getD (nb - 1) (.none,.none)))).push (a.getD (k1 - 1) (.none,.none))).size:=by simp only[Array.size_push,Array.size_append];omega
         have ip:0<k1 - 1/\k1 - 1<=a.size/\1<nb - 1/\nb - 1<=b.size/\Mi (fun x=> - ρ x) (a.toList++b.toList) ((((oo++(a.extract k1 na).reverse).push (b.getD (nb - 1) (.none,.none)))).push (a.getD (k1 - 1) (.none,.none))).toList (a.toList.take (k1 - 1)).reverse (b.toList.take (nb - 1)).reverse:=⟨by omega,by omega,hnb2,hn3',mD⟩
         by_cases hg:(decide (na - k1<7)&&decide (nb - 1 - (nb - 1)<7))=true
         ·rw[if_pos hg];exact wpS_pure ⟨hs2,.inr ⟨_,_,_,_,_,_,rfl,by omega,ip⟩⟩
         ·rw[if_neg hg];exact wpS_pure ⟨hs2,_,_,_,_,_,_,rfl,by omega,by omega,ip⟩
     ·rw[if_neg hk1'];have hk10:k1=na:=by omega
      subst hk10;have p2:=p2';refine wpS_bind (aH (i:=nb - 1) (by omega) ?_)
      try dsimp only
      have mB:=(show Mi (fun x=> - ρ x) (a.toList++b.toList) (oo).toList (a.toList.take (k1)).reverse ([b.getD (nb - 1) (.none,.none)]++(b.toList.take (nb - 1)).reverse) by rw[bU (by omega) hnb]at hM;exact hM).goB (fun x hx y hy=>by cases List.mem_singleton.mp hx;have:=p2 y hy;show - _< - _;omega);rw[←Array.toList_push]at mB
      by_cases he:nb - 1=1
      ·rw[if_pos (by simpa using he)];exact wpS_pure ⟨hs2,.inl ⟨_,_,rfl,firstR mB he⟩⟩
      ·rw[if_neg (by simpa using he)];have hnb2:1<nb - 1:=by omega
       refine wpS_bind (aH (i:=k1 - 1) (by omega) ?_);refine wpS_bind (bR (st:=aP st'' (gg - 1)) (base:=0) (n:=nb - 1) (hint:=nb - 1 - 1) C (show kindOf (aP st'' (gg - 1))=κ from hs1.1.trans hk) (dA _ (aG (by omega))) dB (by omega) (by omega) (eZ upB (by omega)) fun k2 hk2 r1 r2=> ?_)
       try dsimp only
       have q1:∀x∈(b.extract k2 (nb - 1)).toList.reverse,∀y∈(a.toList.take (k1)).reverse,ρ y<ρ x:=fun x hx y hy=>by
        obtain⟨u,hu,e⟩:=hG (ρ:=ρ) (List.mem_reverse.mp hx);have:=r2 u (by omega) (by omega);rw[Nat.zero_add]at this;have h1:¬rnk ρ b u<ρ (a.getD (k1 - 1) (.none,.none)):=of_decide_eq_false (by unfold bey at this;rw[if_pos rfl]at this;exact this);have h2:=ne _ (aG (a:=a) (i:=k1 - 1) (by omega)) _ (aG (a:=b) (i:=u) hu.2.2);refine fO upA hna hnA hy ?_;rw[e];have h2:ρ (a.getD (k1 - 1) (.none,.none))≠rnk ρ b u:=h2;omega
       have q2:∀y∈(b.toList.take (k2)).reverse,ρ y<ρ (a.getD (k1 - 1) (.none,.none)):=fun y hy=>by
        obtain⟨u,hu1,hu2,e⟩:=bS (ρ:=ρ) hy;have:=r1 u hu1;rw[Nat.zero_add]at this;rw[e];unfold bey at this;rw[if_pos rfl]at this;exact of_decide_eq_true this
       by_cases hk0:nb - 1 - k2>0
       ·rw[if_pos hk0];have mC:Mi (fun x=> - ρ x) (a.toList++b.toList) ((oo).push (b.getD (nb - 1) (.none,.none))++(b.extract k2 (nb - 1)).reverse).toList (a.toList.take (k1)).reverse (b.toList.take (k2)).reverse:=by
         rw[Array.toList_append (xs:=(oo).push (b.getD (nb - 1) (.none,.none))),Array.toList_reverse];exact(show Mi (fun x=> - ρ x) (a.toList++b.toList) ((oo).push (b.getD (nb - 1) (.none,.none))).toList (a.toList.take (k1)).reverse ((b.extract k2 (nb - 1)).toList.reverse++(b.toList.take (k2)).reverse) by rw[←hV (by omega) (by omega)];exact mB).goB (fun x hx y hy=>by have:=q1 x hx y hy;show - _< - _;omega)
        by_cases hz:k2=1
        ·rw[if_pos (by simpa using hz)];exact wpS_pure ⟨hs2,.inl ⟨_,_,rfl,firstR mC hz⟩⟩
        rw[if_neg (by simpa using hz)]
        by_cases hz0:k2=0
        ·rw[if_pos (by simpa using hz0)];exact wpS_pure ⟨hs2,.inl ⟨_,_,rfl,doneR mC (.inr hz0)⟩⟩
        rw[if_neg (by simpa using hz0)];have hn3:1<k2:=by omega
        have hn3':k2<=b.size:=by omega
        refine wpS_bind (aH (i:=k1 - 1) (by omega) ?_)
        try dsimp only
        have mD:=(show Mi (fun x=> - ρ x) (a.toList++b.toList) (((oo).push (b.getD (nb - 1) (.none,.none))++(b.extract k2 (nb - 1)).reverse)).toList ([a.getD (k1 - 1) (.none,.none)]++(a.toList.take (k1 - 1)).reverse) (b.toList.take (k2)).reverse by rw[bU hna hnA]at mC;exact mC).goA (fun x hx y hy=>by cases List.mem_singleton.mp hx;have:=q2 y hy;show - _< - _;omega);rw[←Array.toList_push]at mD
        by_cases hl:k1 - 1=0
        ·rw[if_pos (by simpa using hl)];exact wpS_pure ⟨hs2,.inl ⟨_,_,rfl,doneR mD (.inl hl)⟩⟩
        ·rw[if_neg (by simpa using hl)];have sz:oo.size+1<=((((oo).push (b.getD (nb - 1) (.none,.none))++(b.extract k2 (nb - 1)).reverse)).push (a.getD (k1 - 1) (.none,.none))).size:=by simp only[Array.size_push,Array.size_append];omega
         have ip:0<k1 - 1/\k1 - 1<=a.size/\1<k2/\k2<=b.size/\Mi (fun x=> - ρ x) (a.toList++b.toList) ((((oo).push (b.getD (nb - 1) (.none,.none))++(b.extract k2 (nb - 1)).reverse)).push (a.getD (k1 - 1) (.none,.none))).toList (a.toList.take (k1 - 1)).reverse (b.toList.take (k2)).reverse:=⟨by omega,by omega,hn3,hn3',mD⟩
         by_cases hg:(decide (k1 - k1<7)&&decide (nb - 1 - (k2)<7))=true
         ·rw[if_pos hg];exact wpS_pure ⟨hs2,.inr ⟨_,_,_,_,_,_,rfl,by omega,ip⟩⟩
         ·rw[if_neg hg];exact wpS_pure ⟨hs2,_,_,_,_,_,_,rfl,by omega,by omega,ip⟩
       ·rw[if_neg hk0];have hk00:k2=nb - 1:=by omega
        subst hk00;have hn3':nb - 1<=b.size:=by omega
        refine wpS_bind (aH (i:=k1 - 1) (by omega) ?_)
        try dsimp only
        have mD:=(show Mi (fun x=> - ρ x) (a.toList++b.toList) (((oo).push (b.getD (nb - 1) (.none,.none)))).toList ([a.getD (k1 - 1) (.none,.none)]++(a.toList.take (k1 - 1)).reverse) (b.toList.take (nb - 1)).reverse by rw[bU hna hnA]at mB;exact mB).goA (fun x hx y hy=>by cases List.mem_singleton.mp hx;have:=q2 y hy;show - _< - _;omega);rw[←Array.toList_push]at mD
        by_cases hl:k1 - 1=0
        ·rw[if_pos (by simpa using hl)];exact wpS_pure ⟨hs2,.inl ⟨_,_,rfl,doneR mD (.inl hl)⟩⟩
        ·rw[if_neg (by simpa using hl)];have sz:oo.size+1<=((((oo).push (b.getD (nb - 1) (.none,.none)))).push (a.getD (k1 - 1) (.none,.none))).size:=by simp only[Array.size_push,Array.size_append];omega
         have ip:0<k1 - 1/\k1 - 1<=a.size/\1<nb - 1/\nb - 1<=b.size/\Mi (fun x=> - ρ x) (a.toList++b.toList) ((((oo).push (b.getD (nb - 1) (.none,.none)))).push (a.getD (k1 - 1) (.none,.none))).toList (a.toList.take (k1 - 1)).reverse (b.toList.take (nb - 1)).reverse:=⟨by omega,by omega,hnb2,hn3',mD⟩
         by_cases hg:(decide (k1 - k1<7)&&decide (nb - 1 - (nb - 1)<7))=true
         ·rw[if_pos hg];exact wpS_pure ⟨hs2,.inr ⟨_,_,_,_,_,_,rfl,by omega,ip⟩⟩
         ·rw[if_neg hg];exact wpS_pure ⟨hs2,_,_,_,_,_,_,rfl,by omega,by omega,ip⟩
    ·rw[if_neg hgg]
     try dsimp only
     refine wpS_bind (wpS_modify ?_);have hs2:SameSt st (aP st'' (gg)):=hs1;refine wpS_bind (aH (i:=nb - 1) (by omega) ?_);refine wpS_bind (bR (st:=aP st'' (gg)) (base:=0) (n:=na) (hint:=na - 1) C (show kindOf (aP st'' (gg))=κ from hs1.1.trans hk) (dB _ (aG (by omega))) dA (by omega) (by omega) (eZ upA (by omega)) fun k1 hk1 r1 r2=> ?_)
     try dsimp only
     have p1:∀x∈(a.extract k1 na).toList.reverse,∀y∈(b.toList.take (nb)).reverse,ρ y<ρ x:=fun x hx y hy=>by
      obtain⟨u,hu,e⟩:=hG (ρ:=ρ) (List.mem_reverse.mp hx);have:=r2 u (by omega) (by omega);rw[Nat.zero_add]at this;refine fO upB (by omega) hnb hy ?_;rw[e];unfold bey at this;rw[if_neg Bool.false_ne_true]at this
      simpa using this
     have p2':∀y∈(a.toList.take (k1)).reverse,ρ y<ρ (b.getD (nb - 1) (.none,.none)):=fun y hy=>by
      obtain⟨u,hu1,hu2,e⟩:=bS (ρ:=ρ) hy;have:=r1 u hu1;rw[Nat.zero_add]at this;have h1:¬ρ (b.getD (nb - 1) (.none,.none))<rnk ρ a u:=of_decide_eq_false (by unfold bey at this;rw[if_neg Bool.false_ne_true]at this;simpa using this);have h2:=ne _ (aG (a:=a) (i:=u) hu2) _ (aG (a:=b) (i:=nb - 1) (by omega));rw[e];have h2:rnk ρ a u≠ρ (b.getD (nb - 1) (.none,.none)):=h2;omega
     by_cases hk1':na - k1>0
     ·rw[if_pos hk1'];have mA:Mi (fun x=> - ρ x) (a.toList++b.toList) (oo++(a.extract k1 na).reverse).toList (a.toList.take (k1)).reverse (b.toList.take (nb)).reverse:=by
       rw[Array.toList_append (xs:=oo),Array.toList_reverse];exact(show Mi (fun x=> - ρ x) (a.toList++b.toList) oo.toList ((a.extract k1 na).toList.reverse++(a.toList.take (k1)).reverse) (b.toList.take (nb)).reverse by rw[←hV (by omega) (by omega)];exact hM).goA (fun x hx y hy=>by have:=p1 x hx y hy;show - _< - _;omega)
      by_cases hl:k1=0
      ·rw[if_pos (by simpa using hl)];exact wpS_pure ⟨hs2,.inl ⟨_,_,rfl,doneR mA (.inl hl)⟩⟩
      rw[if_neg (by simpa using hl)];have hM:=mA;have p2:=p2';have hna:0<k1:=by omega
      have hnA:k1<=a.size:=by omega
      refine wpS_bind (aH (i:=nb - 1) (by omega) ?_)
      try dsimp only
      have mB:=(show Mi (fun x=> - ρ x) (a.toList++b.toList) (oo++(a.extract k1 na).reverse).toList (a.toList.take (k1)).reverse ([b.getD (nb - 1) (.none,.none)]++(b.toList.take (nb - 1)).reverse) by rw[bU (by omega) hnb]at hM;exact hM).goB (fun x hx y hy=>by cases List.mem_singleton.mp hx;have:=p2 y hy;show - _< - _;omega);rw[←Array.toList_push]at mB
      by_cases he:nb - 1=1
      ·rw[if_pos (by simpa using he)];exact wpS_pure ⟨hs2,.inl ⟨_,_,rfl,firstR mB he⟩⟩
      ·rw[if_neg (by simpa using he)];have hnb2:1<nb - 1:=by omega
       refine wpS_bind (aH (i:=k1 - 1) (by omega) ?_);refine wpS_bind (bR (st:=aP st'' (gg)) (base:=0) (n:=nb - 1) (hint:=nb - 1 - 1) C (show kindOf (aP st'' (gg))=κ from hs1.1.trans hk) (dA _ (aG (by omega))) dB (by omega) (by omega) (eZ upB (by omega)) fun k2 hk2 r1 r2=> ?_)
       try dsimp only
       have q1:∀x∈(b.extract k2 (nb - 1)).toList.reverse,∀y∈(a.toList.take (k1)).reverse,ρ y<ρ x:=fun x hx y hy=>by
        obtain⟨u,hu,e⟩:=hG (ρ:=ρ) (List.mem_reverse.mp hx);have:=r2 u (by omega) (by omega);rw[Nat.zero_add]at this;have h1:¬rnk ρ b u<ρ (a.getD (k1 - 1) (.none,.none)):=of_decide_eq_false (by unfold bey at this;rw[if_pos rfl]at this;exact this);have h2:=ne _ (aG (a:=a) (i:=k1 - 1) (by omega)) _ (aG (a:=b) (i:=u) hu.2.2);refine fO upA hna hnA hy ?_;rw[e];have h2:ρ (a.getD (k1 - 1) (.none,.none))≠rnk ρ b u:=h2;omega
       have q2:∀y∈(b.toList.take (k2)).reverse,ρ y<ρ (a.getD (k1 - 1) (.none,.none)):=fun y hy=>by
        obtain⟨u,hu1,hu2,e⟩:=bS (ρ:=ρ) hy;have:=r1 u hu1;rw[Nat.zero_add]at this;rw[e];unfold bey at this;rw[if_pos rfl]at this;exact of_decide_eq_true this
       by_cases hk0:nb - 1 - k2>0
       ·rw[if_pos hk0];have mC:Mi (fun x=> - ρ x) (a.toList++b.toList) ((oo++(a.extract k1 na).reverse).push (b.getD (nb - 1) (.none,.none))++(b.extract k2 (nb - 1)).reverse).toList (a.toList.take (k1)).reverse (b.toList.take (k2)).reverse:=by
         rw[Array.toList_append (xs:=(oo++(a.extract k1 na).reverse).push (b.getD (nb - 1) (.none,.none))),Array.toList_reverse];exact(show Mi (fun x=> - ρ x) (a.toList++b.toList) ((oo++(a.extract k1 na).reverse).push (b.getD (nb - 1) (.none,.none))).toList (a.toList.take (k1)).reverse ((b.extract k2 (nb - 1)).toList.reverse++(b.toList.take (k2)).reverse) by rw[←hV (by omega) (by omega)];exact mB).goB (fun x hx y hy=>by have:=q1 x hx y hy;show - _< - _;omega)
        by_cases hz:k2=1
        ·rw[if_pos (by simpa using hz)];exact wpS_pure ⟨hs2,.inl ⟨_,_,rfl,firstR mC hz⟩⟩
        rw[if_neg (by simpa using hz)]
        by_cases hz0:k2=0
        ·rw[if_pos (by simpa using hz0)];exact wpS_pure ⟨hs2,.inl ⟨_,_,rfl,doneR mC (.inr hz0)⟩⟩
        rw[if_neg (by simpa using hz0)];have hn3:1<k2:=by omega
        have hn3':k2<=b.size:=by omega
        refine wpS_bind (aH (i:=k1 - 1) (by omega) ?_)
        try dsimp only
        have mD:=(show Mi (fun x=> - ρ x) (a.toList++b.toList) (((oo++(a.extract k1 na).reverse).push (b.getD (nb - 1) (.none,.none))++(b.extract k2 (nb - 1)).reverse)).toList ([a.getD (k1 - 1) (.none,.none)]++(a.toList.take (k1 - 1)).reverse) (b.toList.take (k2)).reverse by rw[bU hna hnA]at mC;exact mC).goA (fun x hx y hy=>by cases List.mem_singleton.mp hx;have:=q2 y hy;show - _< - _;omega);rw[←Array.toList_push]at mD
        by_cases hl:k1 - 1=0
        ·rw[if_pos (by simpa using hl)];exact wpS_pure ⟨hs2,.inl ⟨_,_,rfl,doneR mD (.inl hl)⟩⟩
        ·rw[if_neg (by simpa using hl)];have sz:oo.size+1<=((((oo++(a.extract k1 na).reverse).push (b.getD (nb - 1) (.none,.none))++(b.extract k2 (nb - 1)).reverse)).push (a.getD (k1 - 1) (.none,.none))).size:=by simp only[Array.size_push,Array.size_append];omega
         have ip:0<k1 - 1/\k1 - 1<=a.size/\1<k2/\k2<=b.size/\Mi (fun x=> - ρ x) (a.toList++b.toList) ((((oo++(a.extract k1 na).reverse).push (b.getD (nb - 1) (.none,.none))++(b.extract k2 (nb - 1)).reverse)).push (a.getD (k1 - 1) (.none,.none))).toList (a.toList.take (k1 - 1)).reverse (b.toList.take (k2)).reverse:=⟨by omega,by omega,hn3,hn3',mD⟩
         by_cases hg:(decide (na - k1<7)&&decide (nb - 1 - (k2)<7))=true
         ·rw[if_pos hg];exact wpS_pure ⟨hs2,.inr ⟨_,_,_,_,_,_,rfl,by omega,ip⟩⟩
         ·rw[if_neg hg];exact wpS_pure ⟨hs2,_,_,_,_,_,_,rfl,by omega,by omega,ip⟩
       ·rw[if_neg hk0];have hk00:k2=nb - 1:=by omega
        subst hk00;have hn3':nb - 1<=b.size:=by omega
        refine wpS_bind (aH (i:=k1 - 1) (by omega) ?_)
        try dsimp only
        have mD:=(show Mi (fun x=> - ρ x) (a.toList++b.toList) (((oo++(a.extract k1 na).reverse).push (b.getD (nb - 1) (.none,.none)))).toList ([a.getD (k1 - 1) (.none,.none)]++(a.toList.take (k1 - 1)).reverse) (b.toList.take (nb - 1)).reverse by rw[bU hna hnA]at mB;exact mB).goA (fun x hx y hy=>by cases List.mem_singleton.mp hx;have:=q2 y hy;show - _< - _;omega);rw[←Array.toList_push]at mD
        by_cases hl:k1 - 1=0
        ·rw[if_pos (by simpa using hl)];exact wpS_pure ⟨hs2,.inl ⟨_,_,rfl,doneR mD (.inl hl)⟩⟩
        ·rw[if_neg (by simpa using hl)];have sz:oo.size+1<=((((oo++(a.extract k1 na).reverse).push (b.getD (nb - 1) (.none,.none)))).push (a.getD (k1 - 1) (.none,.none))).size:=by simp only[Array.size_push,Array.size_append];omega
         have ip:0<k1 - 1/\k1 - 1<=a.size/\1<nb - 1/\nb - 1<=b.size/\Mi (fun x=> - ρ x) (a.toList++b.toList) ((((oo++(a.extract k1 na).reverse).push (b.getD (nb - 1) (.none,.none)))).push (a.getD (k1 - 1) (.none,.none))).toList (a.toList.take (k1 - 1)).reverse (b.toList.take (nb - 1)).reverse:=⟨by omega,by omega,hnb2,hn3',mD⟩
         by_cases hg:(decide (na - k1<7)&&decide (nb - 1 - (nb - 1)<7))=true
         ·rw[if_pos hg];exact wpS_pure ⟨hs2,.inr ⟨_,_,_,_,_,_,rfl,by omega,ip⟩⟩
         ·rw[if_neg hg];exact wpS_pure ⟨hs2,_,_,_,_,_,_,rfl,by omega,by omega,ip⟩
     ·rw[if_neg hk1'];have hk10:k1=na:=by omega
      subst hk10;have p2:=p2';refine wpS_bind (aH (i:=nb - 1) (by omega) ?_)
      try dsimp only
      have mB:=(show Mi (fun x=> - ρ x) (a.toList++b.toList) (oo).toList (a.toList.take (k1)).reverse ([b.getD (nb - 1) (.none,.none)]++(b.toList.take (nb - 1)).reverse) by rw[bU (by omega) hnb]at hM;exact hM).goB (fun x hx y hy=>by cases List.mem_singleton.mp hx;have:=p2 y hy;show - _< - _;omega);rw[←Array.toList_push]at mB
      by_cases he:nb - 1=1
      ·rw[if_pos (by simpa using he)];exact wpS_pure ⟨hs2,.inl ⟨_,_,rfl,firstR mB he⟩⟩
      ·rw[if_neg (by simpa using he)];have hnb2:1<nb - 1:=by omega
       refine wpS_bind (aH (i:=k1 - 1) (by omega) ?_);refine wpS_bind (bR (st:=aP st'' (gg)) (base:=0) (n:=nb - 1) (hint:=nb - 1 - 1) C (show kindOf (aP st'' (gg))=κ from hs1.1.trans hk) (dA _ (aG (by omega))) dB (by omega) (by omega) (eZ upB (by omega)) fun k2 hk2 r1 r2=> ?_)
       try dsimp only
       have q1:∀x∈(b.extract k2 (nb - 1)).toList.reverse,∀y∈(a.toList.take (k1)).reverse,ρ y<ρ x:=fun x hx y hy=>by
        obtain⟨u,hu,e⟩:=hG (ρ:=ρ) (List.mem_reverse.mp hx);have:=r2 u (by omega) (by omega);rw[Nat.zero_add]at this;have h1:¬rnk ρ b u<ρ (a.getD (k1 - 1) (.none,.none)):=of_decide_eq_false (by unfold bey at this;rw[if_pos rfl]at this;exact this);have h2:=ne _ (aG (a:=a) (i:=k1 - 1) (by omega)) _ (aG (a:=b) (i:=u) hu.2.2);refine fO upA hna hnA hy ?_;rw[e];have h2:ρ (a.getD (k1 - 1) (.none,.none))≠rnk ρ b u:=h2;omega
       have q2:∀y∈(b.toList.take (k2)).reverse,ρ y<ρ (a.getD (k1 - 1) (.none,.none)):=fun y hy=>by
        obtain⟨u,hu1,hu2,e⟩:=bS (ρ:=ρ) hy;have:=r1 u hu1;rw[Nat.zero_add]at this;rw[e];unfold bey at this;rw[if_pos rfl]at this;exact of_decide_eq_true this
       by_cases hk0:nb - 1 - k2>0
       ·rw[if_pos hk0];have mC:Mi (fun x=> - ρ x) (a.toList++b.toList) ((oo).push (b.getD (nb - 1) (.none,.none))++(b.extract k2 (nb - 1)).reverse).toList (a.toList.take (k1)).reverse (b.toList.take (k2)).reverse:=by
         rw[Array.toList_append (xs:=(oo).push (b.getD (nb - 1) (.none,.none))),Array.toList_reverse];exact(show Mi (fun x=> - ρ x) (a.toList++b.toList) ((oo).push (b.getD (nb - 1) (.none,.none))).toList (a.toList.take (k1)).reverse ((b.extract k2 (nb - 1)).toList.reverse++(b.toList.take (k2)).reverse) by rw[←hV (by omega) (by omega)];exact mB).goB (fun x hx y hy=>by have:=q1 x hx y hy;show - _< - _;omega)
        by_cases hz:k2=1
        ·rw[if_pos (by simpa using hz)];exact wpS_pure ⟨hs2,.inl ⟨_,_,rfl,firstR mC hz⟩⟩
        rw[if_neg (by simpa using hz)]
        by_cases hz0:k2=0
        ·rw[if_pos (by simpa using hz0)];exact wpS_pure ⟨hs2,.inl ⟨_,_,rfl,doneR mC (.inr hz0)⟩⟩
        rw[if_neg (by simpa using hz0)];have hn3:1<k2:=by omega
        have hn3':k2<=b.size:=by omega
        refine wpS_bind (aH (i:=k1 - 1) (by omega) ?_)
        try dsimp only
        have mD:=(show Mi (fun x=> - ρ x) (a.toList++b.toList) (((oo).push (b.getD (nb - 1) (.none,.none))++(b.extract k2 (nb - 1)).reverse)).toList ([a.getD (k1 - 1) (.none,.none)]++(a.toList.take (k1 - 1)).reverse) (b.toList.take (k2)).reverse by rw[bU hna hnA]at mC;exact mC).goA (fun x hx y hy=>by cases List.mem_singleton.mp hx;have:=q2 y hy;show - _< - _;omega);rw[←Array.toList_push]at mD
        by_cases hl:k1 - 1=0
        ·rw[if_pos (by simpa using hl)];exact wpS_pure ⟨hs2,.inl ⟨_,_,rfl,doneR mD (.inl hl)⟩⟩
        ·rw[if_neg (by simpa using hl)];have sz:oo.size+1<=((((oo).push (b.getD (nb - 1) (.none,.none))++(b.extract k2 (nb - 1)).reverse)).push (a.getD (k1 - 1) (.none,.none))).size:=by simp only[Array.size_push,Array.size_append];omega
         have ip:0<k1 - 1/\k1 - 1<=a.size/\1<k2/\k2<=b.size/\Mi (fun x=> - ρ x) (a.toList++b.toList) ((((oo).push (b.getD (nb - 1) (.none,.none))++(b.extract k2 (nb - 1)).reverse)).push (a.getD (k1 - 1) (.none,.none))).toList (a.toList.take (k1 - 1)).reverse (b.toList.take (k2)).reverse:=⟨by omega,by omega,hn3,hn3',mD⟩
         by_cases hg:(decide (k1 - k1<7)&&decide (nb - 1 - (k2)<7))=true
         ·rw[if_pos hg];exact wpS_pure ⟨hs2,.inr ⟨_,_,_,_,_,_,rfl,by omega,ip⟩⟩
         ·rw[if_neg hg];exact wpS_pure ⟨hs2,_,_,_,_,_,_,rfl,by omega,by omega,ip⟩
       ·rw[if_neg hk0];have hk00:k2=nb - 1:=by omega
        subst hk00;have hn3':nb - 1<=b.size:=by omega
        refine wpS_bind (aH (i:=k1 - 1) (by omega) ?_)
        try dsimp only
        have mD:=(show Mi (fun x=> - ρ x) (a.toList++b.toList) (((oo).push (b.getD (nb - 1) (.none,.none)))).toList ([a.getD (k1 - 1) (.none,.none)]++(a.toList.take (k1 - 1)).reverse) (b.toList.take (nb - 1)).reverse by rw[bU hna hnA]at mB;exact mB).goA (fun x hx y hy=>by cases List.mem_singleton.mp hx;have:=q2 y hy;show - _< - _;omega);rw[←Array.toList_push]at mD
        by_cases hl:k1 - 1=0
        ·rw[if_pos (by simpa using hl)];exact wpS_pure ⟨hs2,.inl ⟨_,_,rfl,doneR mD (.inl hl)⟩⟩
        ·rw[if_neg (by simpa using hl)];have sz:oo.size+1<=((((oo).push (b.getD (nb - 1) (.none,.none)))).push (a.getD (k1 - 1) (.none,.none))).size:=by simp only[Array.size_push,Array.size_append];omega
         have ip:0<k1 - 1/\k1 - 1<=a.size/\1<nb - 1/\nb - 1<=b.size/\Mi (fun x=> - ρ x) (a.toList++b.toList) ((((oo).push (b.getD (nb - 1) (.none,.none)))).push (a.getD (k1 - 1) (.none,.none))).toList (a.toList.take (k1 - 1)).reverse (b.toList.take (nb - 1)).reverse:=⟨by omega,by omega,hnb2,hn3',mD⟩
         by_cases hg:(decide (k1 - k1<7)&&decide (nb - 1 - (nb - 1)<7))=true
         ·rw[if_pos hg];exact wpS_pure ⟨hs2,.inr ⟨_,_,_,_,_,_,rfl,by omega,ip⟩⟩
         ·rw[if_neg hg];exact wpS_pure ⟨hs2,_,_,_,_,_,_,rfl,by omega,by omega,ip⟩
   ·rintro c st'' ⟨hs1,na,nb,oo,gg,ac,bc,rfl,hx2,hy2,hna,hnA,hnb1,hnb,hM⟩;have:=leq hM hna hnA (by omega) hnb;omega
   ·rintro c st'' ⟨hs1,⟨r,rest,rfl,hr⟩|⟨na,nb,oo,gg,ac,bc,rfl,ho,ip⟩⟩
    ·try dsimp only
     exact wpS_pure ⟨hs1,_,_,rfl,hr⟩
    ·try dsimp only
     refine wpS_bind (wpS_modify (wpS_pure ⟨hs1,_,_,_,_,rfl,ho,ip⟩))
 ·rintro c st' ⟨hs,n,m,o,g,rfl,hx1,hna,hnA,hnb1,hnb,hm⟩;have:=leq hm hna hnA (by omega) hnb;omega
 ·rintro c st' ⟨hs,r,rest,rfl,hr⟩
  try dsimp only
  exact wpS_pure (hQ _ _ hs hr.1 hr.2)
end
end L2
namespace L2
open PySem PySem.W PyProof.Rows
section
variable {prog:Program}{w:World}{A:Around}{E:Value->Shared->Prop}{s:Shared}{κ:SortKind}{D:Keyed->Prop}{ρ:Keyed->Int}{st:SortSt}
theorem fL {a:Array Keyed}{X Y Z:List Keyed} (e:a.toList=X++Y++Z) {i:Nat} (hi:i<Y.length):rnk ρ a (X.length+i)=ρ Y[i]:=by
 have hl:X.length+i<a.size:=by rw[←Array.length_toList,e,List.length_append,List.length_append];omega
 unfold rnk;have h1:a.getD (X.length+i) (.none,.none)=a.toList[X.length+i]'(by rw[Array.length_toList];exact hl):=by simp[Array.getD,hl]
 rw[h1]
 congr 1
 simp only[e];rw[List.getElem_append_left (by rw[List.length_append];omega),List.getElem_append_right (by omega)];simp
theorem vO {a:Array Keyed}{X Y Z:List Keyed} (e:a.toList=X++Y++Z) (h:bE ρ Y):Up ρ a X.length (X.length+Y.length):=fun i j h1 h2 h3=>by
 obtain⟨u,rfl⟩:∃u,i=X.length+u:=⟨i - X.length,by omega⟩
 obtain⟨v,rfl⟩:∃v,j=X.length+v:=⟨j - X.length,by omega⟩
 rw[fL e (by omega),fL e (by omega)];exact(List.pairwise_iff_getElem.mp h) u v (by omega) (by omega) (by omega)
theorem BF {a:Array Keyed}(h:bE ρ a.toList):Up ρ a 0 a.size:=by
 have:=vO (ρ:=ρ) (a:=a) (X:=[]) (Y:=a.toList) (Z:=[]) (by simp) h
 simpa using this
theorem xX {a:Array Keyed}{X Y Z:List Keyed} (e:a.toList=X++Y++Z) {i j:Nat} (hi:i=X.length) (hj:j=X.length+Y.length):(a.extract i j).toList=Y:=by
 subst hi hj;rw[Array.toList_extract,List.extract_eq_drop_take,e,Nat.add_sub_cancel_left,List.append_assoc,List.drop_left,List.take_left]
theorem vL {b0:Nat}:∀(m:List Keyed) (k:Nat) (a:Array Keyed) (X Y Z:List Keyed),a.toList=X++Y++Z->Y.length=m.length->X.length=b0+k->((m.zipIdx k).foldl (fun (a:Array Keyed) x=>match x with|(p,j)=>a.setIfInBounds (b0+j) p) a).toList=X++m++Z
 | [],k,a,X,Y,Z,e,h,_=>by
  have:Y=[]:=List.length_eq_zero_iff.mp h;subst this;exact e
 | p::m,k,a,X,Y,Z,e,h,hx=>by
  cases Y with
  | nil=>cases h
  | cons y Y =>
   have h':Y.length=m.length:=Nat.succ.inj h;rw[List.zipIdx_cons,List.foldl_cons];have:=vL (b0:=b0) m (k+1) (a.setIfInBounds (b0+k) p) (X++[p]) Y Z ?_ h' (by rw[List.length_append];show _+1=_;omega)
   ·rw[List.append_assoc X [p] m]at this;exact this
   ·rw[Array.toList_setIfInBounds,e,←hx,List.append_assoc,List.set_append_right _ _ (Nat.le_refl _),Nat.sub_self];show X++(p::(Y++Z))=_;simp
theorem MX {x:SortSt}{Q:PUnit->SortSt->Prop} (h:Q ⟨⟩ x):wpS (model prog w) A E s (set x:StateT SortSt Sem PUnit) Q st:=by
 unfold wpS;rw[StateT.run_set];exact wpAny_pure ⟨rfl,h⟩
theorem sW {a:Array Keyed}{X Y Z:List Keyed} (e:a.toList=X++Y++Z) {i:Nat} (hi:i<Y.length):a.getD (X.length+i) (.none,.none)=Y[i]:=by
 have hl:X.length+i<a.size:=by rw[←Array.length_toList,e,List.length_append,List.length_append];omega
 have h1:a.getD (X.length+i) (.none,.none)=a.toList[X.length+i]'(by rw[Array.length_toList];exact hl):=by simp[Array.getD,hl]
 rw[h1];simp only[e];rw[List.getElem_append_left (by rw[List.length_append];omega),List.getElem_append_right (by omega)];simp
theorem P3 (C:iT prog w A E s κ D ρ)(hk:kindOf st=κ){X L R Z:List Keyed}{i pw pw2:Nat}{Q:Bool->SortSt->Prop} (ha:(arrOf st).toList=X++L++R++Z) (hL:L≠[]) (hR:R≠[]) (rL:bE ρ L) (rR:bE ρ R) (dis:∀x∈L,∀y∈R,ρ x≠ρ y) (dD:∀x∈(arrOf st).toList,D x)
  (hp1:(pendingOf st)[i]? =some (X.length,L.length,pw))(hp2:(pendingOf st)[i+1]? =some (X.length+L.length,R.length,pw2))(hf:failedOf st=none)
  (h:∀(st':SortSt) (M:List Keyed),kindOf st'=κ->failedOf st'=none->pendingOf st'=((pendingOf st).setIfInBounds i (X.length,L.length+R.length,pw)).eraseIdxIfInBounds (i+1)->(arrOf st').toList=X++M++Z->bE ρ M->M.Perm (L++R)->Q true st') :
  wpS (model prog w) A E s (mergeAt' i) Q st:=by
 have lL:0<L.length:=List.length_pos_iff.mpr hL;have lR:0<R.length:=List.length_pos_iff.mpr hR;have hsz:(arrOf st).size=X.length+L.length+R.length+Z.length:=by rw[←Array.length_toList,ha];simp only[List.length_append]
 have e1:(arrOf st).toList=X++L++(R++Z):=by rw[ha,List.append_assoc (X++L)]
 have e2:(arrOf st).toList=(X++L)++R++Z:=ha;have upL:=vO e1 rL;have upR:=vO e2 rR;rw[List.length_append]at upR;unfold mergeAt';refine wpS_bind (wpS_get ?_);rw[hp1,hp2]
 try dsimp only
 generalize hst1:setPending st (((pendingOf st).setIfInBounds i (X.length,L.length+R.length,pw)).eraseIdxIfInBounds (i+1))=st1;have k1:kindOf st1=κ:=by rw[←hst1];exact hk
 have a1:arrOf st1=arrOf st:=by rw[←hst1]
 have p1:pendingOf st1=((pendingOf st).setIfInBounds i (X.length,L.length+R.length,pw)).eraseIdxIfInBounds (i+1):=by rw[←hst1]
 have f1:failedOf st1=none:=by rw[←hst1];exact hf
 refine wpS_bind (MX ?_);show wpS _ _ _ _ _ _ (setPending st (((pendingOf st).setIfInBounds i (X.length,L.length+R.length,pw)).eraseIdxIfInBounds (i+1)));rw[hst1];have gR0:(arrOf st).getD (X.length+L.length) (.none,.none)=R[0]:=by
  have:=sW e2 (i:=0) lR
  rwa [List.length_append]at this
 refine wpS_bind (aH (a:=arrOf st) (show _<(arrOf st).size by omega) ?_);refine wpS_bind (bR (st:=st1) (hint:=0) C k1 (dD _ (aG (by omega))) dD (by omega) lL upL fun k hkL r1 r2=> ?_)
 try dsimp only
 rw[gR0]at r1 r2;have le0:∀(u:Nat) (hu:u<k),ρ (L[u]'(by omega))<ρ R[0]:=fun u hu=>by
  have:=r1 u hu;unfold bey at this;rw[if_neg Bool.false_ne_true,fL e1 (by omega)]at this;have h1:¬ρ R[0]<ρ (L[u]'(by omega)):=of_decide_eq_false (by simpa using this);have h2:=dis _ (List.getElem_mem (show u<L.length by omega)) _ (List.getElem_mem lR);omega
 have ge0:∀(u:Nat) (h1:k<=u) (hu:u<L.length),ρ R[0]<ρ L[u]:=fun u h1 hu=>by
  have:=r2 u h1 hu;unfold bey at this;rw[if_neg Bool.false_ne_true,fL e1 hu]at this
  simpa using this
 have head_le:∀y∈R,ρ R[0]<=ρ y:=fun y hy=>by
  obtain⟨v,hv,rfl⟩:=List.getElem_of_mem hy;rcases Nat.eq_zero_or_pos v with hz|hz
  ·subst hz;exact Int.le_refl _
  ·have:=(List.pairwise_iff_getElem.mp rR) 0 v lR hv hz;omega
 have rise_LR:(∀x∈L,ρ x<ρ R[0])->bE ρ (L++R):=fun hx=>List.pairwise_append.mpr ⟨rL,rR,fun x h1 y h2=>by have:=hx x h1;have:=head_le y h2;omega⟩;have same:(∀x∈L,ρ x<ρ R[0])->Q true st1:=fun hx=>h st1 (L++R) k1 f1 p1 (by rw[a1,ha];simp only[List.append_assoc]) (rise_LR hx) (List.Perm.refl _)
 by_cases hna:L.length - k=0
 ·rw[if_pos (by simpa using hna)];refine wpS_pure (same fun x hx=> ?_);obtain⟨u,hu,rfl⟩:=List.getElem_of_mem hx;exact le0 u (by omega)
 rw[if_neg (by simpa using hna)];have ix:X.length+k+(L.length - k) - 1=X.length+(L.length - 1):=by omega
 have gLl:(arrOf st).getD (X.length+k+(L.length - k) - 1) (.none,.none)=L[L.length - 1]'(by omega):=by
  rw[ix];exact sW e1 (by omega)
 refine wpS_bind (aH (a:=arrOf st) (show _<(arrOf st).size by omega) ?_);refine wpS_bind (bR (st:=st1) (hint:=R.length - 1) C k1 (dD _ (aG (by omega))) dD (by omega) (by omega) upR fun k2 hkR r3 r4=> ?_)
 try dsimp only
 rw[gLl]at r3 r4;have lt2:∀(u:Nat) (hu:u<k2),ρ (R[u]'(by omega))<ρ (L[L.length - 1]'(by omega)):=fun u hu=>by
  have:=r3 u hu;unfold bey at this;have e:=fL (ρ:=ρ) e2 (i:=u) (by omega);rw[List.length_append]at e;rw[if_pos rfl,e]at this;exact of_decide_eq_true this
 have ge2:∀(u:Nat) (h1:k2<=u) (hu:u<R.length),ρ (L[L.length - 1]'(by omega))<ρ R[u]:=fun u h1 hu=>by
  have:=r4 u h1 hu;unfold bey at this;have e:=fL (ρ:=ρ) e2 (i:=u) hu;rw[List.length_append]at e;rw[if_pos rfl,e]at this;have h1:=of_decide_eq_false this;have h2:=dis _ (List.getElem_mem (show L.length - 1<L.length by omega)) _ (List.getElem_mem hu);omega
 have last_ge:∀x∈L,ρ x<=ρ (L[L.length - 1]'(by omega)):=fun x hx=>by
  obtain⟨u,hu,rfl⟩:=List.getElem_of_mem hx;rcases Nat.lt_or_ge u (L.length - 1) with hz|hz
  ·have:=(List.pairwise_iff_getElem.mp rL) u (L.length - 1) hu (by omega) hz;omega
  ·have:u=L.length - 1:=by omega
   subst this;exact Int.le_refl _
 by_cases hnb:k2=0
 ·rw[if_pos (by simpa using hnb)];refine wpS_pure (same fun x hx=> ?_);have h1:=last_ge x hx;have h2:=ge2 0 (by omega) lR;omega
 rw[if_neg (by simpa using hnb)]
 try dsimp only
 have cL:L=L.take k++L.drop k:=(List.take_append_drop k L).symm;have cR:R=R.take k2++R.drop k2:=(List.take_append_drop k2 R).symm;have ex:((arrOf st).extract (X.length+k) (X.length+L.length)).toList=L.drop k:=by
  refine xX (X:=X++L.take k) (Z:=R++Z) ?_ (by rw[List.length_append,List.length_take];omega) (by rw[List.length_append,List.length_take,List.length_drop];omega);rw[e1]
  conv=>lhs;rw[cL]
  simp only[List.append_assoc]
 have ey:((arrOf st).extract (X.length+L.length) (X.length+L.length+k2)).toList=R.take k2:=by
  refine xX (X:=X++L) (Z:=R.drop k2++Z) ?_ (by rw[List.length_append]) (by rw[List.length_append,List.length_take];omega);rw[e2]
  conv=>lhs;rw[cR]
  simp only[List.append_assoc]
 generalize hx:(arrOf st).extract (X.length+k) (X.length+L.length)=x at ex;generalize hy:(arrOf st).extract (X.length+L.length) (X.length+L.length+k2)=y at ey;have sx:x.size=L.length - k:=by rw[←Array.length_toList,ex,List.length_drop]
 have sy:y.size=k2:=by rw[←Array.length_toList,ey,List.length_take];omega
 have rkx:∀(u:Nat) (hu:u<L.length - k),rnk ρ x u=ρ (L[k+u]'(by omega)):=fun u hu=>by
  have:=fL (ρ:=ρ) (a:=x) (X:=[]) (Y:=L.drop k) (Z:=[]) (by rw[ex];simp) (i:=u) (by rw[List.length_drop];exact hu);rw[List.length_nil,Nat.zero_add,List.getElem_drop]at this;exact this
 have rky:∀(u:Nat) (hu:u<k2),rnk ρ y u=ρ (R[u]'(by omega)):=fun u hu=>by
  have:=fL (ρ:=ρ) (a:=y) (X:=[]) (Y:=R.take k2) (Z:=[]) (by rw[ey];simp) (i:=u) (by rw[List.length_take];omega);rw[List.length_nil,Nat.zero_add,List.getElem_take]at this;exact this
 have memL:∀z∈L.drop k,z∈L:=fun z hz=>List.mem_of_mem_drop hz;have memR:∀z∈R.take k2,z∈R:=fun z hz=>List.mem_of_mem_take hz;have inArr:∀z,z∈L∨z∈R->z∈(arrOf st).toList:=fun z hz=>by
  rw[ha];rcases hz with hz|hz<;>simp[hz]
 have dx:∀z∈x.toList,D z:=fun z hz=>dD z (inArr z (.inl (memL z (ex▸hz))));have dy:∀z∈y.toList,D z:=fun z hz=>dD z (inArr z (.inr (memR z (ey▸hz))));have ux:Up ρ x 0 x.size:=BF (by rw[ex];exact List.Pairwise.drop rL);have uy:Up ρ y 0 y.size:=BF (by rw[ey];exact List.Pairwise.take rR);have nexy:∀u∈x.toList,∀v∈y.toList,ρ u≠ρ v:=fun u hu v hv=>dis u (memL u (ex▸hu)) v (memR v (ey▸hv));have fst:rnk ρ y 0<rnk ρ x 0:=by
  rw[rkx 0 (by omega),rky 0 (by omega)];exact ge0 _ (by omega) (by omega)
 have lst:rnk ρ y (y.size - 1)<rnk ρ x (x.size - 1):=by
  rw[rkx (x.size - 1) (by omega),rky (y.size - 1) (by omega)];have:=lt2 (y.size - 1) (by omega);have e:k+(x.size - 1)=L.length - 1:=by omega
  simp only[e];exact this
 have fin:∀(m:Array Keyed) (st2:SortSt),SameSt st1 st2->bE ρ m.toList->m.toList.Perm (x.toList++y.toList)->Q true (setArr st2 (m.toList.zipIdx.foldl (fun (a:Array Keyed) z=>match z with|(p,j)=>a.setIfInBounds (X.length+k+j) p) (arrOf st2))):=fun m st2 hs rm pm=>by
  have pl:m.toList.length=(L.drop k++R.take k2).length:=by rw[pm.length_eq,ex,ey]
  have earr:(arrOf st2).toList=(X++L.take k)++(L.drop k++R.take k2)++(R.drop k2++Z):=by
   rw[hs.2.1,a1,ha]
   conv=>lhs;rw[cL,cR]
   simp only[List.append_assoc]
  have pb:=vL (b0:=X.length+k) m.toList 0 (arrOf st2) _ _ _ earr pl.symm (by rw[List.length_append,List.length_take];omega);have mm:∀z∈m.toList,z∈L.drop k∨z∈R.take k2:=fun z hz=>by
   have:=pm.mem_iff.mp hz;rw[ex,ey]at this;exact List.mem_append.mp this
  have tL:∀z∈L.take k,ρ z<ρ R[0]:=fun z hz=>by
   obtain⟨u,hu,rfl⟩:=List.getElem_of_mem hz;rw[List.length_take]at hu;rw[List.getElem_take];exact le0 u (by omega)
  have dR:∀z∈R.drop k2,ρ (L[L.length - 1]'(by omega))<ρ z:=fun z hz=>by
   obtain⟨u,hu,rfl⟩:=List.getElem_of_mem hz;rw[List.length_drop]at hu;rw[List.getElem_drop];exact ge2 _ (by omega) (by omega)
  have rL':=List.pairwise_append.mp (cL▸rL);have rR':=List.pairwise_append.mp (cR▸rR);refine h _ (L.take k++m.toList++R.drop k2) (hs.1.trans k1) (hs.2.2.2.trans f1) (hs.2.2.1.trans p1) ?_ ?_ ?_
  ·show (Array.toList _)=_;rw[pb];simp only[List.append_assoc]
  ·refine List.pairwise_append.mpr ⟨List.pairwise_append.mpr ⟨rL'.1,rm,fun u hu v hv=> ?_⟩,rR'.2.1,fun u hu v hv=> ?_⟩
   ·rcases mm v hv with hv|hv
    ·exact rL'.2.2 u hu v hv
    ·have h1:=tL u hu;have h2:=head_le v (memR v hv);omega
   ·rcases List.mem_append.mp hu with hu|hu
    ·have h1:=tL u hu;have h2:=head_le v (List.mem_of_mem_drop hv);omega
    ·rcases mm u hu with hu|hu
     ·have h1:=last_ge u (memL u hu);have h2:=dR v hv;omega
     ·exact rR'.2.2 u hu v hv
  ·have p2:(L.take k++m.toList++R.drop k2).Perm (L.take k++(L.drop k++R.take k2)++R.drop k2):=List.Perm.append_right _ (List.Perm.append_left _ (by rw[ex,ey]at pm;exact pm));refine p2.trans ?_
   conv=>rhs;rw[cL,cR]
   simp only[List.append_assoc];exact List.Perm.refl _
 by_cases hc:L.length - k<=k2
 ·rw[if_pos hc];refine wpS_bind (OW C k1 dx dy ux uy (by omega) (by omega) nexy fst lst fun m st2 hs rm pm=> ?_);refine wpS_bind (wpS_modify (wpS_bind (wpS_get (wpS_pure ?_))));have:=fin m st2 hs rm pm;have ff:failedOf st2=none:=hs.2.2.2.trans f1;show Q (failedOf st2).isNone _;rw[ff];exact this
 ·rw[if_neg hc];refine wpS_bind (OS C k1 dx dy ux uy (by omega) (by omega) nexy fst lst fun m st2 hs rm pm=> ?_);refine wpS_bind (wpS_modify (wpS_bind (wpS_get (wpS_pure ?_))));have:=fin m st2 hs rm pm;have ff:failedOf st2=none:=hs.2.2.2.trans f1;show Q (failedOf st2).isNone _;rw[ff];exact this
end
end L2
namespace L2
open PySem PySem.W PyProof.Rows
section
variable {prog:Program}{w:World}{A:Around}{E:Value->Shared->Prop}{s:Shared}{κ:SortKind}{D:Keyed->Prop}{ρ:Keyed->Int}{st:SortSt}
theorem iR {a b:Array Keyed}{i j:Nat} (h:a[i]? =b[j]?):rnk ρ a i=rnk ρ b j:=by
 have e:∀(a:Array Keyed) (i:Nat),a.getD i (.none,.none)=(a[i]?).getD (.none,.none):=fun a i=>by simp[Array.getD_eq_getD_getElem?]
 unfold rnk;rw[e,e,h]
def Apart (ρ:Keyed->Int)(a:Array Keyed):Prop:=(a.toList.map ρ).Nodup
theorem Apart.perm {a b:Array Keyed}(h:Apart ρ a)(p:b.Perm a):Apart ρ b:=((Array.perm_iff_toList_perm.mp p).map ρ).nodup_iff.mpr h
theorem Apart.ne {a:Array Keyed}(h:Apart ρ a){i j:Nat}(hi:i<a.size)(hj:j<a.size)(hij:i≠j):rnk ρ a i≠rnk ρ a j:=fun e=>by
 have hl:(a.toList.map ρ).length=a.size:=by rw[List.length_map,Array.length_toList]
 have e1:∀(k:Nat) (hk:k<a.size),(a.toList.map ρ)[k]'(by omega)=rnk ρ a k:=fun k hk=>by
  rw[List.getElem_map];unfold rnk;simp[Array.getD,hk]
 exact hij ((List.getElem_inj (h₀:=by omega) (h₁:=by omega) h).mp (by rw[e1 i hi,e1 j hj];exact e))
structure Rn (κ:SortKind)(st st':SortSt)(lo hi:Nat):Prop where
 kd:kindOf st'=κ
 fl:failedOf st'=failedOf st
 pn:pendingOf st'=pendingOf st
 pm:(arrOf st').Perm (arrOf st)
 lw:∀i,i<lo->(arrOf st')[i]? =(arrOf st)[i]?
 up:∀i,hi<=i->(arrOf st')[i]? =(arrOf st)[i]?
theorem Rn.refl {lo hi:Nat}(hk:kindOf st=κ):Rn κ st st lo hi:=⟨hk,rfl,rfl,Array.Perm.refl _,fun _ _=>rfl,fun _ _=>rfl⟩
theorem Rn.size {st':SortSt}{lo hi:Nat} (h:Rn κ st st' lo hi):(arrOf st').size=(arrOf st).size:=h.pm.size_eq
theorem Rn.set {st':SortSt}{lo hi:Nat} (h:Rn κ st st' lo hi) {xs:Array Keyed} (p:xs.Perm (arrOf st')) (h1:∀i,i<lo->xs[i]? =(arrOf st')[i]?) (h2:∀i,hi<=i->xs[i]? =(arrOf st')[i]?):Rn κ st (setArr st' xs) lo hi :=
 ⟨h.kd,h.fl,h.pn,p.trans h.pm,fun i hi=>(h1 i hi).trans (h.lw i hi),fun i hi=>(h2 i hi).trans (h.up i hi)⟩
theorem Rn.trans {st' st'':SortSt}{lo hi:Nat} (h:Rn κ st st' lo hi) (g:Rn κ st' st'' lo hi):Rn κ st st'' lo hi :=
 ⟨g.kd,g.fl.trans h.fl,g.pn.trans h.pn,g.pm.trans h.pm,fun i hi=>(g.lw i hi).trans (h.lw i hi),fun i hi=>(g.up i hi).trans (h.up i hi)⟩
theorem Rn.wide {st':SortSt}{lo hi hi':Nat} (h:Rn κ st st' lo hi) (hh:hi<=hi'):Rn κ st st' lo hi':=⟨h.kd,h.fl,h.pn,h.pm,h.lw,fun i hi=>h.up i (Nat.le_trans hh hi)⟩
theorem jD (C:iT prog w A E s κ D ρ)(hk:kindOf st=κ)(dD:∀x∈(arrOf st).toList,D x){i j:Nat}(hi:i<(arrOf st).size)(hj:j<(arrOf st).size){Q:Option Bool->SortSt->Prop}(h:Q (some (decide (rnk ρ (arrOf st) i<rnk ρ (arrOf st) j))) st):wpS (model prog w) A E s (ltAt' i j) Q st:=by
 rw[ltAt'_eq];refine wpS_bind (wpS_get ?_);exact wpS_bind (aH (a:=arrOf st) hi (wpS_bind (aH (a:=arrOf st) hj (C.lt (dD _ (aG hi)) (dD _ (aG hj)) hk h))))
theorem uH {a b:Array Keyed}(p:b.Perm a)(dD:∀x∈a.toList,D x):∀x∈b.toList,D x:=fun x hx=>dD x ((Array.perm_iff_toList_perm.mp p).mem_iff.mp hx)
theorem JF (C:iT prog w A E s κ D ρ)(hk:kindOf st=κ)(dD:∀x∈(arrOf st).toList,D x)(ap:Apart ρ (arrOf st)){lo n ok:Nat}(hn:lo+n<=(arrOf st).size)(hok:ok<=n)(h1:1<=ok)(up:Up ρ (arrOf st) lo (lo+ok)){Q:Bool->SortSt->Prop}
  (h:∀st':SortSt,Rn κ st st' lo (lo+n)->Up ρ (arrOf st') lo (lo+n)->Q true st'):wpS (model prog w) A E s (binarySort' lo n ok) Q st:=by
 unfold binarySort';refine wpS_bind (wpS_mono (wpS_forRange (I:=fun k c st'=>c=(none,())/\Rn κ st st' lo (lo+n)/\Up ρ (arrOf st') lo (lo+min k n)) (Q:=fun c st'=>c=(none,())/\Rn κ st st' lo (lo+n)/\Up ρ (arrOf st') lo (lo+n)) ?_ ?_ ⟨rfl,Rn.refl hk,by rw[show min (max ok 1) n=ok by omega];exact up⟩) ?_)
 ·rintro k c st' hak hkn ⟨rfl,hr,hu⟩;rw[show min k n=k by omega]at hu;have sz:=hr.size;have dD':=uH hr.pm dD;have ap':=ap.perm hr.pm;refine wpS_bind (wpS_mono (wpS_forRange (I:=fun x c st''=>st'=st''/\∃l r:Nat,c=(none,l,r)/\l<=r/\r<=k/\r - l<=k - x/\(∀i,i<l->rnk ρ (arrOf st') (lo+i)<rnk ρ (arrOf st') (lo+k))/\(∀i,r<=i->i<k->rnk ρ (arrOf st') (lo+k)<rnk ρ (arrOf st') (lo+i)))
   (Q:=fun c st''=>st'=st''/\∃l r:Nat,c=(none,l,r)/\l<=k/\(∀i,i<l->rnk ρ (arrOf st') (lo+i)<rnk ρ (arrOf st') (lo+k))/\(∀i,l<=i->i<k->rnk ρ (arrOf st') (lo+k)<rnk ρ (arrOf st') (lo+i))) ?_ ?_ ⟨rfl,0,k,rfl,by omega,by omega,by omega,fun i hi=>by omega,fun i h1 h2=>by omega⟩) ?_)
  ·rintro x c _ _ hx ⟨rfl,l,r,rfl,a1,a2,a3,a4,a5⟩
   try dsimp only
   by_cases hge:l≥r
   ·rw[if_pos hge];have:l=r:=by omega
    subst this;exact wpS_pure ⟨rfl,l,l,rfl,a2,a4,a5⟩
   ·rw[if_neg hge];refine wpS_bind (jD C hr.kd dD' (i:=lo+k) (j:=lo+(l+r)/2) (by omega) (by omega) ?_)
    try dsimp only
    by_cases hless:rnk ρ (arrOf st') (lo+k)<rnk ρ (arrOf st') (lo+(l+r)/2)
    ·rw[decide_eq_true hless,if_pos rfl];refine wpS_pure ⟨rfl,l,(l+r)/2,rfl,by omega,by omega,by omega,a4,fun i g1 g2=> ?_⟩;rcases Nat.lt_or_ge ((l+r)/2) i with hz|hz
     ·have:=hu (lo+(l+r)/2) (lo+i) (by omega) (by omega) (by omega);omega
     ·have:i=(l+r)/2:=by omega
      rw[this];exact hless
    ·rw[decide_eq_false hless,if_neg Bool.false_ne_true];refine wpS_pure ⟨rfl,(l+r)/2+1,r,rfl,by omega,by omega,by omega,fun i g1=> ?_,a5⟩;have hne:=ap'.ne (i:=lo+k) (j:=lo+(l+r)/2) (by omega) (by omega) (by omega);rcases Nat.lt_or_ge i ((l+r)/2) with hz|hz
     ·have:=hu (lo+i) (lo+(l+r)/2) (by omega) (by omega) (by omega);omega
     ·have:i=(l+r)/2:=by omega
      rw[this];omega
  ·rintro c _ ⟨rfl,l,r,rfl,a1,a2,a3,a4,a5⟩;have:l=r:=by omega
   subst this;exact⟨rfl,l,l,rfl,a2,a4,a5⟩
  ·rintro c _ ⟨rfl,l,r,rfl,a2,a4,a5⟩
   try dsimp only
   have hks:lo+k<(arrOf st').size:=by omega
   have bb:∀j,(bubble (arrOf st') (lo+k) (lo+k - (lo+l)))[j]? =if j=lo+l then (arrOf st')[lo+k]? else if lo+l<j/\j<=lo+k then (arrOf st')[j - 1]? else (arrOf st')[j]? :=fun j=>by
    have:=getElem?_bubble hks (lo+k - (lo+l)) (by omega) j;rw[show lo+k - (lo+k - (lo+l))=lo+l by omega]at this;exact this
   refine wpS_bind (show wpS _ _ _ _ (moveDown' (lo+k) (lo+l)) _ _ from ?_);rw[moveDown'_eq];refine wpS_modify (wpS_pure ⟨rfl,hr.set (bubble_perm _ _ _) (fun i hi=> ?_) (fun i hi=> ?_),?_⟩)
   ·rw[bb,if_neg (by omega),if_neg (by omega)]
   ·rw[bb,if_neg (by omega),if_neg (by omega)]
   ·rw[show min (k+1) n=k+1 by omega];intro i j g1 g2 g3;have rb:∀j,rnk ρ (bubble (arrOf st') (lo+k) (lo+k - (lo+l))) j=if j=lo+l then rnk ρ (arrOf st') (lo+k) else if lo+l<j/\j<=lo+k then rnk ρ (arrOf st') (j - 1) else rnk ρ (arrOf st') j:=fun j=>by
     have e:=bb j
     by_cases c1:j=lo+l
     ·rw[if_pos c1]at e ⊢;exact iR e
     ·rw[if_neg c1]at e ⊢
      by_cases c2:lo+l<j/\j<=lo+k
      ·rw[if_pos c2]at e ⊢;exact iR e
      ·rw[if_neg c2]at e ⊢;exact iR e
    have lowR:∀u,lo<=u->u<lo+l->rnk ρ (arrOf st') u<rnk ρ (arrOf st') (lo+k):=fun u u1 u2=>by
     have:=a4 (u - lo) (by omega)
     rwa [show lo+(u - lo)=u by omega]at this
    have highR:∀u,lo+l<=u->u<lo+k->rnk ρ (arrOf st') (lo+k)<rnk ρ (arrOf st') u:=fun u u1 u2=>by
     have:=a5 (u - lo) (by omega) (by omega)
     rwa [show lo+(u - lo)=u by omega]at this
    show rnk ρ (bubble (arrOf st') (lo+k) (lo+k - (lo+l))) i<rnk ρ (bubble (arrOf st') (lo+k) (lo+k - (lo+l))) j;rw[rb,rb]
    repeat' split
    all_goals first
     | (exfalso;omega)
     | exact lowR _ (by omega) (by omega)
     | exact highR _ (by omega) (by omega)
     | exact hu _ _ (by omega) (by omega) (by omega)
     | (have h1:=lowR i (by omega) (by omega);have h2:=highR (j - 1) (by omega) (by omega);omega)
 ·rintro c st' ⟨rfl,hr,hu⟩;refine⟨rfl,hr,?_⟩
  rwa [show min (max (max ok 1) n) n=n by omega]at hu
 ·rintro c st' ⟨rfl,hr,hu⟩
  try dsimp only
  exact wpS_pure (h st' hr hu)
end
end L2
namespace L2
open PySem PySem.W PyProof.Rows
section
variable {prog:Program}{w:World}{A:Around}{E:Value->Shared->Prop}{s:Shared}{κ:SortKind}{D:Keyed->Prop}{ρ:Keyed->Int}{st:SortSt}
theorem L0 {a:Array Keyed}{lo:Nat}:Up ρ a lo (lo+1):=fun i j h1 h2 h3=>by omega
theorem xS {a:Array Keyed}{lo x:Nat} (h1:1<=x) (up:Up ρ a lo (lo+x)) (h:rnk ρ a (lo+x - 1)<rnk ρ a (lo+x)):Up ρ a lo (lo+(x+1)):=fun i j g1 g2 g3=>by
 by_cases hj:j<lo+x
 ·exact up i j g1 g2 hj
 ·have:j=lo+x:=by omega
  subst this;rcases Nat.lt_or_ge i (lo+x - 1) with hz|hz
  ·have:=up i (lo+x - 1) g1 hz (by omega);omega
  ·have:i=lo+x - 1:=by omega
   rw[this];exact h
def Dn (ρ:Keyed->Int)(a:Array Keyed)(lo hi:Nat):Prop:=∀i j,lo<=i->i<j->j<hi->rnk ρ a j<rnk ρ a i
theorem xI {a:Array Keyed}{lo x:Nat} (h1:1<=x) (dn:Dn ρ a lo (lo+x)) (h:rnk ρ a (lo+x)<rnk ρ a (lo+x - 1)):Dn ρ a lo (lo+(x+1)):=fun i j g1 g2 g3=>by
 by_cases hj:j<lo+x
 ·exact dn i j g1 g2 hj
 ·have:j=lo+x:=by omega
  subst this;rcases Nat.lt_or_ge i (lo+x - 1) with hz|hz
  ·have:=dn i (lo+x - 1) g1 hz (by omega);omega
  ·have:i=lo+x - 1:=by omega
   rw[this];exact h
theorem AZ (C:iT prog w A E s κ D ρ)(hk:kindOf st=κ)(dD:∀x∈(arrOf st).toList,D x)(ap:Apart ρ (arrOf st)){lo n:Nat}(hn:lo+n<=(arrOf st).size)(h1:1<=n){Q:Option Nat->SortSt->Prop}
  (h:∀(m:Nat) (st':SortSt),1<=m->m<=n->Rn κ st st' lo (lo+n)->Up ρ (arrOf st') lo (lo+m)->Q (some m) st'):wpS (model prog w) A E s (countRun' lo n) Q st:=by
 unfold countRun';refine wpS_bind (wpS_mono (wpS_forRange (I:=fun x c st''=>st=st''/\c=(none,x)/\Up ρ (arrOf st) lo (lo+x)) (Q:=fun c st''=>st=st''/\∃m,c=(none,m)/\1<=m/\m<=n/\Up ρ (arrOf st) lo (lo+m)/\(m=n∨rnk ρ (arrOf st) (lo+m)<rnk ρ (arrOf st) (lo+m - 1))) ?_ ?_ ⟨rfl,rfl,L0⟩) ?_)
 ·rintro x c _ hx1 hx ⟨rfl,rfl,hu⟩
  try dsimp only
  refine wpS_bind (jD C hk dD (i:=lo+x) (j:=lo+x - 1) (by omega) (by omega) ?_)
  try dsimp only
  by_cases hless:rnk ρ (arrOf st) (lo+x)<rnk ρ (arrOf st) (lo+x - 1)
  ·rw[decide_eq_true hless,if_pos rfl];exact wpS_pure ⟨rfl,x,rfl,hx1,by omega,hu,.inr hless⟩
  ·rw[decide_eq_false hless,if_neg Bool.false_ne_true];have hne:=ap.ne (i:=lo+x) (j:=lo+x - 1) (by omega) (by omega) (by omega);exact wpS_pure ⟨rfl,rfl,xS hx1 hu (by omega)⟩
 ·rintro c _ ⟨rfl,rfl,hu⟩;rw[show max 1 n=n by omega]at hu ⊢;exact⟨rfl,n,rfl,h1,Nat.le_refl _,hu,.inl rfl⟩
 rintro c _ ⟨rfl,m,rfl,hm1,hmn,hu,hor⟩
 try dsimp only
 by_cases he:m=n
 ·rw[if_pos (by simpa using he)];exact wpS_pure (h m st hm1 hmn (Rn.refl hk) hu)
 rw[if_neg (by simpa using he)];have hless:=hor.resolve_left he
 by_cases hg:m>1
 ·rw[if_pos hg];refine wpS_bind (jD C hk dD (i:=lo) (j:=lo+m - 1) (by omega) (by omega) ?_)
  try dsimp only
  rw[decide_eq_true (hu lo (lo+m - 1) (by omega) (by omega) (by omega)),if_pos rfl];exact wpS_pure (h m st hm1 hmn (Rn.refl hk) hu)
 rw[if_neg hg];have hm:m=1:=by omega
 subst hm;refine wpS_bind (wpS_lift (wpAny_rule ⟨rfl,?_⟩));have d2:Dn ρ (arrOf st) lo (lo+(1+1)):=xI (Nat.le_refl _) (fun i j g1 g2 g3=>by omega) hless;refine wpS_bind (wpS_mono (wpS_forRange (I:=fun x c st''=>st=st''/\c=(none,x,0)/\Dn ρ (arrOf st) lo (lo+x)) (Q:=fun c st''=>st=st''/\∃m,c=(none,m,0)/\2<=m/\m<=n/\Dn ρ (arrOf st) lo (lo+m)) ?_ ?_ ⟨rfl,rfl,d2⟩) ?_)
 ·rintro x c _ hx1 hx ⟨rfl,rfl,hd⟩
  try dsimp only
  refine wpS_bind (jD C hk dD (i:=lo+x) (j:=lo+x - 1) (by omega) (by omega) ?_)
  try dsimp only
  by_cases hl2:rnk ρ (arrOf st) (lo+x)<rnk ρ (arrOf st) (lo+x - 1)
  ·rw[decide_eq_true hl2,if_pos rfl,if_neg (by omega)];exact wpS_pure ⟨rfl,rfl,xI (by omega) hd hl2⟩
  ·rw[decide_eq_false hl2,if_neg Bool.false_ne_true];have hne:=ap.ne (i:=lo+x) (j:=lo+x - 1) (by omega) (by omega) (by omega);refine wpS_bind (jD C hk dD (i:=lo+x - 1) (j:=lo+x) (by omega) (by omega) ?_)
   try dsimp only
   rw[decide_eq_true (show rnk ρ (arrOf st) (lo+x - 1)<rnk ρ (arrOf st) (lo+x) by omega),if_pos rfl];exact wpS_pure ⟨rfl,x,rfl,by omega,by omega,hd⟩
 ·rintro c _ ⟨rfl,rfl,hd⟩;rw[show max (1+1) n=n by omega]at hd ⊢;exact⟨rfl,n,rfl,by omega,Nat.le_refl _,hd⟩
 rintro c _ ⟨rfl,m,rfl,hm2,hmn2,hd⟩
 try dsimp only
 rw[if_neg (by omega)];refine wpS_bind (wpS_reverse ?_);have mg:∀k,(mirror (arrOf st) lo (lo+m) ((lo+m - lo)/2))[k]? =if lo<=k/\k<lo+m then (arrOf st)[lo+(lo+m) - 1 - k]? else (arrOf st)[k]? :=fun k=>getElem?_mirror_all (by omega) k;have hr:Rn κ st (setArr st (mirror (arrOf st) lo (lo+m) ((lo+m - lo)/2))) lo (lo+n):=(Rn.refl hk).set (mirror_perm _ _ _ _) (fun i hi=>by rw[mg,if_neg (by omega)]) (fun i hi=>by rw[mg,if_neg (by omega)]);have rm:∀k,rnk ρ (mirror (arrOf st) lo (lo+m) ((lo+m - lo)/2)) k=if lo<=k/\k<lo+m then rnk ρ (arrOf st) (lo+(lo+m) - 1 - k) else rnk ρ (arrOf st) k:=fun k=>by
  have e:=mg k
  by_cases c1:lo<=k/\k<lo+m
  ·rw[if_pos c1]at e ⊢;exact iR e
  ·rw[if_neg c1]at e ⊢;exact iR e
 have u1:Up ρ (mirror (arrOf st) lo (lo+m) ((lo+m - lo)/2)) lo (lo+m):=fun i j g1 g2 g3=>by
  rw[rm,rm,if_pos (by omega),if_pos (by omega)];exact hd _ _ (by omega) (by omega) (by omega)
 generalize hst1:setArr st (mirror (arrOf st) lo (lo+m) ((lo+m - lo)/2))=st1 at hr;have ea:arrOf st1=mirror (arrOf st) lo (lo+m) ((lo+m - lo)/2):=by rw[←hst1]
 rw[←ea]at u1;have sz:=hr.size;have dD1:=uH hr.pm dD;have ap1:=ap.perm hr.pm;refine wpS_bind (wpS_mono (wpS_forRange (I:=fun x c st''=>st1=st''/\c=(none,x)/\Up ρ (arrOf st1) lo (lo+x)) (Q:=fun c st''=>st1=st''/\∃m,c=(none,m)/\1<=m/\m<=n/\Up ρ (arrOf st1) lo (lo+m)) ?_ ?_ ⟨rfl,rfl,u1⟩) ?_)
 ·rintro x c _ hx1 hx ⟨rfl,rfl,hu⟩
  try dsimp only
  refine wpS_bind (jD C hr.kd dD1 (i:=lo+x) (j:=lo+x - 1) (by omega) (by omega) ?_)
  try dsimp only
  by_cases hless:rnk ρ (arrOf st1) (lo+x)<rnk ρ (arrOf st1) (lo+x - 1)
  ·rw[decide_eq_true hless,if_pos rfl];exact wpS_pure ⟨rfl,x,rfl,by omega,by omega,hu⟩
  ·rw[decide_eq_false hless,if_neg Bool.false_ne_true];have hne:=ap1.ne (i:=lo+x) (j:=lo+x - 1) (by omega) (by omega) (by omega);exact wpS_pure ⟨rfl,rfl,xS (by omega) hu (by omega)⟩
 ·rintro c _ ⟨rfl,rfl,hu⟩;rw[show max m n=n by omega]at hu ⊢;exact⟨rfl,n,rfl,h1,Nat.le_refl _,hu⟩
 rintro c _ ⟨rfl,m2,rfl,g1,g2,hu2⟩
 try dsimp only
 exact wpS_pure (h m2 st1 g1 g2 hr hu2)
end
end L2
namespace L2
open PySem PySem.W PyProof.Rows
def pos:Nat->List (List Keyed)->List (Nat×Nat)
 | _,[]=>[]
 | k,r::rs=>(k,r.length)::pos (k+r.length) rs
theorem nM:∀(k:Nat) (rs1 rs2:List (List Keyed)),pos k (rs1++rs2)=pos k rs1++pos (k+rs1.flatten.length) rs2
 | k,[],rs2=>by simp[pos]
 | k,r::rs1,rs2=>by
  show (k,r.length)::pos (k+r.length) (rs1++rs2)=(k,r.length)::(pos (k+r.length) rs1++_);rw[nM,List.flatten_cons,List.length_append,Nat.add_assoc]
theorem qN:∀(k:Nat) (rs:List (List Keyed)),(pos k rs).length=rs.length
 | _,[]=>rfl
 | k,r::rs=>by show (pos _ rs).length+1=_;rw[qN,List.length_cons]
abbrev se (e:Nat×Nat×Nat):Nat×Nat:=(e.1,e.2.1)
section
variable {prog:Program}{w:World}{A:Around}{E:Value->Shared->Prop}{s:Shared}{κ:SortKind}{D:Keyed->Prop}{ρ:Keyed->Int}{st:SortSt}{a₀:Array Keyed}
structure Gs (ρ:Keyed->Int)(κ:SortKind)(a₀:Array Keyed)(st:SortSt)(rs:List (List Keyed))(rest:List Keyed):Prop where
 ar:(arrOf st).toList=rs.flatten++rest
 rn:∀r∈rs,r≠[]/\bE ρ r
 pn:(pendingOf st).toList.map se=pos 0 rs
 kd:kindOf st=κ
 fl:failedOf st=none
 pm:(arrOf st).Perm a₀
theorem Gs.len {rs:List (List Keyed)}{rest:List Keyed} (g:Gs ρ κ a₀ st rs rest):(pendingOf st).size=rs.length:=by
 have:=congrArg List.length g.pn;rw[List.length_map,Array.length_toList,qN]at this;exact this
theorem wO {l1 l2:List Keyed}{a:Array Keyed} (ap:Apart ρ a) {P Q:List Keyed} (e:a.toList=P++l1++l2++Q):∀x∈l1,∀y∈l2,ρ x≠ρ y:=fun x hx y hy h=>by
 unfold Apart at ap;rw[e,List.map_append,List.map_append,List.map_append]at ap;have h1:=(List.nodup_append.mp (List.nodup_append.mp ap).1).2.2;exact h1 (ρ x) (List.mem_append_right _ (List.mem_map.mpr ⟨x,hx,rfl⟩)) (ρ y) (List.mem_map.mpr ⟨y,hy,rfl⟩) h
theorem FR (C:iT prog w A E s κ D ρ)(dD:∀x∈a₀.toList,D x)(ap:Apart ρ a₀){rs1 rs2:List (List Keyed)}{L R rest:List Keyed}{i:Nat} (hi:i=rs1.length) (g:Gs ρ κ a₀ st (rs1++L::R::rs2) rest) {Q:Bool->SortSt->Prop}
  (h:∀(st':SortSt) (M:List Keyed),Gs ρ κ a₀ st' (rs1++M::rs2) rest->Q true st'):wpS (model prog w) A E s (mergeAt' i) Q st:=by
 subst hi;obtain⟨nL,rL⟩:=g.rn L (List.mem_append_right _ (.head _));obtain⟨nR,rR⟩:=g.rn R (List.mem_append_right _ (.tail _ (.head _)));have ha:(arrOf st).toList=rs1.flatten++L++R++(rs2.flatten++rest):=by
  rw[g.ar,List.flatten_append,List.flatten_cons,List.flatten_cons];simp only[List.append_assoc]
 have hpos:pos 0 (rs1++L::R::rs2)=pos 0 rs1++(rs1.flatten.length,L.length)::(rs1.flatten.length+L.length,R.length)::pos (rs1.flatten.length+L.length+R.length) rs2:=by
  rw[nM,Nat.zero_add];rfl
 have hsz:(pendingOf st).toList.length=rs1.length+(rs2.length+2):=by
  rw[Array.length_toList,g.len,List.length_append,List.length_cons,List.length_cons]
 obtain⟨ps1,e1,e2,ps2,hps,hl1⟩:∃ps1 e1 e2 ps2,(pendingOf st).toList=ps1++e1::e2::ps2/\ps1.length=rs1.length:=by
  refine⟨(pendingOf st).toList.take rs1.length,(pendingOf st).toList[rs1.length]'(by omega),(pendingOf st).toList[rs1.length+1]'(by omega),(pendingOf st).toList.drop (rs1.length+1+1),?_,by rw[List.length_take];omega⟩;rw[←List.drop_eq_getElem_cons (show rs1.length+1<(pendingOf st).toList.length by omega),←List.drop_eq_getElem_cons (show rs1.length<(pendingOf st).toList.length by omega),List.take_append_drop]
 have hmap:=g.pn;rw[hps,hpos,List.map_append,List.map_cons,List.map_cons]at hmap;have hl1':(ps1.map se).length=(pos 0 rs1).length:=by rw[List.length_map,qN,hl1]
 obtain⟨m1,m2⟩:=List.append_inj hmap hl1';obtain⟨m2a,m2b⟩:=List.cons.inj m2;obtain⟨m2b,m2c⟩:=List.cons.inj m2b;obtain⟨x1,y1,pw1⟩:=e1;obtain⟨x2,y2,pw2⟩:=e2;obtain⟨rfl,rfl⟩:=Prod.mk.inj m2a;obtain⟨rfl,rfl⟩:=Prod.mk.inj m2b;have hp1:(pendingOf st)[rs1.length]? =some (rs1.flatten.length,L.length,pw1):=by
  rw[←Array.getElem?_toList,hps,←hl1,List.getElem?_append_right (Nat.le_refl _),Nat.sub_self];rfl
 have hp2:(pendingOf st)[rs1.length+1]? =some (rs1.flatten.length+L.length,R.length,pw2):=by
  rw[←Array.getElem?_toList,hps,←hl1,List.getElem?_append_right (by omega),Nat.add_sub_cancel_left];rfl
 refine P3 C g.kd ha nL nR rL rR (wO (ap.perm g.pm) ha) (uH g.pm dD) hp1 hp2 g.fl fun st' M kd fl pn ar rM pM=> ?_;have lM:M.length=L.length+R.length:=by rw[pM.length_eq,List.length_append]
 refine h st' M ⟨?_,fun r hr=> ?_,?_,kd,fl,?_⟩
 ·rw[ar,List.flatten_append,List.flatten_cons];simp only[List.append_assoc]
 ·rcases List.mem_append.mp hr with hr|hr
  ·exact g.rn r (List.mem_append_left _ hr)
  ·rcases List.mem_cons.mp hr with rfl|hr
   ·refine⟨fun z=> ?_,rM⟩;rw[z,List.length_nil]at lM;exact nL (List.length_eq_zero_iff.mp (by omega))
   ·exact g.rn r (List.mem_append_right _ (.tail _ (.tail _ hr)))
 ·have e:(pendingOf st').toList=ps1++(rs1.flatten.length,L.length+R.length,pw1)::ps2:=by
   rw[pn];have hlt:rs1.length+1<((pendingOf st).setIfInBounds rs1.length (rs1.flatten.length,L.length+R.length,pw1)).size:=by rw[Array.size_setIfInBounds,←Array.length_toList];omega
   rw[Array.eraseIdxIfInBounds,dif_pos hlt,Array.toList_eraseIdx,Array.toList_setIfInBounds,hps,←hl1,List.set_append_right _ _ (Nat.le_refl _),Nat.sub_self,List.eraseIdx_append_of_length_le (by omega),Nat.add_sub_cancel_left];rfl
  rw[e,List.map_append,List.map_cons,m1,m2c,nM,Nat.zero_add];show _++(rs1.flatten.length,L.length+R.length)::_=_++(rs1.flatten.length,M.length)::pos (rs1.flatten.length+M.length) rs2;rw[lM,Nat.add_assoc]
 ·refine Array.Perm.trans ?_ g.pm;rw[Array.perm_iff_toList_perm,ar,ha,List.append_assoc rs1.flatten L R];exact List.Perm.append_right _ (List.Perm.append_left _ pM)
end
end L2
namespace L2
open PySem PySem.W PyProof.Rows
section
variable {prog:Program}{w:World}{A:Around}{E:Value->Shared->Prop}{s:Shared}{κ:SortKind}{D:Keyed->Prop}{ρ:Keyed->Int}{st:SortSt}{a₀:Array Keyed}
theorem F9 {a:Array Keyed}{lo n:Nat} (h:Up ρ a lo (lo+n)) (hn:lo+n<=a.size):bE ρ ((a.toList.drop lo).take n):=by
 have hl:((a.toList.drop lo).take n).length=n:=by rw[List.length_take,List.length_drop,Array.length_toList];omega
 have e:∀(k:Nat) (hk:k<((a.toList.drop lo).take n).length),ρ (((a.toList.drop lo).take n)[k])=rnk ρ a (lo+k):=fun k hk=>by
  rw[List.getElem_take,List.getElem_drop];unfold rnk;have:lo+k<a.size:=by omega
  simp[Array.getD,this]
 rw[bE,List.pairwise_iff_getElem];intro i j hi hj hij;rw[e i hi,e j hj];exact h _ _ (by omega) (by omega) (by omega)
theorem xM:∀{rs:List (List Keyed)},(∀r∈rs,r≠[])->rs.length<=rs.flatten.length
 | [],_=>Nat.le_refl _
 | r::rs,h=>by
  have h1:=xM (rs:=rs) fun x hx=>h x (.tail _ hx);have h2:0<r.length:=List.length_pos_iff.mpr (h r (.head _));rw[List.flatten_cons,List.length_append,List.length_cons];omega
theorem Gs.rn_run {rs:List (List Keyed)}{rest:List Keyed}{lo hi:Nat}{st':SortSt} (g:Gs ρ κ a₀ st rs rest) (h:Rn κ st st' lo hi) (hlo:lo=rs.flatten.length):Gs ρ κ a₀ st' rs ((arrOf st').toList.drop lo):=by
 refine⟨?_,g.rn,by rw[h.pn];exact g.pn,h.kd,h.fl.trans g.fl,h.pm.trans g.pm⟩;have e:(arrOf st').toList.take lo=rs.flatten:=by
  have e2:(arrOf st).toList.take lo=rs.flatten:=by rw[g.ar,hlo,List.take_append_of_le_length (Nat.le_refl _),List.take_length]
  rw[←e2];refine List.ext_getElem? fun i=> ?_;rw[List.getElem?_take,List.getElem?_take]
  by_cases hi:i<lo
  ·rw[if_pos hi,if_pos hi,Array.getElem?_toList,Array.getElem?_toList,h.lw i hi]
  ·rw[if_neg hi,if_neg hi]
 rw[←e,List.take_append_drop]
theorem Gs.push {rs:List (List Keyed)}{rest run rest':List Keyed} (g:Gs ρ κ a₀ st rs rest) (he:rest=run++rest') (hn:run≠[]) (hr:bE ρ run) {lo n:Nat} (hlo:lo=rs.flatten.length) (hl:n=run.length):Gs ρ κ a₀ (setPending st ((pendingOf st).push (lo,n,0))) (rs++[run]) rest':=by
 refine⟨?_,fun r h=> ?_,?_,g.kd,g.fl,g.pm⟩
 ·show (arrOf st).toList=_;rw[g.ar,he,List.flatten_append,List.flatten_cons,List.flatten_nil,List.append_nil,List.append_assoc]
 ·rcases List.mem_append.mp h with h|h
  ·exact g.rn r h
  ·rw[List.mem_singleton.mp h];exact⟨hn,hr⟩
 ·show ((pendingOf st).push (lo,n,0)).toList.map se=_;rw[Array.toList_push,List.map_append,g.pn,nM,Nat.zero_add,hlo,hl];rfl
theorem AI {p:Array (Nat×Nat×Nat)}{i:Nat} (f:Nat×Nat×Nat->Nat×Nat×Nat) (hf:∀x,se (f x)=se x):(p.modify i f).toList.map se=p.toList.map se:=by
 refine List.ext_getElem? fun j=> ?_;rw[List.getElem?_map,List.getElem?_map,Array.getElem?_toList,Array.getElem?_toList,Array.getElem?_modify]
 by_cases h:i=j
 ·rw[if_pos h];cases p[j]? with
  | none=>rfl
  | some x=>show some (se (f x))=some (se x);rw[hf]
 ·rw[if_neg h]
theorem Gs.pow {rs:List (List Keyed)}{rest:List Keyed} (g:Gs ρ κ a₀ st rs rest) {i:Nat} (f:Nat×Nat×Nat->Nat×Nat×Nat) (hf:∀x,se (f x)=se x):Gs ρ κ a₀ (setPending st ((pendingOf st).modify i f)) rs rest :=
 ⟨g.ar,g.rn,(AI f hf).trans g.pn,g.kd,g.fl,g.pm⟩
theorem EC {α:Type}{l:List α}{i:Nat} (h:i+1<l.length):∃a x y b,l=a++x::y::b/\i=a.length:=by
 refine⟨l.take i,l[i]'(by omega),l[i+1]'(by omega),l.drop (i+1+1),?_,by rw[List.length_take];omega⟩;rw[←List.drop_eq_getElem_cons (show i+1<l.length by omega),←List.drop_eq_getElem_cons (show i<l.length by omega),List.take_append_drop]
theorem oT (C:iT prog w A E s κ D ρ)(dD:∀x∈a₀.toList,D x)(ap:Apart ρ a₀){rs:List (List Keyed)}{rest:List Keyed}{i:Nat} (hi:i+1<(pendingOf st).size) (g:Gs ρ κ a₀ st rs rest) {Q:Bool->SortSt->Prop}
  (h:∀(st':SortSt) (rs':List (List Keyed)),Gs ρ κ a₀ st' rs' rest->rs'.length+1=rs.length->Q true st'):wpS (model prog w) A E s (mergeAt' i) Q st:=by
 rw[g.len]at hi;obtain⟨a,x,y,b,rfl,hia⟩:=EC hi;refine FR C dD ap hia g fun st' M g'=>h st' _ g' ?_;simp only[List.length_append,List.length_cons];omega
theorem Gs.lenf {rs rs':List (List Keyed)}{rest:List Keyed}{st':SortSt} (g:Gs ρ κ a₀ st rs rest) (g':Gs ρ κ a₀ st' rs' rest):rs'.flatten.length=rs.flatten.length:=by
 have h1:=congrArg List.length g.ar;have h2:=congrArg List.length g'.ar;rw[List.length_append,Array.length_toList]at h1 h2;have:=g.pm.size_eq;have:=g'.pm.size_eq;omega
theorem Gs.tot {rs:List (List Keyed)}{rest:List Keyed} (g:Gs ρ κ a₀ st rs rest):rs.flatten.length+rest.length=a₀.size:=by
 have h1:=congrArg List.length g.ar;rw[List.length_append,Array.length_toList]at h1;have:=g.pm.size_eq;omega
theorem JE (C:iT prog w A E s κ D ρ)(dD:∀x∈(arrOf st).toList,D x)(ap:Apart ρ (arrOf st))(hk:kindOf st=κ)(hp:pendingOf st= #[])(hf:failedOf st=none){Q:Unit->SortSt->Prop}
  (h:∀st',(arrOf st').toList.Perm (arrOf st).toList->failedOf st'=none->bE ρ (arrOf st').toList->Q () st'):wpS (model prog w) A E s sortRuns' Q st:=by
 generalize ha:arrOf st=a₀ at *;have g0:Gs ρ κ a₀ st [] a₀.toList:=⟨by rw[ha];rfl,fun r hr=>(List.not_mem_nil hr).elim,by rw[hp];rfl,hk,hf,by rw[ha]⟩
 rw[sortRuns'_eq];refine wpS_bind (wpS_get ?_)
 dsimp only
 rw[ha];generalize hmr:minRun' a₀.size a₀.size 0=mr;refine wpS_bind (wpS_mono (wpS_forRange
  (I:=fun x c st'=>∃(lo:Nat) (rs:List (List Keyed)) (rest:List Keyed),c=(none,lo)/\x<=lo/\lo=rs.flatten.length/\Gs ρ κ a₀ st' rs rest)
  (Q:=fun c st'=>∃(lo:Nat) (rs:List (List Keyed)),c=(none,lo)/\Gs ρ κ a₀ st' rs []) ?step ?fin ⟨0,[],a₀.toList,rfl,Nat.le_refl _,rfl,g0⟩) ?post)
 case fin =>
  rintro c st' ⟨lo,rs,rest,rfl,hx,hlo,g⟩;have:=g.tot;have:rest=[]:=List.length_eq_zero_iff.mp (by omega);subst this;exact⟨lo,rs,rfl,g⟩
 case step =>
  rintro x c st1 _ hx ⟨lo,rs,rest,rfl,hxl,hlo,g⟩;have ht:=g.tot
  dsimp only
  by_cases hge:lo≥a₀.size
  ·rw[if_pos hge];have:rest=[]:=List.length_eq_zero_iff.mp (by omega);subst this;exact wpS_pure ⟨lo,rs,rfl,g⟩
  ·rw[if_neg hge];have sz1:=g.pm.size_eq;have key:∀(n:Nat) (st3:SortSt),1<=n->lo+n<=a₀.size->Rn κ st1 st3 lo a₀.size->Up ρ (arrOf st3) lo (lo+n)->∃run rest',Gs ρ κ a₀ st3 rs (run++rest')/\run≠[]/\bE ρ run/\n=run.length:=fun n st3 h1 h2 hr hu=>by
    have g3:=g.rn_run hr hlo;have sz3:=g3.pm.size_eq;have hl:(((arrOf st3).toList.drop lo).take n).length=n:=by rw[List.length_take,List.length_drop,Array.length_toList];omega
    refine⟨((arrOf st3).toList.drop lo).take n,((arrOf st3).toList.drop lo).drop n,?_,fun z=> ?_,F9 hu (by omega),hl.symm⟩
    ·rw[List.take_append_drop];exact g3
    ·rw[z,List.length_nil]at hl;omega
   have tail:∀(n:Nat) (st3:SortSt) (run rest':List Keyed),Gs ρ κ a₀ st3 rs (run++rest')->run≠[]->bE ρ run->n=run.length->∀(st4:SortSt) (rs4:List (List Keyed)),Gs ρ κ a₀ st4 rs4 (run++rest')->∃(lo':Nat) (rs':List (List Keyed)) (rest'':List Keyed),((none,lo+n):Option Unit×Nat)=(none,lo')/\x+1<=lo'/\lo'=rs'.flatten.length/\Gs ρ κ a₀ (setPending st4 ((pendingOf st4).push (lo,n,0))) rs' rest'':=fun n st3 run rest' g3 hn hr hl st4 rs4 g4=>by
    have e4:=g3.lenf g4;have hpos:0<run.length:=List.length_pos_iff.mpr hn;refine⟨lo+n,rs4++[run],rest',rfl,by omega,?_,g4.push rfl hn hr (by omega) hl⟩;rw[List.flatten_append,List.flatten_cons,List.flatten_nil,List.append_nil,List.length_append];omega
   refine wpS_bind (AZ C g.kd (uH g.pm dD) (ap.perm g.pm) (lo:=lo) (n:=a₀.size - lo) (by omega) (by omega) fun m st2 hm1 hm2 hr2 hu2=> ?_);rw[show lo+(a₀.size - lo)=a₀.size by omega]at hr2
   dsimp only
   by_cases hlt:m<mr
   ·rw[if_pos hlt];refine wpS_bind (wpS_lift (wpAny_rule ⟨rfl,?_⟩));have sz2:=hr2.size;refine wpS_bind (JF C hr2.kd (uH (hr2.pm.trans g.pm) dD) (ap.perm (hr2.pm.trans g.pm)) (lo:=lo) (n:=min (a₀.size - lo) mr) (ok:=m) (by omega) (by omega) hm1 hu2 fun st3 hr3 hu3=> ?_);simp only[Bool.not_true,Bool.false_eq_true,if_false];generalize hfo:min (a₀.size - lo) mr=n at *;obtain⟨run,rest',g3,hne,hri,hln⟩:=key n st3 (by omega) (by omega) (hr2.trans (hr3.wide (by omega))) hu3;refine wpS_bind (wpS_get ?_)
    try dsimp only
    cases hb:(pendingOf st3).back? with
    | none =>
     try dsimp only
     refine wpS_bind (wpS_modify (wpS_pure ?_));exact tail n st3 run rest' g3 hne hri hln st3 rs g3
    | some e =>
     obtain⟨s1,n1,pw1⟩:=e
     try dsimp only
     generalize power' a₀.size (2 * s1+n1) (2 * s1+n1+n1+n) a₀.size=pw;refine wpS_bind (wpS_mono (wpS_forRange (I:=fun _ c st'=>c=(none,())/\∃rs',Gs ρ κ a₀ st' rs' (run++rest')) (Q:=fun c st'=>c=(none,())/\∃rs',Gs ρ κ a₀ st' rs' (run++rest')) ?_ (fun _ _ h=>h) ⟨rfl,rs,g3⟩) ?_)
     ·rintro x c st4 _ _ ⟨rfl,rs4,g4⟩;refine wpS_bind (wpS_get ?_)
      try dsimp only
      by_cases h1:(pendingOf st4).size>1
      ·rw[if_pos h1];cases hq:(pendingOf st4)[(pendingOf st4).size - 2]? with
       | none=>exact wpS_pure ⟨rfl,rs4,g4⟩
       | some e =>
        obtain⟨e1,e2,older⟩:=e
        try dsimp only
        by_cases ho:older<=pw
        ·rw[if_pos ho];exact wpS_pure ⟨rfl,rs4,g4⟩
        ·rw[if_neg ho];refine wpS_bind (oT C dD ap (by omega) g4 fun st5 rs5 g5 _=> ?_);exact wpS_pure ⟨rfl,rs5,g5⟩
      ·rw[if_neg h1];exact wpS_pure ⟨rfl,rs4,g4⟩
     ·rintro c st4 ⟨rfl,rs4,g4⟩
      try dsimp only
      refine wpS_bind (wpS_modify (wpS_bind (wpS_modify (wpS_pure ?_))));exact tail n st3 run rest' g3 hne hri hln _ rs4 (g4.pow (fun x=>(x.1,x.2.1,pw)) fun x=>rfl)
   ·rw[if_neg hlt];obtain⟨run,rest',g3,hne,hri,hln⟩:=key m st2 hm1 (by omega) hr2 hu2;refine wpS_bind (wpS_get ?_)
    try dsimp only
    cases hb:(pendingOf st2).back? with
    | none =>
     try dsimp only
     refine wpS_bind (wpS_modify (wpS_pure ?_));exact tail m st2 run rest' g3 hne hri hln st2 rs g3
    | some e =>
     obtain⟨s1,n1,pw1⟩:=e
     try dsimp only
     generalize power' a₀.size (2 * s1+n1) (2 * s1+n1+n1+m) a₀.size=pw;refine wpS_bind (wpS_mono (wpS_forRange (I:=fun _ c st'=>c=(none,())/\∃rs',Gs ρ κ a₀ st' rs' (run++rest')) (Q:=fun c st'=>c=(none,())/\∃rs',Gs ρ κ a₀ st' rs' (run++rest')) ?_ (fun _ _ h=>h) ⟨rfl,rs,g3⟩) ?_)
     ·rintro x c st4 _ _ ⟨rfl,rs4,g4⟩;refine wpS_bind (wpS_get ?_)
      try dsimp only
      by_cases h1:(pendingOf st4).size>1
      ·rw[if_pos h1];cases hq:(pendingOf st4)[(pendingOf st4).size - 2]? with
       | none=>exact wpS_pure ⟨rfl,rs4,g4⟩
       | some e =>
        obtain⟨e1,e2,older⟩:=e
        try dsimp only
        by_cases ho:older<=pw
        ·rw[if_pos ho];exact wpS_pure ⟨rfl,rs4,g4⟩
        ·rw[if_neg ho];refine wpS_bind (oT C dD ap (by omega) g4 fun st5 rs5 g5 _=> ?_);exact wpS_pure ⟨rfl,rs5,g5⟩
      ·rw[if_neg h1];exact wpS_pure ⟨rfl,rs4,g4⟩
     ·rintro c st4 ⟨rfl,rs4,g4⟩
      try dsimp only
      refine wpS_bind (wpS_modify (wpS_bind (wpS_modify (wpS_pure ?_))));exact tail m st2 run rest' g3 hne hri hln _ rs4 (g4.pow (fun x=>(x.1,x.2.1,pw)) fun x=>rfl)
 case post =>
  rintro c st' ⟨lo,rs,rfl,g⟩
  dsimp only
  refine wpS_bind (wpS_mono (wpS_forRange (I:=fun x c st''=>∃rs:List (List Keyed),c=(none,())/\Gs ρ κ a₀ st'' rs []/\rs.length<=max 1 (a₀.size - x)) (Q:=fun c st''=>∃rs:List (List Keyed),c=(none,())/\Gs ρ κ a₀ st'' rs []/\rs.length<=1) ?_ ?_ ⟨rs,rfl,g,?_⟩) ?_)
  ·rintro x c st'' _ hx ⟨rs,rfl,g,hl⟩;refine wpS_bind (wpS_get ?_)
   try dsimp only
   by_cases h1:(pendingOf st'').size<=1
   ·rw[if_pos h1];exact wpS_pure ⟨rs,rfl,g,by rw[←g.len];exact h1⟩
   ·rw[if_neg h1];have gl:=g.len;have any:∀b:Prop,[Decidable b]->(if b then (pendingOf st'').size - 2 - 1 else (pendingOf st'').size - 2)+1<(pendingOf st'').size:=fun b _=>by
     split<;>omega
    refine wpS_bind (oT C dD ap (any _) g fun st5 rs5 g5 h5=> ?_);exact wpS_pure ⟨rs5,rfl,g5,by omega⟩
  ·rintro c st'' ⟨rs,rfl,g,hl⟩;exact⟨rs,rfl,g,by omega⟩
  ·have:=xM fun r hr=>(g.rn r hr).1;have:=g.tot;simp only[List.length_nil]at this;omega
  ·rintro c st'' ⟨rs,rfl,g,hl⟩;refine wpS_pure (h st'' (Array.perm_iff_toList_perm.mp g.pm) g.fl ?_);rw[g.ar,List.append_nil]
   match rs,hl,g.rn with
   | [],_,_=>exact List.Pairwise.nil
   | [r],_,hr=>rw[List.flatten_cons,List.flatten_nil,List.append_nil];exact(hr r (.head _)).2
   | _::_::_,hl,_=>simp only[List.length_cons]at hl;omega
end
end L2
namespace L2
open PySem PySem.W PyProof.Rows PySem.Calls
section
variable {prog:Program}{w:World}{A:Around}{E:Value->Shared->Prop}{s:Shared}{α:Type}{f:Value->α}{lt:α->α->Bool}{d:α}{l:List α}
def gN (f:Value->α)(lt:α->α->Bool)(l:List α)(v:Value):Int:=((l.countP fun y=>lt y (f v):Nat):Int)
theorem tY (o:Ord lt l){x y:Value}(hx:f x∈l)(hy:f y∈l)(h:lt (f x) (f y)=true):gN f lt l x<gN f lt l y :=
 Int.ofNat_lt.mpr (mF (l:=l) (p:=fun z=>lt z (f x)) (q:=fun z=>lt z (f y)) (fun z hz h'=>o.tr z hz _ hx _ hy h' h) ⟨f x,hx,h,o.irr _ hx⟩)
theorem GW (o:Ord lt l){x y:Value}(hx:f x∈l)(hy:f y∈l):decide (gN f lt l x<gN f lt l y)=lt (f x) (f y):=by
 cases h:lt (f x) (f y) with
 | true=>exact decide_eq_true (tY o hx hy h)
 | false =>
  refine decide_eq_false fun h1=> ?_
  by_cases e:f x=f y
  ·unfold gN at h1;rw[e]at h1;exact Int.lt_irrefl _ h1
  ·rcases o.tot _ hx _ hy e with h2|h2
   ·rw[h]at h2;cases h2
   ·have:=tY (f:=f) o hy hx h2;omega
theorem l9 {vs:List Value}{x:Keyed} (h:x∈(vs.toArray.zip vs.toArray).toList):x.1∈vs/\x.2=x.1:=by
 rw[Array.toList_zip]at h;rw[List.zip_eq_zipWith]at h;have:∀l:List Value,x∈List.zipWith Prod.mk l l->x.1∈l/\x.2=x.1:=by
  intro l
  induction l with
  | nil=>intro h;cases h
  | cons a l ih =>
   intro h;rw[List.zipWith_cons_cons]at h;rcases List.mem_cons.mp h with rfl|h
   ·exact⟨.head _,rfl⟩
   ·exact⟨.tail _ (ih h).1,(ih h).2⟩
 exact this _ h
theorem CL {vs:List Value}{b:Array Keyed} (p:b.toList.Perm (vs.toArray.zip vs.toArray).toList):(b.map (·.2)).toList.Perm vs:=by
 rw[Array.toList_map];refine(p.map _).trans ?_;rw[Array.toList_zip,List.map_snd_zip];exact Nat.le_refl _
theorem MF (o:Ord lt l)(nd:l.Nodup){vs:List Value}(hf:vs.map f=l){out:List Value}(p:out.Perm vs)(up:out.Pairwise fun x y=>gN f lt l x<gN f lt l y):out=bB Value.none (fun i j=>lt (l.getD i d) (l.getD j d)) vs:=by
 have hm:∀{x:Value},x∈vs->f x∈l:=fun h=>hf▸List.mem_map.mpr ⟨_,h,rfl⟩;have p2:=jH (d:=Value.none) (l:=vs) (fun i j=>lt (l.getD i d) (l.getD j d));have pw:=qF (d:=d) o nd;rw[←hf,w4 f Value.none d,List.pairwise_map,hf]at pw;refine qT (lt:=fun x y=>lt (f x) (f y)) (fun x hx=>o.irr _ (hm (p.mem_iff.mp hx))) (fun x hx y hy z hz h1 h2=>o.tr _ (hm (p.mem_iff.mp hx)) _ (hm (p.mem_iff.mp hy)) _ (hm (p.mem_iff.mp hz)) h1 h2) (p.trans p2.symm) ?_ pw;refine up.imp_of_mem fun {x y} hx hy h=> ?_;rw[←GW (f:=f) o (hm (p.mem_iff.mp hx)) (hm (p.mem_iff.mp hy))];exact decide_eq_true h
theorem NI {vs:List Value}{κ:SortKind} (hf:vs.map f=l) (o:Ord lt l) (nd:l.Nodup)
  (hc:∀i j,i<vs.length->j<vs.length->∀C,C (lt (l.getD i d) (l.getD j d)) s->kas_ask prog w A κ vs i j C s){Q:SortSt->Shared->Prop}
  (h:∀st',(arrOf st').map (·.2)=(bB Value.none (fun i j=>lt (l.getD i d) (l.getD j d)) vs).toArray->failedOf st'=none->Q st' s) :
  wpAny (model prog w) A ((sortRuns').run (SortSt.mk' κ (vs.toArray.zip vs.toArray) #[] 7 none)) (fun r s'=>Q r.2 s') E s:=by
 have hm:∀{x:Value},x∈vs->f x∈l:=fun h=>hf▸List.mem_map.mpr ⟨_,h,rfl⟩;have C:iT prog w A E s κ (fun x=>x.1∈vs/\x.2=x.1) (fun x=>gN f lt l x.1):=by
  refine⟨fun {x y st Q} hx hy hk hQ=> ?_⟩;rw[lt'_eq];refine wpS_bind (wpS_get ?_);rw[hk];obtain⟨i,hi,ei⟩:=List.getElem_of_mem hx.1;obtain⟨j,hj,ej⟩:=List.getElem_of_mem hy.1;have e:∀(k:Nat) (hk:k<vs.length),l.getD k d=f vs[k]:=fun k hk=>by
   rw[←hf,List.getD_eq_getElem?_getD,List.getElem?_map,List.getElem?_eq_getElem hk];rfl
  have hcc:=hc i j hi hj (fun b s'=>s'=s/\b=decide (gN f lt l x.1<gN f lt l y.1)) ⟨rfl,by rw[GW o (hm hx.1) (hm hy.1),e i hi,e j hj,ei,ej]⟩;unfold kas_ask at hcc;have g:∀(k:Nat) (hk:k<vs.length),vs.getD k Value.none=vs[k]:=fun k hk=>by rw[List.getD_eq_getElem?_getD,List.getElem?_eq_getElem hk];rfl
  rw[g i hi,g j hj,ei,ej]at hcc;refine wpS_bind (wpS_lift (wpAny_attempt (wpAny_mono hcc (fun b s' hb=>⟨hb.1,?_⟩) fun _ _ z=>z.elim)));rw[hb.2];exact wpS_pure hQ
 have ap:Apart (fun x:Keyed=>gN f lt l x.1) (vs.toArray.zip vs.toArray):=by
  unfold Apart;have e:(vs.toArray.zip vs.toArray).toList.map (fun x:Keyed=>gN f lt l x.1)=vs.map (gN f lt l):=by
   show (vs.toArray.zip vs.toArray).toList.map (gN f lt l∘Prod.fst)=_;rw[←List.map_map,Array.toList_zip,List.map_fst_zip];exact Nat.le_refl _
  rw[e,List.nodup_iff_pairwise_ne,List.pairwise_map];have nd':vs.Pairwise fun x y=>f x≠f y:=by rw[←hf]at nd;exact List.pairwise_map.mp nd
  refine nd'.imp_of_mem fun {x y} hx hy hne h=> ?_;rcases o.tot _ (hm hx) _ (hm hy) hne with h2|h2
  ·have:=tY (f:=f) o (hm hx) (hm hy) h2;omega
  ·have:=tY (f:=f) o (hm hy) (hm hx) h2;omega
 have:=JE (st:=SortSt.mk' κ (vs.toArray.zip vs.toArray) #[] 7 none) (Q:=fun _ st'=>Q st' s) C (fun x hx=>l9 hx) ap rfl rfl rfl fun st' p hfl hr=>by
  refine h st' ?_ hfl
  apply Array.toList_inj.mp
  show _=bB Value.none (fun i j=>lt (l.getD i d) (l.getD j d)) vs;refine MF o nd hf (CL p) ?_;rw[Array.toList_map,List.pairwise_map];refine List.Pairwise.imp_of_mem (fun {x y} hx hy h=> ?_) hr;rw[(l9 (p.mem_iff.mp hx)).2,(l9 (p.mem_iff.mp hy)).2];exact h
 unfold wpS at this;refine wpAny_mono this (fun r s' hr=> ?_) fun _ _ e=>e;rw[hr.1];exact hr.2
theorem DS {a:Addr}{vs:List Value}{n:Nat}{P:PySem.Fin->Shared->Prop} (f:Value->α) (lt:α->α->Bool) (d:α) {l:List α} (κ:SortKind) (hf:vs.map f=l) (o:Ord lt l) (nd:l.Nodup) (ho:s.heap.get? a=some (seqObj "list" vs.toArray n)) (hz:vs.length<=sizeLine)
  (hk:2<=vs.length->∀h',kN a s.heap h'->∀R:SortKind->Shared->Prop,R κ { s with heap:=h' }->wpAny (model prog w) A (keyKind' vs.toArray) R (fun _ _=>False) { s with heap:=h' })
  (hc:2<=vs.length->∀h',kN a s.heap h'->∀i j,i<vs.length->j<vs.length->∀C,C (lt (l.getD i d) (l.getD j d)) { s with heap:=h' }->kas_ask prog w A κ vs i j C { s with heap:=h' })
  (h:∀h' e,kN a s.heap h'->h'.get? a=some (seqObj "list" (bB Value.none (fun i j=>lt (l.getD i d) (l.getD j d)) vs).toArray e)->P (.done (.ret .none)) { s with heap:=h' }) :
  wpAny (model prog w) A (Builtin.«list.sort» ⟨[.ref a],[]⟩) P E s:=by
 generalize hg1:s.heap.update a (Obj.mapSeq fun _=>(#[]:Array Value))=g1;have sb1:Heap.SameBut a s.heap g1:=hg1▸Heap.SameBut.update s.heap a (Obj.mapSeq fun _=>(#[]:Array Value));obtain⟨e1,o1⟩:∃e1,g1.get? a=some (seqObj "list" #[] e1):=hg1▸⟨_,get?_update_seq ho fun _=> #[]⟩;have lt1:a<g1.objs.size:=Heap.lt_size o1;have kp:kN a s.heap ((g1.push (seqObj "tuple" vs.toArray 0)).push (seqObj "list" #[] 0)):=fun b o hb q =>
  Heap.get?_push_of_some _ (Heap.get?_push_of_some _ ((sb1.2 b hb).trans q))
 have o3:((g1.push (seqObj "tuple" vs.toArray 0)).push (seqObj "list" #[] 0)).get? a=some (seqObj "list" #[] e1):=Heap.get?_push_of_some _ (Heap.get?_push_of_some _ o1);generalize hg3:(g1.push (seqObj "tuple" vs.toArray 0)).push (seqObj "list" #[] 0)=g3 at kp o3;have fin:∀out:List Value,out.length=vs.length->out=bB Value.none (fun i j=>lt (l.getD i d) (l.getD j d)) vs->wpAny (model prog w) A (do
   let touched:=(←seqEpoch a) !=e1
   Builtin.List.listUpdate (.ref a) fun _=>out.toArray
   if let some e:=(none:Option Value) then rule "list.sort.comparison-raised";throw e
   if touched then rule "list.sort.modified";raiseError "ValueError" "list modified during sort"
   ret .none) P E { s with heap:=g3 }:=by
  intro out hl ho';obtain⟨e2,o4⟩:∃e2,(g3.update a (Obj.mapSeq fun _=>out.toArray)).get? a=some (seqObj "list" out.toArray e2):=⟨_,get?_update_seq o3 fun _=>out.toArray⟩
  refine wpAny_bind (seqEpoch_at (s:={ s with heap:=g3 }) o3 rfl ?_);refine wpAny_bind (listUpdate_at (s:={ s with heap:=g3 }) o3 rfl ?_ (Nat.zero_le _) (by rw[List.size_toArray];omega));simp only[bne_self_eq_false,Bool.false_eq_true,if_false];refine wpAny_pure (h _ e2 (fun b o hb q=> ?_) (ho'▸o4));exact((Heap.SameBut.update g3 a (Obj.mapSeq fun _=>out.toArray)).2 b hb).trans (kp b o hb q)
 rw[list_sort_plain];refine wpAny_bind (listItems_at ho rfl (wpAny_bind (listUpdate_at ho rfl ?_ (by rw[List.size_toArray];omega) (Nat.zero_le _))));rw[hg1];refine wpAny_bind (seqEpoch_at (s:={ s with heap:=g1 }) o1 rfl ?_);refine wpAny_bind (wpAny_newTuple ?_ (by exact hz));refine wpAny_bind (wpAny_newList ?_ (Nat.zero_le _));refine wpAny_holding ?_;show wpAny (model prog w) A _ P E { s with heap:=(g1.push (seqObj "tuple" vs.toArray 0)).push (seqObj "list" #[] 0) };rw[hg3]
 dsimp only
 by_cases h2:vs.toArray.size<2
 ·rw[if_pos h2,if_pos h2];have h2':vs.length<2:=by rwa [List.size_toArray]at h2
  refine wpAny_bind (wpAny_pure ?_);rw[StateT.run_pure];refine wpAny_bind (wpAny_pure ?_)
  dsimp only
  have ez:(arrOf (SortSt.mk' general' (vs.toArray.zip vs.toArray) #[] 7 none)).map (·.2)=vs.toArray:=by
   show (vs.toArray.zip vs.toArray).map (·.2)=_
   apply Array.toList_inj.mp
   rw[Array.toList_map,Array.toList_zip,List.map_snd_zip];exact Nat.le_refl _
  rw[ez];exact fin vs rfl (by unfold bB;rw[if_pos h2'])
 ·rw[if_neg h2,if_neg h2];have h2':2<=vs.length:=by rw[List.size_toArray]at h2;omega
  refine wpAny_bind (wpAny_mono (hk h2' _ kp (fun κ' s'=>κ'=κ/\s'={ s with heap:=g3 }) ⟨rfl,rfl⟩) ?_ fun _ _ x=>x.elim);rintro _ _ ⟨rfl,rfl⟩;refine wpAny_bind (wpAny_mono (NI (d:=d) (Q:=fun st' s'=>(arrOf st').map (·.2)=(bB Value.none (fun i j=>lt (l.getD i d) (l.getD j d)) vs).toArray/\failedOf st'=none/\s'={ s with heap:=g3 }) hf o nd (hc h2' _ kp) fun st' a1 a2=>⟨a1,a2,rfl⟩) ?_ fun _ _ e=>e);rintro ⟨⟨⟩,st'⟩ _ ⟨har,hfl,rfl⟩
  dsimp only
  rw[har,hfl];exact fin _ (jH _).length_eq rfl
theorem zW {p:Addr}{vs:List Value}{Q:Value->Shared->Prop} (f:Value->α) (lt:α->α->Bool) (d:α) {l:List α} (κ:SortKind) (hf:vs.map f=l) (o:Ord lt l) (nd:l.Nodup) (hl:s.heap.IsList p vs.toArray) (hz64:vs.length<=sizeLine)
  (hk:2<=vs.length->∀h',(∀b o,s.heap.get? b=some o->h'.get? b=some o)->∀R:SortKind->Shared->Prop,R κ { s with heap:=h' }->wpAny (model prog w) A.in1.in1 (keyKind' vs.toArray) R (fun _ _=>False) { s with heap:=h' })
  (hc:2<=vs.length->∀h',(∀b o,s.heap.get? b=some o->h'.get? b=some o)->∀i j,i<vs.length->j<vs.length->∀C,C (lt (l.getD i d) (l.getD j d)) { s with heap:=h' }->kas_ask prog w A.in1.in1 κ vs i j C { s with heap:=h' })
  (h:∀D h' e,s.heap.objs.size<=D->(∀b o,s.heap.get? b=some o->h'.get? b=some o)->h'.get? D=some (seqObj "list" (bB Value.none (fun i j=>lt (l.getD i d) (l.getD j d)) vs).toArray e)->Q (.ref D) { s with heap:=h' }) :
  wpAny (model prog w) A (call (.builtin "sorted") [.ref p]) Q E s:=by
 refine Calls.call_function_entry kind_sorted plain_sorted entry_sorted (args_sorted1 _) ?_;unfold Builtin.«sorted»;refine wpAny_bind (m:=checkCount "sorted" 1 1 _) (wpAny_pure (wpAny_bind (collect_list hl ?_ hz64)));refine wpAny_bind (wpAny_newList ?_ hz64);generalize hq:(s.heap.push (seqObj "list" #[] 0)).update s.heap.objs.size (Obj.mapSeq (·++vs.toArray))=q;have qs:q.objs.size=s.heap.objs.size+1:=by rw[←hq,Heap.size_update,size_push']
 have qk:∀b o,s.heap.get? b=some o->q.get? b=some o:=fun b o e=>by
  have bl:b<s.heap.objs.size:=Heap.lt_size e;rw[←hq,Heap.get?_update_ne _ _ _ _ (Nat.ne_of_lt bl),Heap.get?_push_ne _ _ _ (Nat.ne_of_lt bl)];exact e
 have oD:(q.push (seqObj "list" vs.toArray 0)).get? q.objs.size=some (seqObj "list" vs.toArray 0):=Heap.get?_push_size _ rfl;have kD:∀h',kN q.objs.size (q.push (seqObj "list" vs.toArray 0)) h'->∀b o,s.heap.get? b=some o->h'.get? b=some o:=fun h' k b o e =>
  k b o (Nat.ne_of_lt (by rw[qs];exact Nat.lt_succ_of_lt (Heap.lt_size e))) (Heap.get?_push_of_some _ (qk b o e))
 refine wpAny_bind (wpAny_holding (wpAny_call_entry slot_list_sort ⟨_,oD,rfl⟩ entry_list_sort ?body (args_list_sort _)))
 case body =>
  refine DS (s:={ s with heap:=q.push (seqObj "list" vs.toArray 0) }) f lt d κ hf o nd oD hz64 (fun h2 h' k=>hk h2 h' (kD h' k)) (fun h2 h' k=>hc h2 h' (kD h' k)) fun h' e k o'=> ?_;exact⟨_,rfl,wpAny_pure ⟨_,rfl,h _ h' e (by show s.heap.objs.size<=q.objs.size;rw[qs];exact Nat.le_succ _) (kD h' k) o'⟩⟩
end
end L2
namespace L2
open PySem PySem.W PyProof.Rows PySem.Calls
section
variable {X:Cx}{H:Hp}
def vK:V->Key
 | .int i=> .inl i
 | .str x=> .inr x
 | _=> .inl 0
theorem OM:∀k:Key,vK (kV k)=k
 | .inl _=>rfl
 | .inr _=>rfl
def y8 (H:Hp):Value->List Key
 | .ref p=>match H p with|some (.tup xs)=>xs.map vK|_=>[]
 | _=>[]
theorem FQ {p:Addr}{r:List Key} (e:H p=some (.tup (r.map kV))):y8 H (.ref p)=r:=by
 show (match H p with|some (.tup xs)=>xs.map vK|_=>[])=r;rw[e];show (r.map kV).map vK=r;rw[List.map_map];exact(List.map_congr_left fun k _=>OM k).trans (List.map_id _)
theorem t7:∀{vs:List V}{rs:List (List Key)}{us:List Value},KRows H vs rs->Vals vs us->us.map (y8 H)=rs
 | _,_,_,.nil,.nil=>rfl
 | _::_,r::_,_::_,.cons ⟨p,hv,e⟩ q,.cons rv rt=>by
  subst hv;cases rv;rw[List.map_cons,FQ e,t7 q rt]
def v3 (K:PySem.W.Frag):List V->Hp->VK->Prop:=fun xs H Q=>∃p vs rs sh,xs=[.ref p]/\SqL K H p vs/\KRows H vs rs/\rs.Nodup/\(∀r∈rs,r.map cX=sh)/\sh≠[]/\∀l,H l=none->Q (.ref l) (upd H l (.lst (y9 rs vs)))
theorem lK:d9 X (.builtin "sorted") (v3 X.K):=by
 intro pins s σ H xs us Q I r h;obtain⟨p,vs,rs,sh,rfl,hq,kr,nd,hs,hn,q⟩:=h;obtain⟨u,rfl,rx⟩:=j5 r;cases rx;obtain⟨its,rv,pl,hz⟩:=I.list hq;have hl:=rv.length;have hT:∃T:Value,(T==T)=true/\(T !=Value.type "tuple")=true/\∀(h':Heap) (k:Key) (u:Value),sh.head? =some (cX k)->RelV (kV k) u->Looks (model X.prog X.w) h' (typeOf u) T:=by
  cases sh with
  | nil=>exact absurd rfl hn
  | cons b sh =>
   cases b with
   | true =>
    refine⟨.type "int",rfl,by decide,fun h' k u hk ru=> ?_⟩;cases k with
    | inl i=>obtain⟨t,rfl⟩:=ru;exact Looks.of_pure rfl
    | inr x=>cases hk
   | false =>
    refine⟨.type "str",rfl,by decide,fun h' k u hk ru=> ?_⟩;cases k with
    | inl i=>cases hk
    | inr x=>obtain⟨t,rfl⟩:=ru;exact Looks.of_pure rfl
 obtain⟨T,t1,t2,t3⟩:=hT;refine zW (y8 H) c9 [] (tuples' true) (t7 kr rv) (vB ⟨sh,hs⟩) nd pl.isList (by omega) (fun h2 h' kp R hR=> ?_) (fun h2 h' kp i j hi hj C hC=> ?_) fun D h' e hD kp o'=> ?_
 ·obtain⟨fs,f1,f2,f3⟩:=rY I kp (fun k u=>t3 h' k u) kr rv hs hn;refine kat_kind (s:={ s with heap:=h' }) f1 (by omega) f3 t1 ?_;rw[t2];exact hR
 ·obtain⟨p1,r1,x1,y1,z1⟩:=kr.get (i:=i) (List.getElem?_eq_getElem (by omega));obtain⟨p2,r2,x2,y2,z2⟩:=kr.get (i:=j) (List.getElem?_eq_getElem (by omega));obtain⟨u1,v1,w1⟩:=rv.get (List.getElem?_eq_getElem (show i<vs.length by omega));obtain⟨u2,v2,w2⟩:=rv.get (List.getElem?_eq_getElem (show j<vs.length by omega));rw[x1]at w1;rw[x2]at w2;cases w1;cases w2;obtain⟨o1,us1,n1,g1,c1,d1,l1⟩:=qQ I z1;obtain⟨o2,us2,n2,g2,c2,d2,l2⟩:=qQ I z2;have s1:=hs r1 (List.mem_of_getElem? y1);have s2:=hs r2 (List.mem_of_getElem? y2);have e1:=l1.length;have e2:=l2.length;rw[List.length_map]at e1 e2;have e3:r1.length=r2.length:=by rw[←List.length_map (f:=cX),s1,←s2,List.length_map]
  unfold kas_ask;rw[List.getD_eq_getElem?_getD,List.getD_eq_getElem?_getD,v1,v2];refine kat_lt (s:={ s with heap:=h' }) (kp _ _ g1) d1 (kp _ _ g2) d2 ?_;rw[show decide (us1.toArray.size<us2.toArray.size)=false from decide_eq_false (by rw[List.size_toArray,List.size_toArray];omega)];refine AN 0 (s1.trans s2.symm) l1 l2 ?_;have ec:lD rs i j=c9 r1 r2:=by
   unfold lD;rw[List.getD_eq_getElem?_getD,List.getD_eq_getElem?_getD,y1,y2];rfl
  rw[show c9 (rs.getD i []) (rs.getD j [])=c9 r1 r2 from ec]at hC;exact hC
 ·exact⟨.ref D,_,I.laid (t':=s.toks) kp hD (show ObjOk X.prog X.w _ h' _ (.lst _) from⟨by show (bB _ _ _).length<=_;rw[qX];exact hz,_,e,vP _ rv,o'⟩),rfl,q _ (I.hok.fresh hD)⟩
end
end L2
namespace L2
open PySem PySem.W PyProof.Rows
section
variable {prog:Program}{w:World}{A:Around}{E:Value->Shared->Prop}{s:Shared}
theorem BZ {e it l:Addr}{c:Int}{i:Nat}{items:Array Value}{x old:Value}{Q:Option Value->Shared->Prop}
  (he:IsEnum s.heap e it c old)(hit:s.heap.IsListIter it l i)(hl:s.heap.IsList l items)(hx:items[i]? =some x)(hne:e≠it)
  (hQ:∀h',IsEnumOut h' e it (c+1) x s.heap.objs.size->h'.IsListIter it l (i+1) →
   h'.get? s.heap.objs.size=some { cls:= .type "tuple",data:= .seq #[.int c s.toks,x] } →
   (∀b o,b≠e->b≠it->s.heap.get? b=some o->h'.get? b=some o)->Q (some (.ref s.heap.objs.size)) { s with heap:=h',toks:=s.toks+1 }) :
  wpAny (model prog w) A (pyNext (.ref e)) Q E s:=by
 have hT:s.TypeIs (.ref e) "enumerate" :=⟨_,he,rfl⟩
 have en:it≠e:=Ne.symm hne;have lt:e<s.heap.objs.size:=Heap.lt_size he;obtain⟨hp,g,d,tk,os⟩:=s;unfold pyNext;refine wpAny_bind (wpAny_attempt (wpAny_callSpecial?_slot (name:=Str.ofString "__next__") hT F.slot_enumerate_next
  (wpAny_call_entry F.slot_enumerate_next hT F.entry_enumerate_next ?_ (F.args_enumerate_next_1 _))))
 show wpAny _ _ (field (.ref e) 2 >>= _) _ _ _;refine wpAny_bind (wpAny_field he rfl (x:= .ref it) rfl (wpAny_bind (wpAny_nextOf_list_item hit hl hx fun h1 i1 (b1:Heap.SameBut it hp h1)=> ?_)));have e1:IsEnum h1 e it c old:=(b1.2 e hne).trans he;refine wpAny_bind (wpAny_field (s:=⟨h1,g,d,tk,os⟩) e1 rfl (x:=rawInt c) rfl ?_);refine wpAny_bind (wpAny_field (s:=⟨h1,g,d,tk,os⟩) e1 rfl (x:= .none) rfl ?_);show wpAny _ _ (mkInt c >>= _) _ _ ⟨h1,g,d,tk,os⟩;refine wpAny_bind (wpAny_mkInt ?_);refine wpAny_bind (wpAny_setField_rec (s:=⟨h1,g,d,tk+1,os⟩) e1 (by simp) fun h2 (e2:IsEnum h2 e it (c+1) old) (b2:Heap.SameBut e h1 h2)=> ?_);refine wpAny_bind (wpAny_setField_rec (s:=⟨h2,g,d,tk+1,os⟩) e2 (by simp) fun h3 (e3:IsEnum h3 e it (c+1) old) (b3:Heap.SameBut e h2 h3)=> ?_);refine wpAny_bind (wpAny_newTuple (s:=⟨h3,g,d,tk+1,os⟩) ?_);have z3:h3.objs.size=hp.objs.size:=by rw[b3.1,b2.1,b1.1]
 have e4:IsEnum (h3.push { cls:= .type "tuple",data:= .seq #[.int c tk,x] }) e it (c+1) old:=Heap.get?_push_of_some _ e3;have t4:(h3.push { cls:= .type "tuple",data:= .seq #[.int c tk,x] }).get? hp.objs.size=some { cls:= .type "tuple",data:= .seq #[.int c tk,x] }:=by rw[←z3];exact Heap.get?_push_size _ rfl
 have k4:∀b o,b≠e->b≠it->hp.get? b=some o->(h3.push { cls:= .type "tuple",data:= .seq #[.int c tk,x] }).get? b=some o:=fun b o n1 n2 q =>
  Heap.get?_push_of_some _ (b3.extBut b o n1 (b2.extBut b o n1 (b1.extBut b o n2 q)))
 have i4:(h3.push { cls:= .type "tuple",data:= .seq #[.int c tk,x] }).IsListIter it l (i+1):=by
  obtain⟨o,ho,r⟩:=(i1.extBut b2.extBut en).extBut b3.extBut en;exact⟨o,Heap.get?_push_of_some _ ho,r⟩
 show wpAny _ _ (Builtin.SmallTypes.ownedTupleIsFree (.ref e) >>= _) _ _ ⟨h3.push { cls:= .type "tuple",data:= .seq #[.int c tk,x] },g,d,tk+1,os⟩;rw[z3];generalize h3.push { cls:= .type "tuple",data:= .seq #[.int c tk,x] }=h4 at e4 t4 k4 i4 ⊢;unfold Builtin.SmallTypes.ownedTupleIsFree;refine wpAny_bind (wpAny_bind (wpAny_field (s:=⟨h4,g,d,tk+1,os⟩) e4 rfl (x:= .none) rfl (wpAny_pure ?_)));rw[if_pos rfl];refine wpAny_bind (wpAny_rule (wpAny_bind (wpAny_field (s:=⟨h4,g,d,tk+1,os⟩) e4 rfl (x:=old) rfl ?_)));refine wpAny_bind (wpAny_setField_rec (s:=⟨h4,g,d,tk+1,os⟩) e4 (by simp) fun h5 (e5:IsEnum h5 e it (c+1) x) (b5:Heap.SameBut e h4 h5)=> ?_);unfold Builtin.SmallTypes.ownedTupleHandOut;refine wpAny_bind (wpAny_bind (wpAny_setField_rec (s:=⟨h5,g,d,tk+1,os⟩) e5 (by simp) fun h6 (e6:IsEnumOut h6 e it (c+1) x hp.objs.size) (b6:Heap.SameBut e h5 h6)=> ?_));refine wpAny_setField_rec (s:=⟨h6,g,d,tk+1,os⟩) e6 (by simp) fun h7 (e7:IsEnumOut h7 e it (c+1) x hp.objs.size) (b7:Heap.SameBut e h6 h7)=> ?_;have k7:∀b o,b≠e->h4.get? b=some o->h7.get? b=some o:=fun b o n q=>b7.extBut b o n (b6.extBut b o n (b5.extBut b o n q));refine wpAny_bind (wpAny_letGo (wpAny_pure ⟨_,rfl,wpAny_pure (hQ h7 e7 ?_ (k7 _ _ (Nat.ne_of_gt lt) t4) fun b o n1 n2 q=>k7 b o n1 (k4 b o n1 n2 q))⟩));exact((i4.extBut b5.extBut en).extBut b6.extBut en).extBut b7.extBut en
theorem EJ {e it l:Addr}{c:Int}{i:Nat}{items:Array Value}{old:Value}{Q:Option Value->Shared->Prop} (hh:A.handled=none)
  (he:IsEnum s.heap e it c old)(hit:s.heap.IsListIter it l i)(hl:s.heap.IsList l items)(hx:items[i]? =none)
  (hQ:∀h',Heap.ExtBut it s.heap h'->Q none { s with heap:=h' }):wpAny (model prog w) A (pyNext (.ref e)) Q E s:=by
 have hT:s.TypeIs (.ref e) "enumerate" :=⟨_,he,rfl⟩
 unfold pyNext;refine wpAny_bind (wpAny_attempt (wpAny_callSpecial?_slot (name:=Str.ofString "__next__") hT F.slot_enumerate_next
  (wpAny_call_entry F.slot_enumerate_next hT F.entry_enumerate_next ?_ (F.args_enumerate_next_1 _))))
 show wpAny _ _ (field (.ref e) 2 >>= _) _ _ _;refine wpAny_bind (wpAny_field he rfl (x:= .ref it) rfl ?_);refine wpAny_bind (wpAny_nextOf_list_end hh hit hl hx fun h' x he' hx'=> ?_);obtain⟨o,ho,hc⟩:=hx';exact wpAny_bind (wpAny_isInstance (T:= "StopIteration") (b:=true) ⟨o,ho,hc⟩ isSubtype_stop (wpAny_pure (hQ _ he')))
end
theorem F3 {α:Type}{M:Model}{A:Around}{E:Value->Shared->Prop}{s:Shared}{b:Prop} [Decidable b] {x y:Sem α}{Q:α->Shared->Prop} (h1:wpAny M A x Q E s) (h2:wpAny M A y Q E s):wpAny M A (if b then x else y) Q E s:=by
 split
 ·exact h1
 ·exact h2
open Sem (wp) in
open AutoSeq1 (wpAny_loadPart') in
theorem FE (l:Addr)(items:Array Value)(n:Nat)(dct:Option Addr)(sl:Array (Option Value))(f:Int)(t:Tok)(h0:0<=f)(h1:f<2^62) :
  Meets (Builtin.«enumerate.__new__» ⟨[.type "enumerate",.ref l],[("start",.int f t)]⟩) (fun _ R s=>s.heap.get? l=some { cls:= .type "list",dict:=dct,data:= .seq items n,slots:=sl } ∧
   R (.ok (.ret (.ref (s.heap.push { cls:= .type "list_iterator",data:= .fields #[.ref l,.int 0 0] }).objs.size)))
    { s with heap:=(s.heap.push { cls:= .type "list_iterator",data:= .fields #[.ref l,.int 0 0] }).push { cls:= .type "enumerate",data:= .fields #[.none,.bool false,.ref s.heap.objs.size,rawInt f,.none,.none] } }) :=
 .of_wp fun prog w A R s h=>by
  obtain⟨hp,g,d,tk,os⟩:=s;obtain⟨hl,h⟩:=h;have hsub:=sub_enumerate;have hL:Heap.IsList (Shared.heap ⟨hp,g,d,tk,os⟩) l items:=⟨_,hl,rfl,n,rfl⟩
  wp_walk using wpAny_loadPart' hl
  refine wpAny_stack_any fun st=>wpAny_pure ?_;have hfit:Builtin.SmallTypes.fitsIndex f=true:=by
   unfold Builtin.SmallTypes.fitsIndex;simp only[Bool.and_eq_true,decide_eq_true_eq];omega
  dsimp only
  refine F3 ?_ ?_
  ·refine wpAny_bind (wpAny_pure ?_)
   wp_walk using wpAny_loadPart' hl,wpAny_pyIter_list hL
   exact⟨_,rfl,h⟩
  ·refine wpAny_bind (wpAny_pure ?_)
   wp_walk using wpAny_loadPart' hl,wpAny_pyIter_list hL
   exact⟨_,rfl,h⟩
theorem JP (a b:Value):checkTypeCall "enumerate" ⟨[a],[("start",b)]⟩=pure ():=by kernel_rfl
theorem IU (a b:Value):checkBuiltinCall "enumerate.__new__" ⟨[.type "enumerate",a],[("start",b)]⟩=pure ():=by kernel_rfl
theorem JR (o a b:Value):argsOk "object.__init__" ⟨[o,a],[("start",b)]⟩:=by
 unfold argsOk;rw[signature?_of (id:= "object.__init__") (n:=['_','_','t','i','n','i','_','_']) (o:=['t','c','e','j','b','o']) (by kernel_rfl) F.owner_object]
 kernel_rfl
section
variable {prog:Program}{w:World}{A:Around}{E:Value->Shared->Prop}{s:Shared}
theorem HS (self a b:Value):Meets (Builtin.«object.__init__» ⟨[self,a],[("start",b)]⟩) (fun _ R s=>s.TypeIs self "enumerate" /\R (.ok (.ret .none)) s):=by
 have hl:=F.called_enumerate.init.lookup;have hm:=F.called_enumerate.made;refine Meets.of_wp fun prog w A R s hs=> ?_;obtain⟨hT,hq⟩:=hs
 repeat (any_goals (first|assumption|wp_step))
 exact⟨_,rfl,hq⟩
theorem BY {a b:Value}{S:PySem.Spec}{Q:Value->Shared->Prop} (g:Meets (Builtin.«enumerate.__new__» ⟨[.type "enumerate",a],[("start",b)]⟩) S)
  (h:S A.in1 (wants (fun obj s₁=>s₁.TypeIs obj "enumerate" /\Q obj s₁) E) s):wpAny (model prog w) A (call (.type "enumerate") [a] [("start",b)]) Q E s:=by
 obtain⟨c,tl,hmro⟩:=F.called_enumerate.mro;have hmade:=F.called_enumerate.made;have hsub:=F.called_enumerate.sub;refine wpAny_call (codeAny_of_tree ?_);show wpAny _ _ (callAny (.type "enumerate") _) _ _ _;refine wpAny_pure ⟨Code.quiet_builtin _ (by decide +kernel),codeAny_builtin F.entry_type_call ?_⟩;rw[Around.under_plain (weight_type_call_type "enumerate" [a] [("start",b)]) (units_type_call_type "enumerate" [a] [("start",b)])];have h1:=F.called_enumerate.notType;have h2:=F.called_enumerate.canCreate;have h3:=JP a b
 repeat (any_goals (first|assumption|wp_step))
 refine codeAny_mono (codeAny_call_builtin F.called_enumerate.plain F.entry_enumerate_new (wpAny_of_eq (IU a b) (g prog w A.in1 _ s h))) fun r s1 hr=> ?_;cases r with
 | error e=>exact hr
 | ok fl =>
  cases fl with
  | ret obj =>
   obtain⟨hT,hQ⟩:=(show s1.TypeIs obj "enumerate" /\Q obj s1 from hr)
   have hli:=F.called_enumerate.init.lookup;have hbi:=F.called_enumerate.init.bind obj
   repeat (any_goals (first|assumption|wp_step))
   refine codeAny_mono (codeAny_call_builtin F.called_enumerate.init.plain F.entry_object_init (F.called_enumerate.init.check _ _ _ _ _ _ _ _ hT (JR obj a b) (HS obj a b prog w A.in1 (wants (fun r s2=>r= .none/\Q obj s2) E) s1 ⟨hT,rfl,hQ⟩))) fun r2 s2 hr2=> ?_;cases r2 with
   | error e=>exact hr2
   | ok fl2 =>
    cases fl2 with
    | ret r =>
     obtain⟨rfl,hq⟩:=hr2
     repeat (any_goals (first|assumption|wp_step))
    | _=>exact hr2.elim
  | _=>exact hr.elim
end
end L2
namespace L2
open PySem PySem.W PyProof.Rows
theorem JY {M:Model}{A:Around}{E:Value->Shared->Prop}{s:Shared}{env:Env}{x:Str}{p pos:Pos}{args:List Expr}{kws:List Keyword}{Q:Value->Shared->Prop}
  (h:wpAny M A (eval (.Name x p) env) (fun f s₁=>wpAny M A (callWith pos f [] (backTo pos (starEach args env)) (backToKw pos (keywordEach kws env))) Q E s₁) E s) :
  wpAny M A (eval (.Call (.Name x p) args kws pos) env) Q E s:=wpAny_bind h
section
variable {prog:Program}{w:World}{A:Around}{E:Value->Shared->Prop}{s:Shared}
theorem CK {l:Addr}{items:Array Value}{f:Int}{t:Tok}{Q:Value->Shared->Prop} (h0:0<=f) (h1:f<2^62) (hL:s.heap.IsList l items)
  (h:∀h',IsEnum h' (s.heap.objs.size+1) s.heap.objs.size f .none->h'.IsListIter s.heap.objs.size l 0 →
   (∀b o,s.heap.get? b=some o->h'.get? b=some o)->Q (.ref (s.heap.objs.size+1)) { s with heap:=h' }) :
  wpAny (model prog w) A (call (.type "enumerate") [.ref l] [("start",.int f t)]) Q E s:=by
 obtain⟨⟨c,dct,dt,sl⟩,hl,hc,n,hd⟩:=hL
 replace hc:c= .type "list" :=hc
 replace hd:dt= .seq items n:=hd
 subst hc hd;refine BY (FE l items n dct sl f t h0 h1) ⟨hl,?_⟩;have hz:(s.heap.push { cls:= .type "list_iterator",data:= .fields #[.ref l,.int 0 0] }).objs.size=s.heap.objs.size+1:=Heap.size_push ..;have he:=Heap.get?_push_size (s.heap.push { cls:= .type "list_iterator",data:= .fields #[.ref l,.int 0 0] })
   (o:={ cls:= .type "enumerate",data:= .fields #[.none,.bool false,.ref s.heap.objs.size,rawInt f,.none,.none] }) rfl
 show _/\_;rw[hz]at he ⊢;exact⟨⟨_,he,rfl⟩,h _ he ⟨_,Heap.get?_push_of_some _ (Heap.get?_push_size _ rfl),rfl,rfl⟩ fun b o x=>Heap.get?_push_of_some _ (Heap.get?_push_of_some _ x)⟩
theorem y0 {M:Model}{env:Env}{pos:Pos}{T:String}{e:Expr}{kws:List Keyword}{Q:Value->Shared->Prop}
  (h:wpAny M A (spliced (backTo pos (starEach [e] env))) (fun vs s₁=>wpAny M A (evalAll ((backToKw pos (keywordEach kws env)).map (·.2)))
   (fun kvs s₂=>wpAny M A (call (.type T) vs (((backToKw pos (keywordEach kws env)).filterMap (·.1)).zip kvs)) Q E s₂) E s₁) E s)
  (he:backTo pos (starEach [e] env)=[(false,eval e env)]:=by rfl)
  (hall:(backToKw pos (keywordEach kws env)).all (·.1.isSome)=true:=by rfl)
  (hkw:(backToKw pos (keywordEach kws env)).any (·.1.isNone)=false:=by rfl) :
  wpAny M A (callWith pos (.type T) [] (backTo pos (starEach [e] env)) (backToKw pos (keywordEach kws env))) Q E s:=by
 unfold callWith;rw[he]at h ⊢;refine wpAny_bind (wpAny_holding (wpAny_mono (evalArgs_kwB (Q:=fun a s₁=>wpAny M A (call (.type T) ([]++a.pos) a.kw) Q E s₁) hall h) (fun a s₁ h₁=>wpAny_bind (wpAny_standAt ?_)) fun _ _ x=>x));simp only[hkw,List.any_cons,List.any_nil,Bool.or_false];refine wpAny_bind (wpAny_pure ?_);exact wpAny_bind (wpAny_mono h₁ (fun r s₂ hr=>wpAny_bind (wpAny_holding (wpAny_point (wpAny_pure hr)))) fun _ _ x=>x)
end
def Itf (K:PySem.W.Frag)(a:Addr)(f:Int):It :=
 ⟨fun i H=>∃xs x,SqL K H a xs/\xs[i]? =some x,fun i H x H'=>∃q,x= .ref q/\H q=none/\∀xs,SqL K H a xs->∃y,xs[i]? =some y/\H'=upd H q (.tup [.int (f+i),y]),fun i H=>∃xs,SqL K H a xs/\xs.length<=i⟩
theorem C2 {P:Program}{w:World}{K:PySem.W.Frag}{elts:List Expr}{x1:Nat}{tpos:Pos} (a e it:Addr) (f:Int) (hne:e≠it) :
  kY P w K (.Tuple elts x1 tpos) (Itf K a f) [e,it] e (fun i h=>(∃old,IsEnum h e it (f+i) old)/\h.IsListIter it a i) where
 mem:=by simp
 obj:=fun i h st b hb=>by
  obtain⟨⟨old,e1⟩,o2,e2,c2,d2⟩:=st;simp only[List.mem_cons,List.not_mem_nil,or_false]at hb;rcases hb with rfl|rfl
  ·exact⟨_,e1,fun v z=>by cases z⟩
  ·exact⟨o2,e2,fun v z=>by rw[d2]at z;cases z⟩
 keep:=fun i h h' st k=>⟨let ⟨old,e1⟩:=st.1;⟨old,k e (by simp) _ e1⟩,st.2.at fun o q=>k it (by simp) o q⟩
 item:=by
  intro X hP hw hK hc i pins s σ H E I hf st hg;subst hP hw hK;obtain⟨xs,x,hq,hx⟩:=hg;obtain⟨⟨old,st1⟩,st2⟩:=st;obtain⟨its,rv,p,hz⟩:=I.list hq;obtain⟨u,hu,ru⟩:=rv.get hx;refine BZ st1 st2 p.isList (x:=u) (by simpa using hu) hne fun h1 heo hit1 ht1 hk1=> ?_;refine⟨_,rfl,?_⟩;refine wpAny_letOwnedTupleGo_enum (s:={ s with heap:=h1,toks:=s.toks+1 }) heo fun h2 he2 sb2=> ?_;have hq0:H s.heap.objs.size=none:=I.hok.fresh (Nat.le_refl _);have le1:e<s.heap.objs.size:=Heap.lt_size st1;have li1:it<s.heap.objs.size:=by obtain⟨o,q,_⟩:=st2;exact Heap.lt_size q
  have I1:Inv X pins σ (upd H s.heap.objs.size (.tup [.int (f+i),x])) { s with heap:=s.heap.push { cls:= .type "tuple",data:= .seq #[.int (f+i) s.toks,u] } } :=
   I.laid (t':=s.toks) (fun b u e=>Heap.get?_push_of_some _ e) (Nat.le_refl _) ⟨(show 2<=sizeLine by rw[sizeLine_eq];decide),[.int (f+i) s.toks,u],.cons ⟨_,rfl⟩ (.cons ru .nil),⟨_,Heap.get?_push_size _ rfl,rfl,0,rfl⟩⟩
  have hf':∀b∈[e,it],h9 X pins (upd H s.heap.objs.size (.tup [.int (f+i),x])) b:=fun b hb=>by
   obtain⟨f0,f1⟩:=hf b hb;refine⟨?_,f1⟩;simp only[List.mem_cons,List.not_mem_nil,or_false]at hb;rcases hb with rfl|rfl
   ·rw[aI (Nat.ne_of_lt le1)];exact f0
   ·rw[aI (Nat.ne_of_lt li1)];exact f0
  have I2:Inv X pins σ (upd H s.heap.objs.size (.tup [.int (f+i),x])) { s with heap:=h2,toks:=s.toks+1 }:=Inv.turns (s:={ s with heap:=s.heap.push { cls:= .type "tuple",data:= .seq #[.int (f+i) s.toks,u] } }) (h':=h2) (t':=s.toks+1) I1 (fun c o hb q=>by
   simp only[List.mem_cons,List.not_mem_nil,or_false,not_or]at hb;rcases Heap.get?_push_cases q with⟨rfl,rfl⟩|q
   ·exact(sb2.2 _ hb.1).trans ht1
   ·exact(sb2.2 c hb.1).trans (hk1 c o hb.1 hb.2 q)) hf'
  refine⟨.ref s.heap.objs.size,_,I2,rfl,⟨_,rfl,hq0,fun ys hy=>⟨x,by rw[I.list_inj hy hq];exact hx,rfl⟩⟩,⟨⟨u,?_⟩,hit1.at fun o q=>(sb2.2 it (Ne.symm hne)).trans q⟩,fun b hb=>(hf' b hb).1⟩;rw[show f+((i+1:Nat):Int)=f+(i:Int)+1 by omega];exact he2
 done:=by
  intro X hP hw hK hc i pins s σ H E I hf st hg;subst hP hw hK;obtain⟨xs,hq,hx⟩:=hg;obtain⟨⟨old,st1⟩,st2⟩:=st;obtain⟨its,rv,p,hz⟩:=I.list hq;have hl:=rv.length;obtain⟨f0,f1,f2,f3,f4,f5⟩:=hf it (by simp);exact EJ (I.ok.hd hc) st1 st2 p.isList (by simp;omega) fun h' eb=>⟨rfl,I.turned (t':=s.toks) (fun b o hb q=>eb b o hb q) f0 f1 f3 f4 f5⟩
 self:=fun A i s Q E st h=>by
  obtain⟨⟨old,st1⟩,_⟩:=st;exact wpAny_pyIter_enum st1 h
def CF (K:PySem.W.Frag)(ta:TA)(tb:TE):TI:=fun σ H R=>ta σ H fun vs H1=>∃b,vs=[.ref b]/\tb σ H1 fun v H2=>∃xs f,v= .int f/\0<=f/\f<2^62/\SqL K H2 b xs/\R (Itf K b f) H2
section
variable {X:Cx}
theorem D1 {a v:Expr}{ta:TA}{tb:TE}{p pos kp:Pos}{elts:List Expr}{x1:Nat}{tpos:Pos} (hg:Gl X "enumerate") (hm:X.mg "enumerate" =none) (ha:PA X [a] ta) (hb:PE X v tb) (hs:starEach [a] X.env=[(false,eval a X.env)]:=by rfl):PI X (.Tuple elts x1 tpos) (.Call (.Name "enumerate" p) [a] [⟨some "start",v,kp⟩] pos) (CF X.K ta tb):=by
 intro pins s σ H R I h;refine JY (mL I hg hm uE (y0 (kws:=[⟨some "start",v,kp⟩]) (thn (ha pos pins s σ H _ I h) fun us s1 ⟨vs,H1,I1,r1,q1⟩=> ?_) (by rw[hs];rfl)));obtain⟨b,rfl,q⟩:=q1;obtain⟨u,rfl,rx⟩:=j5 r1;cases rx;refine kws_cons (thn (hb pins s1 σ H1 _ I1 q) fun v2 s2 h2=>kws_nil ?_);obtain⟨w2,H2,I2,r2,xs,f,rfl,h0,h1,hq,q⟩:=h2;obtain⟨t,rfl⟩:=r2;obtain⟨its,rv,pl,hz⟩:=I2.list hq;refine CK h0 h1 pl.isList fun h' he hit kp=> ?_;refine wpAny_pyIter_enum (s:={ s2 with heap:=h' }) he ?_;have I3:Inv X pins σ H2 { s2 with heap:=h' }:=I2.kept (t':=s2.toks) kp;refine⟨s2.heap.objs.size+1,[s2.heap.objs.size+1,s2.heap.objs.size],_,_,H2,rfl,I3,C2 b _ _ f (Nat.succ_ne_self _),⟨⟨.none,by rw[show f+((0:Nat):Int)=f by omega];exact he⟩,hit⟩,fun c hc=> ?_,q⟩;simp only[List.mem_cons,List.not_mem_nil,or_false]at hc;rcases hc with rfl|rfl
 ·exact I2.fpOk (Nat.le_succ _) (I2.hok.fresh (Nat.le_succ _))
 ·exact I2.fpOk (Nat.le_refl _) (I2.hok.fresh (Nat.le_refl _))
end
end L2
namespace L2
open PySem PySem.W PyProof.Rows
section
variable {K:PySem.W.Frag}{H:Hp}{σ:St}{Q:VK}{R:It->Hp->Prop}{nx bk ct:St->Hp->Prop}{rt:VK}
theorem tH {p:Addr}{vs:List V}{rs:List (List Key)}{sh:List Bool} (e:SqL K H p vs) (kr:KRows H vs rs) (nd:rs.Nodup) (hs:∀r∈rs,r.map cX=sh) (hn:sh≠[]) (h:∀l ws H',H l=none->Same H H'->H' l=some (.lst ws)->KRows H' ws (d8 rs)->Q (.ref l) H'):v3 K [.ref p] H Q :=
 ⟨p,vs,rs,sh,rfl,e,kr,nd,hs,hn,eK fun l H' n S e=>h l _ H' n S e ((zP kr).same S)⟩
def GY (K:PySem.W.Frag)(σ:St)(tb:TE)(R:It->Hp->Prop):List V->Hp->Prop:=fun vs H1=>∃b,vs=[.ref b]/\tb σ H1 fun v H2=>∃xs f,v= .int f/\0<=f/\f<2^62/\SqL K H2 b xs/\R (Itf K b f) H2
def GH (K:PySem.W.Frag)(b:Addr)(R:It->Hp->Prop):VK:=fun v H2=>∃xs f,v= .int f/\0<=f/\f<2^62/\SqL K H2 b xs/\R (Itf K b f) H2
theorem BC {ta:TA}{tb:TE} (h:ta σ H (GY K σ tb R)):CF K ta tb σ H R:=h
theorem y7 {tb:TE}{b:Addr} (h:tb σ H (GH K b R)):GY K σ tb R [.ref b] H:=⟨b,rfl,h⟩
theorem ET {b:Addr}{xs:List V}{f:Int} (h0:0<=f) (h1:f<2^62) (e:SqL K H b xs) (h:R (Itf K b f) H):GH K b R (.int f) H:=⟨xs,f,rfl,h0,h1,e,h⟩
theorem IS {g:TG}{tb:TS}{a:Addr}{f:Int} (xs:List V) (Pv:Nat->St->Hp->Prop) (h0:Pv 0 σ H) (hl:∀i σ H,Pv i σ H->SqL K H a xs)
  (hs:∀i x σ H q H',xs[i]? =some x->Pv i σ H->H q=none->Same H H'->H' q=some (.tup [.int (f+i),x])->g (.ref q) σ H' fun σ2 H2=>tb ⟨Pv (i+1),rt,nx,Pv (i+1)⟩ σ2 H2)(hd:∀σ H,Pv xs.length σ H->nx σ H):qR (Itf K a f) g tb ⟨nx,rt,bk,ct⟩ σ H:=by
 refine⟨fun i m σ H=>m=xs.length - i/\i<=xs.length/\Pv i σ H,⟨xs.length,by simp,Nat.zero_le _,h0⟩,?_⟩;rintro i m σ H ⟨rfl,hi,p⟩;have q:=hl i σ H p
 by_cases hlt:i<xs.length
 ·refine .inr ⟨⟨xs,xs[i],q,by simp[hlt]⟩,Pv (i+1),fun σ' H' p'=>⟨xs.length - (i+1),by omega,rfl,hlt,p'⟩,fun x H' y=> ?_⟩;obtain⟨r,rfl,hr,hy⟩:=y;obtain⟨y,e1,rfl⟩:=hy xs q;exact hs i y σ H r _ e1 p hr (uD hr) aW
 ·have e:i=xs.length:=by omega
  subst e;exact .inl ⟨⟨xs,q,Nat.le_refl _⟩,hd σ H p⟩
end
theorem DB (xs:List V):nG xs none none (some (-1))=xs.reverse:=by
 unfold nG i6;rw[krv_bounds];show (sliceRange ((xs.length:Int) - 1) (-1) (-1)).filterMap (xs[·]?)=_;rw[krv_sliceRange,krv_range,List.filterMap_reverse]
 congr 1
 have h:=krv_all xs.toArray
 simpa using h
theorem CW (n:Nat):(i6 n none none (some (-1))).length=n:=by
 unfold i6;rw[krv_bounds];show (sliceRange ((n:Int) - 1) (-1) (-1)).length=_;rw[krv_sliceRange,List.length_map,List.length_range]
theorem wN {X:Cx}(K:PySem.W.Frag)(h:X.K=K):d9 X (.type "list") (qU K):=h▸yR
end L2
namespace L2
def NF {α:Type}:Nat->(List α->Prop)->Prop
 | 0,p=>p []
 | n+1,p=>∀a,NF n (fun l=>p (a::l))
theorem aM {α:Type}:∀(n:Nat) (p:List α->Prop),NF n p->∀us:List α,us.length=n->p us
 | 0,_,h,[],_=>h
 | n+1,_,h,a::us,e=>aM n _ (h a) us (by simpa using e)
 | 0,_,_,_::_,e=>by simp at e
 | _+1,_,_,[],e=>by simp at e
end L2
namespace Prf
open PySem L2
set_option hygiene false
local macro_rules| `(tactic| walk_at"fs")=> `(tactic| exact⟨rfl,rfl,rfl,by decide +kernel,rfl,by decide +kernel,by decide +kernel⟩)
local macro_rules| `(tactic| walk_at"hu")=> `(tactic| (have hu0:=Room.units0 hr;have hu1:=Room.units1 hr;have hu9:=Room.units9 hr))
set_option hygiene true
def top (i:Nat):Stmt:=PySem.Challenge.pw_firstout_k52_walks_joined.main.body.getD i (.Pass ⟨0,0,0,0⟩)
abbrev jC:Stmt:=top 0
abbrev eP:Stmt:=top 10
theorem sc_added_up:bA ["plan","going","turn","name","number"] ["plan"] (aB eP):=by walk_at"fs"
abbrev fJ:Stmt:=top 11
theorem sc_as_told:bA ["plan"] ["plan"] (aB fJ):=by walk_at"fs"
abbrev fZ:Stmt:=top 13
theorem sc_joined:bA ["house","walks","rows","number","room","steps","turn","name"] ["house","walks"] (aB fZ):=by walk_at"fs"
abbrev eQ:Stmt:=top 15
theorem sc_is_whole:bA ["thing"] ["thing"] (aB eQ):=by walk_at"fs"
abbrev fK:Stmt:=top 18
theorem sc_is_name:bA ["thing"] ["thing"] (aB fK):=by walk_at"fs"
abbrev dZ:Stmt:=top 19
theorem sc_need_name:bA ["part","thing"] ["part","thing"] (aB dZ):=by walk_at"fs"
abbrev dE:Stmt:=top 20
theorem sc_need_whole:bA ["part","thing","least"] ["part","thing","least"] (aB dE):=by walk_at"fs"
abbrev bH:Stmt:=cD (top 21) 0
theorem sc_Door___init__:bA ["self","name","start","end","wide"] ["self","name","start","end","wide"] (aB bH):=by walk_at"fs"
abbrev fA:Stmt:=cD (top 21) 1
abbrev cK:Stmt:=cD (top 21) 2
theorem sc_Door_is_exit:bA ["self"] ["self"] (aB cK):=by walk_at"fs"
abbrev eF:Stmt:=cD (top 21) 3
abbrev dF:Stmt:=top 23
theorem sc_need_turns:bA ["first","last"] ["first","last"] (aB dF):=by walk_at"fs"
abbrev bV:Stmt:=top 24
theorem sc_need_each_once:bA ["names","seen","name"] ["names"] (aB bV):=by walk_at"fs"
abbrev bP:Stmt:=top 25
theorem sc_rooms_spoken_of:bA ["doors","people","names","door"] ["doors","people"] (aB bP):=by walk_at"fs"
abbrev c8:Stmt:=top 26
theorem sc_need_rooms:bA ["names","sizes","name"] ["names","sizes"] (aB c8):=by walk_at"fs"
abbrev cJ:Stmt:=top 27
theorem sc_added_people:bA ["sizes","people","inside","room","number"] ["sizes","people"] (aB cJ):=by walk_at"fs"
abbrev c7:Stmt:=top 28
theorem sc_need_space:bA ["sizes","people","inside"] ["sizes","people"] (aB c7):=by walk_at"fs"
abbrev bJ:Stmt:=cD (top 29) 0
theorem sc_House___init__:bA ["self","rooms","doors","people","last","first","sizes","door"] ["self","rooms","doors","people","last","first"] (aB bJ):=by walk_at"fs"
abbrev dN:Stmt:=cD (top 29) 1
abbrev dQ:Stmt:=cD (top 29) 2
abbrev cH:Stmt:=cD (top 29) 3
abbrev dM:Stmt:=cD (top 29) 4
abbrev dS:Stmt:=cD (top 29) 5
abbrev eG:Stmt:=cD (top 29) 6
abbrev cG:Stmt:=cD (top 29) 7
abbrev eI:Stmt:=cD (top 29) 8
abbrev eB:Stmt:=cD (top 29) 9
abbrev dL:Stmt:=cD (top 29) 10
abbrev dP:Stmt:=cD (top 29) 11
abbrev cO:Stmt:=top 31
theorem sc__law_cell_at:bA ["_law_script","_law_k"] ["_law_script","_law_k"] (aB cO):=by walk_at"fs"
abbrev dG:Stmt:=top 32
theorem sc__law_drawn:bA ["_law_cell","_law_k","_law_number"] ["_law_cell","_law_k"] (aB dG):=by walk_at"fs"
abbrev d5:Stmt:=top 33
theorem sc__law_name:bA ["_law_cell","_law_k","_law_some","_law_rest","_law_place"] ["_law_cell","_law_k"] (aB d5):=by walk_at"fs"
abbrev c6:Stmt:=top 34
theorem sc__law_doors:bA ["_law_cell","_law_rooms","_law_found","_law_k","_law_number","_law_end"] ["_law_cell","_law_rooms"] (aB c6):=by walk_at"fs"
abbrev d7:Stmt:=top 35
theorem sc__law_walk:bA ["_law_cell","_law_rooms","_law_doors_here","_law_many","_law_number","_law_room","_law_steps","_law_at","_law_k","_law_some","_law_pick"] ["_law_cell","_law_rooms","_law_doors_here","_law_many"] (aB d7):=by walk_at"fs"
abbrev iI:Stmt:=top 36
theorem sc_law:bA ["_law_script","_law_cell","_law_rooms","_law_doors_here","_law_first","_law_many","_law_made","_law_house","_law_dealt","_law_sums","_law_number","_law_room","_law_steps","_law_k","_law_due","_law_handed","_law_found"] ["_law_script"] (aB iI):=by walk_at"fs"
theorem E4:("abcdefghijklmnopqrstuvwxyz" :Str).length=26:=by rw[cF];rfl
theorem FN:("name" :Str).length=4:=by rw[cF];rfl
theorem EF:("start" :Str).length=5:=by rw[cF];rfl
theorem F6:("wide" :Str).length=4:=by rw[cF];rfl
theorem EI:("the first turn is below 0" :Str).length=25:=by rw[cF];rfl
theorem FX:("the last turn is below the first one" :Str).length=36:=by rw[cF];rfl
theorem DW:("a row of people is below 0" :Str).length=26:=by rw[cF];rfl
theorem E8:("more are in a room than it holds" :Str).length=32:=by rw[cF];rfl
theorem FS:(" is no name" :Str).length=11:=by rw[cF];rfl
theorem D6:(" is no whole number from " :Str).length=25:=by rw[cF];rfl
theorem yJ:(" on" :Str).length=3:=by rw[cF];rfl
theorem yH:("end" :Str).length=3:=by rw[cF];rfl
theorem zB:("x" :Str).length=1:=by rw[cF];rfl
theorem zF:("a" :Str).length=1:=by rw[cF];rfl
theorem zT:("z" :Str).length=1:=by rw[cF];rfl
structure DCls (K:W.Frag)(C:Addr):Prop where
 ic:ICls K C
 n_name:NoAttr K C "name"
 n_start:NoAttr K C "start"
 n_end:NoAttr K C "end"
 n_wide:NoAttr K C "wide"
 n_first:NoAttr K C "first"
 n_last:NoAttr K C "last"
 n_sizes:NoAttr K C "sizes"
 n_people:NoAttr K C "people"
 n_named_doors:NoAttr K C "named_doors"
set_option genInjectivity false in
set_option genSizeOfSpec false in
structure M (K:W.Frag)(mg:Str->Option Value) where
 yE:Addr
 yD:FuncData
 QU:FunV K "_wall" "_wall" jC yE yD
 QW:Binds K yD ["k"] []
 lG:Addr
 lI:FuncData
 i9:FunV K "added_up" "added_up" eP lG lI
 z8:Binds K lI ["plan"] []
 m6:Addr
 mZ:FuncData
 j7:FunV K "as_told" "as_told" fJ m6 mZ
 DD:Binds K mZ ["plan"] []
 pO:Addr
 pN:FuncData
 jR:FunV K "joined" "joined" fZ pO pN
 GD:Binds K pN ["house","walks"] []
 lJ:Addr
 lH:FuncData
 jB:FunV K "is_whole" "is_whole" eQ lJ lH
 AB:Binds K lH ["thing"] []
 nC:Addr
 nA:FuncData
 j6:FunV K "is_name" "is_name" fK nC nA
 DM:Binds K nA ["thing"] []
 kB:Addr
 kA:FuncData
 fE:FunV K "need_name" "need_name" dZ kB kA
 xB:Binds K kA ["part","thing"] []
 j1:Addr
 jY:FuncData
 gX:FunV K "need_whole" "need_whole" dE j1 jY
 wC:Binds K jY ["part","thing","least"] []
 jQ:Addr
 jX:FuncData
 gZ:FunV K "need_turns" "need_turns" dF jQ jX
 v8:Binds K jX ["first","last"] []
 gC:Addr
 gE:FuncData
 dH:FunV K "need_each_once" "need_each_once" bV gC gE
 pQ:Binds K gE ["names"] []
 fT:Addr
 fU:FuncData
 eA:FunV K "rooms_spoken_of" "rooms_spoken_of" bP fT fU
 oA:Binds K fU ["doors","people"] []
 jW:Addr
 jV:FuncData
 gS:FunV K "need_rooms" "need_rooms" c8 jW jV
 wH:Binds K jV ["names","sizes"] []
 iF:Addr
 iB:FuncData
 c5:FunV K "added_people" "added_people" cJ iF iB
 rV:Binds K iB ["sizes","people"] []
 jZ:Addr
 j0:FuncData
 gY:FunV K "need_space" "need_space" c7 jZ j0
 wA:Binds K j0 ["sizes","people"] []
 iG:Addr
 iE:FuncData
 cP:FunV K "_law_cell_at" "_law_cell_at" cO iG iE
 rP:Binds K iE ["_law_script","_law_k"] []
 jS:Addr
 jT:FuncData
 aX:FunV K "_law_drawn" "_law_drawn" dG jS jT
 v7:Binds K jT ["_law_cell","_law_k"] []
 kC:Addr
 j9:FuncData
 fD:FunV K "_law_name" "_law_name" d5 kC j9
 w9:Binds K j9 ["_law_cell","_law_k"] []
 jU:Addr
 j2:FuncData
 gU:FunV K "_law_doors" "_law_doors" c6 jU j2
 v9:Binds K j2 ["_law_cell","_law_rooms"] []
 kF:Addr
 kE:FuncData
 iM:FunV K "_law_walk" "_law_walk" d7 kF kE
 w5:Binds K kE ["_law_cell","_law_rooms","_law_doors_here","_law_many"] []
 z9:Addr
 z7:FuncData
 P9:FunV K "law" "law" iI z9 z7
 QY:Binds K z7 ["_law_script"] []
 gT:Addr
 dY:FuncData
 qM:FunV K "__init__" "Door.__init__" bH gT dY
 G7:Binds K dY ["self","name","start","end","wide"] []
 oK:Addr
 oM:FuncData
 OF:FunV K "lets" "Door.lets" fA oK oM
 OE:Binds K oM ["self","turn"] []
 iH:Addr
 iC:FuncData
 rQ:FunV K "is_exit" "Door.is_exit" cK iH iC
 rT:Binds K iC ["self"] []
 nB:Addr
 mX:FuncData
 OA:FunV K "words" "Door.words" eF nB mX
 N7:Binds K mX ["self"] []
 gD:Addr
 eX:FuncData
 pK:FunV K "__init__" "House.__init__" bJ gD eX
 pJ:Binds K eX ["self","rooms","doors","people","last","first"] []
 lV:Addr
 lU:FuncData
 KP:FunV K "rooms" "House.rooms" dN lV lU
 KS:Binds K lU ["self"] []
 lT:Addr
 lY:FuncData
 KG:FunV K "doors" "House.doors" dQ lT lY
 KQ:Binds K lY ["self"] []
 iX:Addr
 iW:FuncData
 DP:FunV K "need_room" "House.need_room" cH iX iW
 DQ:Binds K iW ["self","room"] []
 lX:Addr
 lZ:FuncData
 KK:FunV K "holds" "House.holds" dM lX lZ
 KL:Binds K lZ ["self","room"] []
 lW:Addr
 l0:FuncData
 KI:FunV K "found" "House.found" dS lW l0
 KM:Binds K l0 ["self","room"] []
 m5:Addr
 mY:FuncData
 N2:FunV K "into" "House.into" eG m5 mY
 OC:Binds K mY ["self","room"] []
 iY:Addr
 iV:FuncData
 DO:FunV K "from_room" "House.from_room" cG iY iV
 DN:Binds K iV ["self","room"] []
 m7:Addr
 m9:FuncData
 N4:FunV K "door" "House.door" eI m7 m9
 OB:Binds K m9 ["self","name"] []
 m3:Addr
 m8:FuncData
 N8:FunV K "lets" "House.lets" eB m3 m8
 OD:Binds K m8 ["self","name","turn"] []
 lQ:Addr
 l5:FuncData
 KY:FunV K "total" "House.total" dL lQ l5
 KU:Binds K l5 ["self"] []
 lS:Addr
 lP:FuncData
 KN:FunV K "pairs" "House.pairs" dP lS lP
 KO:Binds K lP ["self"] []
 QT:mg "_wall" =some (.ref yE)
 AA:mg "added_up" =some (.ref lG)
 DG:mg "as_told" =some (.ref m6)
 GA:mg "joined" =some (.ref pO)
 AC:mg "is_whole" =some (.ref lJ)
 DL:mg "is_name" =some (.ref nC)
 xC:mg "need_name" =some (.ref kB)
 v6:mg "need_whole" =some (.ref j1)
 wB:mg "need_turns" =some (.ref jQ)
 pP:mg "need_each_once" =some (.ref gC)
 oB:mg "rooms_spoken_of" =some (.ref fT)
 wD:mg "need_rooms" =some (.ref jW)
 rS:mg "added_people" =some (.ref iF)
 v5:mg "need_space" =some (.ref jZ)
 rO:mg "_law_cell_at" =some (.ref iG)
 wF:mg "_law_drawn" =some (.ref jS)
 xA:mg "_law_name" =some (.ref kC)
 wG:mg "_law_doors" =some (.ref jU)
 w6:mg "_law_walk" =some (.ref kF)
 QX:mg "law" =some (.ref z9)
 mW:∃ds,Vals [.int 1] ds/\Binds K dY ["self","name","start","end","wide"] ds
 DK:∃ds,Vals [.non,.int 1] ds/\Binds K dY ["self","name","start","end","wide"] ds
 AD:∃ds,Vals [.int 0] ds/\Binds K eX ["self","rooms","doors","people","last","first"] ds
 bL:Addr
 N5:mg "Door" =some (.ref bL)
 bX:Addr
 KD:mg "House" =some (.ref bX)
 z6:Addr
 P8:mg "OutError" =some (.ref z6)
 GE:Addr
 QQ:mg "NoDoor" =some (.ref GE)
 DI:Addr
 QC:mg "NoHouse" =some (.ref DI)
 GB:Addr
 QS:mg "NoTurn" =some (.ref GB)
 J8:Addr
 QV:mg "Twice" =some (.ref J8)
 GF:Addr
 QR:mg "NoRoom" =some (.ref GF)
 DJ:Addr
 QB:mg "Unknown" =some (.ref DJ)
 nW:DCls K bL
 KF:Mk K bL gT
 N6:fR K bL "lets" oK
 qL:fR K bL "is_exit" iH
 KR:fR K bL "words" nB
 wI:DCls K bX
 GC:Mk K bX gD
 KC:fR K bX "rooms" lV
 KA:fR K bX "doors" lT
 DE:fR K bX "need_room" iX
 J6:fR K bX "holds" lX
 J7:fR K bX "found" lW
 KH:fR K bX "into" m5
 DF:fR K bX "from_room" iY
 KJ:fR K bX "door" m7
 KW:fR K bX "lets" m3
 J9:fR K bX "total" lQ
 KB:fR K bX "pairs" lS
 N9:mg "ValueError" =none
 wE:mg "sorted" =none
 G8:mg "any" =none
 kR:mg "range" =none
 xD:mg "enumerate" =none
 gW:mg "isinstance" =none
 P7:mg "int" =none
 QA:mg "str" =none
 P6:mg "all" =none
 N3:mg "dict" =none
 DH:mg "list" =none
 jA:mg "len" =none
 N1:mg "bool" =none
 iD:∃t:Tok,mg "LONGEST_NAME" =some (.int 8 t)
local macro_rules| `(tactic| walk_at"hp")=> `(tactic| first|assumption|(refine' Same.at ?s ?h;(case s=>assumption);(case h=>walk_at"hp"))|(refine' SqL.of ?h;(case h=>walk_at"hp"))|(refine' SqT.of ?h;(case h=>walk_at"hp"))|(refine' Same.seq ?s ?h;(case s=>assumption);(case h=>walk_at"hp"))|(refine' Same.sqT ?s ?h;(case s=>assumption);(case h=>walk_at"hp")))
local macro_rules| `(tactic| walk_at"sm")=> `(tactic| first|assumption|exact Same.refl _|(refine' Same.snoc ?s ?h;(case s=>assumption);(case h=>walk_at"sm")))
local macro_rules| `(tactic| walk_at"sb")=> `(tactic| first|assumption|exact SameBut.refl|(refine' SameBut.snoc ?s ?h;(case s=>assumption);(case h=>walk_at"sb"))|(refine' SameBut.snocS ?s ?h;(case s=>assumption);(case h=>walk_at"sb")))
local macro_rules| `(tactic| walk_at"lk")=> `(tactic| first|assumption|exact MI|(with_reducible exact JU)|(refine' P2 ?d ?h;(case d=>decide +kernel);(case h=>walk_at"lk")))
local macro_rules| `(tactic| walk_at"sz")=> `(tactic| first|with_reducible assumption|omega|(simp only[d0,q0,E4,FN,EF,F6,EI,FX,DW,E8,FS,D6,yJ,yH,zB,zF,zT,sizeLine_eq,List.length_cons,List.length_nil,List.length_append,List.length_map];done)|(simp only[d0,q0,E4,FN,EF,F6,EI,FX,DW,E8,FS,D6,yJ,yH,zB,zF,zT,sizeLine_eq,List.length_cons,List.length_nil,List.length_append,List.length_map];omega)|(simp only[d0,q0,E4,FN,EF,F6,EI,FX,DW,E8,FS,D6,yJ,yH,zB,zF,zT,sizeLine_eq,List.length_cons,List.length_nil,List.length_append,List.length_map]at *;omega))
local macro_rules| `(tactic| walk_at"sd")=> `(tactic| first|with_reducible assumption|omega|decide)
local macro_rules| `(tactic| walk_at"dc")=> `(tactic| first|((with_reducible refine ICls.cl (DCls.ic ?_));assumption)|((with_reducible refine DCls.ic ?_);assumption)|((with_reducible refine DCls.n_name ?_);assumption)|((with_reducible refine DCls.n_start ?_);assumption)|((with_reducible refine DCls.n_end ?_);assumption)|((with_reducible refine DCls.n_wide ?_);assumption)|((with_reducible refine DCls.n_first ?_);assumption)|((with_reducible refine DCls.n_last ?_);assumption)|((with_reducible refine DCls.n_sizes ?_);assumption)|((with_reducible refine DCls.n_people ?_);assumption)|((with_reducible refine DCls.n_named_doors ?_);assumption))
local macro_rules| `(tactic| walk_at"rd1")=> `(tactic| first|(with_reducible first|refine ND ?_|refine MA ?_|refine QN ?_|refine PQ ?_|refine O9 ?_|refine OY ?_|refine PD ?_|refine OT ?_|refine OO ?_|refine PN ?_|refine OZ ?_|refine PZ ?_|refine O3 ?_|refine OP ?_|refine LU ?_|refine rd_v11 ?_|refine NS ?_|refine HM ?_|refine LH ?_|refine PY ?_|refine O4 ?_|refine J2 ?_|refine OI ?_|refine MD ?_|refine HR ?_|refine PP ?_|refine M4 ?_|refine P0 ?_|refine BG ?_|refine CI ?_|refine JQ ?_|refine ID ?_|refine rd_s0 ?_|refine O8 ?_|refine O1 ?_|refine P1 ?_|refine OG ?_|refine PV ?_|refine ON ?_|refine O6 ?_|refine PX ?_|refine PM ?_|refine NT ?_|refine LN ?_|refine LP ?_|refine MV ?_|refine HB ?_|refine IF ?_|refine rd_retN ?_|refine MH ?_|refine rd_and ?_|refine OL ?_|refine rd_andV ?_|refine rd_orV ?_|refine rd_notV ?_|refine rd_ifE ?_|refine rd_chain ?_|refine O7 ?_|refine QO ?_|refine rd_eqI ?_|refine rd_eqB ?_|refine LJ ?_|refine rd_eqSN ?_|refine rd_eqNS ?_|refine rd_eqNN ?_|refine rd_neI ?_|refine rd_neB ?_|refine rd_neS ?_|refine rd_neNN ?_|refine rd_isNN ?_|refine rd_isNS ?_|refine rd_isNI ?_|refine rd_isNR ?_|refine JW ?_|refine IJ ?_|refine rd_ntNI ?_|refine rd_ntNR ?_|refine IA ?_|refine rd_ntNV ?_|refine LQ ?_|refine MK ?_|refine HF ?_|refine HA ?_|refine JJ ?_|refine O5 ?_|refine OK ?_|refine rd_bm0 ?_|refine rd_bmS ?_|refine rd_bm0I ?_|refine rd_isiII ?_|refine rd_isiIB ?_|refine rd_isiBB ?_|refine rd_isiBI ?_|refine rd_isiSS ?_|refine rd_isiNS ?_|refine rd_max2 ?_|refine rd_min2 ?_|refine rd_intB ?_|refine rd_intI ?_|refine C7 ?_|refine HN ?_|refine LO ?_|refine rd_gsub ?_|refine HZ ?_|refine D2 ?_|refine LI ?_|refine D0 ?_|refine rd_iTup ?_|refine E1 ?_|refine rd_iRng2 ?_|refine rd_iStr ?_|refine rd_iStrV ?_|refine rd_break ?_|refine rd_cont ?_|refine rd_aug ?_)|((with_reducible refine' MB ?s ?_);(case s=>decide))|((with_reducible refine' JM ?s ?_);(case s=>walk_at"sd");intro h0' h1')|((with_reducible refine' rd_repL ?e ?a ?b ?s ?_);(case e=>walk_at"hp");(case a=>decide);(case b=>decide);(case s=>first|(simp;done)|(simp[sizeLine_eq];done)|walk_at"sz");intro p' H' n' S' e')|((with_reducible refine' LB ?s ?r ?_);(case s=>walk_at"sd");(case r=>walk_at"sd"))|((with_reducible refine' IB ?s ?r ?_);(case s=>walk_at"sd");(case r=>walk_at"sd"))|((with_reducible refine' JA ?s ?r ?_);(case s=>walk_at"sd");(case r=>walk_at"sd"))|((with_reducible refine' JO ?s ?_);(case s=>walk_at"sz");intro p' H' n' S' e')|((with_reducible refine' JK ?s ?_);(case s=>walk_at"sz");intro p' H' n' S' e')|((with_reducible refine IK ?_);intro p' H' n' S' e')|((with_reducible refine' JH ?e ?c ?n ?l ?_);(case e=>walk_at"hp");(case c=>walk_at"dc");(case n=>walk_at"dc");(case l=>walk_at"lk"))|((with_reducible refine' EY ?e ?c ?n ?l ?_);(case e=>walk_at"hp");(case c=>walk_at"dc");(case n=>walk_at"dc");(case l=>kernel_rfl);intro H' B' e')|((with_reducible refine' M8 ?e ?l ?F ?_);(case e=>walk_at"hp");(case l=>walk_at"lk");(case F=>assumption))|((with_reducible refine' rd_isiC ?e ?i ?k ?_);(case e=>walk_at"hp");(case i=>walk_at"dc");(case k=>assumption))|((with_reducible refine' qG ?e ?l ?_);(case e=>walk_at"hp");(case l=>rfl))|((with_reducible refine' JZ ?e ?s ?r ?_);(case e=>walk_at"hp");(case s=>walk_at"sd");(case r=>walk_at"sd");intro v' hv')|((with_reducible refine' rd_ix3i ?e ?s ?r ?_);(case e=>walk_at"hp");(case s=>walk_at"sd");(case r=>walk_at"sd");intro v' hv')|((with_reducible refine' rd_setLm ?e ?l ?_);(case e=>walk_at"hp");(case l=>rfl);intro H' B' e')|((with_reducible refine' HY ?e ?_);(case e=>walk_at"hp"))|((with_reducible refine' G9 ?e ?_);(case e=>walk_at"sz"))|((with_reducible refine' IX ?e ?_);(case e=>walk_at"sz"))|((with_reducible refine' NW ?e ?_);(case e=>walk_at"sz");intro hl')|((with_reducible refine' LS ?e ?_);(case e=>walk_at"hp");intro p' H' n' S' e')|((with_reducible refine' CH ?e ?_);(case e=>walk_at"hp");intro p' H' n' S' e')|((with_reducible refine' IZ ?e ?f ?s ?_);(case e=>walk_at"hp");(case f=>walk_at"hp");(case s=>walk_at"sz");intro p' H' n' S' e')|((with_reducible refine' AR ?e ?_);(case e=>walk_at"hp");intro p' H' n' S' e')|((with_reducible refine' MR ?e ?_);(case e=>walk_at"hp"))|((with_reducible refine' sX ?e ?_);(case e=>walk_at"hp"))|((with_reducible refine' A3 ?s ?r ?_);(case s=>walk_at"sd");(case r=>walk_at"sd"))|((with_reducible refine' rd_iRng2V ?s ?r ?t ?u ?_);(case s=>walk_at"sd");(case r=>walk_at"sd");(case t=>walk_at"sd");(case u=>walk_at"sd"))|((with_reducible refine' rd_str ?s ?r ?_);(case s=>walk_at"sd");(case r=>walk_at"sd");intro hl')|((with_reducible refine' rd_gtupL ?e ?l ?_);(case e=>walk_at"hp");(case l=>rfl))|((with_reducible refine' IL ?e ?l ?_);(case e=>walk_at"hp");(case l=>rfl))|((with_reducible refine' rd_ifP ?s ?_);(case s=>walk_at"sd"))|((with_reducible refine' MW ?s ?_);(case s=>walk_at"sd"))|((with_reducible refine' rd_ifnP ?s ?_);(case s=>walk_at"sd"))|((with_reducible refine' rd_ifnN ?s ?_);(case s=>walk_at"sd")))
local macro_rules| `(tactic| walk_at"go")=> `(tactic| repeat walk_at"rd1")
local macro_rules| `(tactic| walk_at"gs")=> `(tactic| repeat ((fail_if_success (with_reducible refine DT ?_));walk_at"rd1"))
local macro_rules| `(tactic| walk_at"nn")=> `(tactic| repeat first|exact nn_nil|refine nn_app ?_ ?_|refine nn_cons (by omega) ?_|exact nn_map (fun n=>by omega))
section
variable {P:Program}{w:World}{K:W.Frag}{mg:Str->Option Value}{base:Heap}
def K9:V->Bool
 | .int _=>true
 | _=>false
def oO (K:W.Frag):Sp:=fun vs H Q _=>∃x n,vs=[x]/\BTy K H x n/\Q (.bl (K9 x)) H
theorem F7 {H:Hp}{Q:VK}{E:XK}{i:Int} (h:Q (.bl true) H):oO K [.int i] H Q E:=⟨_,_,rfl,.int i,h⟩
theorem wP (m:M K mg):bK P w K mg base CX0 1 m.lJ m.lH ["thing"] (oO K):=by
 refine m.jB.ok sc_is_whole (fun vs H Q E h=> ?_) (fun cdv A outer s H vs Q E hr h=> ?_)
 ·obtain⟨x,n,rfl,b,k⟩:=h;rfl
 ·obtain⟨x,n,rfl,b,k⟩:=h;have nd:=sc_is_whole.nd;walk_at"hu";refine⟨_,(aF (cV (AX (bG lE rfl m.gW fX (aA (pv 0) (aA (tZ rfl m.P7 LR) aC))) (A8 (NE (bG lE rfl m.gW fX (aA (pv 0) (aA (tZ rfl m.N1 IW) aC)))))))),?_⟩;refine aZ (σ:=[some (x)]) rfl ?_;refine⟨_,rfl,_,_,_,_,_,rfl,b.ty,rfl,zL b "int" (.inl rfl),_,rfl,?_⟩;refine rG (fun h1=>⟨_,rfl,_,_,_,_,_,rfl,b.ty,rfl,zL b "bool" (.inr (.inl rfl)),_,rfl,?_⟩) (fun h1=> ?_)
  ·cases b<;>first|exact k|exact absurd h1 (by decide)
  ·cases b<;>first|exact k|exact absurd (by decide) h1
theorem wX (m:M K mg):Fc P w K mg base "is_whole" 1 ["thing"] (oO K):=⟨_,_,m.AC,m.jB.kp,m.AB,wP m⟩
def nmB:V->Bool
 | .str z=>bF z
 | _=>false
def rE (K:W.Frag):Sp:=fun vs H Q _=>∃x n,vs=[x]/\BTy K H x n/\(∀z,x= .str z->z.length<=1000)/\∀H',Same H H'->Q (.bl (nmB x)) H'
theorem J4 {H:Hp}{Q:VK}{E:XK}{z:Str} (hz:bF z=true) (h:∀H',Same H H'->Q (.bl true) H'):rE K [.str z] H Q E :=
 ⟨_,_,rfl,.str z,fun y e=>by cases e;exact Nat.le_trans (AQ hz) (by decide),fun H' s=>by rw[show nmB (.str z)=true from hz];exact h H' s⟩
theorem le1 (a c:Nat):(!decide ([c]<[a]))=decide (a<=c):=by
 have:([c]<[a])↔c<a:=by
  constructor
  ·intro h;cases h with
   | rel h=>exact h
   | cons h=>cases h
  ·exact fun h=> .rel h
 by_cases h:c<a
 ·rw[decide_eq_true (this.mpr h),decide_eq_false (by omega)];rfl
 ·rw[decide_eq_false (fun z=>h (this.mp z)),decide_eq_true (by omega)];rfl
theorem O0:("a" :Str).cps.toList=[97]:=by decide +kernel
theorem OR:("z" :Str).cps.toList=[122]:=by decide +kernel
theorem sF {α:Type}(p:α->Bool)(d:α):∀l:List α,((List.range l.length).map fun i=>p (l.getD i d)).all id=l.all p
 | []=>rfl
 | a::l=>by
  rw[List.length_cons,List.range_succ_eq_map,List.map_cons,List.all_cons,List.map_map,List.all_cons,←sF p d l];rfl
theorem EZ {H:Hp}{p:Addr}{o:HO} (h:H p=none):Same H (upd H p o):=fun b u e=>by rw[aI (aT e h)];exact e
theorem yZ (m:M K mg):bK P w K mg base CX0 1 m.nC m.nA ["thing"] (rE K):=by
 refine m.j6.ok sc_is_name (fun vs H Q E h=> ?_) (fun cdv A outer s H vs Q E hr h=> ?_)
 ·obtain⟨x,n,rfl,b,hz,k⟩:=h;rfl
 ·obtain⟨x,n,rfl,b,hz,k⟩:=h;have nd:=sc_is_name.nd;walk_at"hu";obtain⟨tok_LONGEST_NAME,iD⟩:=m.iD;refine⟨_,(aD (dU (mV (jF (bG lE rfl m.gW fX (aA (pv 0) (aA (tZ rfl m.QA K3) aC))))) (aF (cV zO)) cE)
   (aF (cV (AX (uY GT GT aE (bG tD rfl m.jA gI (aA (pv 0) aC)) (IN rfl iD)) (A8 (bG (FJ rfl) rfl m.P6 NY (aA (fB (N:=["sign"]) (nl:=1) (ci:=[]) rfl (blk (s.heap.objs.size+1) rfl rfl rfl (by kernel_rfl)) (LK (pv 0)) (fun _ _ _ _=>(aJ (i:=0) (show (["sign"]:List Str).Nodup by decide +kernel) rfl (by walk_at"oi"))) (fun _ _ _ _=>eY) (fun _ _ _ _=>(uY A2 A2 iQ (pv 0) iQ))) aC))))))),?_⟩
  refine aZ (σ:=[some (x)]) rfl ?_;refine⟨_,rfl,_,_,_,_,_,rfl,b.ty,rfl,zL b "str" (.inr (.inr rfl)),_,rfl,?_⟩;refine rG (fun h1=> ?_) (fun h1=> ?_)
  ·show Q (.bl false) H;cases b<;>first|exact k H (Same.refl H)|exact absurd h1 (by decide)
  ·have hs:∃z,x= .str z:=by
    cases b<;>first|exact⟨_,rfl⟩|exact absurd (by decide) h1
   obtain⟨z,rfl⟩:=hs;have hl:=hz z rfl;have hl':z.length<=sizeLine:=Nat.le_of_lt (BE hl);refine⟨_,rfl,z,rfl,hl',_,_,rfl,rfl,_,rfl,?_⟩;refine rG (fun h2=>⟨_,_,rfl,rfl,_,rfl,?_⟩) (fun h2=>⟨_,rfl,?_⟩)
   ·refine rG (fun h3=> ?_) (fun h3=> ?_)
    ·refine⟨_,rfl,z,rfl,?_⟩;refine JL z.cps.size (fun i=> .bl (sgB (z.cps.toList.getD i 0))) hl' (fun H'=>H'=H) rfl (fun _ _=>rfl) (fun i _ hi _=>hi) ?_ ?_ ?_ ?_ ?_
     ·rintro i _ x H' hi rfl ⟨rfl,c,hc,rfl⟩;refine⟨⟨rfl,fun j v hv=> ?_⟩,rfl,?_⟩
      ·match j,hv with
       | 0,hv=>cases hv
       | j+1,hv=>cases hv
      ·have hc':z.cps.toList.getD i 0=c:=by
        rw[List.getD_eq_getElem?_getD,Array.getElem?_toList,hc];rfl
       refine⟨_,rfl,_,_,rfl,rfl,_,rfl,?_⟩;rw[O0,hc'];refine rG (fun h4=>⟨_,_,rfl,rfl,?_,rfl⟩) (fun h4=>⟨?_,rfl⟩)
       ·have h4':97<=c:=by rw[show (⟨#[c]⟩:Str).cps.toList=[c] from rfl,le1]at h4;exact of_decide_eq_true h4
        rw[OR,show (⟨#[c]⟩:Str).cps.toList=[c] from rfl,le1];unfold sgB;rw[decide_eq_true h4',Bool.true_and]
       ·have h4':¬97<=c:=by rw[show (⟨#[c]⟩:Str).cps.toList=[c] from rfl,le1]at h4;exact fun z=>h4 (decide_eq_true z)
        unfold sgB;rw[decide_eq_false h4',Bool.false_and]
     ·exact fun _ _ _ _ f q=>f _ _ q
     ·rintro σ H Q Q' f ⟨v,e,i,j,e1,e2,k,e3,q⟩;refine⟨v,e,i,j,e1,e2,k,e3,?_⟩;revert q
      split
      ·rintro ⟨i,j,e1,e2,q⟩;exact⟨i,j,e1,e2,f _ _ q⟩
      ·exact fun q=>f _ _ q
     ·exact fun _ _ _ _ _ f q=>f _ _ q
     ·rintro _ rfl p hp;refine⟨p,(List.range z.cps.size).map (fun i=>sgB (z.cps.toList.getD i 0)),rfl,SqL.of ?_,?_⟩
      ·rw[aW,List.map_map];rfl
      ·have e:=sF sgB 0 z.cps.toList;rw[Array.length_toList]at e;rw[e];have e2:nmB (.str z)=z.cps.toList.all sgB:=by
        show bF z=_;unfold bF;rw[show decide (1<=(z.length:Int))=true from h2,show decide ((z.length:Int)<=8)=true from h3];rfl
       rw[←e2];exact k _ (EZ hp)
    ·have e2:nmB (.str z)=false:=by
      show bF z=_;unfold bF;rw[show decide ((z.length:Int)<=8)=false from by simpa using h3];simp
     have:=k H (Same.refl H);rw[e2]at this;exact this
   ·have e2:nmB (.str z)=false:=by
     show bF z=_;unfold bF;rw[show decide (1<=(z.length:Int))=false from by simpa using h2];simp
    have:=k H (Same.refl H);rw[e2]at this;exact this
theorem yK (m:M K mg):Fc P w K mg base "is_name" 1 ["thing"] (rE K):=⟨_,_,m.DL,m.j6.kp,m.DM,yZ m⟩
local macro_rules| `(tactic| walk_at"rd1")=> `(tactic| first|(with_reducible refine F7 ?_)|((with_reducible refine' J4 ?s ?_);(case s=>assumption);intro H' S'))
def jI (K:W.Frag):Sp:=fun vs H Q _=>∃(part z:Str),vs=[.str part,.str z]/\bF z=true/\∀H',Same H H'->Q .non H'
theorem wU {H:Hp}{Q:VK}{E:XK}{part z:Str} (hz:bF z=true) (h:∀H',Same H H'->Q .non H'):jI K [.str part,.str z] H Q E:=⟨_,_,rfl,hz,h⟩
theorem uG (m:M K mg):bK P w K mg base CX0 2 m.kB m.kA ["part","thing"] (jI K):=by
 refine m.fE.ok sc_need_name (fun vs H Q E h=> ?_) (fun cdv A outer s H vs Q E hr h=> ?_)
 ·obtain⟨part,z,rfl,hz,k⟩:=h;rfl
 ·obtain⟨part,z,rfl,hz,k⟩:=h;have nd:=sc_need_name.nd;walk_at"hu";have j6:= @yK P w K mg base m;refine⟨_,(aF (dU (mV (jF (bI j6 hr (aA (pv 1) aC)))) (aF eU) cE)),?_⟩;refine aZ (σ:=[some (.str part),some (.str z)]) rfl ?_;walk_at"go";exact k _ (by walk_at"sm")
theorem uJ (m:M K mg):Fc P w K mg base "need_name" 2 ["part","thing"] (jI K):=⟨_,_,m.xC,m.fE.kp,m.xB,uG m⟩
def iU (K:W.Frag):Sp:=fun vs H Q _=>∃(part:Str) (i l:Int),vs=[.str part,.int i,.int l]/\l<=i/\Q .non H
theorem v4 {H:Hp}{Q:VK}{E:XK}{part:Str}{i l:Int} (hz:l<=i) (h:Q .non H):iU K [.str part,.int i,.int l] H Q E:=⟨_,_,_,rfl,hz,h⟩
theorem tU (m:M K mg):bK P w K mg base CX0 2 m.j1 m.jY ["part","thing","least"] (iU K):=by
 refine m.gX.ok sc_need_whole (fun vs H Q E h=> ?_) (fun cdv A outer s H vs Q E hr h=> ?_)
 ·obtain⟨part,i,l,rfl,hz,k⟩:=h;rfl
 ·obtain⟨part,i,l,rfl,hz,k⟩:=h;have nd:=sc_need_whole.nd;walk_at"hu";have jB:= @wX P w K mg base m;refine⟨_,(aF (dU (PW.pt (zI (mV (jF (bI jB hr (aA (pv 1) aC)))) (A4 (c4 nO (pv 1) (pv 2) (cT _))))) (aF eU) cE)),?_⟩;refine aZ (σ:=[some (.str part),some (.int i),some (.int l)]) rfl ?_;walk_at"go";exact k
theorem tV (m:M K mg):Fc P w K mg base "need_whole" 2 ["part","thing","least"] (iU K):=⟨_,_,m.v6,m.gX.kp,m.wC,tU m⟩
local macro_rules| `(tactic| walk_at"rd1")=> `(tactic| first|((with_reducible refine' wU ?s ?_);(case s=>assumption);intro H' S')|((with_reducible refine' v4 ?s ?_);(case s=>walk_at"sd")))
abbrev kQ (n s e w:V):List (Str×V):=cB "wide" w (cB "end" e (cB "start" s (cB "name" n [])))
def nQ (e:V):Prop:=e= .non∨∃z,e= .str z/\bF z=true
def gM (K:W.Frag):Sp:=fun vs H Q _=>∃(p C dx:Addr) (n s:Str) (e:V) (wd:Int),vs=[.ref p,.str n,.str s,e,.int wd]/\DCls K C/\H p=some (.ins C dx [])/\bF n=true/\bF s=true/\nQ e/\0<=wd ∧
 ∀H',SameBut p H H'->H' p=some (.ins C dx (kQ (.str n) (.str s) e (.int wd)))->Q .non H'
theorem wT {H:Hp}{Q:VK}{E:XK}{p C dx:Addr}{n s:Str}{e:V}{wd:Int} (dc:DCls K C) (hp:H p=some (.ins C dx [])) (hn:bF n=true) (hs:bF s=true) (he:nQ e) (hw:0<=wd)
  (k:∀H',SameBut p H H'->H' p=some (.ins C dx (kQ (.str n) (.str s) e (.int wd)))->Q .non H'):gM K [.ref p,.str n,.str s,e,.int wd] H Q E:=⟨_,_,_,_,_,_,_,rfl,dc,hp,hn,hs,he,hw,k⟩
theorem oU (m:M K mg):bK P w K mg base CX0 3 m.gT m.dY ["self","name","start","end","wide"] (gM K):=by
 refine m.qM.ok sc_Door___init__ (fun vs H Q E h=> ?_) (fun cdv A outer s H vs Q E hr h=> ?_)
 ·obtain⟨p,C,dx,n,st,e,wd,rfl,dc,hp,hn,hs,he,hw,k⟩:=h;rfl
 ·obtain⟨p,C,dx,n,st,e,wd,rfl,dc,hp,hn,hs,he,hw,k⟩:=h;have nd:=sc_Door___init__.nd;walk_at"hu";have fE:= @uJ P w K mg base m;have gX:= @tV P w K mg base m;refine⟨_,(aD (cC (bI fE hr (aA iQ (aA (pv 1) aC))))
   (aD (cC (bI fE hr (aA iQ (aA (pv 2) aC))))
   (aD (dU (c4 nS (pv 3) jK (cT _)) (aF (cC (bI fE hr (aA iQ (aA (pv 3) aC))))) cE)
   (aD (cC (bI gX hr (aA iQ (aA (pv 4) (aA aE aC)))))
   (aD (gL (pv 0) (pv 1) rfl)
   (aD (gL (pv 0) (pv 2) rfl)
   (aD (gL (pv 0) (pv 3) rfl)
   (aF (gL (pv 0) (pv 4) rfl))))))))),?_⟩
  refine aZ (σ:=[some (.ref p),some (.str n),some (.str st),some (e),some (.int wd)]) rfl ?_;rcases he with rfl|⟨z,rfl,hz⟩
  ·walk_at"go";exact k _ (by walk_at"sb") (by assumption)
  ·walk_at"go";exact k _ (by walk_at"sb") (by assumption)
theorem DC (m:M K mg):Kc P w K mg base "Door" m.bL 3 [.int 1] (gM K):=by
 obtain⟨ds,h1,h2⟩:=m.mW;exact⟨_,_,_,_,m.N5,m.KF,h1,h2,oU m⟩
theorem FY {H:Hp}{Q:VK}{E:XK}{C:Addr}{vs dvs:List V}{n s:Str}{e:V}{wd:Int} (ev:vs++dvs=[.str n,.str s,e,.int wd]) (dc:DCls K C) (hn:bF n=true) (hs:bF s=true) (he:nQ e) (hw:0<=wd)
  (k:∀p dx H',H p=none->Same H H'->H' p=some (.ins C dx (kQ (.str n) (.str s) e (.int wd)))->Q (.ref p) H'):tW C (gM K) dvs E Q vs H :=
 E3 (fun p dx H0 Q' h k' s0=>by rw[ev];exact wT dc h hn hs he hw k') k
local macro_rules| `(tactic| walk_at"rd1")=> `(tactic| ((with_reducible refine' FY ?v ?d ?hn ?hs ?he ?hw ?_);(case v=>rfl);(case d=>assumption);(case hn=>assumption);(case hs=>assumption);(case he=>first|assumption|exact .inl rfl|exact .inr ⟨_,rfl,by assumption⟩);(case hw=>walk_at"sd");intro p' dx' H' n' S' e'))
def nN (K:W.Frag):Sp:=fun vs H Q _=>∃(p C dx:Addr) (fs:List (Str×V)) (e:V),vs=[.ref p]/\DCls K C/\H p=some (.ins C dx fs)/\fs.lookup ("end" :Str)=some e/\Q (.bl (decide (e= .non))) H
theorem JX {H:Hp}{Q:VK}{E:XK}{p C dx:Addr}{fs:List (Str×V)} (hp:H p=some (.ins C dx fs)) (dc:DCls K C) (l:fs.lookup ("end" :Str)=some .non) (k:Q (.bl true) H):nN K [.ref p] H Q E:=⟨_,_,_,_,_,rfl,dc,hp,l,k⟩
theorem J3 {H:Hp}{Q:VK}{E:XK}{p C dx:Addr}{fs:List (Str×V)}{z:Str} (hp:H p=some (.ins C dx fs)) (dc:DCls K C) (l:fs.lookup ("end" :Str)=some (.str z)) (k:Q (.bl false) H):nN K [.ref p] H Q E :=
 ⟨_,_,_,_,_,rfl,dc,hp,l,by rw[decide_eq_false (fun z=>by cases z)];exact k⟩
theorem p7 (m:M K mg):bK P w K mg base CX0 1 m.iH m.iC ["self"] (nN K):=by
 refine m.rQ.ok sc_Door_is_exit (fun vs H Q E h=> ?_) (fun cdv A outer s H vs Q E hr h=> ?_)
 ·obtain⟨p,C,dx,fs,e,rfl,dc,hp,l,k⟩:=h;rfl
 ·obtain⟨p,C,dx,fs,e,rfl,dc,hp,l,k⟩:=h;have nd:=sc_Door_is_exit.nd;walk_at"hu";refine⟨_,(aF (cV (nF LT (jG (pv 0) rfl) jK (cT _)))),?_⟩;refine aZ (σ:=[some (.ref p)]) rfl ?_;walk_at"go";exact k
theorem qK (m:M K mg):Mc P w K mg base m.bL "is_exit" 1 (nN K):=⟨_,_,_,m.nW.ic.cl,m.qL,m.rT,p7 m⟩
local macro_rules| `(tactic| walk_at"rd1")=> `(tactic| first|((with_reducible refine' JX ?e ?d ?l ?_);(case e=>walk_at"hp");(case d=>assumption);(case l=>walk_at"lk"))|((with_reducible refine' J3 ?e ?d ?l ?_);(case e=>walk_at"hp");(case d=>assumption);(case l=>walk_at"lk")))
local macro_rules| `(tactic| walk_at"rd1")=> `(tactic| first|(with_reducible refine IH ?_)|(with_reducible refine HJ ?_)|(with_reducible refine NX ?_)|(with_reducible refine C1 ?_)|(with_reducible refine BI ?_)|(with_reducible refine rd_iItemsK ?_)|(with_reducible refine zK ?_)|(with_reducible refine F1 ?_)|((with_reducible refine FO ?_);intro p' H' n' S' e')|((with_reducible refine FP ?_);intro p' H' n' S' e'))
theorem eO {H:Hp}{Q:VK}{l:Addr}{xs:List V}{y:V} (e:H l=some (.lst xs)) (hz:xs.length<sizeLine) (h:∀H',SameBut l H H'->H' l=some (.lst (xs++[y]))->Q .non H'):yA (.ref l) [y] H Q :=
 ⟨l,xs,y,rfl,rfl,e,hz,h _ SameBut.upd aW⟩
def o9:Sp:=fun vs H Q _=>∃(f l:Int),vs=[.int f,.int l]/\0<=f/\f<=l/\Q .non H
theorem JN {H:Hp}{Q:VK}{E:XK}{f l:Int} (h0:0<=f) (h1:f<=l) (h:Q .non H):o9 [.int f,.int l] H Q E:=⟨_,_,rfl,h0,h1,h⟩
theorem tS (m:M K mg):bK P w K mg base CX0 1 m.jQ m.jX ["first","last"] (o9):=by
 refine m.gZ.ok sc_need_turns (fun vs H Q E h=> ?_) (fun cdv A outer s H vs Q E hr h=> ?_)
 ·obtain⟨f,l,rfl,h0,h1,k⟩:=h;rfl
 ·obtain⟨f,l,rfl,h0,h1,k⟩:=h;have nd:=sc_need_turns.nd;walk_at"hu";refine⟨_,(aD (dU (c4 nO (pv 0) aE (cT _)) (aF eU) cE)
   (aF (dU (c4 nO (pv 1) (pv 0) (cT _)) (aF eU) cE))),?_⟩
  refine aZ (σ:=[some (.int f),some (.int l)]) rfl ?_;walk_at"go";exact k
theorem tQ (m:M K mg):Fc P w K mg base "need_turns" 1 ["first","last"] (o9):=⟨_,_,m.wB,m.gZ.kp,m.v8,tS m⟩
def qO (K:W.Frag):Sp:=fun vs H Q _=>∃(a:Addr) (ss:List Str),vs=[.ref a]/\SqL K H a (ss.map V.str)/\ss.Nodup/\ss.length<=100/\∀H',Same H H'->Q .non H'
theorem AF {H:Hp}{Q:VK}{E:XK}{a:Addr}{ss:List Str} (hS:SqL K H a (ss.map V.str)) (nd:ss.Nodup) (hl:ss.length<=100) (h:∀H',Same H H'->Q .non H'):qO K [.ref a] H Q E:=⟨_,_,rfl,hS,nd,hl,h⟩
theorem uC {α:Type}{ss:List α} (nd:ss.Nodup) {i:Nat}{z:α} (hz:ss[i]? =some z):z∉ss.take i:=fun h=>by
 obtain⟨hi,e⟩:=List.getElem?_eq_some_iff.mp hz;obtain⟨j,hj,ej⟩:=List.getElem_of_mem h;rw[List.length_take]at hj;rw[List.getElem_take]at ej;exact(List.pairwise_iff_getElem.mp nd) j i (by omega) hi (by omega) (ej.trans e.symm)
theorem cQ {α:Type}{ss:List α}{i:Nat}{z:α} (hz:ss[i]? =some z):ss.take (i+1)=ss.take i++[z]:=by rw[List.take_succ,hz];rfl
theorem nY (m:M K mg):bK P w K mg base CX0 1 m.gC m.gE ["names"] (qO K):=by
 refine m.dH.ok sc_need_each_once (fun vs H Q E h=> ?_) (fun cdv A outer s H vs Q E hr h=> ?_)
 ·obtain⟨a,ss,rfl,hS,hnd,hlen,k⟩:=h;rfl
 ·obtain⟨a,ss,rfl,hS,hnd,hlen,k⟩:=h;have nd:=sc_need_each_once.nd;walk_at"hu";refine⟨_,(aD (aY (i:=1) nd rfl (by walk_at"oi") o8)
   (aF (dX PassesOwn.never rfl (bW (pv 0)) (aJ (i:=2) nd rfl (by walk_at"oi")) (aD (dU (C8 (NU hu1 (pv 2) (pv 1)) (by with_unfolding_all rfl)) (aF eU) cE)
   (aF (kP hu1 (pv 1) (pv 2) zO rfl)))))),?_⟩
  refine aZ (σ:=[some (.ref a),none,none]) rfl ?_;walk_at"go";rename_i p H1 n1 S1 e1;refine gF (ss.map V.str) (fun i σ' H'=>SameBut p H1 H'/\∃kvs,H' p=some (.dK kvs)/\kvs.length<=i/\(∀z,(aV kvs (.inr z)).isSome=true->z∈ss.take i)/\∃x,σ'=[some (.ref a),some (.ref p),x]) ⟨SameBut.refl,[],e1,Nat.le_refl _,(fun z h=>by cases h),_,rfl⟩ (fun i σ' H' _ q=>(SameBut.same n1 S1 q.1).seq hS) ?_ ?_
  ·rintro i x _ H' hx ⟨sb,kvs,ek,hk,hin,y,rfl⟩;rw[List.getElem?_map]at hx;obtain⟨z,hz,rfl⟩:=Option.map_eq_some_iff.mp hx;have hi:i<ss.length:=(List.getElem?_eq_some_iff.mp hz).1;have hno:(aV kvs (.inr z)).isSome=false:=by
    cases e:(aV kvs (.inr z)).isSome with
    | false=>rfl
    | true=>exact absurd (hin z e) (uC hnd hz)
   walk_at"go";refine IC (.inl ek) ?_;rw[hno];walk_at"go";refine oQ ek (by rw[sizeLine_eq];omega) fun H9 B9 e9=> ?_;refine⟨by walk_at"sb",_,e9,Nat.le_trans (fC _ _ _) (by omega),fun y hy=> ?_,_,rfl⟩;rw[o0]at hy;rw[cQ hz]
   by_cases e:(Sum.inr y:Key)= .inr z
   ·cases e;exact List.mem_append_right _ (.head _)
   ·rw[if_neg e]at hy;exact List.mem_append_left _ (hin y hy)
  ·rintro _ H' ⟨sb,kvs,ek,hk,hin,y,rfl⟩;exact k _ (SameBut.same n1 S1 sb)
theorem nX (m:M K mg):Fc P w K mg base "need_each_once" 1 ["names"] (qO K):=⟨_,_,m.pP,m.dH.kp,m.pQ,nY m⟩
abbrev bN:=Str×Str×V
def DoorAt (C:Addr)(H:Hp)(v:V)(d:bN):Prop:=∃p dx,v= .ref p/\H p=some (.ins C dx (kQ (.str d.1) (.str d.2.1) d.2.2 (.int 1)))
theorem DoorAt.same {C:Addr}{H H':Hp}{v:V}{d:bN} (h:DoorAt C H v d) (s:Same H H'):DoorAt C H' v d:=let ⟨p,dx,e,q⟩:=h;⟨p,dx,e,s _ _ q⟩
def kJ (rs:List Str)(d:bN):Prop:=d.2.1∈rs/\(d.2.2= .non∨∃z,d.2.2= .str z/\z∈rs)
def mU (K:W.Frag)(C:Addr):Sp:=fun vs H Q _=>∃(a b:Addr) (us:List V) (ds:List bN) (rs:List Str),vs=[.ref a,.ref b]/\SqL K H a us/\Paired (DoorAt C H) us ds/\(∀d∈ds,kJ rs d)/\ds.length<=20/\SqL K H b []/\∀p (ss:List Str) H',Same H H'->H' p=some (.lst (ss.map V.str))->(∀z∈ss,z∈rs)->ss.length<=40->Q (.ref p) H'
theorem FA {C:Addr}{H:Hp}{Q:VK}{E:XK}{a b:Addr}{us:List V}{ds:List bN}{rs:List Str} (hS:SqL K H a us) (hd:Paired (DoorAt C H) us ds) (hr:∀d∈ds,kJ rs d) (hl:ds.length<=20) (hb:SqL K H b []) (h:∀p (ss:List Str) H',Same H H'->H' p=some (.lst (ss.map V.str))->(∀z∈ss,z∈rs)->ss.length<=40->Q (.ref p) H'):mU K C [.ref a,.ref b] H Q E:=⟨_,_,_,_,_,rfl,hS,hd,hr,hl,hb,h⟩
theorem mE (m:M K mg):bK P w K mg base CX0 2 m.fT m.fU ["doors","people"] (mU K m.bL):=by
 refine m.eA.ok sc_rooms_spoken_of (fun vs H Q E h=> ?_) (fun cdv A outer s H vs Q E hr h=> ?_)
 ·obtain⟨a,b,us,ds,rs,rfl,hS,hd,hr',hlen,hb,k⟩:=h;rfl
 ·obtain⟨a,b,us,ds,rs,rfl,hS,hd,hr',hlen,hb,k⟩:=h;have nd:=sc_rooms_spoken_of.nd;walk_at"hu";have w_mc_Door_is_exit:= @qK P w K mg base m;have w_dc_Door:=m.nW;refine⟨_,(aD (aY (i:=2) nd rfl (by walk_at"oi") (iO aC))
   (aD (dX PassesOwn.never rfl (bW (pv 0)) (aJ (i:=3) nd rfl (by walk_at"oi")) (aD (cC (k5 PySem.F.plainAttrs_list PySem.F.slot_list_append PySem.F.type_list_append eN (pv 2) (aA (jG (pv 3) rfl) aC)))
   (aF (dU (mV (jF (M0 1 hr (pv 3)))) (aF (cC (k5 PySem.F.plainAttrs_list PySem.F.slot_list_append PySem.F.type_list_append eN (pv 2) (aA (jG (pv 3) rfl) aC)))) cE))))
   (aF (cV (aN A5 (pv 2) (fB (N:=["room","number"]) (nl:=2) (ci:=[]) rfl (blk (s.heap.objs.size+1) rfl rfl rfl (by kernel_rfl)) (bW (pv 1)) (fun _ _ _ _=>(g7 (K:=K) (n:=2) rfl (aS (aJ (i:=0) (show (["room","number"]:List Str).Nodup by decide +kernel) rfl (by walk_at"oi")) (aS (aJ (i:=1) (show (["room","number"]:List Str).Nodup by decide +kernel) rfl (by walk_at"oi")) dO)))) (fun _ _ _ _=>eY) (fun _ _ _ _=>(pv 0)))))))),?_⟩
  refine aZ (σ:=[some (.ref a),some (.ref b),none,none]) rfl ?_;have hul:us.length=ds.length:=Paired.length hd;walk_at"go";rename_i p H1 n1 S1 e1;refine gF us (fun i σ' H'=>SameBut p H1 H'/\(∃ss:List Str,H' p=some (.lst (ss.map V.str))/\(∀z∈ss,z∈rs)/\ss.length<=2 * i)/\∃x,σ'=[some (.ref a),some (.ref b),some (.ref p),x]) ⟨SameBut.refl,⟨[],e1,(fun _ z=>nomatch z),Nat.le_refl _⟩,_,rfl⟩ (fun i σ' H' _ q=>(SameBut.same n1 S1 q.1).seq hS) ?_ ?_
  ·rintro i x _ H' hx ⟨sb,⟨ss,es,hin,hsl⟩,y,rfl⟩;have hi:i<us.length:=(List.getElem?_eq_some_iff.mp hx).1;obtain⟨d,hdx⟩:∃d,ds[i]? =some d:=⟨_,List.getElem?_eq_getElem (by omega)⟩
   obtain⟨q,dx,rfl,hq⟩:=Paired.at2 hd hx hdx;obtain⟨n,st,e⟩:=d;obtain⟨r1,r2⟩:=hr' _ (List.mem_of_getElem? hdx);have hqp:q≠p:=fun z=>by rw[z,n1]at hq;cases hq
   have hq':H' q=some (.ins m.bL dx (kQ (.str n) (.str st) e (.int 1))):=sb _ _ (S1 _ _ hq) hqp;rcases r2 with r2|⟨z,r2,r3⟩
   ·subst r2;walk_at"go";refine eO es (by rw[sizeLine_eq,List.length_map];omega) fun H8 B8 e8=> ?_;have hq8:=B8 _ _ hq' hqp;walk_at"go";exact⟨by walk_at"sb",⟨ss++[st],by rw[e8,List.map_append];rfl,fun z hz=>(List.mem_append.mp hz).elim (hin z) (fun w=>by cases List.mem_singleton.mp w;exact r1),by rw[List.length_append];show ss.length+1<=_;omega⟩,_,rfl⟩
   ·subst r2;walk_at"go";refine eO es (by rw[sizeLine_eq,List.length_map];omega) fun H8 B8 e8=> ?_;have hq8:=B8 _ _ hq' hqp;walk_at"go";refine eO e8 (by rw[sizeLine_eq,List.length_append,List.length_map];show ss.length+1<_;omega) fun H9 B9 e9=> ?_;walk_at"go";refine⟨by walk_at"sb",⟨ss++[st]++[z],by rw[e9,List.map_append,List.map_append];rfl,fun z hz=> ?_,by rw[List.length_append,List.length_append];show ss.length+1+1<=_;omega⟩,_,rfl⟩;rcases List.mem_append.mp hz with hz|hz
    ·exact(List.mem_append.mp hz).elim (hin z) (fun w=>by cases List.mem_singleton.mp w;exact r1)
    ·cases List.mem_singleton.mp hz;exact r3
  ·rintro _ H' ⟨sb,⟨ss,es,hin,hsl⟩,y,rfl⟩;have sH:Same H H':=SameBut.same n1 S1 sb;have hb':=sH.seq hb;walk_at"go";refine qV (α:=Unit) (xs:=[]) (vs:=[]) (fun _=> .non) (fun _=> .non) (fun _=>true) (fun _ _ _=>True) (fun _ _ _ _ _ _=>trivial) (Nat.zero_le _) (rest:=[]) (by rfl) hb' .nil (fun _ _ z=>nomatch z) (fun _ _ z=>nomatch z) ?_;intro ys H2 s2 hp;cases hp;walk_at"go";rename_i q H3 n3 S3 e3 q4 H4 n4 S4 e4;exact k _ ss _ (by walk_at"sm") (by rw[e4,List.append_nil]) hin (by omega)
theorem mG (m:M K mg):Fc P w K mg base "rooms_spoken_of" 2 ["doors","people"] (mU K m.bL):=⟨_,_,m.oB,m.eA.kp,m.oA,mE m⟩
def o6 (K:W.Frag):Sp:=fun vs H Q _=>∃(a b:Addr) (ss:List Str) (kvs:List (Key×V)),vs=[.ref a,.ref b]/\SqL K H a (ss.map V.str)/\Rd H b (.dK kvs)/\(∀z∈ss,(aV kvs (.inr z)).isSome=true)/\∀H',Same H H'->Q .non H'
theorem IY {H:Hp}{Q:VK}{E:XK}{a b:Addr}{ss:List Str}{kvs:List (Key×V)} (hS:SqL K H a (ss.map V.str)) (hb:Rd H b (.dK kvs)) (hk:∀z∈ss,(aV kvs (.inr z)).isSome=true) (h:∀H',Same H H'->Q .non H'):o6 K [.ref a,.ref b] H Q E:=⟨_,_,_,_,rfl,hS,hb,hk,h⟩
theorem HE {H H':Hp}{a:Addr}{u:HO} (s:Same H H') (r:Rd H a u):Rd H' a u:=r.elim (fun e=> .inl (s _ _ e)) fun⟨o,e⟩=> .inr ⟨o,s _ _ e⟩
theorem tO (m:M K mg):bK P w K mg base CX0 1 m.jW m.jV ["names","sizes"] (o6 K):=by
 refine m.gS.ok sc_need_rooms (fun vs H Q E h=> ?_) (fun cdv A outer s H vs Q E hr h=> ?_)
 ·obtain⟨a,b,ss,kvs,rfl,hS,hb,hk,k⟩:=h;rfl
 ·obtain⟨a,b,ss,kvs,rfl,hS,hb,hk,k⟩:=h;have nd:=sc_need_rooms.nd;walk_at"hu";refine⟨_,(aF (dX PassesOwn.never rfl (bW (pv 0)) (aJ (i:=2) nd rfl (by walk_at"oi")) (aF (dU (C8 (BT hu1 (pv 2) (pv 1)) (by with_unfolding_all rfl)) (aF eU) cE)))),?_⟩;refine aZ (σ:=[some (.ref a),some (.ref b),none]) rfl ?_;walk_at"go";refine gF (ss.map V.str) (fun i σ' H'=>Same H H'/\∃x,σ'=[some (.ref a),some (.ref b),x]) ⟨Same.refl _,_,rfl⟩ (fun i σ' H' _ q=>q.1.seq hS) ?_ ?_
  ·rintro i x _ H' hx ⟨s1,y,rfl⟩;rw[List.getElem?_map]at hx;obtain⟨z,hz,rfl⟩:=Option.map_eq_some_iff.mp hx;have hz':=hk z (List.mem_of_getElem? hz);walk_at"go";refine zS (HE s1 hb) ?_;rw[hz'];walk_at"go";exact⟨s1,_,rfl⟩
  ·rintro _ H' ⟨s1,y,rfl⟩;exact k _ s1
theorem tK (m:M K mg):Fc P w K mg base "need_rooms" 1 ["names","sizes"] (o6 K):=⟨_,_,m.wD,m.gS.kp,m.wH,tO m⟩
def szK (rs:List Str):List (Key×V):=rs.map fun z=>((.inr z:Key),V.int 5)
theorem xE {rs:List Str}{z:Str} (h:z∈rs):aV (szK rs) (.inr z)=some (.int 5):=by
 induction rs with
 | nil=>nomatch h
 | cons a rs ih =>
  by_cases e:(Sum.inr a:Key)= .inr z
  ·exact cN e
  ·have h1:aV (szK (a::rs)) (.inr z)=aV (szK rs) (.inr z):=cA e;rw[h1];rcases List.mem_cons.mp h with h|h
   ·exact absurd (by rw[h]) e
   ·exact ih h
theorem tE {kvs:List (Key×V)}{k:Key} (h:∀e∈kvs,e.1≠k):aV kvs k=none:=by
 induction kvs with
 | nil=>rfl
 | cons a l ih =>
  rw[cA (h a (.head _))];exact ih fun e he=>h e (List.mem_cons_of_mem _ he)
theorem sT:∀(ps kvs:List (Key×V)),(ps.map (·.1)).Nodup->(∀e∈kvs,∀q∈ps,e.1≠q.1)->gQ kvs ps=kvs++ps
 | [],kvs,_,_=>(List.append_nil _).symm
 | (k,v)::ps,kvs,nd,h=>by
  have nd':=List.pairwise_cons.mp nd;show gQ (cI kvs k v) ps=_;rw[vR v (tE fun e he=>h e he _ (.head _)),sT ps _ nd'.2,List.append_assoc]
  ·rfl
  ·intro e he q hq;rcases List.mem_append.mp he with he|he
   ·exact h e he q (List.mem_cons_of_mem _ hq)
   ·cases List.mem_singleton.mp he;exact nd'.1 q.1 (List.mem_map.mpr ⟨q,hq,rfl⟩)
theorem IT (rs:List Str):(szK rs).map (·.1)=rs.map (Sum.inr:Str->Key):=by unfold szK;rw[List.map_map];rfl
theorem A1 {rs:List Str}(nd:rs.Nodup):(rs.map (Sum.inr:Str->Key)).Nodup:=by
 rw[List.Nodup,List.pairwise_map];exact List.Pairwise.imp (fun h z=>h (Sum.inr.inj z)) nd
theorem EO {rs:List Str}(nd:rs.Nodup):gQ [] (szK rs)=szK rs:=by
 rw[sT _ _ (by rw[IT];exact A1 nd) (fun e he=>absurd he (List.not_mem_nil))];rfl
def oP (K:W.Frag):Sp:=fun vs H Q _=>∃(a b:Addr) (rs:List Str),vs=[.ref a,.ref b]/\H a=some (.dK (szK rs))/\SqL K H b []/\rs.length<=100/\∀p H' kvs,H p=none->Same H H'->H' p=some (.dK kvs)->(∀z∈rs,aV kvs (.inr z)=some (.int 0))->Q (.ref p) H'
theorem xW {H:Hp}{Q:VK}{E:XK}{a b:Addr}{rs:List Str} (ha:H a=some (.dK (szK rs))) (hb:SqL K H b []) (hl:rs.length<=100) (h:∀p H' kvs,H p=none->Same H H'->H' p=some (.dK kvs)->(∀z∈rs,aV kvs (.inr z)=some (.int 0))->Q (.ref p) H'):oP K [.ref a,.ref b] H Q E:=⟨_,_,_,rfl,ha,hb,hl,h⟩
theorem GM {kvs:List (Key×V)}:∀(o:Obj) (x:HO),HO.dK kvs≠ .frz o x:=fun _ _ z=>by cases z
theorem qD (m:M K mg):bK P w K mg base CX0 1 m.iF m.iB ["sizes","people"] (oP K):=by
 refine m.c5.ok sc_added_people (fun vs H Q E h=> ?_) (fun cdv A outer s H vs Q E hr h=> ?_)
 ·obtain⟨a,b,rs,rfl,ha,hb,hlen,k⟩:=h;rfl
 ·obtain⟨a,b,rs,rfl,ha,hb,hlen,k⟩:=h;have nd:=sc_added_people.nd;walk_at"hu";refine⟨_,(aD (aY (i:=2) nd rfl (by walk_at"oi") o8)
   (aD (IR (dX PassesOwn.never rfl (uV (pv 0)) (aJ (i:=3) nd rfl (by walk_at"oi")) (aF (kP hu1 (pv 2) (pv 3) aE rfl))))
   (aD (dX PassesOwn.never rfl (bW (pv 1)) (kG (n:=2) rfl (aS (aJ (i:=3) nd rfl (by walk_at"oi")) (aS (aJ (i:=4) nd rfl (by walk_at"oi")) dO))) (aF eU))
   (aF (cV (pv 2)))))),?_⟩
  refine aZ (σ:=[some (.ref a),some (.ref b),none,none,none]) rfl ?_;walk_at"go";rename_i p H1 n1 S1 e1;have hap:a≠p:=fun z=>by rw[z,n1]at ha;cases ha
  have ha1:=S1 _ _ ha;refine EL ha1 GM ?_;walk_at"go";refine uP ha1 fun o H2 B2 e2=> ?_;have ep2:H2 p=some (.dK []):=B2 _ _ e1 (Ne.symm hap);refine F4 (szK rs) (fun i σ' H'=>SameBut p H2 H'/\∃kvs,H' p=some (.dK kvs)/\kvs.length<=i/\(∀z∈rs.take i,aV kvs (.inr z)=some (.int 0))/\∃x,σ'=[some (.ref a),some (.ref b),some (.ref p),x,none]) ⟨SameBut.refl,[],ep2,Nat.le_refl _,(fun z h=>by cases h),_,rfl⟩ (fun i σ' H' q=>q.1 _ _ e2 hap) ?_ ?_
  ·rintro i kk v _ H' hx ⟨sb,kvs,ek,hk,hin,y,rfl⟩;unfold szK at hx;rw[List.getElem?_map]at hx;obtain⟨z,hz,ez⟩:=Option.map_eq_some_iff.mp hx;cases ez;have hi:i<rs.length:=(List.getElem?_eq_some_iff.mp hz).1;show (_:TG) (.str z) _ _ _;walk_at"go";refine oQ ek (by rw[sizeLine_eq];omega) fun H9 B9 e9=> ?_;refine⟨by walk_at"sb",_,e9,Nat.le_trans (fC _ _ _) (by omega),fun y hy=> ?_,_,rfl⟩;rw[o0];rw[cQ hz]at hy
   by_cases e:(Sum.inr y:Key)= .inr z
   ·rw[if_pos e]
   ·rw[if_neg e];rcases List.mem_append.mp hy with hy|hy
    ·exact hin y hy
    ·cases List.mem_singleton.mp hy;exact absurd rfl e
  ·rintro _ H' ⟨sb,kvs,ek,hk,hin,y,rfl⟩;refine l7 (sb _ _ e2 hap) fun H3 B3 e3=> ?_;have hl2:(szK rs).length=rs.length:=by unfold szK;rw[List.length_map]
   rw[hl2,List.take_length]at hin;have ep3:=B3 _ _ ek (Ne.symm hap);have sH:Same H H3:=fun x u hx=>by
    by_cases ex:x=a
    ·subst ex;rw[ha]at hx;cases hx;exact e3
    ·have hxp:x≠p:=fun z=>by rw[z,n1]at hx;cases hx
     exact B3 _ _ (sb _ _ (B2 _ _ (S1 _ _ hx) ex) hxp) ex
   have hb3:=sH.seq hb;walk_at"go";refine gF [] (fun i σ' H'=>H'=H3/\σ'=[some (.ref a),some (.ref b),some (.ref p),y,none]) ⟨rfl,rfl⟩ (fun i σ' H' _ q=>by rw[q.1];exact hb3) ?_ ?_
   ·intro i x σ' H' hx;simp at hx
   ·rintro _ _ ⟨rfl,rfl⟩;walk_at"go";exact k _ _ _ n1 sH ep3 hin
theorem j3 (m:M K mg):Fc P w K mg base "added_people" 1 ["sizes","people"] (oP K):=⟨_,_,m.rS,m.c5.kp,m.rV,qD m⟩
def oN (K:W.Frag):Sp:=fun vs H Q _=>∃(a b:Addr) (rs:List Str),vs=[.ref a,.ref b]/\H a=some (.dK (szK rs))/\SqL K H b []/\rs.length<=100/\∀H',Same H H'->Q .non H'
theorem JI {H:Hp}{Q:VK}{E:XK}{a b:Addr}{rs:List Str} (ha:H a=some (.dK (szK rs))) (hb:SqL K H b []) (hl:rs.length<=100) (h:∀H',Same H H'->Q .non H'):oN K [.ref a,.ref b] H Q E:=⟨_,_,_,rfl,ha,hb,hl,h⟩
theorem sN {α:Type}{P:α->Prop}:∀{l:List α}{ys:List V},Paired (fun _ y=>y=V.bl false) l ys->ys=(l.map fun _=>false).map V.bl
 | _,_,.nil=>rfl
 | _,_,.cons h t=>by rw[h,sN (P:=P) t];rfl
theorem tM (m:M K mg):bK P w K mg base CX0 2 m.jZ m.j0 ["sizes","people"] (oN K):=by
 refine m.gY.ok sc_need_space (fun vs H Q E h=> ?_) (fun cdv A outer s H vs Q E hr h=> ?_)
 ·obtain⟨a,b,rs,rfl,ha,hb,hlen,k⟩:=h;rfl
 ·obtain⟨a,b,rs,rfl,ha,hb,hlen,k⟩:=h;have nd:=sc_need_space.nd;walk_at"hu";have c5:= @j3 P w K mg base m;refine⟨_,(aD (dU (jF (bG (sM rfl) rfl m.G8 BL (aA (fB (N:=["room","number"]) (nl:=2) (ci:=[]) rfl (blk (s.heap.objs.size+1) rfl rfl rfl (by kernel_rfl)) (bW (pv 1)) (fun _ _ _ _=>(g7 (K:=K) (n:=2) rfl (aS (aJ (i:=0) (show (["room","number"]:List Str).Nodup by decide +kernel) rfl (by walk_at"oi")) (aS (aJ (i:=1) (show (["room","number"]:List Str).Nodup by decide +kernel) rfl (by walk_at"oi")) dO)))) (fun _ _ _ _=>eY) (fun _ _ _ _=>(nF nO (pv 1) aE (cT _)))) aC))) (aF eU) cE)
   (aD (aY (i:=2) nd rfl (by walk_at"oi") (bI c5 hr (aA (pv 0) (aA (pv 1) aC))))
   (aF (dU (jF (bG (sM rfl) rfl m.G8 BL (aA (xT (fB (N:=["room","inside","sizes"]) (nl:=1) (ci:=[2,0]) rfl (blk (s.heap.objs.size+1) rfl rfl rfl (by kernel_rfl)) (uV (pv 0)) (fun _ _ _ _=>(aJ (i:=0) (show (["room","inside","sizes"]:List Str).Nodup by decide +kernel) rfl (by walk_at"oi"))) (fun _ _ _ _=>eY) (fun _ _ _ _=>(nF GR (qY hu1 (pv 1) (pv 0) (fun _ _=>rfl)) (qY hu1 (pv 2) (pv 0) (fun _ _=>rfl)) (cT _))))) aC))) (aF eU) cE)))),?_⟩
  refine aZ (σ:=[some (.ref a),some (.ref b),none]) rfl ?_;walk_at"go";refine qV (α:=Unit) (xs:=[]) (vs:=[]) (fun _=> .non) (fun _=> .non) (fun _=>true) (fun _ _ _=>True) (fun _ _ _ _ _ _=>trivial) (Nat.zero_le _) (rest:=[]) (by rfl) hb .nil (fun _ _ z=>nomatch z) (fun _ _ z=>nomatch z) ?_;intro ys H2 s2 hp;cases hp;walk_at"go";rename_i q H3 n3 S3 e3;refine CG (bs:=[]) (SqL.of e3) ?_;rw[show ([]:List Bool).any id=false from rfl];walk_at"go";have sA:Same H H3:=s2.trans S3;refine xW (sA _ _ ha) (sA.seq hb) hlen fun p H4 kvs n4 S4 e4 hv=> ?_;have ha4:=S4 _ _ (sA _ _ ha);walk_at"go";refine uL ha4 GM ?_;walk_at"go";refine uP ha4 fun o H5 B5 e5=> ?_;have hpa:p≠a:=fun z=>by rw[z,sA _ _ ha]at n4;cases n4
  have ep5:=B5 _ _ e4 hpa;refine L9 (fun _=>true) (fun _ y _=>y= .bl false) (fun _ _ _ _ h _=>h) (by rw[sizeLine_eq];unfold szK;rw[List.length_map];omega) (rest:=[some (.ref p),some (.ref a)]) (by rfl) e5 (fun x H6 hx s6 R hR=>hR _ (Same.refl _)) ?_ ?_
  ·rintro x H6 hx - s6 R hR;obtain⟨z,hz,rfl⟩:=List.mem_map.mp hx;show (_:TE) (some (V.str z)::[some (.ref p),some (.ref a)]) H6 R;walk_at"go";refine vH (.inl (s6 _ _ ep5)) (hv z hz) ?_;walk_at"go";refine vH (.inr ⟨o,s6 _ _ e5⟩) (xE hz) ?_;walk_at"go";exact hR _ _ rfl (Same.refl _)
  intro ys H6 s6 hp;have ey:=sN (P:=fun _=>True) hp;walk_at"go";rename_i q7 H7 n7 S7 e7;refine l7 (S7 _ _ (s6 _ _ e5)) fun H8 B8 e8=> ?_;have hq7:q7≠a:=fun z=>by rw[z,s6 _ _ e5]at n7;cases n7
  have e78:=B8 _ _ e7 hq7;rw[ey]at e78;walk_at"go";refine CG (SqL.of e78) ?_;rw[show ((List.filter (fun _=>true) (szK rs)).map fun _=>false).any id=false by simp];walk_at"go";exact k _ (BM (ha) (fun x u hx hxa=>B5 _ _ (S4 _ _ (sA _ _ hx)) hxa) (Same.but (s6.trans S7)) B8 e8)
theorem tT (m:M K mg):Fc P w K mg base "need_space" 2 ["sizes","people"] (oN K):=⟨_,_,m.v5,m.gY.kp,m.wA,tM m⟩
def RoomsAt (H:Hp)(vs:List V)(rs:List Str):Prop:=Paired (fun v z=>∃q,v= .ref q/\H q=some (.tup [.str z,.int 5])) vs rs
theorem RoomsAt.sm {H H':Hp}{vs:List V}{rs:List Str} (h:RoomsAt H vs rs) (s:Same H H'):RoomsAt H' vs rs:=Paired.imp' (fun v z ⟨q,e,h⟩=>⟨q,e,s _ _ h⟩) h
theorem oE {H:Hp}:∀{vs:List V}{rs:List Str},RoomsAt H vs rs->tX H vs (szK rs)
 | _,_,.nil=> .nil
 | _,_,.cons h t=> .cons h (oE t)
theorem kU {C:Addr}{H H':Hp}{us:List V}{ds:List bN} (h:Paired (DoorAt C H) us ds) (s:Same H H'):Paired (DoorAt C H') us ds:=Paired.imp' (fun v d h=>DoorAt.same h s) h
abbrev xH (f l:Int)(qs qp qd:Addr):List (Str×V):=cB "named_doors" (.ref qd) (cB "people" (.ref qp) (cB "sizes" (.ref qs) (cB "last" (.int l) (cB "first" (.int f) []))))
def zY (C:Addr)(H:Hp)(nk:List (Key×V))(ds:List bN):Prop:=Paired (fun e d=>e.1= .inr d.1/\DoorAt C H e.2 d) nk ds
theorem DV {C:Addr}{H H':Hp}{nk:List (Key×V)}{ds:List bN} (h:zY C H nk ds) (s:Same H H'):zY C H' nk ds:=Paired.imp' (fun e d h=>⟨h.1,DoorAt.same h.2 s⟩) h
structure fN (C CD:Addr)(H:Hp)(h:Addr)(rs:List Str)(ds:List bN)(f:Int):Prop where
 ex:∃dx l qs qp qd nk,H h=some (.ins C dx (xH f l qs qp qd))/\H qs=some (.dK (szK rs))/\H qd=some (.dK nk)/\zY CD H nk ds
theorem k6 {C CD:Addr}{H H':Hp}{h:Addr}{rs:List Str}{ds:List bN}{f:Int} (x:fN C CD H h rs ds f) (s:Same H H'):fN C CD H' h rs ds f:=by
 obtain⟨dx,l,qs,qp,qd,nk,e1,e2,e3,e4⟩:=x.ex;exact⟨dx,l,qs,qp,qd,nk,s _ _ e1,s _ _ e2,s _ _ e3,DV e4 s⟩
theorem xL {H H':Hp}{p c C dx:Addr}{fs:List (Str×V)}{xs:List V} (h:SqL K H c xs) (hp:H p=some (.ins C dx fs)) (sb:SameBut p H H'):SqL K H' c xs:=by
 rcases h with (h|⟨o,h⟩)|h
 ·exact .inl (.inl (sb _ _ h fun z=>by rw[z,hp]at h;cases h))
 ·exact .inl (.inr ⟨o,sb _ _ h fun z=>by rw[z,hp]at h;cases h⟩)
 ·exact .inr h
theorem D4 {H H':Hp}{p c:Addr}{kvs:List (Key×V)}{xs:List V} (h:SqL K H c xs) (hp:H p=some (.dK kvs)) (sb:SameBut p H H'):SqL K H' c xs:=by
 rcases h with (h|⟨o,h⟩)|h
 ·exact .inl (.inl (sb _ _ h fun z=>by rw[z,hp]at h;cases h))
 ·exact .inl (.inr ⟨o,sb _ _ h fun z=>by rw[z,hp]at h;cases h⟩)
 ·exact .inr h
theorem i5 {α β:Type}{F:α->β->Prop}:∀{l:List α}{m:List β}{x:α},Paired F l m->x∈l->∃y∈m,F x y
 | _,_,_,.cons r t,h=>by
  rcases List.mem_cons.mp h with rfl|h
  ·exact⟨_,.head _,r⟩
  ·obtain⟨y,hy,f⟩:=i5 t h;exact⟨y,List.mem_cons_of_mem _ hy,f⟩
 | _,_,_,.nil,h=>nomatch h
def fY (K:W.Frag)(CD:Addr):Sp:=fun vs H Q _=>∃(p C dx a b c:Addr) (ws us:List V) (rs:List Str) (ds:List bN) (f l:Int),vs=[.ref p,.ref a,.ref b,.ref c,.int l,.int f]/\DCls K C/\H p=some (.ins C dx [])/\H a=some (.lst ws)/\RoomsAt H ws rs/\SqL K H b us/\Paired (DoorAt CD H) us ds/\SqL K H c [] ∧
 rs.Nodup/\(ds.map (·.1)).Nodup/\(∀d∈ds,kJ rs d)/\rs.length<=20/\ds.length<=20/\0<=f/\f<=l/\∀H',SameBut p H H'->fN C CD H' p rs ds f->Q .non H'
theorem vZ {CD:Addr}{H:Hp}{Q:VK}{E:XK}{p C dx a b c:Addr}{ws us:List V}{rs:List Str}{ds:List bN}{f l:Int} (dc:DCls K C) (hp:H p=some (.ins C dx [])) (ha:H a=some (.lst ws)) (hr:RoomsAt H ws rs) (hb:SqL K H b us) (hd:Paired (DoorAt CD H) us ds) (hc:SqL K H c []) (nr:rs.Nodup) (nd:(ds.map (·.1)).Nodup) (hin:∀d∈ds,kJ rs d) (lr:rs.length<=20) (ld:ds.length<=20) (h0:0<=f) (h1:f<=l)
  (k:∀H',SameBut p H H'->fN C CD H' p rs ds f->Q .non H'):fY K CD [.ref p,.ref a,.ref b,.ref c,.int l,.int f] H Q E:=⟨_,_,_,_,_,_,_,_,_,_,_,_,rfl,dc,hp,ha,hr,hb,hd,hc,nr,nd,hin,lr,ld,h0,h1,k⟩
theorem nZ (m:M K mg):bK P w K mg base CX0 4 m.gD m.eX ["self","rooms","doors","people","last","first"] (fY K m.bL):=by
 refine m.pK.ok sc_House___init__ (fun vs H Q E h=> ?_) (fun cdv A outer s H vs Q E hr h=> ?_)
 ·obtain⟨p,C,dx,a,b,c,ws,us,rs,ds,f,l,rfl,dc,hp,ha,hra,hb,hd,hc,nr,nd',hin,lr,ld,h0,h1,k⟩:=h;rfl
 ·obtain⟨p,C,dx,a,b,c,ws,us,rs,ds,f,l,rfl,dc,hp,ha,hra,hb,hd,hc,nr,nd',hin,lr,ld,h0,h1,k⟩:=h;have nd:=sc_House___init__.nd;walk_at"hu";have c5:= @j3 P w K mg base m;have dH:= @nX P w K mg base m;have gS:= @tK P w K mg base m;have gY:= @tT P w K mg base m;have gZ:= @tQ P w K mg base m;have eA:= @mG P w K mg base m;have w_dc_Door:=m.nW;refine⟨_,(aD (cC (bI gZ hr (aA (pv 5) (aA (pv 4) aC))))
   (aD (cC (bI dH hr (aA (fB (N:=["name","size"]) (nl:=2) (ci:=[]) rfl (blk (s.heap.objs.size+1) rfl rfl rfl (by kernel_rfl)) (bW (pv 1)) (fun _ _ _ _=>(g7 (K:=K) (n:=2) rfl (aS (aJ (i:=0) (show (["name","size"]:List Str).Nodup by decide +kernel) rfl (by walk_at"oi")) (aS (aJ (i:=1) (show (["name","size"]:List Str).Nodup by decide +kernel) rfl (by walk_at"oi")) dO)))) (fun _ _ _ _=>eY) (fun _ _ _ _=>(pv 0))) aC)))
   (aD (cC (bI dH hr (aA (fB (N:=["door"]) (nl:=1) (ci:=[]) rfl (blk (s.heap.objs.size+1) rfl rfl rfl (by kernel_rfl)) (bW (pv 2)) (fun _ _ _ _=>(aJ (i:=0) (show (["door"]:List Str).Nodup by decide +kernel) rfl (by walk_at"oi"))) (fun _ _ _ _=>eY) (fun _ _ _ _=>(JD (K:=K) (pv 0) rfl))) aC)))
   (aD (aY (i:=6) nd rfl (by walk_at"oi") (sI (yY rfl) rfl m.N3 HD (aA (pv 1) aC)))
   (aD (cC (bI gS hr (aA (bI eA hr (aA (pv 2) (aA (pv 3) aC))) (aA (pv 6) aC))))
   (aD (cC (bI gY hr (aA (pv 6) (aA (pv 3) aC))))
   (aD (gL (pv 0) (pv 5) rfl)
   (aD (gL (pv 0) (pv 4) rfl)
   (aD (gL (pv 0) (pv 6) rfl)
   (aD (gL (pv 0) (bI c5 hr (aA (pv 6) (aA (pv 3) aC))) rfl)
   (aD (gL (pv 0) o8 rfl)
   (aF (dX PassesOwn.never rfl (bW (pv 2)) (aJ (i:=7) nd rfl (by walk_at"oi")) (aF (kP hu1 (jG (pv 0) rfl) (jG (pv 7) rfl) (pv 7) rfl))))))))))))))),?_⟩
  refine aZ (σ:=[some (.ref p),some (.ref a),some (.ref b),some (.ref c),some (.int l),some (.int f),none,none]) rfl ?_;have hul:us.length=ds.length:=Paired.length hd;have hwl:ws.length=rs.length:=Paired.length hra;walk_at"go";refine JN h0 h1 ?_;walk_at"go";refine qV (α:=Str) (xs:=rs) (vs:=ws) V.str (fun _=> .int 5) (fun _=>true) (fun z y _=>y= .str z) (fun _ _ _ _ h _=>h) (by rw[sizeLine_eq];omega) (rest:=[]) (by rfl) (SqL.of ha) hra (fun x H1 hx s1 R hR=>hR _ (Same.refl _)) (fun x H1 hx _ s1 R hR=> ?_) ?_
  ·walk_at"go";exact hR _ _ rfl (Same.refl _)
  intro ys H1 s1 hys;rw[gA]at hys;obtain rfl:=mR hys;walk_at"go";rename_i q1 H2 n2 S2 e2;refine AF (SqL.of e2) nr (by omega) fun H3 S3=> ?_;have sA:Same H H3:=(s1.trans S2).trans S3;walk_at"go";refine nE (α:=bN) (xs:=ds) (vs:=us) (DoorAt m.bL H3) (fun _=>true) (fun d y _=>y= .str d.1) (fun _ _ _ _ h _=>h) (by rw[sizeLine_eq];omega) (rest:=[]) (by rfl) (sA.seq hb) (kU hd sA) (fun v x H1 _ hx s1 R hR=>hR _ (Same.refl _)) ?_ ?_
  ·rintro v d H4 ⟨q,dx',rfl,hq⟩ hm - s4 R hR;have hq':=s4 _ _ hq;walk_at"go";exact hR _ _ rfl (Same.refl _)
  intro ys H4 s4 hys;rw[gA]at hys;obtain rfl:=mR hys;walk_at"go";rename_i q5 H5 n5 S5 e5;refine AF (ss:=ds.map (·.1)) (SqL.of (by rw[e5,List.map_map];rfl)) nd' (by rw[List.length_map];omega) fun H6 S6=> ?_;have sB:Same H H6:=((sA.trans s4).trans S5).trans S6;walk_at"go";refine ER (sB _ _ ha) (oE (hra.sm sB)) fun qs H7 n7 S7 e7=> ?_;rw[EO nr]at e7;have sC:Same H H7:=sB.trans S7;walk_at"go";refine FA (sC.seq hb) (kU hd sC) hin ld (sC.seq hc) fun q8 ss H8 S8 e8 hss lss=> ?_;walk_at"go";refine IY (SqL.of e8) (.inl (S8 _ _ e7)) (fun z hz=>by rw[xE (hss z hz)];rfl) fun H9 S9=> ?_;have sD:Same H7 H9:=S8.trans S9;walk_at"go";refine JI (sD _ _ e7) ((sC.trans sD).seq hc) (by omega) fun H10 S10=> ?_;have sE:Same H H10:=(sC.trans sD).trans S10;have es:H10 qs=some (.dK (szK rs)):=S10 _ _ (sD _ _ e7);have hp10:=sE _ _ hp;have hqp:qs≠p:=fun z=>by rw[z,hp10]at es;cases es
  walk_at"go";rename_i H11 B11 e11 H12 B12 e12 H13 B13 e13;have sb13:SameBut p H10 H13:=by walk_at"sb"
  have es13:=sb13 _ _ es hqp;have hc13:SqL K H13 c []:=xL (sE.seq hc) hp10 sb13;refine xW es13 hc13 (by omega) fun qp H14 kvs n14 S14 e14 hv14=> ?_;have hp14:=S14 _ _ e13;walk_at"go";rename_i H15 B15 e15 qd H16 n16 S16 e16 H17 B17 e17;have hqd:qd≠p:=fun z=>by rw[z,e15]at n16;cases n16
  have sb17:SameBut p H10 H17:=((((sb13.trans S14.but).trans B15).trans S16.but).trans B17)
  have es17:=sb17 _ _ es hqp;have ed17:=B17 _ _ e16 hqd;have fresh:∀x u,H10 x=some u->x≠p->x≠qd:=fun x u hx hxp z=>by
   have h15:H15 x=some u:=B15 _ _ (S14 _ _ (sb13 _ _ hx hxp)) hxp;rw[z,n16]at h15;cases h15
  have hb17:SqL K H17 b us:=xL (sE.seq hb) hp10 sb17;have hd17:Paired (DoorAt m.bL H17) us ds:=Paired.imp' (fun v d ⟨q,dx',e,hq⟩=>⟨q,dx',e,sb17 _ _ (sE _ _ hq) fun z=>by rw[z,hp]at hq;cases hq⟩) hd;have ddq:∀{H':Hp}{v:V}{d:bN},SameBut qd H17 H'->DoorAt m.bL H17 v d->DoorAt m.bL H' v d:=fun sb ⟨q,dx',e,hq⟩=>⟨q,dx',e,sb _ _ hq fun z=>by rw[z,ed17]at hq;cases hq⟩
  refine sX hb17 ?_;refine gF us (fun i σ' H'=>SameBut qd H17 H'/\(∃nk,H' qd=some (.dK nk)/\nk.length<=i/\Paired (fun e d=>e.1= .inr d.1/\DoorAt m.bL H17 e.2 d) nk (ds.take i))/\∃x,σ'=[some (.ref p),some (.ref a),some (.ref b),some (.ref c),some (.int l),some (.int f),some (.ref qs),x]) ⟨SameBut.refl,⟨[],ed17,Nat.le_refl _,.nil⟩,_,rfl⟩ (fun i σ' H' _ q=>D4 hb17 ed17 q.1) ?_ ?_
  ·rintro i x _ H' hx ⟨sb,⟨nk,ek,hk,pr⟩,y,rfl⟩;have hi:i<us.length:=(List.getElem?_eq_some_iff.mp hx).1;obtain⟨d,hdx⟩:∃d,ds[i]? =some d:=⟨_,List.getElem?_eq_getElem (by omega)⟩
   have hD:=Paired.at2 hd17 hx hdx;obtain⟨q,dx',rfl,hq⟩:=hD;obtain⟨n,st,e⟩:=d;have hq':H' q=some (.ins m.bL dx' (kQ (.str n) (.str st) e (.int 1))):=sb _ _ hq fun z=>by rw[z,ed17]at hq;cases hq
   have hpp:H' p=some (.ins C dx (xH f l qs qp qd)):=sb _ _ e17 (Ne.symm hqd);have hnone:aV nk (.inr n)=none:=tE fun e he=>by
    obtain⟨d',hd',h1,_⟩:=i5 pr he;rw[h1];intro z;have hn:n∉(ds.map (·.1)).take i:=uC nd' (by rw[List.getElem?_map,hdx];rfl)
    apply hn
    rw[←List.map_take];exact List.mem_map.mpr ⟨d',hd',Sum.inr.inj z⟩
   walk_at"go";refine oQ ek (by rw[sizeLine_eq];omega) fun H9' B9' e9'=> ?_;rw[vR _ hnone]at e9';refine⟨by walk_at"sb",⟨_,e9',by rw[List.length_append];show nk.length+1<=_;omega,?_⟩,_,rfl⟩;rw[cQ hdx];exact L2.Paired.snoc pr ⟨rfl,q,dx',rfl,hq⟩
  ·rintro _ H' ⟨sb,⟨nk,ek,hk,pr⟩,y,rfl⟩;rw[hul,List.take_length]at pr;refine k _ (fun x u hx hxp=>sb _ _ (sb17 _ _ (sE _ _ hx) hxp) (fresh x u (sE _ _ hx) hxp)) ⟨dx,l,qs,qp,qd,nk,sb _ _ e17 (Ne.symm hqd),sb _ _ es17 (fresh _ _ es hqp),ek,?_⟩;exact Paired.imp' (fun e d h=>⟨h.1,ddq sb h.2⟩) pr
theorem yN (m:M K mg):Kc P w K mg base "House" m.bX 4 [] (fY K m.bL):=⟨_,_,_,_,m.KD,m.GC,.nil,m.pJ,nZ m⟩
theorem CZ {C CD:Addr}{H:Hp}{Q:VK}{E:XK}{dvs vs:List V}{a b c:Addr}{ws us:List V}{rs:List Str}{ds:List bN}{f l:Int} (ev:vs++dvs=[.ref a,.ref b,.ref c,.int l,.int f]) (dc:DCls K C) (ha:H a=some (.lst ws)) (hr:RoomsAt H ws rs) (hb:SqL K H b us) (hd:Paired (DoorAt CD H) us ds) (hc:SqL K H c []) (nr:rs.Nodup) (nd:(ds.map (·.1)).Nodup) (hin:∀d∈ds,kJ rs d) (lr:rs.length<=20) (ld:ds.length<=20) (h0:0<=f) (h1:f<=l)
  (k:∀p H',H p=none->Same H H'->fN C CD H' p rs ds f->Q (.ref p) H'):tW C (fY K CD) dvs E Q vs H:=by
 intro x dx nx nd0 ne;have s0:Same H (upd (upd H dx (.own x)) x (.ins C dx [])):=fun b o e=>by
  rw[aI (aT e nx),aI (aT e nd0)];exact e
 rw[ev];exact vZ dc aW (s0 _ _ ha) (hr.sm s0) (s0.seq hb) (kU hd s0) (s0.seq hc) nr nd hin lr ld h0 h1 fun H' sb hh=>⟨rfl,k x H' nx (fun b o q=>sb b o (s0 b o q) (aT q nx)) hh⟩
def MJ (H:Hp)(v:V)(r:bQ):Prop:=∃q,v= .ref q/\H q=some (.tup [.int r.1,.str r.2.1,.int r.2.2])
abbrev cS (H:Hp)(vs:List V)(rows:List bQ):Prop:=Paired (MJ H) vs rows
theorem x6 {H H':Hp}{vs:List V}{rows:List bQ} (h:cS H vs rows) (s:Same H H'):cS H' vs rows:=Paired.imp' (fun v r ⟨q,e,h⟩=>⟨q,e,s _ _ h⟩) h
theorem lA {H:Hp}:∀{vs:List V}{rows:List bQ},cS H vs rows->KRows H vs (rows.map jM)
 | _,_,.nil=> .nil
 | _,_,.cons h t=> .cons h (lA t)
def vS (K:W.Frag):Sp:=fun vs H Q _=>∃(a:Addr) (us:List V) (rows:List bQ),vs=[.ref a]/\SqL K H a us/\cS H us rows/\rows.length<=200/\∀p H',H p=none->Same H H'->H' p=some (.dT (dJ rows))->Q (.ref p) H'
theorem OX {H:Hp}{Q:VK}{E:XK}{a:Addr}{us:List V}{rows:List bQ} (hS:SqL K H a us) (hr:cS H us rows) (hl:rows.length<=200) (h:∀p H',H p=none->Same H H'->H' p=some (.dT (dJ rows))->Q (.ref p) H'):vS K [.ref a] H Q E:=⟨_,_,_,rfl,hS,hr,hl,h⟩
theorem wS (m:M K mg):bK P w K mg base CX0 1 m.lG m.lI ["plan"] (vS K):=by
 refine m.i9.ok sc_added_up (fun vs H Q E h=> ?_) (fun cdv A outer s H vs Q E hr h=> ?_)
 ·obtain⟨a,us,rows,rfl,hS,hpl,hlen,k⟩:=h;rfl
 ·obtain⟨a,us,rows,rfl,hS,hpl,hlen,k⟩:=h;have nd:=sc_added_up.nd;walk_at"hu";refine⟨_,(aD (aY (i:=1) nd rfl (by walk_at"oi") uA)
   (aD (dX PassesOwn.never rfl (bW (pv 0)) (kG (n:=3) rfl (aS (aJ (i:=2) nd rfl (by walk_at"oi")) (aS (aJ (i:=3) nd rfl (by walk_at"oi")) (aS (aJ (i:=4) nd rfl (by walk_at"oi")) dO)))) (aF (kP hu1 (pv 1) (eJ (aA (pv 2) (aA (pv 3) aC))) (aN bT (t5 hu1 (pv 1) (eJ (aA (pv 2) (aA (pv 3) aC))) aE ⟨rfl,rfl,rfl,rfl⟩) (pv 4)) rfl)))
   (aF (cV (pv 1))))),?_⟩
  refine aZ (σ:=[some (.ref a),none,none,none,none]) rfl ?_;have hul:us.length=rows.length:=Paired.length hpl;walk_at"go";rename_i p H1 n1 S1 e1;refine gF us (fun i σ' H'=>SameBut p H1 H'/\H' p=some (.dT (dJ (rows.take i)))/\∃x y z,σ'=[some (.ref a),some (.ref p),x,y,z]) ⟨SameBut.refl,e1,_,_,_,rfl⟩ (fun i σ' H' _ q=>(SameBut.same n1 S1 q.1).seq hS) ?_ ?_
  ·rintro i x _ H' hx ⟨sb,ek,x1,x2,x3,rfl⟩;have hi:i<us.length:=(List.getElem?_eq_some_iff.mp hx).1;obtain⟨⟨t,n,j⟩,hrx⟩:∃r,rows[i]? =some r:=⟨_,List.getElem?_eq_getElem (by omega)⟩
   obtain⟨q,rfl,hq⟩:=Paired.at2 hpl hx hrx;have hq':H' q=some (.tup [.int t,.str n,.int j]):=(SameBut.same n1 S1 sb) _ _ hq;obtain⟨i0,ei⟩:=vN (rows.take i) t n;have hkl:=lB (rows.take i);rw[List.length_take]at hkl;walk_at"go";refine sJ ek ?_;walk_at"go";rename_i b1 H2 n2 S2 e2;refine vC (cZ t n) (by walk_at"hp") (by assumption) ?_;rw[ei];walk_at"go";rename_i b3 H3 n3 S3 e3;refine u5 (cZ t n) (by walk_at"hp") (by assumption) (by rw[sizeLine_eq];omega) fun H4 B4 e4=> ?_;refine⟨by walk_at"sb",?_,_,_,_,rfl⟩;rw[e4,cQ hrx,gG];unfold uR;rw[ei];rfl
  ·rintro _ H' ⟨sb,ek,x1,x2,x3,rfl⟩;rw[hul,List.take_length]at ek;walk_at"go";exact k _ _ n1 (SameBut.same n1 S1 sb) ek
theorem wM (m:M K mg):Fc P w K mg base "added_up" 1 ["plan"] (vS K):=⟨_,_,m.AA,m.i9.kp,m.z8,wS m⟩
def rD (K:W.Frag):Sp:=fun vs H Q _=>∃(a:Addr) (us:List V) (rows:List bQ),vs=[.ref a]/\SqL K H a us/\cS H us rows/\rows.length<=200/\∀p ws xs H',H p=none->Same H H'->H' p=some (.lst ws)->cS H' ws xs->xs.map jM=d8 (dI rows)->Q (.ref p) H'
theorem LM {H:Hp}{Q:VK}{E:XK}{a:Addr}{us:List V}{rows:List bQ} (hS:SqL K H a us) (hr:cS H us rows) (hl:rows.length<=200) (h:∀p ws xs H',H p=none->Same H H'->H' p=some (.lst ws)->cS H' ws xs->xs.map jM=d8 (dI rows)->Q (.ref p) H'):rD K [.ref a] H Q E:=⟨_,_,_,rfl,hS,hr,hl,h⟩
theorem l8 {H:Hp}:∀{es:List (List Key×V)}{ys:List V},Paired (fun e y=>∃q,y= .ref q/\H q=some (.tup ((rN e).map kV))) es ys->KRows H ys (es.map rN)
 | _,_,.nil=> .nil
 | _,_,.cons h t=> .cons h (l8 t)
theorem p9 {H:Hp}:∀{ws:List V}{ks:List (List Key)},KRows H ws ks->(∀k∈ks,∃r:bQ,k=jM r)->∃xs,cS H ws xs/\xs.map jM=ks
 | _,_,.nil,_=>⟨[],.nil,rfl⟩
 | _,_,.cons ⟨p,e,h⟩ t,hk=>by
  obtain⟨xs,h1,h2⟩:=p9 t fun k hk'=>hk k (List.mem_cons_of_mem _ hk');obtain⟨r,rfl⟩:=hk _ (.head _);exact⟨r::xs,.cons ⟨p,e,h⟩ h1,by rw[List.map_cons,h2]⟩
theorem O2 {kvs:List (List Key×V)}:∀(o:Obj) (x:HO),HO.dT kvs≠ .frz o x:=fun _ _ z=>by cases z
theorem zQ (m:M K mg):bK P w K mg base CX0 2 m.m6 m.mZ ["plan"] (rD K):=by
 refine m.j7.ok sc_as_told (fun vs H Q E h=> ?_) (fun cdv A outer s H vs Q E hr h=> ?_)
 ·obtain⟨a,us,rows,rfl,hS,hpl,hlen,k⟩:=h;rfl
 ·obtain⟨a,us,rows,rfl,hS,hpl,hlen,k⟩:=h;have nd:=sc_as_told.nd;walk_at"hu";have i9:= @wM P w K mg base m;refine⟨_,(aF (cV (bG lK rfl m.wE sS (aA (fB (N:=["place","number"]) (nl:=2) (ci:=[]) rfl (blk (s.heap.objs.size+1) rfl rfl rfl (by kernel_rfl)) (CM (bI i9 hr (aA (pv 0) aC))) (fun _ _ _ _=>(g7 (K:=K) (n:=2) rfl (aS (aJ (i:=0) (show (["place","number"]:List Str).Nodup by decide +kernel) rfl (by walk_at"oi")) (aS (aJ (i:=1) (show (["place","number"]:List Str).Nodup by decide +kernel) rfl (by walk_at"oi")) dO)))) (fun _ _ _ _=>(BB (c4 GR (pv 1) aE (cT _)))) (fun _ _ _ _=>(eJ (aA (dW (qW (K:=K)) (pv 0) aE (fun _ _=>rfl)) (aA (dW (qW (K:=K)) (pv 0) aE (fun _ _=>rfl)) (aA (pv 1) aC)))))) aC)))),?_⟩;refine aZ (σ:=[some (.ref a)]) rfl ?_;have hkl:=lB rows;walk_at"go";refine OX hS hpl hlen fun p H1 n1 S1 e1=> ?_;walk_at"go";refine A6 e1 fun o H2 B2 e2=> ?_;have sA:Same H H2:=SameBut.same n1 S1 B2;refine K8 zD (fun e y H=>∃q,y= .ref q/\H q=some (.tup ((rN e).map kV))) (fun _ _ _ _ ⟨q,h1,h2⟩ s=>⟨q,h1,s _ _ h2⟩) (by rw[sizeLine_eq];omega) (rest:=[]) (by rfl) e2 ?_ ?_ ?_
  ·rintro ⟨kk,v⟩ H3 q hm s3 hq R hR;obtain⟨t,n,i,e⟩:=(c0 rows).2 _ hm;cases e;show (_:TT) (some (V.ref q)::some (V.int i)::[]) H3 R;walk_at"go";exact hR _ (Same.refl _)
  ·rintro ⟨kk,v⟩ H3 q hm - s3 hq R hR;obtain⟨t,n,i,e⟩:=(c0 rows).2 _ hm;cases e;have hq':H3 q=some (.tup [.int t,.str n]):=hq;show (_:TE) (some (V.ref q)::some (V.int i)::[]) H3 R;walk_at"go";refine⟨q,_,0,_,rfl,rfl,SqT.of hq',rfl,?_⟩;walk_at"go";refine⟨q,_,1,_,rfl,rfl,SqT.of hq',rfl,?_⟩;walk_at"go";rename_i q4 H4 n4 S4 e4;exact hR _ _ ⟨q4,rfl,e4⟩ S4
  intro ys H3 s3 hys;have kr:=l8 hys;walk_at"go";rename_i q4 H4 n4 S4 e4;refine tH (SqL.of e4) (kr.same S4) (gR rows) (k8 rows) (by decide) fun l ws H5 n5 S5 e5 kr5=> ?_;obtain⟨xs,h1,h2⟩:=p9 kr5 fun kk hk=>by
   obtain⟨t,n,rfl,_⟩:=mem_told.mp ((i3 _).mem_iff.mp hk);exact⟨_,rfl⟩
  have sB:Same H H5:=((sA.trans s3).trans S4).trans S5;have sB4:Same H H4:=(sA.trans s3).trans S4;walk_at"go";refine k l ws xs H5 ?_ sB e5 h1 h2;cases hq:H l with
  | none=>rfl
  | some u=>rw[sB4 _ _ hq]at n5;cases n5
theorem yT (m:M K mg):Fc P w K mg base "as_told" 2 ["plan"] (rD K):=⟨_,_,m.DG,m.j7.kp,m.DD,zQ m⟩
theorem iJ {α β:Type}{F:α->β->Prop}:∀{l:List α}{m:List β},Paired F l m->Paired (fun b a=>F a b) m l
 | _,_,.nil=> .nil
 | _,_,.cons h t=> .cons h (iJ t)
abbrev WK:=Int×Str×List (Option Str)
def sV:Option Str->V
 | some z=> .str z
 | none=> .non
def cU (H:Hp)(v:V)(w:WK):Prop:=∃q p,v= .ref q/\H q=some (.tup [.int w.1,.str w.2.1,.ref p])/\H p=some (.lst (w.2.2.map sV))
theorem f9 {H H':Hp}{vs:List V}{ws:List WK} (h:Paired (cU H) vs ws) (s:Same H H'):Paired (cU H') vs ws:=Paired.imp' (fun v r ⟨q,p,e,h,h2⟩=>⟨q,p,e,s _ _ h,s _ _ h2⟩) h
def fH (f n:Int)(l:List (Option Str)):List bQ:=l.zipIdx.filterMap fun e=>e.1.map fun z=>(f+(e.2:Int),z,n)
theorem iZ (f n:Int)(l:List (Option Str))(o:Option Str):fH f n (l++[o])=fH f n l++(match o with|some z=>[(f+(l.length:Int),z,n)]|none=>[]):=by
 unfold fH;rw[List.zipIdx_append,List.filterMap_append];cases o<;>simp
theorem sK (f n:Int)(l:List (Option Str)):(fH f n l).length<=l.length:=by
 unfold fH;exact Nat.le_trans (List.length_filterMap_le _ _) (by rw[List.length_zipIdx];exact Nat.le_refl _)
def bO (f:Int)(ws:List WK):List bQ:=(ws.map fun w=>fH f w.1 w.2.2).flatten
theorem qE (f:Int)(ws:List WK)(w:WK):bO f (ws++[w])=bO f ws++fH f w.1 w.2.2:=by
 unfold bO;rw[List.map_append,List.flatten_append];simp
theorem EH {H H':Hp}{p:Addr}{xs:List V}{ws:List V}{rows:List bQ} (h:cS H ws rows) (e:H p=some (.lst xs)) (sb:SameBut p H H'):cS H' ws rows:=Paired.imp' (fun v r ⟨q,e1,h⟩=>⟨q,e1,sb _ _ h fun z=>by rw[z,e]at h;cases h⟩) h
def mS (K:W.Frag)(C CD:Addr):Sp:=fun vs H Q _=>∃(h a:Addr) (rs:List Str) (ds:List bN) (f:Int) (us:List V) (ws:List WK),vs=[.ref h,.ref a]/\fN C CD H h rs ds f/\0<=f/\f<1000000000000/\SqL K H a us/\Paired (cU H) us ws/\ws.length<=20/\(∀w∈ws,w.2.2.length<=8)/\∀p vs xs H',H p=none->Same H H'->H' p=some (.lst vs)->cS H' vs xs->xs.map jM=d8 (dI (bO f ws))->Q (.ref p) H'
theorem vA {C CD:Addr}{H:Hp}{Q:VK}{E:XK}{h a:Addr}{rs:List Str}{ds:List bN}{f:Int}{us:List V}{ws:List WK} (hh:fN C CD H h rs ds f) (h0:0<=f) (h1:f<1000000000000) (hS:SqL K H a us) (hw:Paired (cU H) us ws) (hl:ws.length<=20) (h8:∀w∈ws,w.2.2.length<=8)
  (k:∀p vs xs H',H p=none->Same H H'->H' p=some (.lst vs)->cS H' vs xs->xs.map jM=d8 (dI (bO f ws))->Q (.ref p) H'):mS K C CD [.ref h,.ref a] H Q E:=⟨_,_,_,_,_,_,_,rfl,hh,h0,h1,hS,hw,hl,h8,k⟩
local macro_rules| `(tactic| walk_at"rd1")=> `(tactic| first|(with_reducible refine BC ?_)|(with_reducible refine y7 ?_))
theorem A9 (m:M K mg):bK P w K mg base CX0 3 m.pO m.pN ["house","walks"] (mS K m.bX m.bL):=by
 refine m.jR.ok sc_joined (fun vs H Q E h=> ?_) (fun cdv A outer s H vs Q E hr h=> ?_)
 ·obtain⟨h,a,rs,ds,f,us,ws,rfl,hh,h0,h1,hS,hw,hl,h8,k⟩:=h;rfl
 ·obtain⟨h,a,rs,ds,f,us,ws,rfl,hh,h0,h1,hS,hw,hl,h8,k⟩:=h;have nd:=sc_joined.nd;walk_at"hu";have j7:= @yT P w K mg base m;have w_dc_House:=m.wI;refine⟨_,(aD (aY (i:=2) nd rfl (by walk_at"oi") (iO aC))
   (aD (dX PassesOwn.never rfl (bW (pv 1)) (kG (n:=3) rfl (aS (aJ (i:=3) nd rfl (by walk_at"oi")) (aS (aJ (i:=4) nd rfl (by walk_at"oi")) (aS (aJ (i:=5) nd rfl (by walk_at"oi")) dO)))) (aF (dX PassesOwn.never rfl (D1 rfl m.xD (aA (pv 5) aC) (jG (pv 0) rfl)) (kG (n:=2) rfl (aS (aJ (i:=6) nd rfl (by walk_at"oi")) (aS (aJ (i:=7) nd rfl (by walk_at"oi")) dO))) (aF (dU (c4 nS (pv 7) jK (cT _)) (aF (cC (k5 PySem.F.plainAttrs_list PySem.F.slot_list_append PySem.F.type_list_append eN (pv 2) (aA (eJ (aA (pv 6) (aA (pv 7) (aA (pv 3) aC)))) aC)))) cE)))))
   (aF (cV (bI j7 hr (aA (pv 2) aC)))))),?_⟩
  refine aZ (σ:=[some (.ref h),some (.ref a),none,none,none,none,none,none]) rfl ?_;have hul:us.length=ws.length:=Paired.length hw;obtain⟨dx,l,qs,qp,qd,nk,e1,_⟩:=hh.ex;walk_at"go";rename_i p H1 n1 S1 ep;have e11:=S1 _ _ e1;have hph:h≠p:=fun z=>by rw[z,n1]at e1;cases e1
  refine gF us (fun i σ' H'=>SameBut p H1 H'/\(∃vs,H' p=some (.lst vs)/\cS H' vs (bO f (ws.take i))/\vs.length<=8 * i)/\∃x1 x2 x3 x4 x5,σ'=[some (.ref h),some (.ref a),some (.ref p),x1,x2,x3,x4,x5]) ⟨SameBut.refl,⟨[],ep,.nil,Nat.le_refl _⟩,_,_,_,_,_,rfl⟩ (fun i σ' H' _ q=>(SameBut.same n1 S1 q.1).seq hS) ?_ ?_
  ·rintro i x _ H' hx ⟨sb,⟨vs,ev,hpl,hvl⟩,x1,x2,x3,x4,x5,rfl⟩;have hi:i<us.length:=(List.getElem?_eq_some_iff.mp hx).1;obtain⟨⟨n,rm,st⟩,hwx⟩:∃w,ws[i]? =some w:=⟨_,List.getElem?_eq_getElem (by omega)⟩
   obtain⟨q,pp,rfl,hq,hpp⟩:=Paired.at2 hw hx hwx;have hst:st.length<=8:=h8 _ (List.mem_of_getElem? hwx);have sH:=SameBut.same n1 S1 sb;have hq':H' q=some (.tup [.int n,.str rm,.ref pp]):=sH _ _ hq;have hpp':H' pp=some (.lst (st.map sV)):=sH _ _ hpp;have hppp:pp≠p:=fun z=>by rw[z,n1]at hpp;cases hpp
   have e1':=sH _ _ e1;walk_at"go";refine ET h0 (by omega) (SqL.of (by walk_at"hp")) ?_;refine IS (st.map sV) (fun j σ' H2=>SameBut p H' H2/\(∃vs2,H2 p=some (.lst vs2)/\cS H2 vs2 (bO f (ws.take i)++fH f n (st.take j))/\vs2.length<=8 * i+j)/\∃x4 x5,σ'=[some (.ref h),some (.ref a),some (.ref p),some (.int n),some (.str rm),some (.ref pp),x4,x5]) ⟨SameBut.refl,⟨vs,ev,by rw[List.take_zero];show cS H' vs (_++[]);rw[List.append_nil];exact hpl,hvl⟩,_,_,rfl⟩ (fun j σ' H2 q=>SqL.of (q.1 _ _ hpp' hppp)) ?_ ?_
   ·rintro j x _ H2 qq H3 hxj ⟨sb2,⟨vs2,ev2,hpl2,hvl2⟩,x4,x5,rfl⟩ n3 S3 e3;rw[List.getElem?_map]at hxj;obtain⟨o,ho,rfl⟩:=Option.map_eq_some_iff.mp hxj;have hj:j<st.length:=(List.getElem?_eq_some_iff.mp ho).1;have ev3:=S3 _ _ ev2;have hpl3:=x6 hpl2 S3;have sb3:SameBut p H' H3:=sb2.trans S3.but;have htl:(st.take j).length=j:=by rw[List.length_take];omega
    cases o with
    | none =>
     have e3':H3 qq=some (.tup [.int (f+j),.non]):=e3;walk_at"go";refine⟨sb3,⟨vs2,ev3,?_,by omega⟩,_,_,rfl⟩;rw[cQ ho,iZ,List.append_nil];exact hpl3
    | some z =>
     have e3':H3 qq=some (.tup [.int (f+j),.str z]):=e3;walk_at"go";rename_i q4 H4 n4 S4 e4;have ev4:=S4 _ _ ev3;refine eO ev4 (by rw[sizeLine_eq];omega) fun H5 B5 e5=> ?_;have hq4:q4≠p:=fun zz=>by rw[zz,ev3]at n4;cases n4
     walk_at"go";refine⟨(sb3.trans S4.but).trans B5,⟨_,e5,?_,by rw[List.length_append];show vs2.length+1<=_;omega⟩,_,_,rfl⟩;rw[cQ ho,iZ,htl,←List.append_assoc];exact L2.Paired.snoc (EH (x6 hpl3 S4) ev4 B5) ⟨q4,rfl,B5 _ _ e4 hq4⟩
   ·rintro _ H2 ⟨sb2,⟨vs2,ev2,hpl2,hvl2⟩,x4,x5,rfl⟩;rw[List.length_map]at hpl2 hvl2;rw[List.take_length]at hpl2;refine⟨sb.trans sb2,⟨vs2,ev2,?_,by omega⟩,_,_,_,_,_,rfl⟩;rw[cQ hwx,qE];exact hpl2
  ·rintro _ H' ⟨sb,⟨vs,ev,hpl,hvl⟩,x1,x2,x3,x4,x5,rfl⟩;have hvl2:vs.length=(bO f (ws.take us.length)).length:=Paired.length hpl;rw[hul,List.take_length]at hpl hvl2;walk_at"go";refine LM (SqL.of ev) hpl (by omega) fun p4 vs4 xs H4 n4 S4 e4 hx4 hxs=> ?_;walk_at"go";have sA:Same H H':=SameBut.same n1 S1 sb;refine k p4 vs4 xs H4 ?_ (sA.trans S4) e4 hx4 hxs;cases hq:H p4 with
   | none=>rfl
   | some u=>rw[sA _ _ hq]at n4;cases n4
theorem AK (m:M K mg):Fc P w K mg base "joined" 3 ["house","walks"] (mS K m.bX m.bL):=⟨_,_,m.GA,m.jR.kp,m.GD,A9 m⟩
def bY (ns:List Int)(k:Int):Int:=ns.getD k.toNat 0
def rK (K:W.Frag):Sp:=fun vs H Q _=>∃(a:Addr) (ns:List Int) (k:Int),vs=[.ref a,.int k]/\SqL K H a (ns.map V.int)/\0<=k/\Q (.int (bY ns k)) H
theorem LX {H:Hp}{Q:VK}{E:XK}{a:Addr}{ns:List Int}{i:Int} (hS:SqL K H a (ns.map V.int)) (hi:0<=i) (h:Q (.int (bY ns i)) H):rK K [.ref a,.int i] H Q E:=⟨_,_,_,rfl,hS,hi,h⟩
theorem qJ (m:M K mg):bK P w K mg base CX0 1 m.iG m.iE ["_law_script","_law_k"] (rK K):=by
 refine m.cP.ok sc__law_cell_at (fun vs H Q E h=> ?_) (fun cdv A outer s H vs Q E hr h=> ?_)
 ·obtain⟨a,ns,i,rfl,hS,hi,k⟩:=h;rfl
 ·obtain⟨a,ns,i,rfl,hS,hi,k⟩:=h;have nd:=sc__law_cell_at.nd;walk_at"hu";refine⟨_,(aD (dU (c4 nO (pv 1) (bG fM rfl m.jA gI (aA (pv 0) aC)) (cT _)) (aF (cV (dW eM (pv 0) (pv 1) (fun _ _=>rfl)))) cE)
   (aF (cV aE))),?_⟩
  refine aZ (σ:=[some (.ref a),some (.int i)]) rfl ?_;walk_at"go";rw[List.length_map];refine C4 (fun h1=> ?_) (fun h1=> ?_)
  ·have hlt:i.toNat<ns.length:=by omega
   have e:=nH (xs:=ns.map V.int) (j:=i.toNat) (v:= .int (bY ns i)) (by
    rw[List.getElem?_map,List.getElem?_eq_getElem hlt];unfold bY;rw[List.getD_eq_getElem?_getD,List.getElem?_eq_getElem hlt];rfl)
   rw[show ((i.toNat:Nat):Int)=i by omega]at e;exact⟨_,rfl,_,rfl,a,_,i,_,rfl,rfl,hS,e,k⟩
  ·have e:bY ns i=0:=by
    unfold bY;rw[List.getD_eq_getElem?_getD,List.getElem?_eq_none (by omega)];rfl
   rw[e]at k;exact k
theorem qC (m:M K mg):Fc P w K mg base "_law_cell_at" 1 ["_law_script","_law_k"] (rK K):=⟨_,_,m.rO,m.cP.kp,m.rP,qJ m⟩
def uK (c k:Int):Int:=(c+7919 * k+1) * 48271%2147483647
def mQ (c k:Int):Int:=uK c k * (uK c k/1009+69621)%2147483647
def cY (c k:Int):Int:=(mQ c k+31 * k+1) * (mQ c k/757+16807)%2147483629
theorem pG (c k:Int):0<=cY c k:=Int.emod_nonneg _ (by decide)
theorem FD (c k:Int):cY c k<2147483648:=by
 have:=Int.emod_lt_of_pos ((mQ c k+31 * k+1) * (mQ c k/757+16807)) (b:=2147483629) (by decide);unfold cY;omega
def pI:Sp:=fun vs H Q _=>∃(c k:Int),vs=[.int c,.int k]/\Q (.int (cY c k)) H
theorem HG {H:Hp}{Q:VK}{E:XK}{c k:Int} (h:∀n,n=cY c k->0<=n->n<2147483648->Q (.int n) H):pI [.int c,.int k] H Q E:=⟨_,_,rfl,h _ rfl (pG c k) (FD c k)⟩
theorem tP (m:M K mg):bK P w K mg base CX0 1 m.jS m.jT ["_law_cell","_law_k"] (pI):=by
 refine m.aX.ok sc__law_drawn (fun vs H Q E h=> ?_) (fun cdv A outer s H vs Q E hr h=> ?_)
 ·obtain⟨c,j,rfl,k⟩:=h;rfl
 ·obtain⟨c,j,rfl,k⟩:=h;have nd:=sc__law_drawn.nd;walk_at"hu";refine⟨_,(aD (aY (i:=2) nd rfl (by walk_at"oi") (aN b8 (aN kH (aN bT (aN bT (pv 0) (aN kH aE (pv 1))) aE) aE) aE))
   (aD (aY (i:=2) nd rfl (by walk_at"oi") (aN b8 (aN kH (pv 2) (aN bT (aN kK (pv 2) aE) aE)) aE))
   (aF (cV (aN b8 (aN kH (aN bT (aN bT (pv 2) (aN kH aE (pv 1))) aE) (aN bT (aN kK (pv 2) aE) aE)) aE))))),?_⟩
  refine aZ (σ:=[some (.int c),some (.int j),none]) rfl ?_;unfold cY mQ uK at k;walk_at"go";exact k
theorem iS (m:M K mg):Fc P w K mg base "_law_drawn" 1 ["_law_cell","_law_k"] (pI):=⟨_,_,m.wF,m.aX.kp,m.v7,tP m⟩
local macro_rules| `(tactic| walk_at"rd1")=> `(tactic| first|((with_reducible refine' LX ?e ?s ?_);(case e=>walk_at"hp");(case s=>walk_at"sd"))|((with_reducible refine HG ?_);intro n' d' h0' h1'))
theorem nD:fS "abcdefghijklmnopqrstuvwxyz" =true:=by decide +kernel
theorem IG:("abcdefghijklmnopqrstuvwxyz" :Str).length=26:=by rw[cF];decide
theorem xP {x rest:Str}{b p:Int}{ch:Nat} (hx:fS x=true) (hb0:0<=b) (hb:b<8) (er:rest=Txt.slice x none (some b)) (hp0:0<=p) (hp:p<rest.length+1) (hc:fS ⟨#[ch]⟩=true):bF (Txt.slice rest none (some p)++⟨#[ch]⟩++Txt.slice rest (some p) none)=true:=by
 have l1:rest.length<=7:=by
  rcases PyProof.Rows.slice_ns_cases x b hb0 with h|h
  ·rw[er];omega
  ·rw[er];omega
 have hr:fS rest=true:=by rw[er];exact gH hx
 have l2:=(PyProof.Rows.fact_slice_ns rest p).1 hp0 (by omega);have l3:=(PyProof.Rows.fact_slice_sn rest p).1 hp0 (by omega);have l4:(⟨#[ch]⟩:Str).length=1:=rfl;refine FI ?_ ?_ (uN (uN (gH hr) hc) (gH hr))
 ·rw[d0,d0];omega
 ·rw[d0,d0];omega
theorem pB:("abcdefghijklmnopqrstuvwxyz" :Str).cps.toList=List.range' 97 26:=by decide +kernel
theorem MM {i:Int}(h0:0<=i)(h1:i<26):atI ("abcdefghijklmnopqrstuvwxyz" :Str).cps.toList i=some (97+i.toNat):=by
 have e:=nH (xs:=("abcdefghijklmnopqrstuvwxyz" :Str).cps.toList) (j:=i.toNat) (v:=97+i.toNat) (by rw[pB,List.getElem?_range' (by omega)];simp);rw[show ((i.toNat:Nat):Int)=i by omega]at e;exact e
def yP (c:Int):Str:=Txt.slice (Txt.slice "abcdefghijklmnopqrstuvwxyz" (some (cY c 1%20)) none) none (some (cY c 2%8))
def AJ (c:Int):Int:=cY c 3%((yP c).length+1)
def fW (c k:Int):Str:=Txt.slice (yP c) none (some (AJ c))++⟨#[97+((cY c 4+5 * k)%26).toNat]⟩++Txt.slice (yP c) (some (AJ c)) none
theorem A7 {c k1 k2:Int}(h0:0<=k1)(h1:k1<26)(h2:0<=k2)(h3:k2<26)(h:fW c k1=fW c k2):k1=k2:=by
 have h':=congrArg (fun z:Str=>z.cps.toList) h;unfold fW at h';simp only[oH]at h';have h4:=List.append_cancel_left (List.append_cancel_right h');have h5:97+((cY c 4+5 * k1)%26).toNat=97+((cY c 4+5 * k2)%26).toNat:=by simpa using h4
 omega
def oY:Sp:=fun vs H Q _=>∃(c k:Int),vs=[.int c,.int k]/\(bF (fW c k)=true->Q (.str (fW c k)) H)
theorem IM {H:Hp}{Q:VK}{E:XK}{c k:Int} (h:∀z,z=fW c k->bF z=true->Q (.str z) H):oY [.int c,.int k] H Q E:=⟨_,_,rfl,h _ rfl⟩
theorem t9 (m:M K mg):bK P w K mg base CX0 2 m.kC m.j9 ["_law_cell","_law_k"] (oY):=by
 refine m.fD.ok sc__law_name (fun vs H Q E h=> ?_) (fun cdv A outer s H vs Q E hr h=> ?_)
 ·obtain⟨c,j,rfl,k⟩:=h;rfl
 ·obtain⟨c,j,rfl,k⟩:=h;have nd:=sc__law_name.nd;walk_at"hu";have aX:= @iS P w K mg base m;refine⟨_,(aD (aY (i:=2) nd rfl (by walk_at"oi") iQ)
   (aD (aY (i:=3) nd rfl (by walk_at"oi") (jO qA (jO qA (pv 2) (g8 (aN b8 (bI aX hr (aA (pv 0) (aA aE aC))) aE)) jE) jE (g8 (aN b8 (bI aX hr (aA (pv 0) (aA aE aC))) aE))))
   (aD (aY (i:=4) nd rfl (by walk_at"oi") (aN b8 (bI aX hr (aA (pv 0) (aA aE aC))) (aN bT (bG tD rfl m.jA gI (aA (pv 3) aC)) aE)))
   (aF (cV (aN xY (aN xY (jO qA (pv 3) jE (g8 (pv 4))) (dW NG (pv 2) (aN b8 (aN bT (bI aX hr (aA (pv 0) (aA aE aC))) (aN kH aE (pv 1))) aE) (fun _ _=>rfl))) (jO qA (pv 3) (g8 (pv 4)) jE))))))),?_⟩
  refine aZ (σ:=[some (.int c),some (.int j),none,none,none]) rfl ?_;have hl:=IG;walk_at"go";refine⟨_,_,_,rfl,rfl,(by walk_at"sz"),MM (by omega) (by omega),?_⟩;walk_at"go"
  subst_vars
  refine k ?_;refine' xP (x:=Txt.slice "abcdefghijklmnopqrstuvwxyz" (some (cY c 1%20)) none) (b:=cY c 2%8) ?x ?b0 ?b1 ?er ?p0 ?p1 ?hc
  case er=>rfl
  case x=>exact gH nD
  case b0=>omega
  case b1=>omega
  case p0=>exact Int.emod_nonneg _ (by omega)
  case p1=>exact Int.emod_lt_of_pos _ (by omega)
  case hc =>
   refine u3 nD ?_;rw[pB,List.mem_range'_1];omega
theorem mH (m:M K mg):Fc P w K mg base "_law_name" 2 ["_law_cell","_law_k"] (oY):=⟨_,_,m.xA,m.fD.kp,m.w9,t9 m⟩
local macro_rules| `(tactic| walk_at"rd1")=> `(tactic| ((with_reducible refine IM ?_);intro z' dz' hz'))
def i8 (H:Hp)(v:V)(d:bN):Prop:=∃q,v= .ref q/\H q=some (.tup [.str d.1,.str d.2.1,d.2.2])
theorem kM {H H':Hp}{us:List V}{ds:List bN} (h:Paired (i8 H) us ds) (s:Same H H'):Paired (i8 H') us ds:=Paired.imp' (fun v d ⟨q,e,h⟩=>⟨q,e,s _ _ h⟩) h
def vM (rs:List Str)(d:bN):Prop:=bF d.1=true/\bF d.2.1=true/\nQ d.2.2/\kJ rs d
def mM (K:W.Frag):Sp:=fun vs H Q _=>∃(c:Int) (a:Addr) (rs:List Str),vs=[.int c,.ref a]/\H a=some (.lst (rs.map V.str))/\0<rs.length/\rs.length<=20/\(∀z∈rs,bF z=true)/\∀p us ds H',Same H H'->H' p=some (.lst us)->Paired (i8 H') us ds->(∀d∈ds,vM rs d)->(ds.map (·.1)).Nodup->ds.length<=8->Q (.ref p) H'
theorem F0 {H:Hp}{Q:VK}{E:XK}{c:Int}{a:Addr}{rs:List Str} (ha:H a=some (.lst (rs.map V.str))) (h0:0<rs.length) (h1:rs.length<=20) (hn:∀z∈rs,bF z=true) (h:∀p us ds H',Same H H'->H' p=some (.lst us)->Paired (i8 H') us ds->(∀d∈ds,vM rs d)->(ds.map (·.1)).Nodup->ds.length<=8->Q (.ref p) H'):mM K [.int c,.ref a] H Q E:=⟨_,_,_,rfl,ha,h0,h1,hn,h⟩
theorem oI (c b:Int)(n:Nat)(h0:0<=b)(hb:b+n<=26):((List.range n).map fun k:Nat=>fW c ((k:Int)+b)).Nodup:=by
 rw[List.Nodup,List.pairwise_map];refine List.Pairwise.imp_of_mem ?_ (List.nodup_range (n:=n));intro i j hi hj hne z;have hi':=List.mem_range.mp hi;have hj':=List.mem_range.mp hj;have:=A7 (by omega) (by omega) (by omega) (by omega) z;omega
theorem tN (m:M K mg):bK P w K mg base CX0 3 m.jU m.j2 ["_law_cell","_law_rooms"] (mM K):=by
 refine m.gU.ok sc__law_doors (fun vs H Q E h=> ?_) (fun cdv A outer s H vs Q E hr h=> ?_)
 ·obtain⟨c,a,rs,rfl,ha,h0,h1,hn,k⟩:=h;rfl
 ·obtain⟨c,a,rs,rfl,ha,h0,h1,hn,k⟩:=h;have nd:=sc__law_doors.nd;walk_at"hu";have aX:= @iS P w K mg base m;have fD:= @mH P w K mg base m;refine⟨_,(aD (aY (i:=2) nd rfl (by walk_at"oi") (iO aC))
   (aD (dX PassesOwn.never rfl (iP rfl m.kR (aA (aN b8 (bI aX hr (aA (pv 0) (aA aE aC))) aE) aC)) (aJ (i:=3) nd rfl (by walk_at"oi")) (aD (aY (i:=4) nd rfl (by walk_at"oi") (bI aX hr (aA (pv 0) (aA (aN bT aE (pv 3)) aC))))
   (aD (aY (i:=5) nd rfl (by walk_at"oi") (dW eM (aN A5 (pv 1) (iO (aA jK aC))) (aN b8 (aN kK (pv 4) aE) (aN bT (bG fM rfl m.jA gI (aA (pv 1) aC)) aE)) (fun _ _=>rfl)))
   (aF (cC (k5 PySem.F.plainAttrs_list PySem.F.slot_list_append PySem.F.type_list_append eN (pv 2) (aA (eJ (aA (bI fD hr (aA (pv 0) (aA (aN bT (pv 3) aE) aC))) (aA (dW eM (pv 1) (aN b8 (pv 4) (bG fM rfl m.jA gI (aA (pv 1) aC))) (fun _ _=>rfl)) (aA (pv 5) aC)))) aC)))))))
   (aF (cV (pv 2))))),?_⟩
  refine aZ (σ:=[some (.int c),some (.ref a),none,none,none,none]) rfl ?_;walk_at"go";rename_i p H1 n1 S1 e1 nn dn hn0 hn1;have hap:a≠p:=fun z=>by rw[z,n1]at ha;cases ha
  have hml:0<(rs.map V.str).length:=by rw[List.length_map];exact h0
  refine nV (fun i σ' H'=>SameBut p H1 H'/\(∃us ds,H' p=some (.lst us)/\Paired (i8 H') us ds/\(∀d∈ds,vM rs d)/\ds.map (·.1)=(List.range i).map (fun k:Nat=>fW c ((k:Int)+8)))/\∃x y z,σ'=[some (.int c),some (.ref a),some (.ref p),x,y,z]) ⟨SameBut.refl,⟨[],[],e1,.nil,(fun _ z=>nomatch z),rfl⟩,_,_,_,rfl⟩ ?_ ?_
  ·rintro i _ H' hi ⟨sb,⟨us,ds,eu,htu,hds,hnm⟩,x1,x2,x3,rfl⟩;have ha':=sb _ _ (S1 _ _ ha) hap;have hul:us.length=i:=by
    have h5:ds.length=i:=by rw[←List.length_map (f:=fun d:bN=>d.1),hnm,List.length_map,List.length_range]
    rw[Paired.length htu];exact h5
   walk_at"go";refine mP (by walk_at"hp") (by omega) (by rw[List.length_append];show _<((((rs.map V.str).length+1:Nat)):Int);omega) fun v hv=> ?_;have hve:v= .non∨∃z,v= .str z/\z∈rs:=by
    rcases List.mem_append.mp hv with hv|hv
    ·obtain⟨z,hz,rfl⟩:=List.mem_map.mp hv;exact .inr ⟨z,rfl,hz⟩
    ·exact .inl (List.mem_singleton.mp hv)
   walk_at"go";rename_i zn dzn hzn hq0 hq1;refine mP (by walk_at"hp") (by omega) (by omega) fun v2 hv2=> ?_;obtain⟨st,hst,rfl⟩:=List.mem_map.mp hv2;walk_at"go";rename_i q8 H8 n8 S8 e8;refine eO (by walk_at"hp") (by rw[sizeLine_eq];omega) fun H9 B9 e9=> ?_;have sbb:SameBut p H' H9:=by walk_at"sb"
   have sb8:SameBut p H' H8:=by walk_at"sb"
   have hq8:q8≠p:=fun z=>by
    have h7:∃u,(_:Hp) p=some u:=⟨_,eu⟩
    rw[z]at e8;have h8:H8 p=some (.lst us):=by walk_at"hp"
    rw[e8]at h8;cases h8
   walk_at"go";refine⟨by walk_at"sb",⟨us++[.ref q8],ds++[(zn,st,v)],e9,?_,?_,?_⟩,_,_,_,rfl⟩
   ·refine L2.Paired.snoc (Paired.imp' (fun w d ⟨q,e,h⟩=>⟨q,e,sbb _ _ h fun z=>by rw[z,eu]at h;cases h⟩) htu) ⟨q8,rfl,B9 _ _ e8 hq8⟩
   ·intro d hd;rcases List.mem_append.mp hd with hd|hd
    ·exact hds d hd
    ·cases List.mem_singleton.mp hd;refine⟨hzn,hn st hst,?_,hst,hve⟩;rcases hve with rfl|⟨z,rfl,hz⟩
     ·exact .inl rfl
     ·exact .inr ⟨z,rfl,hn z hz⟩
   ·rw[List.map_append,hnm,List.range_succ,List.map_append]
    congr 1
    rw[dzn,Int.zero_add];rfl
  ·rintro _ H' ⟨sb,⟨us,ds,eu,htu,hds,hnm⟩,x1,x2,x3,rfl⟩;walk_at"go";refine k _ _ _ _ (SameBut.same n1 S1 sb) eu htu hds ?_ ?_
   ·rw[hnm];exact oI c _ _ (by omega) (by omega)
   ·have h5:=congrArg List.length hnm;rw[List.length_map,List.length_map,List.length_range]at h5;omega
theorem tR (m:M K mg):Fc P w K mg base "_law_doors" 3 ["_law_cell","_law_rooms"] (mM K):=⟨_,_,m.wG,m.gU.kp,m.v9,tN m⟩
def oR (K:W.Frag):Sp:=fun vs H Q _=>∃(c mn:Int) (a b:Addr) (rs:List Str) (us:List V) (ds:List bN),vs=[.int c,.ref a,.ref b,.int mn]/\SqL K H a (rs.map V.str)/\0<rs.length/\SqL K H b us/\Paired (i8 H) us ds/\ds.length<=8/\(∀d∈ds,nQ d.2.2)/\0<=mn/\mn<=8/\∀v (w:WK) H',Same H H'->cU H' v w->0<w.1->w.2.2.length<=8->Q v H'
theorem II {H:Hp}{Q:VK}{E:XK}{c mn:Int}{a b:Addr}{rs:List Str}{us:List V}{ds:List bN} (ha:SqL K H a (rs.map V.str)) (h0:0<rs.length) (hb:SqL K H b us) (ht:Paired (i8 H) us ds) (hd:ds.length<=8) (he:∀d∈ds,nQ d.2.2) (h1:0<=mn) (h2:mn<=8) (k:∀v (w:WK) H',Same H H'->cU H' v w->0<w.1->w.2.2.length<=8->Q v H'):oR K [.int c,.ref a,.ref b,.int mn] H Q E:=⟨_,_,_,_,_,_,_,rfl,ha,h0,hb,ht,hd,he,h1,h2,k⟩
theorem uT (m:M K mg):bK P w K mg base CX0 2 m.kF m.kE ["_law_cell","_law_rooms","_law_doors_here","_law_many"] (oR K):=by
 refine m.iM.ok sc__law_walk (fun vs H Q E h=> ?_) (fun cdv A outer s H vs Q E hr h=> ?_)
 ·obtain⟨c,mn,a,b,rs,us,ds,rfl,ha,h0,hb,ht,hdl,hed,h1,h2,k⟩:=h;rfl
 ·obtain⟨c,mn,a,b,rs,us,ds,rfl,ha,h0,hb,ht,hdl,hed,h1,h2,k⟩:=h;have nd:=sc__law_walk.nd;walk_at"hu";have aX:= @iS P w K mg base m;refine⟨_,(aD (aY (i:=4) nd rfl (by walk_at"oi") (dW eM (iO (aA (aN bT aE (aN b8 (bI aX hr (aA (pv 0) (aA aE aC))) aE)) (aA (aN bT aE (aN b8 (pv 0) (xO 10000000000 (by decide) ⟨by decide,by decide,by decide⟩))) aC))) (aN b8 (bI aX hr (aA (pv 0) (aA aE aC))) aE) (fun _ _=>rfl)))
   (aD (aY (i:=5) nd rfl (by walk_at"oi") (dW eM (pv 1) (aN b8 (bI aX hr (aA (pv 0) (aA aE aC))) (bG fM rfl m.jA gI (aA (pv 1) aC))) (fun _ _=>rfl)))
   (aD (aY (i:=6) nd rfl (by walk_at"oi") (iO aC))
   (aD (aY (i:=7) nd rfl (by walk_at"oi") (pv 5))
   (aD (dX PassesOwn.never rfl (iP rfl m.kR (aA (pv 3) aC)) (aJ (i:=8) nd rfl (by walk_at"oi")) (aF (dU (c4 nS (pv 7) jK (cT _)) (aD (i7 (i:=9) nd rfl (by walk_at"oi") (N:=["_law_door","_law_at"]) (nl:=1) (ci:=[7]) rfl (blk (s.heap.objs.size+1) rfl rfl rfl (by kernel_rfl)) (bW (pv 2)) (fun _ _ _ _=>(aJ (i:=0) (show (["_law_door","_law_at"]:List Str).Nodup by decide +kernel) rfl (by walk_at"oi"))) (fun _ _ _ _=>(BB (c4 PH (dW (qW (K:=K)) (pv 0) aE (fun _ _=>rfl)) (pv 1) (cT _)))) (fun _ _ _ _=>(pv 0)))
   (aD (aY (i:=10) nd rfl (by walk_at"oi") (aN b8 (bI aX hr (aA (pv 0) (aA (aN bT aE (pv 8)) aC))) (aN bT (bG fM rfl m.jA gI (aA (pv 9) aC)) aE)))
   (aF (dU (c4 nO (pv 10) (bG fM rfl m.jA gI (aA (pv 9) aC)) (cT _)) (aD (cC (k5 PySem.F.plainAttrs_list PySem.F.slot_list_append PySem.F.type_list_append eN (pv 6) (aA (dW u0 (dW eM (pv 9) (pv 10) (fun _ _=>rfl)) aE (fun _ _=>rfl)) aC)))
   (aF (aY (i:=7) nd rfl (by walk_at"oi") (dW u0 (dW eM (pv 9) (pv 10) (fun _ _=>rfl)) aE (fun _ _=>rfl))))) (aF (cC (k5 PySem.F.plainAttrs_list PySem.F.slot_list_append PySem.F.type_list_append eN (pv 6) (aA jK aC)))))))) cE)))
   (aF (cV (eJ (aA (pv 4) (aA (pv 5) (aA (pv 6) aC))))))))))),?_⟩
  refine aZ (σ:=[some (.int c),some (.ref a),some (.ref b),some (.int mn),none,none,none,none,none,none,none]) rfl ?_;have hml:0<(rs.map V.str).length:=by rw[List.length_map];exact h0
  walk_at"go";rename_i n1 d1 hn10 hn11 p1 H1 np1 S1 ep1 n2 d2 hn20 hn21 nr hnr n3 d3 hn30 hn31 hi0 hi1;have hnr0:0<nr:=by omega
  refine mP (S1.seq ha) hi0 hi1 fun v hv=> ?_;obtain⟨rm,hrm,rfl⟩:=List.mem_map.mp hv;walk_at"go";rename_i p H2 n4 S2 ep;have sA:Same H H2:=S1.trans S2;have hbp:∀x u,H x=some u->x≠p:=fun x u hx z=>by rw[z]at hx;rw[S1 _ _ hx]at n4;cases n4
  refine nV (fun i σ' H'=>SameBut p H2 H'/\(∃st:List (Option Str),H' p=some (.lst (st.map sV))/\st.length<=i)/\∃(at':Option Str) (x8 x9 x10:Option V),σ'=[some (.int c),some (.ref a),some (.ref b),some (.int mn),some (.int nr),some (.str rm),some (.ref p),some (sV at'),x8,x9,x10]) ⟨SameBut.refl,⟨[],ep,Nat.le_refl _⟩,some rm,_,_,_,rfl⟩ ?_ ?_
  ·rintro i _ H' hi ⟨sb,⟨st,es,hst⟩,at',x8,x9,x10,rfl⟩;have sH:Same H H':=fun x u hx=>sb _ _ (sA _ _ hx) (hbp x u hx);cases at' with
   | none =>
    rw[show sV none=V.non from rfl];walk_at"go";exact⟨sb,⟨st,es,by omega⟩,none,_,_,_,rfl⟩
   | some z =>
    rw[show sV (some z)=V.str z from rfl];walk_at"go";refine nE (α:=bN) (xs:=ds) (vs:=us) (i8 H') (fun d=>decide (d.2.1=z)) (fun d y H=>i8 H y d) (fun _ _ _ _ ⟨q,h1,h2⟩ s=>⟨q,h1,s _ _ h2⟩) (by rw[sizeLine_eq];omega) (rest:=[some (.str z)]) (by rfl) (sH.seq hb) (kM ht sH) ?_ ?_ ?_
    ·rintro v ⟨dn,dst,de⟩ H3 ⟨q,rfl,hq⟩ hm s3 R hR;have hq':H3 q=some (.tup [.str dn,.str dst,de]):=s3 _ _ hq;walk_at"go";refine⟨q,_,1,_,rfl,rfl,SqT.of hq',rfl,?_⟩;walk_at"go";exact hR _ (Same.refl _)
    ·rintro v ⟨dn,dst,de⟩ H3 ⟨q,rfl,hq⟩ hm - s3 R hR;walk_at"go";exact hR _ _ ⟨q,rfl,s3 _ _ hq⟩ (Same.refl _)
    intro ys H3 s3 hys;have hyp:=iJ hys;have hyl:ys.length<=8:=by
     have e:ys.length=(ds.filter fun d=>decide (d.2.1=z)).length:=Paired.length hyp;have:=List.length_filter_le (fun d:bN=>decide (d.2.1=z)) ds;omega
    walk_at"go";rename_i p5 H5 n5 S5 e5 n6 d6 hn60 hn61 hj0 hj1;have ep5:H5 p=some (.lst (st.map sV)):=S5 _ _ (s3 _ _ es);have hp5:p5≠p:=fun zz=>by rw[zz,s3 _ _ es]at n5;cases n5
    have sb5:SameBut p H2 H5:=(sb.trans s3.but).trans S5.but;have hyp5:=kM hyp S5;refine C4 (fun hc=> ?_) (fun hc=> ?_)
    ·walk_at"go";refine mP (SqL.of e5) hj0 hc fun v hv=> ?_;obtain⟨⟨dn,dst,de⟩,hd,q,rfl,hq⟩:=i5 hyp5 hv;walk_at"go";refine⟨q,_,0,_,rfl,rfl,SqT.of hq,rfl,?_⟩;walk_at"go";refine eO ep5 (by rw[sizeLine_eq,List.length_map];omega) fun H7 B7 e7=> ?_;have e57:=B7 _ _ e5 hp5;walk_at"go";refine mP (SqL.of e57) hj0 hc fun v2 hv2=> ?_;obtain⟨⟨dn2,dst2,de2⟩,hd2,q2,rfl,hq2⟩:=i5 hyp5 hv2;have hq2':H7 q2=some (.tup [.str dn2,.str dst2,de2]):=B7 _ _ hq2 fun zz=>by rw[zz,ep5]at hq2;cases hq2
     have hde:∃o,de2=sV o:=by
      rcases hed _ (List.mem_filter.mp hd2).1 with h|⟨zz,h,_⟩
      ·exact⟨none,h⟩
      ·exact⟨some zz,h⟩
     obtain⟨o,rfl⟩:=hde;walk_at"go";refine⟨q2,_,2,_,rfl,rfl,SqT.of hq2',rfl,?_⟩;walk_at"go";exact⟨sb5.trans B7,⟨st++[some dn],by rw[e7,List.map_append];rfl,by rw[List.length_append];show st.length+1<=_;omega⟩,o,_,_,_,rfl⟩
    ·walk_at"go";refine eO ep5 (by rw[sizeLine_eq,List.length_map];omega) fun H7 B7 e7=> ?_;walk_at"go";exact⟨sb5.trans B7,⟨st++[none],by rw[e7,List.map_append];rfl,by rw[List.length_append];show st.length+1<=_;omega⟩,some z,_,_,_,rfl⟩
  ·rintro _ H' ⟨sb,⟨st,es,hst⟩,at',x8,x9,x10,rfl⟩;have sH:Same H H':=fun x u hx=>sb _ _ (sA _ _ hx) (hbp x u hx);walk_at"go";rename_i q9 H9 n9 S9 e9;exact k _ (nr,rm,st) _ (sH.trans S9) ⟨q9,p,rfl,e9,S9 _ _ es⟩ hnr0 (by show st.length<=8;omega)
theorem vF (m:M K mg):Fc P w K mg base "_law_walk" 2 ["_law_cell","_law_rooms","_law_doors_here","_law_many"] (oR K):=⟨_,_,m.w6,m.iM.kp,m.w5,uT m⟩
theorem E5 {a b:List Int}(h:a.Perm b):a.sum=b.sum:=by
 induction h with
 | nil=>rfl
 | cons x _ ih=>rw[List.sum_cons,List.sum_cons,ih]
 | swap x y l=>simp only[List.sum_cons];omega
 | trans _ _ h1 h2=>exact h1.trans h2
theorem yV {a b:List bQ}(h:a.Perm b)(t:Int)(n:Str):gJ a t n=gJ b t n:=E5 ((h.filter _).map _)
theorem BN {a b:List bQ}(h:a.Perm b):d8 (dI a)=d8 (dI b):=by
 refine z4 ⟨_,k8 a⟩ (gR a) ((List.perm_ext_iff_of_nodup (gR a) (gR b)).mpr fun k=> ?_);rw[mem_told,mem_told];simp only[yV h]
theorem CA (f:Int)(ws:List WK):(bO f ws.reverse).Perm (bO f ws):=by
 unfold bO;rw[List.map_reverse];exact(List.reverse_perm _).flatten
theorem EM {rows:List bQ}(h:∀r∈rows,0<r.2.2):∀e∈dJ rows,0<j4 e.2:=by
 induction rows using nK with
 | h0=>exact fun e he=>nomatch he
 | hs l r ih =>
  have ih:=ih fun r hr=>h r (List.mem_append_left _ hr);have hr:=h r (List.mem_append_right _ (.head _));rw[gG];intro e he;rcases u9 he with h1|⟨h1,h2⟩
  ·exact ih e h1
  ·rw[h2];show 0<j4 _+r.2.2;cases hv:aV (dJ l) (cZ r.1 r.2.1) with
   | none=>show 0<(0:Int)+r.2.2;omega
   | some v =>
    have:=ih _ (mT hv);show 0<j4 v+r.2.2;have h3:0<j4 v:=this;omega
theorem DZ {rows:List bQ}(h:∀r∈rows,0<r.2.2):(dJ rows).map rN=dI rows:=by
 unfold dI;rw[(List.filter_eq_self (p:=zD)).mpr fun e he=>decide_eq_true (EM h e he)]
theorem AM {f n:Int}{l:List (Option Str)}{r:bQ} (h:r∈fH f n l):r.2.2=n:=by
 unfold fH at h;obtain⟨e,_,h2⟩:=List.mem_filterMap.mp h;obtain⟨z,_,rfl⟩:=Option.map_eq_some_iff.mp h2;rfl
theorem BQ {f:Int}{ws:List WK} (h:∀w∈ws,0<w.1):∀r∈bO f ws,0<r.2.2:=fun r hr=>by
 unfold bO at hr;obtain⟨l,hl,hr⟩:=List.mem_flatten.mp hr;obtain⟨w,hw,rfl⟩:=List.mem_map.mp hl;rw[AM hr];exact h w hw
theorem mO {f:Int}:∀{ws:List WK},(∀w∈ws,w.2.2.length<=8)->(bO f ws).length<=8 * ws.length
 | [],_=>Nat.le_refl _
 | w::ws,h=>by
  have h1:=mO (f:=f) (ws:=ws) fun x hx=>h x (.tail _ hx);have h2:=sK f w.1 w.2.2;have h3:=h w (.head _);show (fH f w.1 w.2.2++bO f ws).length<=_;rw[List.length_append,List.length_cons];omega
theorem mK {H:Hp}:∀{xs ys:List V}{rs:List (List Key)},KRows H xs rs->KRows H ys rs->Paired (DeepEq K H 4) xs ys
 | _,_,_,.nil,.nil=> .nil
 | _,_,_,.cons ⟨p,e1,h1⟩ t,.cons ⟨q,e2,h2⟩ u=>by
  refine .cons ?_ (mK t u);subst e1 e2;refine DeepEq.tup h1 h2 (lC ?_);rw[List.all_map,List.all_eq_true];intro k _;cases k<;>rfl
theorem pX {H:Hp}:∀{xs ys:List V}{ws:List WK},Paired (cU H) xs ws->Paired (cU H) ys ws->Paired (DeepEq K H 4) xs ys
 | _,_,_,.nil,.nil=> .nil
 | _,_,_,.cons ⟨p,p2,e1,h1,h1'⟩ t,.cons ⟨q,q2,e2,h2,h2'⟩ u=>by
  refine .cons ?_ (pX t u);subst e1 e2;refine DeepEq.tup h1 h2 (.cons (DeepEq.self rfl) (.cons (DeepEq.self rfl) (.cons (DeepEq.lst (SqL.of h1') (SqL.of h2') (lC ?_)) .nil)));rw[List.all_map,List.all_eq_true];intro k _;cases k<;>rfl
theorem oG {H:Hp}:∀{us:List V}{ws:List WK},Paired (cU H) us ws->∃zs:List (WK×Addr),zs.map (·.1)=ws/\Paired (fun v (x:WK×Addr)=>∃q,v= .ref q/\H q=some (.tup [.int x.1.1,.str x.1.2.1,.ref x.2])) us zs/\∀x∈zs,H x.2=some (.lst (x.1.2.2.map sV))
 | _,_,.nil=>⟨[],rfl,.nil,fun _ h=>nomatch h⟩
 | _,w::_,.cons ⟨q,p,e,h,h2⟩ t=>by
  obtain⟨zs,a,b,c⟩:=oG t;refine⟨(w,p)::zs,by rw[List.map_cons,a],.cons ⟨q,e,h⟩ b,fun x hx=> ?_⟩;rcases List.mem_cons.mp hx with rfl|hx
  ·exact h2
  ·exact c x hx
theorem qI {H:Hp}:∀{zs:List (WK×Addr)}{ys:List V},Paired (fun x y=>cU H y x.1) zs ys->Paired (cU H) ys (zs.map (·.1))
 | _,_,.nil=> .nil
 | _,_,.cons h t=> .cons h (qI t)
theorem vV {H:Hp}:∀{cs:List Int}{ys:List V},Paired (fun (_:Int) y=>∃w:WK,cU H y w/\0<w.1/\w.2.2.length<=8) cs ys->∃ws:List WK,Paired (cU H) ys ws/\(∀w∈ws,0<w.1)/\(∀w∈ws,w.2.2.length<=8)/\ws.length=cs.length
 | _,_,.nil=>⟨[],.nil,(fun _ h=>nomatch h),(fun _ h=>nomatch h),rfl⟩
 | _,_,.cons ⟨w,h1,h2,h3⟩ t=>by
  obtain⟨ws,a,b,c,d⟩:=vV t;refine⟨w::ws,.cons h1 a,fun x hx=> ?_,fun x hx=> ?_,by rw[List.length_cons,List.length_cons,d]⟩
  ·rcases List.mem_cons.mp hx with rfl|hx
   ·exact h2
   ·exact b x hx
  ·rcases List.mem_cons.mp hx with rfl|hx
   ·exact h3
   ·exact c x hx
theorem zM {α β:Type}{F:α->β->Prop}{l:List α}{m:List β} (h:Paired F l m):Paired F l.reverse m.reverse:=by
 induction h with
 | nil=>exact .nil
 | cons h t ih=>rw[List.reverse_cons,List.reverse_cons];exact L2.Paired.snoc ih h
theorem PB (ns:List Int):(oV ns (some 2) (some 22)).length<=20:=by
 unfold oV;rw[show HT.sIx ns.length ns.length (some 22)=min 22 ns.length from HT.sIx_nat _ _ 22,show HT.sIx ns.length 0 (some 2)=min 2 ns.length from HT.sIx_nat _ _ 2,List.length_take,List.length_drop];omega
theorem D8:W.kitOne K (.type "list") (.type "list")=some true:=by
 unfold W.kitOne;rw[if_pos (beq_self_eq_true _)]
theorem EV {H:Hp}{Q:VK}{a:Addr}{xs:List V} (e:H a=some (.lst xs)) (h:Q (.bl true) H):MT K [.ref a,.ty "list"] H Q:=⟨_,_,_,_,_,rfl,.lst e,rfl,D8,h⟩
local macro_rules| `(tactic| walk_at"rd1")=> `(tactic| first|(with_reducible refine K4 ?_)|(with_reducible refine K6 ?_)|(with_reducible refine N0 ?_)|(with_reducible refine MS ?_)|(with_reducible refine MP ?_)|(with_reducible refine NJ ?_)|(with_reducible refine NN ?_)|(with_reducible refine M7 ?_)|((with_reducible refine' EV ?e ?_);(case e=>walk_at"hp"))|(with_reducible refine ED ?_)|(with_reducible refine P4 ?_))
theorem EU (c k:Int):bF (fW c k)=true:=by
 have h2:=pG c 2;have h4:=pG c 4;refine' xP (x:=Txt.slice "abcdefghijklmnopqrstuvwxyz" (some (cY c 1%20)) none) (b:=cY c 2%8) ?x ?b0 ?b1 ?er ?p0 ?p1 ?hc
 case er=>rfl
 case x=>exact gH nD
 case b0=>omega
 case b1=>omega
 case p0=>exact Int.emod_nonneg _ (by omega)
 case p1=>exact Int.emod_lt_of_pos _ (by omega)
 case hc =>
  refine u3 nD ?_;rw[pB,List.mem_range'_1];omega
theorem FW {C CD:Addr}{H H':Hp}{h p:Addr}{rs:List Str}{ds:List bN}{f:Int}{kvs:List (List Key×V)} (x:fN C CD H h rs ds f) (e:H p=some (.dT kvs)) (s:SameBut p H H'):fN C CD H' h rs ds f:=by
 obtain⟨dx,l,qs,qp,qd,nk,e1,e2,e3,e4⟩:=x.ex;refine⟨dx,l,qs,qp,qd,nk,s _ _ e1 fun z=> ?_,s _ _ e2 fun z=> ?_,s _ _ e3 fun z=> ?_,Paired.imp' (fun u d h=>⟨h.1,?_⟩) e4⟩
 ·rw[z,e]at e1;cases e1
 ·rw[z,e]at e2;cases e2
 ·rw[z,e]at e3;cases e3
 ·obtain⟨q,dx',e5,hq⟩:=h.2;exact⟨q,dx',e5,s _ _ hq fun z=>by rw[z,e]at hq;cases hq⟩
theorem r9:∀rs:List Int,Paired (fun v z=>v=V.int z) (rs.map V.int) rs
 | []=> .nil
 | _::rs=> .cons rfl (r9 rs)
theorem sO:∀rs:List Str,Paired (fun v z=>v=V.str z) (rs.map V.str) rs
 | []=> .nil
 | _::rs=> .cons rfl (sO rs)
def jL (c:Int):List Str:=(List.range (1+c%5).toNat).map fun k:Nat=>fW c ((k:Int)+0)
def pT (K:W.Frag):Sp:=fun vs H Q _=>∃(a:Addr) (ns:List Int),vs=[.ref a]/\SqL K H a (ns.map V.int)/\ns.length<=63/\∀H',Q (.bl true) H'
theorem NP (m:M K mg):bK P w K mg base CX0 20 m.z9 m.z7 ["_law_script"] (pT K):=by
 refine m.P9.ok sc_law (fun vs H Q E h=> ?_) (fun cdv A outer s H vs Q E hr h=> ?_)
 ·obtain⟨a,ns,rfl,hS,hlen,k⟩:=h;rfl
 ·obtain⟨a,ns,rfl,hS,hlen,k⟩:=h;have nd:=sc_law.nd;walk_at"hu";have cP:= @qC P w K mg base m;have gU:= @tR P w K mg base m;have fD:= @mH P w K mg base m;have iM:= @vF P w K mg base m;have jR:= @AK P w K mg base m;have K_Door_1:= @DC P w K mg base m;have K_House_0:= @yN P w K mg base m;have w_dc_Door:=m.nW;have w_dc_House:=m.wI;refine⟨_,(aD (aY (i:=1) nd rfl (by walk_at"oi") (bI cP hr (aA (pv 0) (aA aE aC))))
   (aD (aY (i:=2) nd rfl (by walk_at"oi") (fB (N:=["_law_k","_law_cell"]) (nl:=1) (ci:=[1]) rfl (blk (s.heap.objs.size+1) rfl rfl rfl (by kernel_rfl)) (iP rfl m.kR (aA (aN bT aE (aN b8 (pv 1) aE)) aC)) (fun _ _ _ _=>(aJ (i:=0) (show (["_law_k","_law_cell"]:List Str).Nodup by decide +kernel) rfl (by walk_at"oi"))) (fun _ _ _ _=>eY) (fun _ _ _ _=>(bI fD hr (aA (pv 1) (aA (pv 0) aC))))))
   (aD (aY (i:=3) nd rfl (by walk_at"oi") (bI gU hr (aA (pv 1) (aA (pv 2) aC))))
   (aD (aY (i:=4) nd rfl (by walk_at"oi") (aN b8 (aN kK (bI cP hr (aA (pv 0) (aA aE aC))) aE) (dW eM (iO (aA aE (aA (xO 100000000000 (by decide) ⟨by decide,by decide,by decide⟩) aC))) (aN b8 (aN kK (bI cP hr (aA (pv 0) (aA aE aC))) aE) aE) (fun _ _=>rfl))))
   (aD (aY (i:=5) nd rfl (by walk_at"oi") (aN b8 (bI cP hr (aA (pv 0) (aA aE aC))) aE))
   (aD (i7 (i:=6) nd rfl (by walk_at"oi") (N:=["_law_one","_law_two","_law_end"]) (nl:=3) (ci:=[]) rfl (blk (s.heap.objs.size+1) rfl rfl rfl (by kernel_rfl)) (bW (pv 3)) (fun _ _ _ _=>(g7 (K:=K) (n:=3) rfl (aS (aJ (i:=0) (show (["_law_one","_law_two","_law_end"]:List Str).Nodup by decide +kernel) rfl (by walk_at"oi")) (aS (aJ (i:=1) (show (["_law_one","_law_two","_law_end"]:List Str).Nodup by decide +kernel) rfl (by walk_at"oi")) (aS (aJ (i:=2) (show (["_law_one","_law_two","_law_end"]:List Str).Nodup by decide +kernel) rfl (by walk_at"oi")) dO))))) (fun _ _ _ _=>eY) (fun _ _ _ _=>(GS K_Door_1 hr (aA (pv 0) (aA (pv 1) (aA (pv 2) aC))))))
   (aD (aY (i:=7) nd rfl (by walk_at"oi") (GS K_House_0 hr (aA (fB (N:=["_law_room"]) (nl:=1) (ci:=[]) rfl (blk (s.heap.objs.size+1) rfl rfl rfl (by kernel_rfl)) (bW (pv 2)) (fun _ _ _ _=>(aJ (i:=0) (show (["_law_room"]:List Str).Nodup by decide +kernel) rfl (by walk_at"oi"))) (fun _ _ _ _=>eY) (fun _ _ _ _=>(eJ (aA (pv 0) (aA aE aC))))) (aA (pv 6) (aA (iO aC) (aA (aN bT (pv 4) (pv 5)) (aA (pv 4) aC)))))))
   (aD (i7 (i:=8) nd rfl (by walk_at"oi") (N:=["_law_one","_law_rooms","_law_doors_here","_law_many"]) (nl:=1) (ci:=[2,3,5]) rfl (blk (s.heap.objs.size+1) rfl rfl rfl (by kernel_rfl)) (bW (jO IQ (pv 0) (g8 aE) (g8 aE))) (fun _ _ _ _=>(aJ (i:=0) (show (["_law_one","_law_rooms","_law_doors_here","_law_many"]:List Str).Nodup by decide +kernel) rfl (by walk_at"oi"))) (fun _ _ _ _=>eY) (fun _ _ _ _=>(bI iM hr (aA (pv 0) (aA (pv 1) (aA (pv 2) (aA (pv 3) aC)))))))
   (aD (aY (i:=9) nd rfl (by walk_at"oi") uA)
   (aD (dX PassesOwn.never rfl (bW (pv 8)) (kG (n:=3) rfl (aS (aJ (i:=10) nd rfl (by walk_at"oi")) (aS (aJ (i:=11) nd rfl (by walk_at"oi")) (aS (aJ (i:=12) nd rfl (by walk_at"oi")) dO)))) (aF (dX PassesOwn.never rfl (iP rfl m.kR (aA (bG fM rfl m.jA gI (aA (pv 12) aC)) aC)) (aJ (i:=13) nd rfl (by walk_at"oi")) (aF (dU (c4 nS (dW eM (pv 12) (pv 13) (fun _ _=>rfl)) jK (cT _)) (aF (kP hu1 (pv 9) (eJ (aA (aN bT (pv 4) (pv 13)) (aA (dW eM (pv 12) (pv 13) (fun _ _=>rfl)) aC))) (aN bT (t5 hu1 (pv 9) (eJ (aA (aN bT (pv 4) (pv 13)) (aA (dW eM (pv 12) (pv 13) (fun _ _=>rfl)) aC))) aE ⟨rfl,rfl,rfl,rfl⟩) (pv 10)) rfl)) cE)))))
   (aD (aY (i:=14) nd rfl (by walk_at"oi") (bG lK rfl m.wE sS (aA (xT (fB (N:=["_law_turn","_law_name_here","_law_sums"]) (nl:=2) (ci:=[9]) rfl (blk (s.heap.objs.size+1) rfl rfl rfl (by kernel_rfl)) (E2 (pv 9)) (fun _ _ _ _=>(g7 (K:=K) (n:=2) rfl (aS (aJ (i:=0) (show (["_law_turn","_law_name_here","_law_sums"]:List Str).Nodup by decide +kernel) rfl (by walk_at"oi")) (aS (aJ (i:=1) (show (["_law_turn","_law_name_here","_law_sums"]:List Str).Nodup by decide +kernel) rfl (by walk_at"oi")) dO)))) (fun _ _ _ _=>eY) (fun _ _ _ _=>(eJ (aA (pv 0) (aA (pv 1) (aA (qY hu1 (pv 2) (eJ (aA (pv 0) (aA (pv 1) aC))) (fun _ _=>rfl)) aC))))))) aC)))
   (aD (i7 (i:=15) nd rfl (by walk_at"oi") (N:=["_law_number","_law_room","_law_steps"]) (nl:=3) (ci:=[]) rfl (blk (s.heap.objs.size+1) rfl rfl rfl (by kernel_rfl)) (bW (pv 8)) (fun _ _ _ _=>(g7 (K:=K) (n:=3) rfl (aS (aJ (i:=0) (show (["_law_number","_law_room","_law_steps"]:List Str).Nodup by decide +kernel) rfl (by walk_at"oi")) (aS (aJ (i:=1) (show (["_law_number","_law_room","_law_steps"]:List Str).Nodup by decide +kernel) rfl (by walk_at"oi")) (aS (aJ (i:=2) (show (["_law_number","_law_room","_law_steps"]:List Str).Nodup by decide +kernel) rfl (by walk_at"oi")) dO))))) (fun _ _ _ _=>eY) (fun _ _ _ _=>(eJ (aA (pv 0) (aA (pv 1) (aA (sI (wN K rfl) rfl m.DH xU (aA (pv 2) aC)) aC))))))
   (aD (dX PassesOwn.never rfl (iP rfl m.kR (aA aE aC)) (aJ (i:=13) nd rfl (by walk_at"oi")) (aD (aY (i:=16) nd rfl (by walk_at"oi") (bI jR hr (aA (pv 7) (aA (pv 15) aC))))
   (aD (dU (PW.pt (zI (mV (jF (bG lE rfl m.gW fX (aA (pv 16) (aA (tZ rfl m.DH xU) aC))))) (zI (c4 (B0 hu9) (pv 16) (pv 14) (cT _)) (A4 (c4 (B0 hu9) (pv 15) (pv 8) (cT _)))))) (aF (cV zO)) cE)
   (aF (cC (k5 PySem.F.plainAttrs_list PySem.F.slot_list_append PySem.F.type_list_append eN (pv 16) (aA (eJ (aA aE (aA iQ (aA aE aC)))) aC)))))))
   (aF (cV (nF (LD hu9) (bI jR hr (aA (pv 7) (aA (EQ (pv 15) jE jE (g8 (OU M5 aE))) aC))) (pv 14) (cT _))))))))))))))))),?_⟩
  refine aZ (σ:=[some (.ref a),none,none,none,none,none,none,none,none,none,none,none,none,none,none,none,none]) rfl ?_;have hrn:(jL (bY ns 0)).Nodup:=oI _ 0 _ (by omega) (by omega);have hrl:(jL (bY ns 0)).length=(1+bY ns 0%5).toNat:=by unfold jL;rw[List.length_map,List.length_range]
  have hrb:∀z∈jL (bY ns 0),bF z=true:=fun z hz=>by
   obtain⟨i,_,rfl⟩:=List.mem_map.mp hz;exact EU _ _
  walk_at"go";refine EX (fun i=> .str (fW (bY ns 0) ((i:Int)+0))) (by rw[sizeLine_eq];omega) (rest:=[some (.int (bY ns 0))]) (by rfl) ?_ ?_
  ·intro i H1 hi s1 R hR;walk_at"go";rename_i z hz hb;rw[hz,Int.zero_add,←Int.add_zero (i:Int)];exact hR _ (Same.refl _)
  intro H1 s1;have er:((List.range (1+bY ns 0%5).toNat).map fun i:Nat=>V.str (fW (bY ns 0) ((i:Int)+0)))=(jL (bY ns 0)).map V.str:=by unfold jL;rw[List.map_map];rfl
  rw[er];generalize jL (bY ns 0)=rs at hrn hrl hrb;have hr0:0<rs.length:=by omega
  have hr5:rs.length<=5:=by omega
  have hml:0<(rs.map V.str).length:=by rw[List.length_map];exact hr0
  walk_at"go";rename_i pR H2 n2 S2 eR;refine F0 eR hr0 (by omega) hrb fun pD us ds H3 S3 eD htu hdr hdn hdl=> ?_;walk_at"go";rename_i p4 H4 n4 S4 e4 vv hvv hf0 hf1;have hf2:bY ns 1/9%vv<100000000000:=by omega
  generalize hfe:bY ns 1/9%vv=f at hf0 hf1 hf2;have hmn0:0<=bY ns 1%9:=by omega
  have hmn8:bY ns 1%9<=8:=by omega
  generalize bY ns 1%9=mn at hmn0 hmn8;have s04:Same H H4:=((s1.trans S2).trans S3).trans S4;have eR4:H4 pR=some (.lst (rs.map V.str)):=S4 _ _ (S3 _ _ eR);have eD4:=S4 _ _ eD;have hus:us.length=ds.length:=Paired.length htu;refine x0 (α:=bN) (xs:=ds) (vs:=us) (fun d=> .str d.1) (fun d=> .str d.2.1) (fun d=>d.2.2) (fun _=>true) (fun d y H=>DoorAt m.bL H y d) (fun _ _ _ _ h s=>DoorAt.same h s) (by rw[sizeLine_eq];omega) (rest:=[]) (by rfl) (SqL.of eD4) (kM htu S4) (fun x H1 hx s1 R hR=>hR _ (Same.refl _)) ?_ ?_
  ·rintro ⟨dn,dst,de⟩ H7 hm - s7 R hR;obtain⟨hd1,hd2,hd3,hd4⟩:=hdr _ hm;walk_at"go";rename_i q8 dx8 H8 n8 S8 e8;exact hR _ _ ⟨q8,dx8,rfl,e8⟩ S8
  intro vd H5 s5 hvd;rw[gA]at hvd;have hda:Paired (DoorAt m.bL H5) vd ds:=iJ hvd;walk_at"go";rename_i pV H6 n6 S6 eV;have s46:Same H4 H6:=s5.trans S6;refine nE (α:=Str) (xs:=rs) (vs:=rs.map V.str) (fun v z=>v= .str z) (fun _=>true) (fun z y H=>∃q,y= .ref q/\H q=some (.tup [.str z,.int 5])) (fun _ _ _ _ ⟨q,h1,h2⟩ s=>⟨q,h1,s _ _ h2⟩) (by rw[sizeLine_eq];omega) (rest:=[]) (by rfl) (SqL.of (s46 _ _ eR4)) (sO rs) (fun v x H1 _ hx s1 R hR=>hR _ (Same.refl _)) ?_ ?_
  ·rintro v z H5 rfl hm - s5 R hR;walk_at"go";rename_i q6 H6 n6 S6 e6;exact hR _ _ ⟨q6,rfl,e6⟩ S6
  intro ws H7 s7 hws;rw[gA]at hws;have hra:RoomsAt H7 ws rs:=iJ hws;walk_at"go";rename_i pW H8 n8 S8 eW pE H9 n9 S9 eE;have s69:Same H6 H9:=(s7.trans S8).trans S9;refine CZ (rs:=rs) (ds:=ds) rfl (by assumption) (S9 _ _ eW) (hra.sm (S8.trans S9)) (SqL.of (s69 _ _ eV)) (kU hda (S6.trans s69)) (SqL.of eE) hrn hdn (fun d hd=>(hdr d hd).2.2.2) (by omega) (by omega) hf0 (by omega) fun h H10 n10 S10 hh=> ?_;have s4a:Same H4 H10:=(s46.trans s69).trans S10;walk_at"go";rename_i pC H11 n11 S11 eC;have s4b:Same H4 H11:=s4a.trans S11;have hcl:=PB ns;refine nE (α:=Int) (xs:=oV ns (some 2) (some 22)) (vs:=(oV ns (some 2) (some 22)).map V.int) (fun v c=>v= .int c) (fun _=>true) (fun _ y H=>∃w:WK,cU H y w/\0<w.1/\w.2.2.length<=8) (fun _ _ _ _ ⟨w,⟨q,p,e,h1,h2⟩,h3⟩ s=>⟨w,⟨q,p,e,s _ _ h1,s _ _ h2⟩,h3⟩) (by rw[sizeLine_eq];omega) (rest:=[some (.ref pR),some (.ref pD),some (.int mn)]) (by rfl) (SqL.of eC) (r9 _) (fun v x H1 _ hx s1 R hR=>hR _ (Same.refl _)) ?_ ?_
  ·rintro v c H12 rfl hm - s12 R hR;have s4c:=s4b.trans s12;walk_at"go";exact II (SqL.of (s4c _ _ eR4)) hr0 (SqL.of (s4c _ _ eD4)) (kM (kM htu S4) s4c) hdl (fun d hd=>(hdr d hd).2.2.1) hmn0 hmn8 fun v w H13 S13 hw h1 h2=>hR _ _ ⟨w,hw,h1,h2⟩ S13
  intro ys H12 s12 hys;rw[gA]at hys;obtain⟨wk,hwk,hw0,hw8,hwl⟩:=vV hys;have hyl:ys.length=wk.length:=Paired.length hwk;walk_at"go";rename_i pL H13 n13 S13 eL pS H14 n14 S14 eS;have hwk14:=f9 hwk (S13.trans S14);have eL14:=S14 _ _ eL;have hLS:pL≠pS:=fun z=>by rw[z,n14]at eL;cases eL
  have hh14:=k6 hh (((S11.trans s12).trans S13).trans S14);clear s4a s4b s46 s69 s04;refine gF ys (fun i σ' H'=>SameBut pS H14 H'/\H' pS=some (.dT (dJ (bO f (wk.take i))))/\∃x10 x11 x12 x13,σ'=[some (.ref a),some (.int (bY ns 0)),some (.ref pR),some (.ref pD),some (.int f),some (.int mn),some (.ref pV),some (.ref h),some (.ref pL),some (.ref pS),x10,x11,x12,x13,none,none,none]) ⟨SameBut.refl,eS,_,_,_,_,rfl⟩ (fun i σ' H' _ q=>SqL.of (q.1 _ _ eL14 hLS)) ?_ ?_
  ·rintro i x _ H' hx ⟨sb,ek,x10,x11,x12,x13,rfl⟩;have hi:i<ys.length:=(List.getElem?_eq_some_iff.mp hx).1;obtain⟨⟨n,rm,st⟩,hwx⟩:∃w,wk[i]? =some w:=⟨_,List.getElem?_eq_getElem (by omega)⟩
   obtain⟨q,pp,rfl,hq,hpp⟩:=Paired.at2 hwk14 hx hwx;have hst:st.length<=8:=hw8 _ (List.mem_of_getElem? hwx);have hms:(st.map sV).length=st.length:=List.length_map ..;have hq':H' q=some (.tup [.int n,.str rm,.ref pp]):=sb _ _ hq fun z=>by rw[z,eS]at hq;cases hq
   have hppS:pp≠pS:=fun z=>by rw[z,eS]at hpp;cases hpp
   have hpp':H' pp=some (.lst (st.map sV)):=sb _ _ hpp hppS;have hrl:(bO f (wk.take i)).length<=160:=by
    have:=mO (f:=f) (ws:=wk.take i) fun w hw=>hw8 w (List.mem_of_mem_take hw);rw[List.length_take]at this;omega
   walk_at"go";refine nV (fun j σ' H2=>SameBut pS H' H2/\H2 pS=some (.dT (dJ (bO f (wk.take i)++fH f n (st.take j))))/\∃x13,σ'=[some (.ref a),some (.int (bY ns 0)),some (.ref pR),some (.ref pD),some (.int f),some (.int mn),some (.ref pV),some (.ref h),some (.ref pL),some (.ref pS),some (.int n),some (.str rm),some (.ref pp),x13,none,none,none]) ⟨SameBut.refl,by rw[List.take_zero];show H' pS=some (.dT (dJ (_++[])));rw[List.append_nil];exact ek,_,rfl⟩ ?_ ?_
   ·rintro j _ H2 hj ⟨sb2,ek2,x13,rfl⟩;have hj':j<st.length:=by omega
    obtain⟨o,ho⟩:∃o,st[j]? =some o:=⟨_,List.getElem?_eq_getElem hj'⟩
    have epp:=sb2 _ _ hpp' hppS;have htl:(st.take j).length=j:=by rw[List.length_take];omega
    have hat:atI (st.map sV) (0+(j:Int))=some (sV o):=by rw[Int.zero_add];exact nH (by rw[List.getElem?_map,ho];rfl)
    have hkl:=lB (bO f (wk.take i)++fH f n (st.take j));have hsl:=sK f n (st.take j);rw[List.length_append]at hkl;walk_at"go";refine qG (SqL.of epp) hat ?_;cases o with
    | none =>
     rw[show sV none=V.non from rfl];walk_at"go";refine⟨sb2,?_,_,rfl⟩;rw[cQ ho,iZ,List.append_nil];exact ek2
    | some z =>
     rw[show sV (some z)=V.str z from rfl]at hat ⊢;obtain⟨i0,ei⟩:=vN (bO f (wk.take i)++fH f n (st.take j)) (f+(0+(j:Int))) z;walk_at"go";refine sJ ek2 ?_;walk_at"go";refine qG (SqL.of epp) hat ?_;walk_at"go";rename_i b3 H3' n3' S3' e3';refine vC (cZ (f+(0+(j:Int))) z) (by walk_at"hp") (by assumption) ?_;rw[ei];walk_at"go";refine qG (SqL.of (S3' _ _ epp)) hat ?_;walk_at"go";rename_i b4 H4' n4' S4' e4';refine u5 (cZ (f+(0+(j:Int))) z) (by walk_at"hp") (by assumption) (by rw[sizeLine_eq];omega) fun H5' B5' e5'=> ?_;refine⟨((sb2.trans S3'.but).trans S4'.but).trans B5',?_,_,rfl⟩;rw[e5',cQ ho,iZ,htl,←List.append_assoc];show _=some (HO.dT (dJ (_++[(f+(j:Int),z,n)])));rw[gG,show f+(j:Int)=f+(0+(j:Int)) by omega];unfold uR;rw[ei];rfl
   ·rintro _ H2 ⟨sb2,ek2,x13,rfl⟩;refine⟨sb.trans sb2,?_,_,_,_,_,rfl⟩;rw[cQ hwx,qE];have e:st.take (((st.map sV).length:Int).toNat)=st:=List.take_of_length_le (by omega);rw[e]at ek2;exact ek2
  rintro _ H' ⟨sb,ek,x10,x11,x12,x13,rfl⟩;rw[hyl,List.take_length]at ek;have hgd:=c0 (bO f wk);have hln:=lB (bO f wk);have hrw:=mO (f:=f) hw8;walk_at"go";refine uL ek O2 ?_;walk_at"go";refine EK ek fun o H15 B15 e15=> ?_;refine LF (fun _=>true) (fun e y H=>∃q,y= .ref q/\H q=some (.tup ((rN e).map kV))) (fun _ _ _ _ ⟨q,h1,h2⟩ s=>⟨q,h1,s _ _ h2⟩) (fun e he=>by
   obtain⟨t,n,i,rfl⟩:=hgd.2 e he;rfl) (by rw[sizeLine_eq];omega) (rest:=[some (.ref pS)]) (by rfl) e15 (fun _ _ _ _ _ _ R hR=>hR _ (Same.refl _)) ?_ ?_
  ·intro k1 k2 v H3 hm _ s3 R hR;obtain⟨t,n,i,hte⟩:=hgd.2 _ hm;have h1:k1= .inl t/\k2= .inr n/\v= .int i:=by
    have e1':=congrArg Prod.fst hte;have e2':=congrArg Prod.snd hte;have e1'':[k1,k2]=cZ t n:=e1';unfold cZ at e1'';injection e1'' with a1 a2;injection a2 with a2;exact⟨a1,a2,e2'⟩
   obtain⟨rfl,rfl,rfl⟩:=h1;have hv:aV (dJ (bO f wk)) (cZ t n)=some (.int i):=rB hgd.1 hm;show (_:TE) (some (V.int t)::some (V.str n)::[some (.ref pS)]) H3 R;walk_at"go";rename_i b4 H4 n4 S4 e4;refine D5 (cZ t n) (.inr ⟨o,S4 _ _ (s3 _ _ e15)⟩) e4 hv ?_;walk_at"go";rename_i q5 H5 n5 S5 e5;exact hR _ _ ⟨q5,rfl,e5⟩ (S4.trans S5)
  intro zs H16 s16 hzs;rw[gA]at hzs;have kr:=l8 hzs;rw[DZ (BQ hw0)]at kr;walk_at"go";rename_i p17 H17 n17 S17 e17;have e15':=S17 _ _ (s16 _ _ e15);refine l7 e15' fun H18 B18 e18=> ?_;have h17:p17≠pS:=fun z=>by rw[z,s16 _ _ e15]at n17;cases n17
  have kr18:KRows H18 zs (dI (bO f wk)):=(kr.same S17).map fun p xs hp=>B18 _ _ hp fun z=>by rw[z,e15']at hp;cases hp
  walk_at"go";refine tH (SqL.of (B18 _ _ e17 h17)) kr18 (gR _) (k8 _) (by decide) fun pU vU H19 n19 S19 e19 kr19=> ?_;have sbA:SameBut pS H14 H19:=((((sb.trans B15).trans s16.but).trans S17.but).trans B18).trans S19.but;have eL19:=sbA _ _ eL14 hLS;have hwk19:Paired (cU H19) ys wk:=Paired.imp' (fun v w ⟨q,p,e,h1,h2⟩=>⟨q,p,e,sbA _ _ h1 (fun z=>by rw[z,eS]at h1;cases h1),sbA _ _ h2 (fun z=>by rw[z,eS]at h2;cases h2)⟩) hwk14;have hh19:=FW hh14 eS sbA;obtain⟨zz,hz1,hz2,hz3⟩:=oG hwk19;have hzl:zz.length=wk.length:=by rw[←hz1,List.length_map]
  walk_at"go";refine x0 (α:=WK×Addr) (xs:=zz) (vs:=ys) (fun x=> .int x.1.1) (fun x=> .str x.1.2.1) (fun x=> .ref x.2) (fun _=>true) (fun x y H=>cU H y x.1) (fun _ _ _ _ ⟨q,p,e,h1,h2⟩ s=>⟨q,p,e,s _ _ h1,s _ _ h2⟩) (by rw[sizeLine_eq];omega) (rest:=[]) (by rfl) (SqL.of eL19) hz2 (fun x H1 hx s1 R hR=>hR _ (Same.refl _)) ?_ ?_
  ·rintro ⟨⟨n,rm,st⟩,pp⟩ H20 hm - s20 R hR;have hpp:H20 pp=some (.lst (st.map sV)):=s20 _ _ (hz3 _ hm);walk_at"go";rename_i q1 G1 g1 T1 t1 q2 G2 g2 T2 t2;exact hR _ _ ⟨q2,q1,rfl,t2,T2 _ _ t1⟩ (T1.trans T2)
  intro hs H20 s20 hhs;rw[gA]at hhs;have hwh:Paired (cU H20) hs wk:=hz1▸qI hhs;have hhl:hs.length=wk.length:=Paired.length hwh;walk_at"go";rename_i pH H21 n21 S21 eH;have hwh21:=f9 hwh S21;have hwk21:=f9 hwk19 (s20.trans S21);have hh21:=k6 hh19 (s20.trans S21);have eU21:=S21 _ _ (s20 _ _ e19);have eL21:=S21 _ _ (s20 _ _ eL19);have kr21:=kr19.same (s20.trans S21);refine FL (fun σ=>∃x13 x16,σ=[some (.ref a),some (.int (bY ns 0)),some (.ref pR),some (.ref pD),some (.int f),some (.int mn),some (.ref pV),some (.ref h),some (.ref pL),some (.ref pS),x10,x11,x12,x13,some (.ref pU),some (.ref pH),x16]) ⟨_,_,rfl⟩ ?_ ?_
  ·rintro i _ G hi sG ⟨x13,x16,rfl⟩;walk_at"go";refine vA (k6 hh21 sG) hf0 (by omega) (SqL.of (sG _ _ eH)) (f9 hwh21 sG) (by omega) hw8 fun pf vf xf L nf sf ef hpf hxf=> ?_;have hkf:KRows L vf (d8 (dI (bO f wk))):=hxf▸lA hpf;have hvf:vf.length<=200:=by
    have e:vf.length=(d8 (dI (bO f wk))).length:=Paired.length hkf;rw[e,(i3 _).length_eq];unfold dI;rw[List.length_map];exact Nat.le_trans (List.length_filter_le _ _) (by omega)
   walk_at"go";refine pA (SqL.of ef) (SqL.of (sf _ _ (sG _ _ eU21))) (mK hkf (kr21.same (sG.trans sf))) ?_;walk_at"go";refine pA (SqL.of (sf _ _ (sG _ _ eH))) (SqL.of (sf _ _ (sG _ _ eL21))) (pX (f9 hwh21 (sG.trans sf)) (f9 hwk21 (sG.trans sf))) ?_;walk_at"go";rename_i q5 L5 n5 S5 e5;refine eO (S5 _ _ ef) (by rw[sizeLine_eq];omega) fun L6 B6 e6=> ?_;walk_at"go";exact⟨sG.trans (SameBut.same nf (sf.trans S5) B6),_,_,rfl⟩
  ·rintro _ G sG ⟨x13,x16,rfl⟩;walk_at"go";refine NA (SqL.of (sG _ _ eH)) (by decide) (by rw[CW,sizeLine_eq];omega) fun pr G1 g1 T1 t1=> ?_;rw[DB]at t1;walk_at"go";refine vA (k6 hh21 (sG.trans T1)) hf0 (by omega) (SqL.of t1) (zM (f9 hwh21 (sG.trans T1))) (by rw[List.length_reverse];omega) (fun w hw=>hw8 w (List.mem_reverse.mp hw)) fun pf vf xf L nf sf ef hpf hxf=> ?_;have hkf:KRows L vf (d8 (dI (bO f wk))):=by
    rw[←BN (CA f wk),←hxf];exact lA hpf
   walk_at"go";refine pA (SqL.of ef) (SqL.of (sf _ _ (T1 _ _ (sG _ _ eU21)))) (mK hkf (kr21.same ((sG.trans T1).trans sf))) ?_;walk_at"go";exact k _
end
theorem all_mk {l:W.OpenLaw}{w:World}{K:W.Frag}{h:Heap}{mg:Str->Option Value}{fa:Addr} (X:K.In h) (G:h.Ns mainGlobals mg) (hfa:mg "law" =some (.ref fa))
  {zaa zab zac zad zae zaf zag zah zai zaj zak zal zam zan zao zap zaq zar zas zat zau zav zaw zax zay zaz zba zbb zbc zbd zbe zbf zbg zbh zbi zbj zbk zbl zbm zbn zbo zbp zbq zbr zbs:Addr}
  {zbt zbu:Option Addr}{zbv:Array (Option Value)}{zbw zbx zby zbz zca zcb:Value}
  {zcc zcd:Option Addr}{zce:Array (Option Value)}{zcf zcg zch zci zcj zck:Value}
  {zcl zcm:Option Addr}{zcn:Array (Option Value)}{zco zcp zcq zcr zcs zct:Value}
  {zcu zcv:Option Addr}{zcw:Array (Option Value)}{zcx zcy zcz zda zdb zdc:Value}
  {zdd zde:Option Addr}{zdf:Array (Option Value)}{zdg zdh zdi zdj zdk zdl:Value}
  {zdm zdn:Option Addr}{zdo:Array (Option Value)}{zdp zdq zdr zds zdt zdu:Value}
  {zdv zdw:Option Addr}{zdx:Array (Option Value)}{zdy zdz zea zeb zec zed:Value}
  {zee zef:Option Addr}{zeg:Array (Option Value)}{zeh zei zej zek zel zem:Value}
  {zen zeo:Option Addr}{zep:Array (Option Value)}{zeq zer zes zet zeu zev:Value}
  {zew zex:Option Addr}{zey:Array (Option Value)}{zez zfa zfb zfc zfd zfe:Value}
  {zff zfg:Option Addr}{zfh:Array (Option Value)}{zfi zfj zfk zfl zfm zfn:Value}
  {zfo zfp:Option Addr}{zfq:Array (Option Value)}{zfr zfs zft zfu zfv zfw:Value}
  {zfx zfy:Option Addr}{zfz:Array (Option Value)}{zga zgb zgc zgd zge zgf:Value}
  {zgg zgh:Option Addr}{zgi:Array (Option Value)}{zgj zgk zgl zgm zgn zgo:Value}
  {zgp zgq:Option Addr}{zgr:Array (Option Value)}{zgs zgt zgu zgv zgw zgx:Value}
  {zgy zgz:Option Addr}{zha:Array (Option Value)}{zhb zhc zhd zhe zhf zhg:Value}
  {zhh zhi:Option Addr}{zhj:Array (Option Value)}{zhk zhl zhm zhn zho zhp:Value}
  {zhq zhr:Option Addr}{zhs:Array (Option Value)}{zht zhu zhv zhw zhx zhy:Value}
  {zhz zia:Option Addr}{zib:Array (Option Value)}{zic zid zie zif zig zih:Value}
  {zii zij:Option Addr}{zik:Array (Option Value)}{zil zim zin zio ziq zir:Value}
  {zis zit:Option Addr}{ziu:Array (Option Value)}{ziv ziw zix ziy ziz zja:Value}
  {zjb:Addr}
  {zjc:Tok}
  {zjd:Value}{zje:Option Addr}{zjf:Nat}{zjg:Array (Option Value)}
  {zjh zji:Option Addr}{zjj:Array (Option Value)}{zjk zjl zjm zjn zjo zjp:Value}
  {zjq zjr:Option Addr}{zjs:Array (Option Value)}{zjt zju zjv zjw zjx zjy:Value}
  {zjz zka:Option Addr}{zkb:Array (Option Value)}{zkc zkd zke zkf zkg zkh:Value}
  {zki zkj:Option Addr}{zkk:Array (Option Value)}{zkl zkm zkn zko zkp zkq:Value}
  {zkr:Addr}
  {zks:Tok}
  {zkt:Value}{zku:Option Addr}{zkv:Nat}{zkw:Array (Option Value)}
  {zkx zky:Option Addr}{zkz:Array (Option Value)}{zla zlb zlc zld zle zlf:Value}
  {zlg zlh:Option Addr}{zli:Array (Option Value)}{zlj zlk zll zlm zln zlo:Value}
  {zlp zlq:Option Addr}{zlr:Array (Option Value)}{zls zlt zlu zlv zlw zlx:Value}
  {zly zlz:Option Addr}{zma:Array (Option Value)}{zmb zmc zmd zme zmf zmg:Value}
  {zmh zmi:Option Addr}{zmj:Array (Option Value)}{zmk zml zmm zmn zmo zmp:Value}
  {zmq zmr:Option Addr}{zms:Array (Option Value)}{zmt zmu zmv zmw zmx zmy:Value}
  {zmz zna:Option Addr}{znb:Array (Option Value)}{znc znd zne znf zng znh:Value}
  {zni znj:Option Addr}{znk:Array (Option Value)}{znl znm znn zno znp znq:Value}
  {znr zns:Option Addr}{znt:Array (Option Value)}{znu znv znw znx zny znz:Value}
  {zoa zob:Option Addr}{zoc:Array (Option Value)}{zod zoe zof zog zoh zoi:Value}
  {zoj zok:Option Addr}{zol:Array (Option Value)}{zom zon zoo zop zoq zor:Value}
  {zos:Tok}
  (zot:W.nsIn K mainGlobals "_wall" =some (some (.ref zaa)))
  (zou:W.nsIn K mainGlobals "added_up" =some (some (.ref zab)))
  (zov:W.nsIn K mainGlobals "as_told" =some (some (.ref zac)))
  (zow:W.nsIn K mainGlobals "joined" =some (some (.ref zad)))
  (zox:W.nsIn K mainGlobals "is_whole" =some (some (.ref zae)))
  (zoy:W.nsIn K mainGlobals "is_name" =some (some (.ref zaf)))
  (zoz:W.nsIn K mainGlobals "need_name" =some (some (.ref zag)))
  (zpa:W.nsIn K mainGlobals "need_whole" =some (some (.ref zah)))
  (zpb:W.nsIn K mainGlobals "need_turns" =some (some (.ref zai)))
  (zpc:W.nsIn K mainGlobals "need_each_once" =some (some (.ref zaj)))
  (zpd:W.nsIn K mainGlobals "rooms_spoken_of" =some (some (.ref zak)))
  (zpe:W.nsIn K mainGlobals "need_rooms" =some (some (.ref zal)))
  (zpf:W.nsIn K mainGlobals "added_people" =some (some (.ref zam)))
  (zpg:W.nsIn K mainGlobals "need_space" =some (some (.ref zan)))
  (zph:W.nsIn K mainGlobals "_law_cell_at" =some (some (.ref zao)))
  (zpi:W.nsIn K mainGlobals "_law_drawn" =some (some (.ref zap)))
  (zpj:W.nsIn K mainGlobals "_law_name" =some (some (.ref zaq)))
  (zpk:W.nsIn K mainGlobals "_law_doors" =some (some (.ref zar)))
  (zpl:W.nsIn K mainGlobals "_law_walk" =some (some (.ref zas)))
  (zpm:W.nsIn K mainGlobals "law" =some (some (.ref zat)))
  (zpn:W.nsIn K mainGlobals "Door" =some (some (.ref zau)))
  (zpo:W.nsIn K mainGlobals "House" =some (some (.ref zav)))
  (zpp:W.nsIn K mainGlobals "OutError" =some (some (.ref zaw)))
  (zpq:W.nsIn K mainGlobals "NoDoor" =some (some (.ref zax)))
  (zpr:W.nsIn K mainGlobals "NoHouse" =some (some (.ref zay)))
  (zps:W.nsIn K mainGlobals "NoTurn" =some (some (.ref zaz)))
  (zpt:W.nsIn K mainGlobals "Twice" =some (some (.ref zba)))
  (zpu:W.nsIn K mainGlobals "NoRoom" =some (some (.ref zbb)))
  (zpv:W.nsIn K mainGlobals "Unknown" =some (some (.ref zbc)))
  (zpw:W.findIn K (.ref zau) "__init__" =some (some (.ref zbd)))
  (zpx:W.findIn K (.ref zau) "lets" =some (some (.ref zbe)))
  (zpy:W.findIn K (.ref zau) "is_exit" =some (some (.ref zbf)))
  (zpz:W.findIn K (.ref zau) "words" =some (some (.ref zbg)))
  (zqa:W.findIn K (.ref zav) "__init__" =some (some (.ref zbh)))
  (zqb:W.findIn K (.ref zav) "rooms" =some (some (.ref zbi)))
  (zqc:W.findIn K (.ref zav) "doors" =some (some (.ref zbj)))
  (zqd:W.findIn K (.ref zav) "need_room" =some (some (.ref zbk)))
  (zqe:W.findIn K (.ref zav) "holds" =some (some (.ref zbl)))
  (zqf:W.findIn K (.ref zav) "found" =some (some (.ref zbm)))
  (zqg:W.findIn K (.ref zav) "into" =some (some (.ref zbn)))
  (zqh:W.findIn K (.ref zav) "from_room" =some (some (.ref zbo)))
  (zqi:W.findIn K (.ref zav) "door" =some (some (.ref zbp)))
  (zqj:W.findIn K (.ref zav) "lets" =some (some (.ref zbq)))
  (zqk:W.findIn K (.ref zav) "total" =some (some (.ref zbr)))
  (zql:W.findIn K (.ref zav) "pairs" =some (some (.ref zbs)))
  (zqm:K.lookup zaa=some ⟨zbw,zbt,.func (W.fnOf "_wall" "_wall" (aL jC) (aK jC) (aB jC) .none zbx zby zbz zbu zca zcb),zbv⟩)
  (zqn:W.codeIn K zca "_wall" =true)
  (zqo:W.keepIn K (.ref zaa)=true)
  (zqp:K.lookup zab=some ⟨zcf,zcc,.func (W.fnOf "added_up" "added_up" (aL eP) (aK eP) (aB eP) .none zcg zch zci zcd zcj zck),zce⟩)
  (zqq:W.codeIn K zcj "added_up" =true)
  (zqr:W.keepIn K (.ref zab)=true)
  (zqs:K.lookup zac=some ⟨zco,zcl,.func (W.fnOf "as_told" "as_told" (aL fJ) (aK fJ) (aB fJ) .none zcp zcq zcr zcm zcs zct),zcn⟩)
  (zqt:W.codeIn K zcs "as_told" =true)
  (zqu:W.keepIn K (.ref zac)=true)
  (zqv:K.lookup zad=some ⟨zcx,zcu,.func (W.fnOf "joined" "joined" (aL fZ) (aK fZ) (aB fZ) .none zcy zcz zda zcv zdb zdc),zcw⟩)
  (zqw:W.codeIn K zdb "joined" =true)
  (zqx:W.keepIn K (.ref zad)=true)
  (zqy:K.lookup zae=some ⟨zdg,zdd,.func (W.fnOf "is_whole" "is_whole" (aL eQ) (aK eQ) (aB eQ) .none zdh zdi zdj zde zdk zdl),zdf⟩)
  (zqz:W.codeIn K zdk "is_whole" =true)
  (zra:W.keepIn K (.ref zae)=true)
  (zrb:K.lookup zaf=some ⟨zdp,zdm,.func (W.fnOf "is_name" "is_name" (aL fK) (aK fK) (aB fK) .none zdq zdr zds zdn zdt zdu),zdo⟩)
  (zrc:W.codeIn K zdt "is_name" =true)
  (zrd:W.keepIn K (.ref zaf)=true)
  (zre:K.lookup zag=some ⟨zdy,zdv,.func (W.fnOf "need_name" "need_name" (aL dZ) (aK dZ) (aB dZ) .none zdz zea zeb zdw zec zed),zdx⟩)
  (zrf:W.codeIn K zec "need_name" =true)
  (zrg:W.keepIn K (.ref zag)=true)
  (zrh:K.lookup zah=some ⟨zeh,zee,.func (W.fnOf "need_whole" "need_whole" (aL dE) (aK dE) (aB dE) .none zei zej zek zef zel zem),zeg⟩)
  (zri:W.codeIn K zel "need_whole" =true)
  (zrj:W.keepIn K (.ref zah)=true)
  (zrk:K.lookup zai=some ⟨zeq,zen,.func (W.fnOf "need_turns" "need_turns" (aL dF) (aK dF) (aB dF) .none zer zes zet zeo zeu zev),zep⟩)
  (zrl:W.codeIn K zeu "need_turns" =true)
  (zrm:W.keepIn K (.ref zai)=true)
  (zrn:K.lookup zaj=some ⟨zez,zew,.func (W.fnOf "need_each_once" "need_each_once" (aL bV) (aK bV) (aB bV) .none zfa zfb zfc zex zfd zfe),zey⟩)
  (zro:W.codeIn K zfd "need_each_once" =true)
  (zrp:W.keepIn K (.ref zaj)=true)
  (zrq:K.lookup zak=some ⟨zfi,zff,.func (W.fnOf "rooms_spoken_of" "rooms_spoken_of" (aL bP) (aK bP) (aB bP) .none zfj zfk zfl zfg zfm zfn),zfh⟩)
  (zrr:W.codeIn K zfm "rooms_spoken_of" =true)
  (zrs:W.keepIn K (.ref zak)=true)
  (zrt:K.lookup zal=some ⟨zfr,zfo,.func (W.fnOf "need_rooms" "need_rooms" (aL c8) (aK c8) (aB c8) .none zfs zft zfu zfp zfv zfw),zfq⟩)
  (zru:W.codeIn K zfv "need_rooms" =true)
  (zrv:W.keepIn K (.ref zal)=true)
  (zrw:K.lookup zam=some ⟨zga,zfx,.func (W.fnOf "added_people" "added_people" (aL cJ) (aK cJ) (aB cJ) .none zgb zgc zgd zfy zge zgf),zfz⟩)
  (zrx:W.codeIn K zge "added_people" =true)
  (zry:W.keepIn K (.ref zam)=true)
  (zrz:K.lookup zan=some ⟨zgj,zgg,.func (W.fnOf "need_space" "need_space" (aL c7) (aK c7) (aB c7) .none zgk zgl zgm zgh zgn zgo),zgi⟩)
  (zsa:W.codeIn K zgn "need_space" =true)
  (zsb:W.keepIn K (.ref zan)=true)
  (zsc:K.lookup zao=some ⟨zgs,zgp,.func (W.fnOf "_law_cell_at" "_law_cell_at" (aL cO) (aK cO) (aB cO) .none zgt zgu zgv zgq zgw zgx),zgr⟩)
  (zsd:W.codeIn K zgw "_law_cell_at" =true)
  (zse:W.keepIn K (.ref zao)=true)
  (zsf:K.lookup zap=some ⟨zhb,zgy,.func (W.fnOf "_law_drawn" "_law_drawn" (aL dG) (aK dG) (aB dG) .none zhc zhd zhe zgz zhf zhg),zha⟩)
  (zsg:W.codeIn K zhf "_law_drawn" =true)
  (zsh:W.keepIn K (.ref zap)=true)
  (zsi:K.lookup zaq=some ⟨zhk,zhh,.func (W.fnOf "_law_name" "_law_name" (aL d5) (aK d5) (aB d5) .none zhl zhm zhn zhi zho zhp),zhj⟩)
  (zsj:W.codeIn K zho "_law_name" =true)
  (zsk:W.keepIn K (.ref zaq)=true)
  (zsl:K.lookup zar=some ⟨zht,zhq,.func (W.fnOf "_law_doors" "_law_doors" (aL c6) (aK c6) (aB c6) .none zhu zhv zhw zhr zhx zhy),zhs⟩)
  (zsm:W.codeIn K zhx "_law_doors" =true)
  (zsn:W.keepIn K (.ref zar)=true)
  (zso:K.lookup zas=some ⟨zic,zhz,.func (W.fnOf "_law_walk" "_law_walk" (aL d7) (aK d7) (aB d7) .none zid zie zif zia zig zih),zib⟩)
  (zsp:W.codeIn K zig "_law_walk" =true)
  (zsq:W.keepIn K (.ref zas)=true)
  (zsr:K.lookup zat=some ⟨zil,zii,.func (W.fnOf "law" "law" (aL iI) (aK iI) (aB iI) .none zim zin zio zij ziq zir),zik⟩)
  (zss:W.codeIn K ziq "law" =true)
  (zst:W.keepIn K (.ref zat)=true)
  (zsu:K.lookup zbd=some ⟨ziv,zis,.func (W.fnOf "__init__" "Door.__init__" (aL bH) (aK bH) (aB bH) (.ref zjb) ziw zix ziy zit ziz zja),ziu⟩)
  (zsv:W.codeIn K ziz "Door.__init__" =true)
  (zsw:W.keepIn K (.ref zbd)=true)
  (zsx:K.lookup zjb=some ⟨zjd,zje,.seq #[.none,.int 1 zjc] zjf,zjg⟩)
  (zsy:K.lookup zbe=some ⟨zjk,zjh,.func (W.fnOf "lets" "Door.lets" (aL fA) (aK fA) (aB fA) .none zjl zjm zjn zji zjo zjp),zjj⟩)
  (zsz:W.codeIn K zjo "Door.lets" =true)
  (zta:W.keepIn K (.ref zbe)=true)
  (ztb:K.lookup zbf=some ⟨zjt,zjq,.func (W.fnOf "is_exit" "Door.is_exit" (aL cK) (aK cK) (aB cK) .none zju zjv zjw zjr zjx zjy),zjs⟩)
  (ztc:W.codeIn K zjx "Door.is_exit" =true)
  (ztd:W.keepIn K (.ref zbf)=true)
  (zte:K.lookup zbg=some ⟨zkc,zjz,.func (W.fnOf "words" "Door.words" (aL eF) (aK eF) (aB eF) .none zkd zke zkf zka zkg zkh),zkb⟩)
  (ztf:W.codeIn K zkg "Door.words" =true)
  (ztg:W.keepIn K (.ref zbg)=true)
  (zth:K.lookup zbh=some ⟨zkl,zki,.func (W.fnOf "__init__" "House.__init__" (aL bJ) (aK bJ) (aB bJ) (.ref zkr) zkm zkn zko zkj zkp zkq),zkk⟩)
  (zti:W.codeIn K zkp "House.__init__" =true)
  (ztj:W.keepIn K (.ref zbh)=true)
  (ztk:K.lookup zkr=some ⟨zkt,zku,.seq #[.int 0 zks] zkv,zkw⟩)
  (ztl:K.lookup zbi=some ⟨zla,zkx,.func (W.fnOf "rooms" "House.rooms" (aL dN) (aK dN) (aB dN) .none zlb zlc zld zky zle zlf),zkz⟩)
  (ztm:W.codeIn K zle "House.rooms" =true)
  (ztn:W.keepIn K (.ref zbi)=true)
  (zto:K.lookup zbj=some ⟨zlj,zlg,.func (W.fnOf "doors" "House.doors" (aL dQ) (aK dQ) (aB dQ) .none zlk zll zlm zlh zln zlo),zli⟩)
  (ztp:W.codeIn K zln "House.doors" =true)
  (ztq:W.keepIn K (.ref zbj)=true)
  (ztr:K.lookup zbk=some ⟨zls,zlp,.func (W.fnOf "need_room" "House.need_room" (aL cH) (aK cH) (aB cH) .none zlt zlu zlv zlq zlw zlx),zlr⟩)
  (zts:W.codeIn K zlw "House.need_room" =true)
  (ztt:W.keepIn K (.ref zbk)=true)
  (ztu:K.lookup zbl=some ⟨zmb,zly,.func (W.fnOf "holds" "House.holds" (aL dM) (aK dM) (aB dM) .none zmc zmd zme zlz zmf zmg),zma⟩)
  (ztv:W.codeIn K zmf "House.holds" =true)
  (ztw:W.keepIn K (.ref zbl)=true)
  (ztx:K.lookup zbm=some ⟨zmk,zmh,.func (W.fnOf "found" "House.found" (aL dS) (aK dS) (aB dS) .none zml zmm zmn zmi zmo zmp),zmj⟩)
  (zty:W.codeIn K zmo "House.found" =true)
  (ztz:W.keepIn K (.ref zbm)=true)
  (zua:K.lookup zbn=some ⟨zmt,zmq,.func (W.fnOf "into" "House.into" (aL eG) (aK eG) (aB eG) .none zmu zmv zmw zmr zmx zmy),zms⟩)
  (zub:W.codeIn K zmx "House.into" =true)
  (zuc:W.keepIn K (.ref zbn)=true)
  (zud:K.lookup zbo=some ⟨znc,zmz,.func (W.fnOf "from_room" "House.from_room" (aL cG) (aK cG) (aB cG) .none znd zne znf zna zng znh),znb⟩)
  (zue:W.codeIn K zng "House.from_room" =true)
  (zuf:W.keepIn K (.ref zbo)=true)
  (zug:K.lookup zbp=some ⟨znl,zni,.func (W.fnOf "door" "House.door" (aL eI) (aK eI) (aB eI) .none znm znn zno znj znp znq),znk⟩)
  (zuh:W.codeIn K znp "House.door" =true)
  (zui:W.keepIn K (.ref zbp)=true)
  (zuj:K.lookup zbq=some ⟨znu,znr,.func (W.fnOf "lets" "House.lets" (aL eB) (aK eB) (aB eB) .none znv znw znx zns zny znz),znt⟩)
  (zuk:W.codeIn K zny "House.lets" =true)
  (zul:W.keepIn K (.ref zbq)=true)
  (zum:K.lookup zbr=some ⟨zod,zoa,.func (W.fnOf "total" "House.total" (aL dL) (aK dL) (aB dL) .none zoe zof zog zob zoh zoi),zoc⟩)
  (zun:W.codeIn K zoh "House.total" =true)
  (zuo:W.keepIn K (.ref zbr)=true)
  (zup:K.lookup zbs=some ⟨zom,zoj,.func (W.fnOf "pairs" "House.pairs" (aL dP) (aK dP) (aB dP) .none zon zoo zop zok zoq zor),zol⟩)
  (zuq:W.codeIn K zoq "House.pairs" =true)
  (zur:W.keepIn K (.ref zbs)=true)
  (zus:W.plainGet K zau Str.empty=true)
  (zut:W.hasDictIn K zau=true)
  (zuu:W.plainOver K zau=true)
  (zuv:W.findIn K (.ref zau) "__setattr__" =some (some (.builtin "object.__setattr__")))
  (zuw:W.makesIn K zau=true)
  (zux:W.keepIn K (.ref zau)=true)
  (zuy:W.findIn K (.ref zau) "__class__" =some (some (.builtin "object.__class__")))
  (zuz:W.mroIn K zau (.type "object")=some true)
  (zva:W.findIn K (.ref zau) "name" =some none)
  (zvb:W.findIn K (.ref zau) "start" =some none)
  (zvc:W.findIn K (.ref zau) "end" =some none)
  (zvd:W.findIn K (.ref zau) "wide" =some none)
  (zve:W.findIn K (.ref zau) "first" =some none)
  (zvf:W.findIn K (.ref zau) "last" =some none)
  (zvg:W.findIn K (.ref zau) "sizes" =some none)
  (zvh:W.findIn K (.ref zau) "people" =some none)
  (zvi:W.findIn K (.ref zau) "named_doors" =some none)
  (zvj:W.findIn K (.ref zau) "__init__" =some (some (.ref zbd)))
  (zvk:W.isFn K (.ref zbd)=true)
  (zvl:W.findIn K (.ref zau) "lets" =some (some (.ref zbe)))
  (zvm:W.isFn K (.ref zbe)=true)
  (zvn:W.findIn K (.ref zau) "is_exit" =some (some (.ref zbf)))
  (zvo:W.isFn K (.ref zbf)=true)
  (zvp:W.findIn K (.ref zau) "words" =some (some (.ref zbg)))
  (zvq:W.isFn K (.ref zbg)=true)
  (zvr:W.plainGet K zav Str.empty=true)
  (zvs:W.hasDictIn K zav=true)
  (zvt:W.plainOver K zav=true)
  (zvu:W.findIn K (.ref zav) "__setattr__" =some (some (.builtin "object.__setattr__")))
  (zvv:W.makesIn K zav=true)
  (zvw:W.keepIn K (.ref zav)=true)
  (zvx:W.findIn K (.ref zav) "__class__" =some (some (.builtin "object.__class__")))
  (zvy:W.mroIn K zav (.type "object")=some true)
  (zvz:W.findIn K (.ref zav) "name" =some none)
  (zwa:W.findIn K (.ref zav) "start" =some none)
  (zwb:W.findIn K (.ref zav) "end" =some none)
  (zwc:W.findIn K (.ref zav) "wide" =some none)
  (zwd:W.findIn K (.ref zav) "first" =some none)
  (zwe:W.findIn K (.ref zav) "last" =some none)
  (zwf:W.findIn K (.ref zav) "sizes" =some none)
  (zwg:W.findIn K (.ref zav) "people" =some none)
  (zwh:W.findIn K (.ref zav) "named_doors" =some none)
  (zwi:W.findIn K (.ref zav) "__init__" =some (some (.ref zbh)))
  (zwj:W.isFn K (.ref zbh)=true)
  (zwk:W.findIn K (.ref zav) "rooms" =some (some (.ref zbi)))
  (zwl:W.isFn K (.ref zbi)=true)
  (zwm:W.findIn K (.ref zav) "doors" =some (some (.ref zbj)))
  (zwn:W.isFn K (.ref zbj)=true)
  (zwo:W.findIn K (.ref zav) "need_room" =some (some (.ref zbk)))
  (zwp:W.isFn K (.ref zbk)=true)
  (zwq:W.findIn K (.ref zav) "holds" =some (some (.ref zbl)))
  (zwr:W.isFn K (.ref zbl)=true)
  (zws:W.findIn K (.ref zav) "found" =some (some (.ref zbm)))
  (zwt:W.isFn K (.ref zbm)=true)
  (zwu:W.findIn K (.ref zav) "into" =some (some (.ref zbn)))
  (zwv:W.isFn K (.ref zbn)=true)
  (zww:W.findIn K (.ref zav) "from_room" =some (some (.ref zbo)))
  (zwx:W.isFn K (.ref zbo)=true)
  (zwy:W.findIn K (.ref zav) "door" =some (some (.ref zbp)))
  (zwz:W.isFn K (.ref zbp)=true)
  (zxa:W.findIn K (.ref zav) "lets" =some (some (.ref zbq)))
  (zxb:W.isFn K (.ref zbq)=true)
  (zxc:W.findIn K (.ref zav) "total" =some (some (.ref zbr)))
  (zxd:W.isFn K (.ref zbr)=true)
  (zxe:W.findIn K (.ref zav) "pairs" =some (some (.ref zbs)))
  (zxf:W.isFn K (.ref zbs)=true)
  (zxg:W.specialIn K (.builtin "object.__class__") "__get__" =some (some (.builtin "getset_descriptor.__get__")))
  (zxh:W.takesIn K (.builtin "object.__class__")=some true)
  (zxi:W.nsIn K mainGlobals "ValueError" =some none)
  (zxj:W.nsIn K mainGlobals "sorted" =some none)
  (zxk:W.nsIn K mainGlobals "any" =some none)
  (zxl:W.nsIn K mainGlobals "range" =some none)
  (zxm:W.nsIn K mainGlobals "enumerate" =some none)
  (zxn:W.nsIn K mainGlobals "isinstance" =some none)
  (zxo:W.nsIn K mainGlobals "int" =some none)
  (zxp:W.nsIn K mainGlobals "str" =some none)
  (zxq:W.nsIn K mainGlobals "all" =some none)
  (zxr:W.nsIn K mainGlobals "dict" =some none)
  (zxs:W.nsIn K mainGlobals "list" =some none)
  (zxt:W.nsIn K mainGlobals "len" =some none)
  (zxu:W.nsIn K mainGlobals "bool" =some none)
  (zxv:W.nsIn K mainGlobals "LONGEST_NAME" =some (some (.int 8 zos))) :
  ∃fd:FuncData,(∀(s:Shared) (v:Value),BindsTo s fd ⟨[v],[]⟩ [("_law_script",v)])/\∀base:Heap,K.In base->base.Ns mainGlobals mg->bK l.prog w K mg base CX0 20 fa fd ["_law_script"] (pT K):=by
 have e:=hfa.symm.trans (W.mg_of X G zpm);cases e;have zxw:=aQ (st:=jC) zqm zqn zqo;have zxx:=aR (K:=K) (x:= "_wall") (qual:= "_wall") (st:=jC) (kV:=zbx) (doc:=zby) (pm:=zbz) (an:=zbu) (cdv:=zca) (ct:=zcb) (ps:=["k"])<|aM 1 _ fun _=>rfl
 have zxy:=aQ (st:=eP) zqp zqq zqr;have zxz:=aR (K:=K) (x:= "added_up") (qual:= "added_up") (st:=eP) (kV:=zcg) (doc:=zch) (pm:=zci) (an:=zcd) (cdv:=zcj) (ct:=zck) (ps:=["plan"])<|aM 1 _ fun _=>rfl
 have zya:=aQ (st:=fJ) zqs zqt zqu;have zyb:=aR (K:=K) (x:= "as_told") (qual:= "as_told") (st:=fJ) (kV:=zcp) (doc:=zcq) (pm:=zcr) (an:=zcm) (cdv:=zcs) (ct:=zct) (ps:=["plan"])<|aM 1 _ fun _=>rfl
 have zyc:=aQ (st:=fZ) zqv zqw zqx;have zyd:=aR (K:=K) (x:= "joined") (qual:= "joined") (st:=fZ) (kV:=zcy) (doc:=zcz) (pm:=zda) (an:=zcv) (cdv:=zdb) (ct:=zdc) (ps:=["house","walks"])<|aM 2 _ fun _ _=>rfl
 have zye:=aQ (st:=eQ) zqy zqz zra;have zyf:=aR (K:=K) (x:= "is_whole") (qual:= "is_whole") (st:=eQ) (kV:=zdh) (doc:=zdi) (pm:=zdj) (an:=zde) (cdv:=zdk) (ct:=zdl) (ps:=["thing"])<|aM 1 _ fun _=>rfl
 have zyg:=aQ (st:=fK) zrb zrc zrd;have zyh:=aR (K:=K) (x:= "is_name") (qual:= "is_name") (st:=fK) (kV:=zdq) (doc:=zdr) (pm:=zds) (an:=zdn) (cdv:=zdt) (ct:=zdu) (ps:=["thing"])<|aM 1 _ fun _=>rfl
 have zyi:=aQ (st:=dZ) zre zrf zrg;have zyj:=aR (K:=K) (x:= "need_name") (qual:= "need_name") (st:=dZ) (kV:=zdz) (doc:=zea) (pm:=zeb) (an:=zdw) (cdv:=zec) (ct:=zed) (ps:=["part","thing"])<|aM 2 _ fun _ _=>rfl
 have zyk:=aQ (st:=dE) zrh zri zrj;have zyl:=aR (K:=K) (x:= "need_whole") (qual:= "need_whole") (st:=dE) (kV:=zei) (doc:=zej) (pm:=zek) (an:=zef) (cdv:=zel) (ct:=zem) (ps:=["part","thing","least"])<|aM 3 _ fun _ _ _=>rfl
 have zym:=aQ (st:=dF) zrk zrl zrm;have zyn:=aR (K:=K) (x:= "need_turns") (qual:= "need_turns") (st:=dF) (kV:=zer) (doc:=zes) (pm:=zet) (an:=zeo) (cdv:=zeu) (ct:=zev) (ps:=["first","last"])<|aM 2 _ fun _ _=>rfl
 have zyo:=aQ (st:=bV) zrn zro zrp;have zyp:=aR (K:=K) (x:= "need_each_once") (qual:= "need_each_once") (st:=bV) (kV:=zfa) (doc:=zfb) (pm:=zfc) (an:=zex) (cdv:=zfd) (ct:=zfe) (ps:=["names"])<|aM 1 _ fun _=>rfl
 have zyq:=aQ (st:=bP) zrq zrr zrs;have zyr:=aR (K:=K) (x:= "rooms_spoken_of") (qual:= "rooms_spoken_of") (st:=bP) (kV:=zfj) (doc:=zfk) (pm:=zfl) (an:=zfg) (cdv:=zfm) (ct:=zfn) (ps:=["doors","people"])<|aM 2 _ fun _ _=>rfl
 have zys:=aQ (st:=c8) zrt zru zrv;have zyt:=aR (K:=K) (x:= "need_rooms") (qual:= "need_rooms") (st:=c8) (kV:=zfs) (doc:=zft) (pm:=zfu) (an:=zfp) (cdv:=zfv) (ct:=zfw) (ps:=["names","sizes"])<|aM 2 _ fun _ _=>rfl
 have zyu:=aQ (st:=cJ) zrw zrx zry;have zyv:=aR (K:=K) (x:= "added_people") (qual:= "added_people") (st:=cJ) (kV:=zgb) (doc:=zgc) (pm:=zgd) (an:=zfy) (cdv:=zge) (ct:=zgf) (ps:=["sizes","people"])<|aM 2 _ fun _ _=>rfl
 have zyw:=aQ (st:=c7) zrz zsa zsb;have zyx:=aR (K:=K) (x:= "need_space") (qual:= "need_space") (st:=c7) (kV:=zgk) (doc:=zgl) (pm:=zgm) (an:=zgh) (cdv:=zgn) (ct:=zgo) (ps:=["sizes","people"])<|aM 2 _ fun _ _=>rfl
 have zyy:=aQ (st:=cO) zsc zsd zse;have zyz:=aR (K:=K) (x:= "_law_cell_at") (qual:= "_law_cell_at") (st:=cO) (kV:=zgt) (doc:=zgu) (pm:=zgv) (an:=zgq) (cdv:=zgw) (ct:=zgx) (ps:=["_law_script","_law_k"])<|aM 2 _ fun _ _=>rfl
 have zza:=aQ (st:=dG) zsf zsg zsh;have zzb:=aR (K:=K) (x:= "_law_drawn") (qual:= "_law_drawn") (st:=dG) (kV:=zhc) (doc:=zhd) (pm:=zhe) (an:=zgz) (cdv:=zhf) (ct:=zhg) (ps:=["_law_cell","_law_k"])<|aM 2 _ fun _ _=>rfl
 have zzc:=aQ (st:=d5) zsi zsj zsk;have zzd:=aR (K:=K) (x:= "_law_name") (qual:= "_law_name") (st:=d5) (kV:=zhl) (doc:=zhm) (pm:=zhn) (an:=zhi) (cdv:=zho) (ct:=zhp) (ps:=["_law_cell","_law_k"])<|aM 2 _ fun _ _=>rfl
 have zze:=aQ (st:=c6) zsl zsm zsn;have zzf:=aR (K:=K) (x:= "_law_doors") (qual:= "_law_doors") (st:=c6) (kV:=zhu) (doc:=zhv) (pm:=zhw) (an:=zhr) (cdv:=zhx) (ct:=zhy) (ps:=["_law_cell","_law_rooms"])<|aM 2 _ fun _ _=>rfl
 have zzg:=aQ (st:=d7) zso zsp zsq;have zzh:=aR (K:=K) (x:= "_law_walk") (qual:= "_law_walk") (st:=d7) (kV:=zid) (doc:=zie) (pm:=zif) (an:=zia) (cdv:=zig) (ct:=zih) (ps:=["_law_cell","_law_rooms","_law_doors_here","_law_many"])<|aM 4 _ fun _ _ _ _=>rfl
 have zzi:=aQ (st:=iI) zsr zss zst;have zzj:=aR (K:=K) (x:= "law") (qual:= "law") (st:=iI) (kV:=zim) (doc:=zin) (pm:=zio) (an:=zij) (cdv:=ziq) (ct:=zir) (ps:=["_law_script"])<|aM 1 _ fun _=>rfl
 have zzk:=aQ (st:=bH) zsu zsv zsw;have zzl:=kL 5 (K:=K) (x:= "__init__") (qual:= "Door.__init__") (st:=bH) (kV:=ziw) (doc:=zix) (pm:=ziy) (an:=zit) (cdv:=ziz) (ct:=zja) (ps:=["self","name","start","end","wide"]) (ds:=[]) zsx<|aM 5 _ fun _ _ _ _ _=>⟨_,rfl,rfl⟩
 have zzm:=kL 4 (K:=K) (x:= "__init__") (qual:= "Door.__init__") (st:=bH) (kV:=ziw) (doc:=zix) (pm:=ziy) (an:=zit) (cdv:=ziz) (ct:=zja) (ps:=["self","name","start","end","wide"]) (ds:=[.int 1 zjc]) zsx<|aM 4 _ fun _ _ _ _=>⟨_,rfl,rfl⟩
 have zzn:=kL 3 (K:=K) (x:= "__init__") (qual:= "Door.__init__") (st:=bH) (kV:=ziw) (doc:=zix) (pm:=ziy) (an:=zit) (cdv:=ziz) (ct:=zja) (ps:=["self","name","start","end","wide"]) (ds:=[.none,.int 1 zjc]) zsx<|aM 3 _ fun _ _ _=>⟨_,rfl,rfl⟩
 have zzo:=aQ (st:=fA) zsy zsz zta;have zzp:=aR (K:=K) (x:= "lets") (qual:= "Door.lets") (st:=fA) (kV:=zjl) (doc:=zjm) (pm:=zjn) (an:=zji) (cdv:=zjo) (ct:=zjp) (ps:=["self","turn"])<|aM 2 _ fun _ _=>rfl
 have zzq:=aQ (st:=cK) ztb ztc ztd;have zzr:=aR (K:=K) (x:= "is_exit") (qual:= "Door.is_exit") (st:=cK) (kV:=zju) (doc:=zjv) (pm:=zjw) (an:=zjr) (cdv:=zjx) (ct:=zjy) (ps:=["self"])<|aM 1 _ fun _=>rfl
 have zzs:=aQ (st:=eF) zte ztf ztg;have zzt:=aR (K:=K) (x:= "words") (qual:= "Door.words") (st:=eF) (kV:=zkd) (doc:=zke) (pm:=zkf) (an:=zka) (cdv:=zkg) (ct:=zkh) (ps:=["self"])<|aM 1 _ fun _=>rfl
 have zzu:=aQ (st:=bJ) zth zti ztj;have zzv:=kL 6 (K:=K) (x:= "__init__") (qual:= "House.__init__") (st:=bJ) (kV:=zkm) (doc:=zkn) (pm:=zko) (an:=zkj) (cdv:=zkp) (ct:=zkq) (ps:=["self","rooms","doors","people","last","first"]) (ds:=[]) ztk<|aM 6 _ fun _ _ _ _ _ _=>⟨_,rfl,rfl⟩
 have zzw:=kL 5 (K:=K) (x:= "__init__") (qual:= "House.__init__") (st:=bJ) (kV:=zkm) (doc:=zkn) (pm:=zko) (an:=zkj) (cdv:=zkp) (ct:=zkq) (ps:=["self","rooms","doors","people","last","first"]) (ds:=[.int 0 zks]) ztk<|aM 5 _ fun _ _ _ _ _=>⟨_,rfl,rfl⟩
 have zzx:=aQ (st:=dN) ztl ztm ztn;have zzy:=aR (K:=K) (x:= "rooms") (qual:= "House.rooms") (st:=dN) (kV:=zlb) (doc:=zlc) (pm:=zld) (an:=zky) (cdv:=zle) (ct:=zlf) (ps:=["self"])<|aM 1 _ fun _=>rfl
 have zzz:=aQ (st:=dQ) zto ztp ztq;have zbaa:=aR (K:=K) (x:= "doors") (qual:= "House.doors") (st:=dQ) (kV:=zlk) (doc:=zll) (pm:=zlm) (an:=zlh) (cdv:=zln) (ct:=zlo) (ps:=["self"])<|aM 1 _ fun _=>rfl
 have zbab:=aQ (st:=cH) ztr zts ztt;have zbac:=aR (K:=K) (x:= "need_room") (qual:= "House.need_room") (st:=cH) (kV:=zlt) (doc:=zlu) (pm:=zlv) (an:=zlq) (cdv:=zlw) (ct:=zlx) (ps:=["self","room"])<|aM 2 _ fun _ _=>rfl
 have zbad:=aQ (st:=dM) ztu ztv ztw;have zbae:=aR (K:=K) (x:= "holds") (qual:= "House.holds") (st:=dM) (kV:=zmc) (doc:=zmd) (pm:=zme) (an:=zlz) (cdv:=zmf) (ct:=zmg) (ps:=["self","room"])<|aM 2 _ fun _ _=>rfl
 have zbaf:=aQ (st:=dS) ztx zty ztz;have zbag:=aR (K:=K) (x:= "found") (qual:= "House.found") (st:=dS) (kV:=zml) (doc:=zmm) (pm:=zmn) (an:=zmi) (cdv:=zmo) (ct:=zmp) (ps:=["self","room"])<|aM 2 _ fun _ _=>rfl
 have zbah:=aQ (st:=eG) zua zub zuc;have zbai:=aR (K:=K) (x:= "into") (qual:= "House.into") (st:=eG) (kV:=zmu) (doc:=zmv) (pm:=zmw) (an:=zmr) (cdv:=zmx) (ct:=zmy) (ps:=["self","room"])<|aM 2 _ fun _ _=>rfl
 have zbaj:=aQ (st:=cG) zud zue zuf;have zbak:=aR (K:=K) (x:= "from_room") (qual:= "House.from_room") (st:=cG) (kV:=znd) (doc:=zne) (pm:=znf) (an:=zna) (cdv:=zng) (ct:=znh) (ps:=["self","room"])<|aM 2 _ fun _ _=>rfl
 have zbal:=aQ (st:=eI) zug zuh zui;have zbam:=aR (K:=K) (x:= "door") (qual:= "House.door") (st:=eI) (kV:=znm) (doc:=znn) (pm:=zno) (an:=znj) (cdv:=znp) (ct:=znq) (ps:=["self","name"])<|aM 2 _ fun _ _=>rfl
 have zban:=aQ (st:=eB) zuj zuk zul;have zbao:=aR (K:=K) (x:= "lets") (qual:= "House.lets") (st:=eB) (kV:=znv) (doc:=znw) (pm:=znx) (an:=zns) (cdv:=zny) (ct:=znz) (ps:=["self","name","turn"])<|aM 3 _ fun _ _ _=>rfl
 have zbap:=aQ (st:=dL) zum zun zuo;have zbaq:=aR (K:=K) (x:= "total") (qual:= "House.total") (st:=dL) (kV:=zoe) (doc:=zof) (pm:=zog) (an:=zob) (cdv:=zoh) (ct:=zoi) (ps:=["self"])<|aM 1 _ fun _=>rfl
 have zbar:=aQ (st:=dP) zup zuq zur;have zbas:=aR (K:=K) (x:= "pairs") (qual:= "House.pairs") (st:=dP) (kV:=zon) (doc:=zoo) (pm:=zop) (an:=zok) (cdv:=zoq) (ct:=zor) (ps:=["self"])<|aM 1 _ fun _=>rfl
 have zbat:ICls K zau:=⟨⟨zus,zut,zuu,zuv⟩,zuy,zxg,zxh,zuz⟩
 have zbau:ICls K zav:=⟨⟨zvr,zvs,zvt,zvu⟩,zvx,zxg,zxh,zvy⟩
 exact⟨W.fnOf "law" "law" (aL iI) (aK iI) (aB iI) .none zim zin zio zij ziq zir,fun s v=> .of_eq rfl,fun base _ _=>NP ⟨zaa,_,zxw,zxx,
  zab,_,zxy,zxz,
  zac,_,zya,zyb,
  zad,_,zyc,zyd,
  zae,_,zye,zyf,
  zaf,_,zyg,zyh,
  zag,_,zyi,zyj,
  zah,_,zyk,zyl,
  zai,_,zym,zyn,
  zaj,_,zyo,zyp,
  zak,_,zyq,zyr,
  zal,_,zys,zyt,
  zam,_,zyu,zyv,
  zan,_,zyw,zyx,
  zao,_,zyy,zyz,
  zap,_,zza,zzb,
  zaq,_,zzc,zzd,
  zar,_,zze,zzf,
  zas,_,zzg,zzh,
  fa,_,zzi,zzj,
  zbd,_,zzk,zzl,
  zbe,_,zzo,zzp,
  zbf,_,zzq,zzr,
  zbg,_,zzs,zzt,
  zbh,_,zzu,zzv,
  zbi,_,zzx,zzy,
  zbj,_,zzz,zbaa,
  zbk,_,zbab,zbac,
  zbl,_,zbad,zbae,
  zbm,_,zbaf,zbag,
  zbn,_,zbah,zbai,
  zbo,_,zbaj,zbak,
  zbp,_,zbal,zbam,
  zbq,_,zban,zbao,
  zbr,_,zbap,zbaq,
  zbs,_,zbar,zbas,
  W.mg_of X G zot,
  W.mg_of X G zou,
  W.mg_of X G zov,
  W.mg_of X G zow,
  W.mg_of X G zox,
  W.mg_of X G zoy,
  W.mg_of X G zoz,
  W.mg_of X G zpa,
  W.mg_of X G zpb,
  W.mg_of X G zpc,
  W.mg_of X G zpd,
  W.mg_of X G zpe,
  W.mg_of X G zpf,
  W.mg_of X G zpg,
  W.mg_of X G zph,
  W.mg_of X G zpi,
  W.mg_of X G zpj,
  W.mg_of X G zpk,
  W.mg_of X G zpl,
  W.mg_of X G zpm,
  ⟨_,.cons ⟨_,rfl⟩ (.nil),zzm⟩,
  ⟨_,.cons rfl (.cons ⟨_,rfl⟩ (.nil)),zzn⟩,
  ⟨_,.cons ⟨_,rfl⟩ (.nil),zzw⟩,
  zau,W.mg_of X G zpn,
  zav,W.mg_of X G zpo,
  zaw,W.mg_of X G zpp,
  zax,W.mg_of X G zpq,
  zay,W.mg_of X G zpr,
  zaz,W.mg_of X G zps,
  zba,W.mg_of X G zpt,
  zbb,W.mg_of X G zpu,
  zbc,W.mg_of X G zpv,
  ⟨zbat,zva,zvb,zvc,zvd,zve,zvf,zvg,zvh,zvi⟩,
  ⟨zuw,zvj,zvk,zux⟩,
  ⟨zvl,zvm,zta⟩,
  ⟨zvn,zvo,ztd⟩,
  ⟨zvp,zvq,ztg⟩,
  ⟨zbau,zvz,zwa,zwb,zwc,zwd,zwe,zwf,zwg,zwh⟩,
  ⟨zvv,zwi,zwj,zvw⟩,
  ⟨zwk,zwl,ztn⟩,
  ⟨zwm,zwn,ztq⟩,
  ⟨zwo,zwp,ztt⟩,
  ⟨zwq,zwr,ztw⟩,
  ⟨zws,zwt,ztz⟩,
  ⟨zwu,zwv,zuc⟩,
  ⟨zww,zwx,zuf⟩,
  ⟨zwy,zwz,zui⟩,
  ⟨zxa,zxb,zul⟩,
  ⟨zxc,zxd,zuo⟩,
  ⟨zxe,zxf,zur⟩,
  W.mg_none_of X G zxi,
  W.mg_none_of X G zxj,
  W.mg_none_of X G zxk,
  W.mg_none_of X G zxl,
  W.mg_none_of X G zxm,
  W.mg_none_of X G zxn,
  W.mg_none_of X G zxo,
  W.mg_none_of X G zxp,
  W.mg_none_of X G zxq,
  W.mg_none_of X G zxr,
  W.mg_none_of X G zxs,
  W.mg_none_of X G zxt,
  W.mg_none_of X G zxu,
  ⟨zos,W.mg_of X G zxv⟩⟩⟩
theorem walk {l:W.OpenLaw}{q:Program}{loose:List Str}{XP:(Str->Option Value)->Heap->Prop}{YP:World->Heap->Prop}{d:DefRec}{K:Params->W.Frag} (hn:l.most=some 63) (hdf:d.params.defaults=[])
  (hY:∀(w:World) (h:Heap),YP w h->(K w.params).In h)
  (F:∀(w:World) (mg:Str->Option Value) (fa:Addr) (h:Heap),(K w.params).In h->h.Ns mainGlobals mg->mg d.name=some (.ref fa) →
   ∃fd:FuncData,(∀(s:Shared) (u:Value),BindsTo s fd ⟨[u],[]⟩ [("_law_script",u)])/\∀base:Heap,(K w.params).In base->base.Ns mainGlobals mg->bK l.prog w (K w.params) mg base CX0 20 fa fd ["_law_script"] (pT (K w.params))) :
  W.WalkO q loose XP YP l.row.toRowW d [] (fun f vs=>PySem.call f vs) :=
 L2.walk_of (n:=63) (k:=20) (x:= "_law_script") (CX:=fun _=>CX0) (sp:=fun w=>pT (K w.params)) hn (by decide) hdf ⟨rfl,by decide,by decide⟩ hY F (fun _ _ a ns hl _ hS=>⟨a,ns,rfl,hS,hl,fun _=>rfl⟩) fun _ _ _ _ _ z=>z
end Prf
open PySem PySem.W PyProof.Rows
set_option maxRecDepth 100000 in
set_option maxHeartbeats 0 in
theorem PySem.Challenge.cw_firstout_k52_walks_joined_holds : PySem.Challenge.rw_firstout_k52_walks_joined.Holds := by
 w_on;o_law;k_head;(case hw=>w_witness2)
 k_fill
 refine Prf.walk (l:=PySem.Challenge.rw_firstout_k52_walks_joined) rfl rfl (fun w h Y=>PySem.W.kIn_of Y) ?F
 case F =>
  intro w mg fa h KX G hmg;refine' Prf.all_mk KX G hmg ?zot ?zou ?zov ?zow ?zox ?zoy ?zoz ?zpa ?zpb ?zpc ?zpd ?zpe ?zpf ?zpg ?zph ?zpi ?zpj ?zpk ?zpl ?zpm ?zpn ?zpo ?zpp ?zpq ?zpr ?zps ?zpt ?zpu ?zpv ?zpw ?zpx ?zpy ?zpz ?zqa ?zqb ?zqc ?zqd ?zqe ?zqf ?zqg ?zqh ?zqi ?zqj ?zqk ?zql ?zqm ?zqn ?zqo ?zqp ?zqq ?zqr ?zqs ?zqt ?zqu ?zqv ?zqw ?zqx ?zqy ?zqz ?zra ?zrb ?zrc ?zrd ?zre ?zrf ?zrg ?zrh ?zri ?zrj ?zrk ?zrl ?zrm ?zrn ?zro ?zrp ?zrq ?zrr ?zrs ?zrt ?zru ?zrv ?zrw ?zrx ?zry ?zrz ?zsa ?zsb ?zsc ?zsd ?zse ?zsf ?zsg ?zsh ?zsi ?zsj ?zsk ?zsl ?zsm ?zsn ?zso ?zsp ?zsq ?zsr ?zss ?zst ?zsu ?zsv ?zsw ?zsx ?zsy ?zsz ?zta ?ztb ?ztc ?ztd ?zte ?ztf ?ztg ?zth ?zti ?ztj ?ztk ?ztl ?ztm ?ztn ?zto ?ztp ?ztq ?ztr ?zts ?ztt ?ztu ?ztv ?ztw ?ztx ?zty ?ztz ?zua ?zub ?zuc ?zud ?zue ?zuf ?zug ?zuh ?zui ?zuj ?zuk ?zul ?zum ?zun ?zuo ?zup ?zuq ?zur ?zus ?zut ?zuu ?zuv ?zuw ?zux ?zuy ?zuz ?zva ?zvb ?zvc ?zvd ?zve ?zvf ?zvg ?zvh ?zvi ?zvj ?zvk ?zvl ?zvm ?zvn ?zvo ?zvp ?zvq ?zvr ?zvs ?zvt ?zvu ?zvv ?zvw ?zvx ?zvy ?zvz ?zwa ?zwb ?zwc ?zwd ?zwe ?zwf ?zwg ?zwh ?zwi ?zwj ?zwk ?zwl ?zwm ?zwn ?zwo ?zwp ?zwq ?zwr ?zws ?zwt ?zwu ?zwv ?zww ?zwx ?zwy ?zwz ?zxa ?zxb ?zxc ?zxd ?zxe ?zxf ?zxg ?zxh ?zxi ?zxj ?zxk ?zxl ?zxm ?zxn ?zxo ?zxp ?zxq ?zxr ?zxs ?zxt ?zxu ?zxv
  (case zot|zou|zov|zow|zox|zoy|zoz|zpa|zpb|zpc|zpd|zpe|zpf|zpg|zph|zpi|zpj|zpk|zpl|zpm|zpn|zpo|zpp|zpq|zpr|zps|zpt|zpu|zpv|zpw|zpx|zpy|zpz|zqa|zqb|zqc|zqd|zqe|zqf|zqg|zqh|zqi|zqj|zqk|zql|zqm|zqn|zqo|zqp|zqq|zqr|zqs|zqt|zqu|zqv|zqw|zqx|zqy|zqz|zra|zrb|zrc|zrd|zre|zrf|zrg|zrh|zri|zrj|zrk|zrl|zrm|zrn|zro|zrp|zrq|zrr|zrs|zrt|zru|zrv|zrw|zrx|zry|zrz|zsa|zsb|zsc|zsd|zse|zsf|zsg|zsh|zsi|zsj|zsk|zsl|zsm|zsn|zso|zsp|zsq|zsr|zss|zst|zsu|zsv|zsw|zsx|zsy|zsz|zta|ztb|ztc|ztd|zte|ztf|ztg|zth|zti|ztj|ztk|ztl|ztm|ztn|zto|ztp|ztq|ztr|zts|ztt|ztu|ztv|ztw|ztx|zty|ztz|zua|zub|zuc|zud|zue|zuf|zug|zuh|zui|zuj|zuk|zul|zum|zun|zuo|zup|zuq|zur|zus|zut|zuu|zuv|zuw|zux|zuy|zuz|zva|zvb|zvc|zvd|zve|zvf|zvg|zvh|zvi|zvj|zvk|zvl|zvm|zvn|zvo|zvp|zvq|zvr|zvs|zvt|zvu|zvv|zvw|zvx|zvy|zvz|zwa|zwb|zwc|zwd|zwe|zwf|zwg|zwh|zwi|zwj|zwk|zwl|zwm|zwn|zwo|zwp|zwq|zwr|zws|zwt|zwu|zwv|zww|zwx|zwy|zwz|zxa|zxb|zxc|zxd|zxe|zxf|zxg|zxh|zxi|zxj|zxk|zxl|zxm|zxn|zxo|zxp|zxq|zxr|zxs|zxt|zxu|zxv=>k_is)
