import PyProof.Rows.All
import Wide.All
import OpenK.AllK
import Wide.FinOn
import Lean
import PyProof.EqAt
import PyProof.EqKinds
import PyProof.TupleCall
import KE.KSortTup
import PyProof.Rows.DictUnroll
import PyProof.DictItems
import KE.LcSums
import PyProof.IsiH_list
import KE.KDictOf
import PyProof.DictWalks
import PyProof.ListRange
import PyProof.EnumStmt
import PyProof.EnumMake
import KE.KDictSum
import PyProof.StrOps2
import PySem.Challenge.RW_firstout_k12_houses_refused
namespace PySem.W.Fast
def tw5634396485117606084:=()
def tw14614048963448851622:=()
def tw9923300743733822406:=()
def tw9774725737908871495:=()
def tw18194079946731030955:=()
def tw12577153375259611436:=()
def tw9714651594071032780:=()
def tw17609636904090034669:=()
def tw13756801062137902798:=()
def tw3569422231106686894:=()
def tw12593002633624242543:=()
def tw3644864731121617904:=()
def tw15326194930323196370:=()
def tw7943724968746544082:=()
def tw18423179561857034684:=()
def tw10987897105530356766:=()
end PySem.W.Fast
set_option compiler.extract_closed false
local macro_rules| `(tactic| walk_at"oi")=> `(tactic| first|exact Or.inl rfl|exact Or.inr rfl)
set_option Elab.async false
set_option linter.all false
set_option maxRecDepth 100000
namespace L2
open PySem PySem.Spec PyProof.Rows
abbrev Key:=Sum Int Str
def nH:Key->Value->Bool
 | .inl k,v=>Value.isInt k v
 | .inr x,v=>Value.isStrOf x v
def P0 (w:World):Key->Int
 | .inl k=>hashInt k
 | .inr x=>hashStr w x
theorem cA:∀{k:Key}{v:Value},nH k v=true->(∃i t,k=Sum.inl i/\v=Value.int i t)∨(∃x t,k=Sum.inr x/\v=Value.str x t)
 | .inl i,v,h=>by
  obtain⟨t,e⟩:=Value.isInt_shape (k:=i) (v:=v) h;exact .inl ⟨i,t,rfl,e⟩
 | .inr x,v,h=>by
  obtain⟨t,e⟩:=Value.isStrOf_shape (x:=x) (v:=v) h;exact .inr ⟨x,t,rfl,e⟩
theorem BS (i:Int)(t:Tok):nH (.inl i) (.int i t)=true:=by simp[nH,Value.isInt]
theorem BI (x:Str)(t:Tok):nH (.inr x) (.str x t)=true:=by simp[nH,Value.isStrOf]
theorem MW (a b:Int):decide ((Sum.inl a:Key)=Sum.inl b)=(a==b):=by
 by_cases e:a=b
 ·subst e;simp
 ·have h:¬(Sum.inl a:Key)=Sum.inl b:=fun q=>e (Sum.inl.inj q);rw[decide_eq_false h];exact(beq_eq_false_iff_ne.mpr e).symm
theorem ML (a b:Str):decide ((Sum.inr a:Key)=Sum.inr b)=decide (a=b):=by
 by_cases e:a=b
 ·subst e;simp
 ·have h:¬(Sum.inr a:Key)=Sum.inr b:=fun q=>e (Sum.inr.inj q);rw[decide_eq_false h,decide_eq_false e]
theorem MH (a:Int)(b:Str):decide ((Sum.inl a:Key)=Sum.inr b)=false:=decide_eq_false (fun q=>nomatch q)
theorem M5 (a:Str)(b:Int):decide ((Sum.inr a:Key)=Sum.inl b)=false:=decide_eq_false (fun q=>nomatch q)
def b8 (prog:Program)(w:World):PySem.KeyKind prog w Key where
 is:=nH
 hash:=P0 w
 inj:=fun v a b ha hb=>by
  rcases cA ha with⟨i,t,rfl,rfl⟩|⟨x,t,rfl,rfl⟩
  ·rcases cA hb with⟨j,u,rfl,e⟩|⟨y,u,rfl,e⟩
   ·injection e with e1 _;rw[e1]
   ·exact nomatch e
  ·rcases cA hb with⟨j,u,rfl,e⟩|⟨y,u,rfl,e⟩
   ·exact nomatch e
   ·injection e with e1 _;rw[e1]
 byValue:=fun k v h=>by
  rcases cA h with⟨i,t,rfl,rfl⟩|⟨x,t,rfl,rfl⟩<;>rfl
 pyHash:=fun hv h=>by
  rcases cA hv with⟨i,t,rfl,rfl⟩|⟨x,t,rfl,rfl⟩
  ·exact wpAny_pyHash_int h
  ·exact wpAny_pyHash_str h
 eqBool:=fun hu hv h=>by
  rcases cA hu with⟨i,t,rfl,rfl⟩|⟨x,t,rfl,rfl⟩
  ·rcases cA hv with⟨j,u,rfl,rfl⟩|⟨y,u,rfl,rfl⟩
   ·rw[MW]at h;exact wpAny_eqBool_int h
   ·rw[MH]at h;exact SeqAt.EqAt.int_str i t y u _ _ _ _ h
  ·rcases cA hv with⟨j,u,rfl,rfl⟩|⟨y,u,rfl,rfl⟩
   ·rw[M5]at h;exact SeqAt.EqAt.str_int x t j u _ _ _ _ h
   ·rw[ML]at h;exact wpAny_eqBool_str h
 «strs»:=fun k x t v h=>by
  rcases cA h with⟨i,u,rfl,e⟩|⟨y,u,rfl,e⟩
  ·exact nomatch e
  ·injection e with e1 _;subst e1;cases v<;>rfl
theorem xA (prog:Program)(w:World)(i:Int)(t:Tok):(b8 prog w).is (.inl i) (.int i t)=true:=BS i t
theorem wV (prog:Program)(w:World)(x:Str)(t:Tok):(b8 prog w).is (.inr x) (.str x t)=true:=BI x t
end L2
namespace L2
open PySem PySem.Spec PyProof.Rows
inductive V where
 | non|bl (b:Bool)|int (i:Int)|str (x:Str)|byt (b:Array UInt8)|flt (b:UInt64)|ref (a:Addr)|ty (n:String)
 deriving DecidableEq
def RelV:V->Value->Prop
 | .non,u=>u=Value.none
 | .bl b,u=>u=Value.bool b
 | .int i,u=>∃t,u=Value.int i t
 | .str x,u=>∃t,u=Value.str x t
 | .byt b,u=>∃t,u=Value.bytes b t
 | .flt b,u=>∃t,u=Value.float b t
 | .ref a,u=>u=Value.ref a
 | .ty n,u=>u=Value.type n
abbrev Vals:List V->List Value->Prop:=Paired RelV
theorem Vals.length {xs:List V}{us:List Value} (r:Vals xs us):xs.length=us.length:=Paired.length r
theorem Vals.get:∀{xs:List V}{us:List Value}{i:Nat}{x:V},Vals xs us->xs[i]? =some x->∃u,us[i]? =some u/\RelV x u
 | _,_,_,_,.nil,e=>by simp at e
 | _,_,0,_,.cons r _,e=>by simp at e;subst e;exact⟨_,rfl,r⟩
 | _,_,i+1,x,.cons _ t,e=>by
  obtain⟨u,h1,h2⟩:=Vals.get (i:=i) (x:=x) t (by simpa using e);exact⟨u,by simpa using h1,h2⟩
theorem Vals.append:∀{xs ys:List V}{us ws:List Value},Vals xs us->Vals ys ws->Vals (xs++ys) (us++ws)
 | _,_,_,_,.nil,s=>s
 | _,_,_,_,.cons r t,s=> .cons r (Vals.append t s)
theorem Vals.take:∀{xs:List V}{us:List Value} (n:Nat),Vals xs us->Vals (xs.take n) (us.take n)
 | _,_,0,_=> .nil
 | _,_,_+1,.nil=> .nil
 | _,_,n+1,.cons r t=> .cons r (Vals.take n t)
theorem Vals.drop:∀{xs:List V}{us:List Value} (n:Nat),Vals xs us->Vals (xs.drop n) (us.drop n)
 | _,_,0,r=>r
 | _,_,_+1,.nil=> .nil
 | _,_,n+1,.cons _ t=>Vals.drop n t
def RelO:Option V->Option Value->Prop
 | some v,some u=>RelV v u
 | none,none=>True
 | _,_=>False
def KV {κ:Type}:List (κ×V)->List (κ×Value)->Prop:=Paired fun (p:κ×V) (q:κ×Value)=>p.1=q.1/\RelV p.2 q.2
def kV:Key->V
 | .inl i=> .int i
 | .inr x=> .str x
inductive HO where
  | lst (xs:List V)
  | tup (xs:List V)
  | dK (kvs:List (Key×V))|dT (kvs:List (List Key×V))
  | set (S:Int->Bool) (n:Nat)
  | ins (C dx:Addr) (fs:List (Str×V))
  | own (x:Addr)
  | xd (fs:List (Str×V))
  | met (f x:Addr)
  | rng (lo hi:Int)
  | frz (o:Obj) (u:HO)
  | tbl (ps:Array Value)
  | ext (φ:Heap->Prop)
abbrev Hp:=Addr->Option HO
def upd (H:Hp)(a:Addr)(o:HO):Hp:=fun b=>if b=a then some o else H b
theorem aR {H:Hp}{a:Addr}{o:HO}:upd H a o a=some o:=by unfold upd;rw[if_pos rfl]
theorem aG {H:Hp}{a b:Addr}{o:HO} (h:b≠a):upd H a o b=H b:=by unfold upd;rw[if_neg h]
theorem IM {H:Hp}{a:Addr}{o u:HO}:upd (upd H a o) a u=upd H a u:=by
 funext b;unfold upd;split<;>rfl
theorem PJ {H:Hp}{a b:Addr}{o u:HO} (h:H a=some o) (h':H b=some u) (d:o≠u):a≠b:=by
 intro e;subst e;rw[h]at h';exact d (Option.some.inj h')
theorem aL {H:Hp}{a b:Addr}{o:HO} (h:H a=some o) (h':H b=none):a≠b:=by
 intro e;subst e;rw[h]at h';cases h'
section
variable (P:Program)(w:World)
def ObjOk (H:Hp)(h:Heap)(a:Addr):HO->Prop
 | .lst xs=>xs.length<=sizeLine/\∃(its:List Value) (n:Nat),Vals xs its/\h.get? a=some { cls:= .type "list",data:= .seq its.toArray n }
 | .tup xs=>xs.length<=sizeLine/\∃its:List Value,Vals xs its/\IsTup h a its.toArray
 | .dK kvs=>kvs.length<=sizeLine/\(a==sysModules)=false/\∃vs,KV kvs vs/\h.DictOf (b8 P w) a vs
 | .dT kvs=>kvs.length<=sizeLine/\(a==sysModules)=false/\∃xs:List (List Key×Addr×Value),
   Paired (fun (p:List Key×V) (q:List Key×Addr×Value)=>p.1=q.1/\H q.2.1=some (.tup (p.1.map kV))/\RelV p.2 q.2.2) kvs xs ∧
   ∃o es ep,h.get? a=some o/\o.ExactDict/\o.data= .dict es ep/\es.toList=xs.map (entryOfKey (tupleKind (b8 P w)))/\(xs.map (·.1)).Nodup
 | .set S n=>h.SetOf (intKind P w) a S n
 | .ins C dx fs=>H dx=some (.own a)/\fs.length<=1000/\dx≠a/\h.get? a=some (PySem.W.instObj C dx) ∧
   ∃mA,h.Ns1 dx mA/\(∀f,RelO (fs.lookup f) (mA f))/\PySem.Within mA (fs.map (·.1))
 | .own _=>∃o,h.get? a=some o
 | .xd fs=>∃mA,h.Ns1 a mA/\∀f,RelO (fs.lookup f) (mA f)
 | .rng lo hi=>∃t u v,h.get? a=some { cls:= .type "range",data:= .fields #[.int lo t,.int hi u,.int 1 v] }
 | .frz o u=>h.get? a=some o/\ObjOk H h a u
 | .tbl ps=>h.get? a=some { cls:= .none,data:= .fields ps }
 | .met f x=>h.get? a=some (PySem.W.methodObj (.ref f) (.ref x))
 | .ext φ=>φ h/\(∃o,h.get? a=some o)/\∀h1 h2:Heap,φ h1->(∀o,h1.get? a=some o->h2.get? a=some o)->φ h2
def HOk (H:Hp)(h:Heap):Prop:=∀a o,H a=some o->ObjOk P w H h a o
end
section
variable {P:Program}{w:World}{H H':Hp}{h h':Heap}{a:Addr}{o:HO}
theorem ObjOk.lt (x:ObjOk P w H h a o):a<h.objs.size:=by
 cases o with
 | lst xs=>obtain⟨_,_,_,_,e⟩:=x;exact Heap.lt_size e
 | tup xs=>obtain⟨_,_,_,p⟩:=x;exact p.lt
 | dK kvs=>obtain⟨_,_,_,_,o,_,_,e,_⟩:=x;exact Heap.lt_size e
 | dT kvs=>obtain⟨_,_,_,_,o,_,_,e,_⟩:=x;exact Heap.lt_size e
 | set S n=>obtain⟨o,_,_,_,e,_⟩:=x;exact Heap.lt_size e
 | ins C dx fs=>obtain⟨_,_,_,e,_⟩:=x;exact Heap.lt_size e
 | own y=>obtain⟨_,e⟩:=x;exact Heap.lt_size e
 | xd fs=>obtain⟨_,⟨_,_,_,e,_⟩,_⟩:=x;exact Heap.lt_size e
 | rng lo hi=>obtain⟨_,_,_,e⟩:=x;exact Heap.lt_size e
 | frz ob u=>obtain⟨e,_⟩:=x;exact Heap.lt_size e
 | tbl ps=>exact Heap.lt_size (show h.get? a=some _ from x)
 | met f y=>exact Heap.lt_size (show h.get? a=some _ from x)
 | ext φ=>obtain⟨_,⟨_,e⟩,_⟩:=x;exact Heap.lt_size e
theorem Paired.mapP {α β:Type}{F G:α->β->Prop}:∀{l₁:List α}{l₂:List β},Paired F l₁ l₂->(∀a b,F a b->G a b)->Paired G l₁ l₂
 | _,_,.nil,_=> .nil
 | _,_,.cons r t,f=> .cons (f _ _ r) (Paired.mapP t f)
theorem Paired.imp' {α β:Type}{F G:α->β->Prop} (f:∀a b,F a b->G a b) {l₁:List α}{l₂:List β} (r:Paired F l₁ l₂):Paired G l₁ l₂:=Paired.mapP r f
theorem ObjOk.stay (x:ObjOk P w H h a o)(k:∀b u,(b=a∨H b=some (.own a))->h.get? b=some u->h'.get? b=some u)
  (ho:∀b,H b=some (.own a)->H' b=some (.own a))(ht:∀b xs,H b=some (.tup xs)->H' b=some (.tup xs)):ObjOk P w H' h' a o:=by
 induction o with
 | lst xs=>obtain⟨z,its,n,r,e⟩:=x;exact⟨z,its,n,r,k _ _ (.inl rfl) e⟩
 | tup xs=>obtain⟨z,its,r,ob,e,c⟩:=x;exact⟨z,its,r,ob,k _ _ (.inl rfl) e,c⟩
 | dK kvs=>obtain⟨z,y,vs,r,ob,es,ep,e,c⟩:=x;exact⟨z,y,vs,r,ob,es,ep,k _ _ (.inl rfl) e,c⟩
 | dT kvs =>
  obtain⟨z,y,xs,r,ob,es,ep,e,c⟩:=x;exact⟨z,y,xs,Paired.mapP r fun p q z=>⟨z.1,ht _ _ z.2.1,z.2.2⟩,ob,es,ep,k _ _ (.inl rfl) e,c⟩
 | set S n=>obtain⟨ob,es,ep,t,e,c⟩:=x;exact⟨ob,es,ep,t,k _ _ (.inl rfl) e,c⟩
 | ins C dx fs =>
  obtain⟨d,z,ne,e,mA,⟨od,es,ep,e2,c⟩,r⟩:=x;exact⟨ho _ d,z,ne,k _ _ (.inl rfl) e,mA,⟨od,es,ep,k _ _ (.inr d) e2,c⟩,r⟩
 | own y=>obtain⟨ob,e⟩:=x;exact⟨ob,k _ _ (.inl rfl) e⟩
 | xd fs=>obtain⟨mA,⟨od,es,ep,e,c⟩,r⟩:=x;exact⟨mA,⟨od,es,ep,k _ _ (.inl rfl) e,c⟩,r⟩
 | rng lo hi=>obtain⟨t,u,v,e⟩:=x;exact⟨t,u,v,k _ _ (.inl rfl) e⟩
 | frz ob u ih=>obtain⟨e,q⟩:=x;exact⟨k _ _ (.inl rfl) e,ih q⟩
 | tbl ps =>
  have e:h.get? a=some { cls:= .none,data:= .fields ps }:=x;show h'.get? a=some { cls:= .none,data:= .fields ps };exact k a _ (.inl rfl) e
 | met f y =>
  have e:h.get? a=some (PySem.W.methodObj (.ref f) (.ref y)):=x;show h'.get? a=some (PySem.W.methodObj (.ref f) (.ref y));exact k a _ (.inl rfl) e
 | ext φ=>obtain⟨p,⟨o,e⟩,st⟩:=x;exact⟨st _ _ p fun o q=>k _ _ (.inl rfl) q,⟨o,k _ _ (.inl rfl) e⟩,st⟩
theorem HOk.lt (x:HOk P w H h)(e:H a=some o):a<h.objs.size:=(x a o e).lt
theorem HOk.fresh (x:HOk P w H h)(e:h.objs.size<=a):H a=none:=by
 cases q:H a with
 | none=>rfl
 | some u=>exact absurd (Nat.lt_of_lt_of_le (x.lt q) e) (Nat.lt_irrefl _)
theorem HOk.kept (x:HOk P w H h)(k:∀b u,h.get? b=some u->h'.get? b=some u):HOk P w H h':=fun a o e =>
 (x a o e).stay (fun b u _ q=>k b u q) (fun _ q=>q) fun _ _ q=>q
theorem HOk.laid (x:HOk P w H h)(k:∀b u,h.get? b=some u->h'.get? b=some u)(hp:h.objs.size<=a)(new:ObjOk P w (upd H a o) h' a o):HOk P w (upd H a o) h':=fun b u e=>by
 have hn:=x.fresh hp
 by_cases hb:b=a
 ·subst hb;rw[aR]at e;cases e;exact new
 ·rw[aG hb]at e;exact(x b u e).stay (fun c v _ q=>k c v q) (fun c q=>by rw[aG (aL q hn)];exact q) fun c xs q=>by rw[aG (aL q hn)];exact q
end
def Rd (H:Hp)(a:Addr)(u:HO):Prop:=H a=some u∨∃o,H a=some (.frz o u)
theorem Rd.ok {P:Program}{w:World}{H:Hp}{h:Heap}{a:Addr}{u:HO} (r:Rd H a u) (x:HOk P w H h):ObjOk P w H h a u:=by
 rcases r with r|⟨o,r⟩
 ·exact x a u r
 ·obtain⟨_,q⟩:=x a _ r;exact q
def Mut:Option HO->Prop
 | some (.lst _)=>True
 | some (.dK _)=>True
 | some (.dT _)=>True
 | some (.set _ _)=>True
 | some (.ins _ _ _)=>True
 | some (.ext _)=>True
 | _=>False
section
variable {P:Program}{w:World}{H:Hp}{h h':Heap}{x e:Addr}{o':HO}
theorem HOk.write (ok:HOk P w H h)(mu:Mut (H x))(he:e=x∨H e=some (.own x))(k:∀b u,b≠e->h.get? b=some u->h'.get? b=some u)(heo:∃u,h'.get? e=some u)
  (new:ObjOk P w (upd H x o') h' x o'):HOk P w (upd H x o') h':=fun b u q=>by
 have nown:∀c y,H c=some (.own y)->c≠x:=fun c y r z=>by subst z;rw[r]at mu;exact mu
 have ntup:∀c xs,H c=some (.tup xs)->c≠x:=fun c xs r z=>by subst z;rw[r]at mu;exact mu
 by_cases hb:b=x
 ·subst hb;rw[aR]at q;cases q;exact new
 ·rw[aG hb]at q
  by_cases hbe:b=e
  ·have q':H b=some (.own x):=by
    rcases he with z|z
    ·exact absurd (hbe.trans z) hb
    ·rw[hbe];exact z
   rw[q]at q';cases q';obtain⟨v,hv⟩:=heo;exact⟨v,by rw[hbe];exact hv⟩
  ·refine(ok b u q).stay (fun c v hc r=>k c v ?_ r) (fun c r=>by rw[aG (nown c b r)];exact r) fun c xs r=>by rw[aG (ntup c xs r)];exact r
   rcases hc with rfl|hc
   ·exact hbe
   ·rintro rfl;rcases he with z|z
    ·exact nown c b hc z
    ·rw[hc]at z;cases z;exact hb rfl
end
structure Un (fs ex:List Addr)(H H':Hp)(h h':Heap):Prop where
 keep:∀b o,h.get? b=some o->H b=none->b∉fs->b∉ex->h'.get? b=some o
 slot:∀b o,h.get? b=some o->H b=none->b∈fs->b∉ex->∃sl,h'.get? b=some { o with slots:=sl }
 free:∀b o,h.get? b=some o->H b=none->b∉ex->H' b=none
 there:∀b o,h.get? b=some o->b∉ex->∃o',h'.get? b=some o'
 tups:∀b xs,H b=some (.tup xs)->H' b=some (.tup xs)
 frzs:∀b o u,H b=some (.frz o u)->H' b=some (.frz o u)
 tbls:∀b ps,H b=some (.tbl ps)->∃more,H' b=some (.tbl (ps++more))
section
variable {fs fs' ex ex':List Addr}{H H1 H2:Hp}{h h1 h2 h':Heap}{a x e:Addr}{o:HO}
theorem Un.any (u:Un fs ex H H1 h h1){b:Addr}{ob:Obj} (q:h.get? b=some ob) (n:H b=none) (hx:b∉ex):∃sl,h1.get? b=some { ob with slots:=sl }:=by
 by_cases hb:b∈fs
 ·exact u.slot b ob q n hb hx
 ·exact⟨ob.slots,u.keep b ob q n hb hx⟩
theorem Un.kept (k:∀b u,h.get? b=some u->h'.get? b=some u):Un fs ex H H h h' :=
 ⟨fun b ob q _ _ _=>k b ob q,fun b ob q _ _ _=>⟨ob.slots,k b ob q⟩,fun _ _ _ n _=>n,fun b ob q _=>⟨ob,k b ob q⟩,fun _ _ q=>q,fun _ _ _ q=>q,fun _ ps q=>⟨#[],by rw[q];simp⟩⟩
theorem Un.refl:Un fs ex H H h h:=Un.kept fun _ _ q=>q
theorem Un.laid (k:∀b u,h.get? b=some u->h'.get? b=some u)(hp:h.objs.size<=a)(hn:H a=none):Un fs ex H (upd H a o) h h' where
 keep:=fun b u q _ _ _=>k b u q
 slot:=fun b u q _ _ _=>⟨u.slots,k b u q⟩
 free:=fun b u q n _=>by rw[aG (Nat.ne_of_lt (Nat.lt_of_lt_of_le (Heap.lt_size q) hp))];exact n
 there:=fun b u q _=>⟨u,k b u q⟩
 tups:=fun b xs q=>by rw[aG (aL q hn)];exact q
 frzs:=fun b u xs q=>by rw[aG (aL q hn)];exact q
 tbls:=fun b ps q=>⟨#[],by rw[aG (aL q hn),q];simp⟩
theorem Un.write (mu:Mut (H x))(he:e=x∨H e=some (.own x))(k:∀b u,b≠e->h.get? b=some u->h'.get? b=some u)(heo:∃u,h'.get? e=some u):Un fs ex H (upd H x o) h h':=by
 have hx:∀b,H b=none->b≠x:=fun b n z=>by subst z;rw[n]at mu;exact mu
 have hb:∀b,H b=none->b≠e:=fun b n z=>by
  subst z;rcases he with r|r
  ·exact hx b n r
  ·rw[n]at r;cases r
 have hm:∀b u,H b=some u->¬Mut (some u)->b≠x:=fun b u q nm z=>by subst z;rw[q]at mu;exact nm mu
 refine⟨fun b u q n _ _=>k b u (hb b n) q,fun b u q n _ _=>⟨u.slots,k b u (hb b n) q⟩,fun b u q n _=>by rw[aG (hx b n)];exact n,fun b u q _=> ?_,
  fun b xs q=>by rw[aG (hm b _ q fun z=>z)];exact q,fun b u xs q=>by rw[aG (hm b _ q fun z=>z)];exact q,fun b ps q=>⟨#[],by rw[aG (hm b _ q fun z=>z),q];simp⟩⟩
 by_cases hbe:b=e
 ·subst hbe;exact heo
 ·exact⟨u,k b u hbe q⟩
end
def trk (h:Heap)(H:Hp):List Addr:=(List.range h.objs.size).filter fun a=>(H a).isSome
def kT (h:Heap)(H:Hp):Heap:=PySem.W.hideAll h (trk h H)
theorem BM (h:Heap)(H:Hp):(kT h H).objs.size=h.objs.size:=PySem.W.hideAll_size _ _
theorem EA {h:Heap}{H:Hp}{b:Addr}{o:Obj} (e:h.get? b=some o) (n:H b=none):(kT h H).get? b=some o :=
 PySem.W.hideAll_get _ e fun hm=>by
  have q:(H b).isSome=true:=(List.mem_filter.mp hm).2;rw[n]at q;simp at q
theorem JU {h:Heap}{H:Hp}{b:Addr}{o:Obj} (e:(kT h H).get? b=some o):h.get? b=some o/\H b=none:=by
 have e':h.get? b=some o:=PySem.W.of_hideAll (trk h H) e;refine⟨e',?_⟩;cases q:H b with
 | none=>rfl
 | some x =>
  have hm:b∈trk h H:=List.mem_filter.mpr ⟨List.mem_range.mpr (Heap.lt_size e'),by simp[q]⟩;have z:(kT h H).get? b=none:=PySem.W.hideAll_none (trk h H) hm;rw[z]at e;cases e
end L2
namespace L2
open PySem PySem.Spec PyProof.Rows
structure Mod (K:PySem.W.Frag)(mg:Str->Option Value)(base:Heap):Prop where
 kin:K.In base
 glob:base.Ns mainGlobals mg
 blt:∃mb,base.Ns builtinsNs mb/\∀x:Str,x≠ "__name__" ->mb x=bootBuiltins x
 nolimit:base.NoLimit
structure Cx where
 prog:Program
 w:World
 K:PySem.W.Frag
 mg:Str->Option Value
 base:Heap
 A:Around
 N:List Str
 s₀:Shared
 H₀:Hp
 env:Env
 outer:List Env
 stack:List Env
 ex:List Addr
 fn:Str->Bool
 calm:Bool
 pn:List (Addr×Obj)
 xe:Value->Shared->Prop
def frs (l:List Env):List Addr:=l.filterMap (·.frame)
abbrev Cx.fs (X:Cx):List Addr:=frs X.outer
def Vis (sc:Scope)(x:Str):Prop:=sc.names.lookup x=some .local∨sc.names.lookup x=some .cell∨sc.names.lookup x=some .free
def Loc (sc:Scope)(x:Str):Prop:=sc.names.lookup x=some .local∨sc.names.lookup x=some .cell
def P5 (env:Env)(h:Heap)(m:Str->Option Value)(x:Str)(u:Value):Prop :=
 (env.kindOf x=some .local/\m x=some u)∨((env.kindOf x=some .cell∨env.kindOf x=some .free)/\∃c,env.cells.lookup x=some c/\h.IsCell c (some u))
structure Cx.Ok (X:Cx):Prop where
 mod:Mod X.K X.mg X.base
 kind:X.env.scope.kind= .function
 glob:X.env.globals=mainGlobals
 blt:X.env.builtins=builtinsNs
 above:X.s₀.heap.objs.size<=X.env.locals
 inj:∀x y c,X.env.cells.lookup x=some c->X.env.cells.lookup y=some c->x=y
 has:∀x,(X.env.kindOf x=some .cell∨X.env.kindOf x=some .free)->∃c,X.env.cells.lookup x=some c
 cab:∀x c,X.fn x=true->X.env.cells.lookup x=some c->X.s₀.heap.objs.size<=c
 hd:X.calm=true->X.A.handled=none
 frames:X.A.frames=some X.stack
 stk:X.stack=X.outer∨(X.stack=X.env::X.outer/\X.env.frame=some X.env.locals)
 exf:∀b∈X.ex,b≠X.env.locals/\∀x c,X.env.cells.lookup x=some c->c≠b
 bs:∀b o,X.base.get? b=some o->X.s₀.heap.get? b=some o/\X.H₀ b=none
 bsz:X.base.objs.size<=X.s₀.heap.objs.size
 noex:∀b o,X.base.get? b=some o->b∉X.ex
 exfs:∀b∈X.ex,b∉X.fs
 funs:X.s₀.heap.FunFrames X.base X.outer
 frf:∀b∈X.fs,X.H₀ b=none
structure Inv (X:Cx)(pins:List (Addr×Obj))(σ:List (Option V))(H:Hp)(s:Shared):Prop where
 ok:X.Ok
 os:s.os=X.s₀.os
 bare:AllBare s.gens
 base:Un X.fs X.ex X.H₀ H X.s₀.heap s.heap
 loc:∃m,s.heap.Ns X.env.locals m/\∀(i:Nat) (x:Str) (v:V),X.N[i]? =some x->σ[i]? =some (some v)->Vis X.env.scope x->∃u,RelV v u/\P5 X.env s.heap m x u
 cell:∀x c,X.env.cells.lookup x=some c->∃v,s.heap.IsCell c v
 free:H X.env.locals=none
 freeC:∀x c,X.env.cells.lookup x=some c->H c=none
 pin:∀p∈X.pn++pins,s.heap.get? p.1=some p.2/\H p.1=none/\p.1≠X.env.locals/\p.1∉X.fs/\∀v,p.2.data≠ .cell v
 hok:HOk X.prog X.w H s.heap
 len:σ.length=X.N.length
section
variable {X:Cx}{pins:List (Addr×Obj)}{σ:List (Option V)}{H H':Hp}{s:Shared}{h':Heap}
theorem Cx.Ok.nofr (ok:X.Ok){b:Addr}{o:Obj} (e:X.base.get? b=some o):b∉X.fs:=fun hb=>by
 have:=(ok.funs.mem hb).1;rw[e]at this;cases this
theorem Inv.bs (I:Inv X pins σ H s):∀b o,X.base.get? b=some o->s.heap.get? b=some o/\H b=none:=fun b o e =>
 ⟨I.base.keep b o (I.ok.bs b o e).1 (I.ok.bs b o e).2 (I.ok.nofr e) (I.ok.noex b o e),I.base.free b o (I.ok.bs b o e).1 (I.ok.bs b o e).2 (I.ok.noex b o e)⟩
theorem Inv.bk (I:Inv X pins σ H s):∀b o,X.base.get? b=some o->s.heap.get? b=some o:=fun b o e=>(I.bs b o e).1
theorem Inv.mod (I:Inv X pins σ H s):Mod X.K X.mg X.base:=I.ok.mod
theorem Inv.kIn (I:Inv X pins σ H s):X.K.In s.heap:=I.ok.mod.kin.keeps I.bk
theorem Inv.lt (I:Inv X pins σ H s):X.env.locals<s.heap.objs.size:=let ⟨_,hn,_⟩:=I.loc;hn.lt
theorem Inv.sz (I:Inv X pins σ H s):X.s₀.heap.objs.size<=s.heap.objs.size:=Nat.le_trans I.ok.above (Nat.le_of_lt I.lt)
theorem Inv.nofs (I:Inv X pins σ H s){a:Addr}(h:s.heap.objs.size<=a):a∉X.fs:=fun hb=>by
 obtain⟨_,o,ho,_⟩:=I.ok.funs.mem hb;exact absurd (Nat.lt_of_lt_of_le (Heap.lt_size ho) (Nat.le_trans I.sz h)) (Nat.lt_irrefl _)
theorem Inv.cne (I:Inv X pins σ H s):∀x c,X.env.cells.lookup x=some c->c≠X.env.locals:=fun x c e z=>by
 obtain⟨v,o,ho,hd⟩:=I.cell x c e;obtain⟨m,⟨o',es,ep,ho',hd',_⟩,_⟩:=I.loc;rw[z,ho']at ho;cases ho;rw[hd']at hd;cases hd
theorem Inv.funs (I:Inv X pins σ H s):s.heap.FunFrames X.base X.outer:=by
 have all:∀(l:List Env),(∀b∈frs l,b∈X.fs)->X.s₀.heap.FunFrames X.base l->s.heap.FunFrames X.base l:=by
  intro l
  induction l with
  | nil=>intro _ _;trivial
  | cons env r ih =>
   intro hs hl;obtain⟨hk,⟨L,o,hf,hn,ho,hd⟩,hr⟩:=hl;have hL:L∈X.fs:=hs L (by unfold frs;rw[List.filterMap_cons,hf];exact List.mem_cons_self);obtain⟨sl,e⟩:=I.base.slot L o ho (I.ok.frf L hL) hL fun z=>I.ok.exfs L z hL;exact⟨hk,⟨L,_,hf,hn,e,hd⟩,ih (fun b hb=>hs b (by unfold frs;rw[List.filterMap_cons,hf];exact List.mem_cons_of_mem _ hb)) hr⟩
 exact all X.outer (fun _ hb=>hb) I.ok.funs
theorem Inv.stack (I:Inv X pins σ H s):s.heap.FunFrames X.base X.stack:=by
 rcases I.ok.stk with e|⟨e,hf⟩
 ·rw[e];exact I.funs
 ·rw[e];obtain⟨m,hn,_⟩:=I.loc;refine .cons (by rw[I.ok.kind];decide) hf hn ?_ I.funs;exact Heap.get?_none_of_le (Nat.le_trans I.ok.bsz I.ok.above)
theorem Inv.stkSub (I:Inv X pins σ H s):∀b∈frs X.stack,b∈X.env.locals::X.fs:=fun b hb=>by
 rcases I.ok.stk with e|⟨e,hf⟩
 ·rw[e]at hb;exact List.mem_cons_of_mem _ hb
 ·rw[e]at hb;unfold frs at hb;rw[List.filterMap_cons,hf]at hb;exact hb
theorem Inv.stkFree (I:Inv X pins σ H s):∀b∈frs X.stack,H b=none:=fun b hb=>by
 rcases List.mem_cons.mp (I.stkSub b hb) with e|hb
 ·rw[e];exact I.free
 ·obtain⟨_,o,ho,_⟩:=I.ok.funs.mem hb;exact I.base.free b o ho (I.ok.frf b hb) fun z=>I.ok.exfs b z hb
theorem Inv.step {g':Array GenState}{t':Nat}{d':Drawn}{ch:List Addr} (I:Inv X pins σ H s)
  (hch:∀b∈ch,(b∈X.ex∨X.s₀.heap.objs.size<=b)/\b≠X.env.locals/\(∀x c,X.env.cells.lookup x=some c->c≠b)/\∀p∈X.pn++pins,p.1≠b)
  (keep:∀b o,b≠X.env.locals->b∉X.fs->b∉ch->s.heap.get? b=some o->H b=none->h'.get? b=some o)
  (slot:∀b o,b≠X.env.locals->b∈X.fs->b∉ch->s.heap.get? b=some o->H b=none->∃sl,h'.get? b=some { o with slots:=sl })(free:∀b o,b∉ch->s.heap.get? b=some o->H b=none->H' b=none)
  (there:∀b o,b∉ch->s.heap.get? b=some o->∃o',h'.get? b=some o')
  (tups:∀b xs,H b=some (.tup xs)->H' b=some (.tup xs))(frzs:∀b o u,H b=some (.frz o u)->H' b=some (.frz o u))(tbls:∀b ps,H b=some (.tbl ps)->∃more,H' b=some (.tbl (ps++more)))
  (ns:∀m,s.heap.Ns X.env.locals m->h'.Ns X.env.locals m)(hok:HOk X.prog X.w H' h')(hg:AllBare g') :
  Inv X pins σ H' { s with heap:=h',gens:=g',drawn:=d',toks:=t' }:=by
 have neL:∀b o,X.s₀.heap.get? b=some o->b≠X.env.locals:=fun b o e=>Nat.ne_of_lt (Nat.lt_of_lt_of_le (Heap.lt_size e) I.ok.above);have neC:∀b o,X.s₀.heap.get? b=some o->b∉X.ex->b∉ch:=fun b o e hx hb=>by
  rcases (hch b hb).1 with z|z
  ·exact hx z
  ·exact absurd (Nat.lt_of_lt_of_le (Heap.lt_size e) z) (Nat.lt_irrefl _)
 have cellK:∀x c,X.env.cells.lookup x=some c->∀v,s.heap.IsCell c v->h'.IsCell c v:=fun x c e v ⟨o,ho,hd⟩=>by
  have nch:c∉ch:=fun z=>(hch c z).2.2.1 x c e rfl
  by_cases hc:c∈X.fs
  ·obtain⟨sl,q⟩:=slot c o (I.cne x c e) hc nch ho (I.freeC x c e);exact⟨_,q,hd⟩
  ·exact⟨o,keep c o (I.cne x c e) hc nch ho (I.freeC x c e),hd⟩
 refine⟨I.ok,I.os,hg,⟨fun b o e n hb hx=> ?_,fun b o e n hb hx=> ?_,fun b o e n hx=> ?_,fun b o e hx=> ?_,fun b xs e=>tups b xs (I.base.tups b xs e),fun b o xs e=>frzs b o xs (I.base.frzs b o xs e),fun b ps e=> ?_⟩,?_,fun x c e=> ?_,?_,fun x c e=> ?_,fun p hp=> ?_,hok,I.len⟩
 ·exact keep b o (neL b o e) hb (neC b o e hx) (I.base.keep b o e n hb hx) (I.base.free b o e n hx)
 ·obtain⟨sl,e1⟩:=I.base.slot b o e n hb hx;obtain⟨sl',e2⟩:=slot b _ (neL b o e) hb (neC b o e hx) e1 (I.base.free b o e n hx);exact⟨sl',e2⟩
 ·obtain⟨o',e1⟩:=I.base.there b o e hx;exact free b o' (neC b o e hx) e1 (I.base.free b o e n hx)
 ·obtain⟨o',e1⟩:=I.base.there b o e hx;exact there b o' (neC b o e hx) e1
 ·obtain⟨m1,e1⟩:=I.base.tbls b ps e;obtain⟨m2,e2⟩:=tbls b _ e1;exact⟨m1++m2,by rw[e2,Array.append_assoc]⟩
 ·obtain⟨m,hn,hl⟩:=I.loc;refine⟨m,ns m hn,fun i x v e1 e2 e3=> ?_⟩;obtain⟨u,r,l⟩:=hl i x v e1 e2 e3;refine⟨u,r,?_⟩;rcases l with l|⟨k,c,e,z⟩
  ·exact .inl l
  ·exact .inr ⟨k,c,e,cellK x c e _ z⟩
 ·obtain⟨v,z⟩:=I.cell x c e;exact⟨v,cellK x c e v z⟩
 ·obtain⟨m,⟨o,_,_,ho,_⟩,_⟩:=I.loc;exact free _ o (fun z=>(hch _ z).2.1 rfl) ho I.free
 ·obtain⟨v,o,ho,hd⟩:=I.cell x c e;exact free c o (fun z=>(hch c z).2.2.1 x c e rfl) ho (I.freeC x c e)
 ·obtain⟨e,n,ne,nf,d⟩:=I.pin p hp;have nch:p.1∉ch:=fun z=>(hch p.1 z).2.2.2 p hp rfl;exact⟨keep p.1 p.2 ne nf nch e n,free p.1 p.2 nch e n,ne,nf,d⟩
theorem Inv.un {t':Nat}(I:Inv X pins σ H s)(u:Un X.fs [] H H' s.heap h')(hok:HOk X.prog X.w H' h'):Inv X pins σ H' { s with heap:=h',toks:=t' }:=by
 obtain⟨m,⟨o,es,ep,ho,r⟩,_⟩:=id I.loc;obtain⟨sl,hL⟩:=u.any ho I.free (by simp);exact I.step (g':=s.gens) (d':=s.drawn) (ch:=[]) (fun _ z=>nomatch z) (fun b o _ hb _ e n=>u.keep b o e n hb (by simp)) (fun b o _ hb _ e n=>u.slot b o e n hb (by simp)) (fun b o _ e n=>u.free b o e n (by simp)) (fun b o _ e=>u.there b o e (by simp)) u.tups u.frzs u.tbls (fun m' hm=>by
  obtain⟨o',es',ep',ho',r'⟩:=hm;rw[ho]at ho';cases ho';exact⟨_,es',ep',hL,r'⟩) hok I.bare
theorem Inv.call {g':Array GenState}{t':Nat}{d':Drawn}{ch:List Addr} (I:Inv X pins σ H s) (u:Un (frs X.stack) ch H H' s.heap h') (hok:HOk X.prog X.w H' h') (hg:AllBare g')
  (hch:∀b∈ch,(b∈X.ex∨X.s₀.heap.objs.size<=b)/\b≠X.env.locals/\(∀x c,X.env.cells.lookup x=some c->c≠b)/\∀p∈X.pn++pins,p.1≠b) :
  Inv X pins σ H' { s with heap:=h',gens:=g',drawn:=d',toks:=t' }:=by
 obtain⟨m,⟨o,es,ep,ho,r⟩,_⟩:=id I.loc;obtain⟨sl,hL⟩:=u.any ho I.free fun z=>(hch _ z).2.1 rfl;exact I.step (ch:=ch) hch (fun b o hL hb hc e n=>u.keep b o e n (fun z=>(List.mem_cons.mp (I.stkSub b z)).elim hL hb) hc) (fun b o _ _ hc e n=>u.any e n hc) (fun b o hc e n=>u.free b o e n hc) (fun b o hc e=>u.there b o e hc) u.tups u.frzs u.tbls (fun m' hm=>by
  obtain⟨o',es',ep',ho',r'⟩:=hm;rw[ho]at ho';cases ho';exact⟨_,es',ep',hL,r'⟩) hok hg
theorem Inv.turned {t':Nat}{it:Addr} (I:Inv X pins σ H s) (k:∀b o,b≠it->s.heap.get? b=some o->h'.get? b=some o) (hn:H it=none) (hL:it≠X.env.locals)
  (h1:it∈X.ex∨X.s₀.heap.objs.size<=it)(h2:∀x c,X.env.cells.lookup x=some c->c≠it)(h3:∀p∈X.pn++pins,p.1≠it):Inv X pins σ H { s with heap:=h',toks:=t' }:=by
 have nit:∀b u,H b=some u->b≠it:=fun b u e z=>by rw[z,hn]at e;cases e
 refine I.step (g':=s.gens) (d':=s.drawn) (ch:=[it]) (fun b hb=> ?_) (fun b o _ _ hc e _=>k b o (fun z=>hc (by simp[z])) e) (fun b o _ _ hc e _=>⟨o.slots,k b o (fun z=>hc (by simp[z])) e⟩) (fun _ _ _ _ n=>n)
  (fun b o hc e=>⟨o,k b o (fun z=>hc (by simp[z])) e⟩) (fun _ _ e=>e) (fun _ _ _ e=>e) (fun b ps e=>⟨#[],by rw[e];simp⟩) (fun m hm=> ?_) (fun b u e=> ?_) I.bare
 ·have e:b=it:=by simpa using hb
  subst e;exact⟨h1,hL,h2,h3⟩
 ·obtain⟨o,es,ep,ho,r⟩:=hm;exact⟨o,es,ep,k _ o (Ne.symm hL) ho,r⟩
 ·refine(I.hok b u e).stay (fun c v hc q=>k c v ?_ q) (fun _ q=>q) fun _ _ q=>q;rcases hc with z|z
  ·rw[z];exact nit b u e
  ·exact nit c _ z
theorem Inv.tok (I:Inv X pins σ H s)(t:Nat):Inv X pins σ H { s with toks:=t }:=I.un (h':=s.heap) (t':=t) Un.refl I.hok
theorem Inv.kept {t':Nat}(I:Inv X pins σ H s)(k:∀b u,s.heap.get? b=some u->h'.get? b=some u):Inv X pins σ H { s with heap:=h',toks:=t' }:=I.un (Un.kept k) (I.hok.kept k)
theorem Inv.laid {a:Addr}{o:HO}{t':Nat} (I:Inv X pins σ H s) (k:∀b u,s.heap.get? b=some u->h'.get? b=some u) (hp:s.heap.objs.size<=a) (new:ObjOk X.prog X.w (upd H a o) h' a o) :
  Inv X pins σ (upd H a o) { s with heap:=h',toks:=t' }:=I.un (Un.laid k hp (I.hok.fresh hp)) (I.hok.laid k hp new)
theorem Inv.write {x e:Addr}{o:HO}{t':Nat} (I:Inv X pins σ H s) (mu:Mut (H x)) (he:e=x∨H e=some (.own x)) (k:∀b u,b≠e->s.heap.get? b=some u->h'.get? b=some u) (heo:∃u,h'.get? e=some u)
  (new:ObjOk X.prog X.w (upd H x o) h' x o):Inv X pins σ (upd H x o) { s with heap:=h',toks:=t' }:=I.un (Un.write mu he k heo) (I.hok.write mu he k heo new)
theorem Inv.weak {σ':List (Option V)}(I:Inv X pins σ H s)(hl:σ'.length=σ.length)(w:∀(i:Nat) v,σ'[i]? =some (some v)->σ[i]? =some (some v)):Inv X pins σ' H s :=
 ⟨I.ok,I.os,I.bare,I.base,let ⟨m,hn,hl'⟩:=I.loc;⟨m,hn,fun i x v e1 e2 e3=>hl' i x v e1 (w i v e2) e3⟩,I.cell,I.free,I.freeC,I.pin,I.hok,hl.trans I.len⟩
theorem Inv.pins_of {pins':List (Addr×Obj)}(I:Inv X pins σ H s)(h:∀p∈pins',s.heap.get? p.1=some p.2/\H p.1=none/\p.1≠X.env.locals/\p.1∉X.fs/\∀v,p.2.data≠ .cell v):Inv X pins' σ H s :=
 ⟨I.ok,I.os,I.bare,I.base,I.loc,I.cell,I.free,I.freeC,fun p hp=>(List.mem_append.mp hp).elim (fun z=>I.pin p (List.mem_append_left _ z)) (h p),I.hok,I.len⟩
theorem pH {N:List Str}(hN:N.Nodup){i j:Nat}{x:Str} (a:N[i]? =some x) (b:N[j]? =some x):i=j:=by
 obtain⟨h1,e1⟩:=List.getElem?_eq_some_iff.mp a;obtain⟨h2,e2⟩:=List.getElem?_eq_some_iff.mp b;exact(List.getElem_inj hN).mp (e1.trans e2.symm)
theorem B0 {M:Model}{A:Around}{E:Value->Shared->Prop}{i:Nat}{x:Str}{v:V}{u:Value}{Q:Unit->Shared->Prop} (I:Inv X pins σ H s) (hN:X.N.Nodup) (hi:X.N[i]? =some x) (hx:Loc X.env.scope x) (r:RelV v u)
  (h:∀s',Inv X pins (σ.set i (some v)) H s'->(∃a,Heap.SameBut a s.heap s'.heap/\(a=X.env.locals∨X.env.cells.lookup x=some a))->Q () s')(hf:X.fn x=true∨X.env.scope.names.lookup x=some .local:=by first|exact .inl rfl|exact .inr rfl|assumption):wpAny M A (storeName X.env x u) Q E s:=by
 obtain⟨m,hn,hl⟩:=id I.loc;have hcls:(X.env.scope.kind== .class||(X.env.scope.kind== .module&&X.env.locals !=X.env.globals))=false:=by rw[I.ok.kind];rfl
 have hiσ:i<σ.length:=by rw[I.len];exact(List.getElem?_eq_some_iff.mp hi).1
 have cne:=I.cne;have tracked:∀{a:Addr}{h':Heap},(∃o,s.heap.get? a=some o/\H a=none)->Heap.SameBut a s.heap h'->HOk X.prog X.w H h':=fun {a h'} ha hs b ob e=>by
  obtain⟨_,_,hfree⟩:=ha;refine(I.hok b ob e).stay (fun c w' hc q=>(hs.2 c ?_).trans q) (fun _ q=>q) fun _ _ q=>q;rintro rfl;rcases hc with rfl|hc
  ·rw[hfree]at e;cases e
  ·rw[hfree]at hc;cases hc
 rcases hx with hk|hk
 ·refine wpAny_storeName_local hk hn (fun h' hn' hs=> ?_) hcls;obtain⟨oL,_,_,hoL,_⟩:=id hn;refine h _ ⟨I.ok,I.os,I.bare,⟨fun b o e n hb hx=> ?_,fun b o e n hb hx=> ?_,I.base.free,fun b o e hx=> ?_,I.base.tups,I.base.frzs,I.base.tbls⟩,⟨_,hn',fun j y v' e1 e2 e3=> ?_⟩,fun y c e=> ?_,I.free,I.freeC,fun p hp=> ?_,tracked ⟨oL,hoL,I.free⟩ hs,by simpa using I.len⟩ ⟨_,hs,.inl rfl⟩
  ·exact(hs.2 b (Nat.ne_of_lt (Nat.lt_of_lt_of_le (Heap.lt_size e) I.ok.above))).trans (I.base.keep b o e n hb hx)
  ·obtain⟨sl,e1⟩:=I.base.slot b o e n hb hx;exact⟨sl,(hs.2 b (Nat.ne_of_lt (Nat.lt_of_lt_of_le (Heap.lt_size e) I.ok.above))).trans e1⟩
  ·obtain⟨o',e1⟩:=I.base.there b o e hx;exact⟨o',(hs.2 b (Nat.ne_of_lt (Nat.lt_of_lt_of_le (Heap.lt_size e) I.ok.above))).trans e1⟩
  ·by_cases hj:j=i
   ·subst hj;rw[hi]at e1;cases e1;rw[List.getElem?_set_self hiσ]at e2;cases e2;exact⟨u,r,.inl ⟨hk,by simp⟩⟩
   ·rw[List.getElem?_set_ne (Ne.symm hj)]at e2;obtain⟨u',r',q⟩:=hl j y v' e1 e2 e3;refine⟨u',r',?_⟩;rcases q with⟨k,e⟩|⟨k,c,e,z⟩
    ·refine .inl ⟨k,?_⟩;have:y≠x:=fun e=>hj (pH hN e1 (e▸hi));simp[this,e]
    ·exact .inr ⟨k,c,e,z.sameBut hs (cne y c e)⟩
  ·obtain⟨w',z⟩:=I.cell y c e;exact⟨w',z.sameBut hs (cne y c e)⟩
  ·obtain⟨e,n,ne,nf,d⟩:=I.pin p hp;exact⟨(hs.2 p.1 ne).trans e,n,ne,nf,d⟩
 ·have hfn:X.fn x=true:=by
   rcases hf with z|z
   ·exact z
   ·rw[z]at hk;cases hk
  obtain⟨c,hc⟩:=I.ok.has x (.inl hk);obtain⟨w',z⟩:=I.cell x c hc;refine wpAny_storeName_cell I.ok.kind hk hc z (fun h' hc' hs=> ?_);obtain⟨oc,hoc,hocd⟩:=id z;refine h { s with heap:=h' } ⟨I.ok,I.os,I.bare,⟨fun b o e n hb hx=> ?_,fun b o e n hb hx=> ?_,I.base.free,fun b o e hx=> ?_,I.base.tups,I.base.frzs,I.base.tbls⟩,⟨m,hn.sameBut hs (Ne.symm (cne x c hc)),fun j y v' e1 e2 e3=> ?_⟩,fun y c' e=> ?_,I.free,I.freeC,fun p hp=> ?_,tracked ⟨oc,hoc,I.freeC x c hc⟩ hs,by simpa using I.len⟩ ⟨c,hs,.inr hc⟩
  ·exact(hs.2 b (Nat.ne_of_lt (Nat.lt_of_lt_of_le (Heap.lt_size e) (I.ok.cab x c hfn hc)))).trans (I.base.keep b o e n hb hx)
  ·obtain⟨sl,e1⟩:=I.base.slot b o e n hb hx;exact⟨sl,(hs.2 b (Nat.ne_of_lt (Nat.lt_of_lt_of_le (Heap.lt_size e) (I.ok.cab x c hfn hc)))).trans e1⟩
  ·obtain⟨o',e1⟩:=I.base.there b o e hx;exact⟨o',(hs.2 b (Nat.ne_of_lt (Nat.lt_of_lt_of_le (Heap.lt_size e) (I.ok.cab x c hfn hc)))).trans e1⟩
  ·by_cases hj:j=i
   ·subst hj;rw[hi]at e1;cases e1;rw[List.getElem?_set_self hiσ]at e2;cases e2;exact⟨u,r,.inr ⟨.inl hk,c,hc,hc'⟩⟩
   ·rw[List.getElem?_set_ne (Ne.symm hj)]at e2;obtain⟨u',r',q⟩:=hl j y v' e1 e2 e3;refine⟨u',r',?_⟩;rcases q with q|⟨k,c',e,z'⟩
    ·exact .inl q
    ·refine .inr ⟨k,c',e,z'.sameBut hs ?_⟩;rintro rfl;exact hj (pH hN e1 (I.ok.inj _ _ _ e hc▸hi))
  ·by_cases hcc:c'=c
   ·subst hcc;exact⟨_,hc'⟩
   ·obtain⟨w2,z2⟩:=I.cell y c' e;exact⟨w2,z2.sameBut hs hcc⟩
  ·obtain⟨e,n,ne,nf,d⟩:=I.pin p hp;refine⟨(hs.2 p.1 ?_).trans e,n,ne,nf,d⟩;intro q;rw[q,hoc]at e;have q':oc=p.2:=Option.some.inj e;exact d w' (by rw[←q'];exact hocd)
theorem oW {M:Model}{A:Around}{E:Value->Shared->Prop}{i:Nat}{x:Str}{v:V}{u:Value}{Q:Unit->Shared->Prop} (I:Inv X pins σ H s) (hN:X.N.Nodup) (hi:X.N[i]? =some x) (hx:Loc X.env.scope x) (r:RelV v u)
  (h:∀s',Inv X pins (σ.set i (some v)) H s'->Q () s')(hf:X.fn x=true∨X.env.scope.names.lookup x=some .local:=by first|exact .inl rfl|exact .inr rfl|assumption):wpAny M A (storeName X.env x u) Q E s :=
 B0 I hN hi hx r (fun s' I' _=>h s' I') hf
theorem Inv.call' {s':Shared}{ch:List Addr} (I:Inv X pins σ H s) (ho:s'.os=s.os) (u:Un (frs X.stack) ch H H' s.heap s'.heap) (hok:HOk X.prog X.w H' s'.heap) (hg:AllBare s'.gens)
  (hch:∀b∈ch,(b∈X.ex∨X.s₀.heap.objs.size<=b)/\b≠X.env.locals/\(∀x c,X.env.cells.lookup x=some c->c≠b)/\∀p∈X.pn++pins,p.1≠b):Inv X pins σ H' s':=by
 obtain⟨h',g',d',t',o'⟩:=s';have e:o'=s.os:=ho;subst e;exact I.call (g':=g') (t':=t') (d':=d') u hok hg hch
end
abbrev XK:=Value->Option Addr->Hp->Prop
abbrev St:=List (Option V)
abbrev VK:=V->Hp->Prop
abbrev TE:=St->Hp->VK->Prop
abbrev TT:=St->Hp->(Bool->Hp->Prop)->Prop
abbrev TA:=St->Hp->(List V->Hp->Prop)->Prop
structure fG where
 nx:St->Hp->Prop
 rt:VK
 bk:St->Hp->Prop:=fun _ _=>False
 ct:St->Hp->Prop:=fun _ _=>False
abbrev TS:=fG->St->Hp->Prop
def EP (X:Cx)(pins:List (Addr×Obj))(σ:St)(Q:VK)(u:Value)(s':Shared):Prop:=∃v H',Inv X pins σ H' s'/\RelV v u/\Q v H'
def TP (X:Cx)(pins:List (Addr×Obj))(σ:St)(Q:Bool->Hp->Prop)(b:Bool)(s':Shared):Prop:=∃H',Inv X pins σ H' s'/\Q b H'
def AP (X:Cx)(pins:List (Addr×Obj))(σ:St)(Q:List V->Hp->Prop)(us:List Value)(s':Shared):Prop:=∃vs H',Inv X pins σ H' s'/\Vals vs us/\Q vs H'
def SP (X:Cx)(pins:List (Addr×Obj))(D:fG)(f:Flow)(s':Shared):Prop :=
 match f with
 | .next=>∃σ' H',Inv X pins σ' H' s'/\D.nx σ' H'
 | .brk=>∃σ' H',Inv X pins σ' H' s'/\D.bk σ' H'
 | .cont=>∃σ' H',Inv X pins σ' H' s'/\D.ct σ' H'
 | .ret u=>∃v σ' H',Inv X pins σ' H' s'/\RelV v u/\D.rt v H'
def PE (X:Cx)(e:Expr)(t:TE):Prop :=
 ∀(pins:List (Addr×Obj)) (s:Shared) (σ:St) (H:Hp) (Q:VK),Inv X pins σ H s->t σ H Q->wpAny (model X.prog X.w) X.A (eval e X.env) (EP X pins σ Q) X.xe s
def PT (X:Cx)(e:Expr)(t:TT):Prop :=
 ∀(pins:List (Addr×Obj)) (s:Shared) (σ:St) (H:Hp) (Q:Bool->Hp->Prop),Inv X pins σ H s->t σ H Q->wpAny (model X.prog X.w) X.A (isTrue e X.env (eval e X.env)) (TP X pins σ Q) X.xe s
def PW (X:Cx)(e:Expr)(t:TT):Prop :=
 ∀(whole:Sem Value) (pins:List (Addr×Obj)) (s:Shared) (σ:St) (H:Hp) (Q:Bool->Hp->Prop),Inv X pins σ H s->t σ H Q->wpAny (model X.prog X.w) X.A (isTrue e X.env whole) (TP X pins σ Q) X.xe s
theorem PW.pt {X:Cx}{e:Expr}{t:TT} (h:PW X e t):PT X e t:=h _
def PA (X:Cx)(es:List Expr)(t:TA):Prop :=
 ∀(pos:Pos) (pins:List (Addr×Obj)) (s:Shared) (σ:St) (H:Hp) (Q:List V->Hp->Prop),Inv X pins σ H s->t σ H Q->wpAny (model X.prog X.w) X.A (spliced (backTo pos (starEach es X.env))) (AP X pins σ Q) X.xe s
def PS (X:Cx)(st:Stmt)(t:TS):Prop :=
 ∀(pins:List (Addr×Obj)) (s:Shared) (σ:St) (H:Hp) (D:fG),Inv X pins σ H s->t D σ H->wpAny (model X.prog X.w) X.A (exec st X.env) (SP X pins D) X.xe s
def PSs (X:Cx)(st:List Stmt)(t:TS):Prop :=
 ∀(pins:List (Addr×Obj)) (s:Shared) (σ:St) (H:Hp) (D:fG),Inv X pins σ H s->t D σ H->wpAny (model X.prog X.w) X.A (execs st X.env) (SP X pins D) X.xe s
theorem thn {α:Type}{t:Sem α}{Q Q':α->Shared->Prop}{M:Model}{A:Around}{E:Value->Shared->Prop}{s:Shared} (h:wpAny M A t Q E s) (hQ:∀a s,Q a s->Q' a s):wpAny M A t Q' E s:=wpAny_mono h hQ fun _ _ x=>x
end L2
namespace L2
open PySem PySem.Spec PyProof.Rows
section
variable {X:Cx}
def fR (i:Nat):TE:=fun σ H Q=>∃v,σ[i]? =some (some v)/\Q v H
def tC (v:V):TE:=fun _ H Q=>Q v H
theorem K5 {i:Nat}{x:Str}{pos:Pos} (hN:X.N[i]? =some x) (hv:Vis X.env.scope x) (hd:(x==("__debug__" :Str))=false:=by decide) (hcd:(x==("__classdict__" :Str))=false:=by decide):PE X (.Name x pos) (fR i):=by
 intro pins s σ H Q I h;obtain⟨v,e,h⟩:=h;obtain⟨m,hn,hl⟩:=I.loc;obtain⟨u,r,l⟩:=hl i x v hN e hv;have fin:EP X pins σ Q u s:=⟨v,H,I,r,h⟩
 rcases l with⟨hk,hm⟩|⟨hk,c,hc,hcell⟩
 ·exact wpAny_Name (wpAny_loadName_local I.ok.kind hk hn hm fin) hd
 ·rcases hk with hk|hk
  ·exact wpAny_Name (wpAny_loadName_cell I.ok.kind hk hc hcell fin) hd
  ·exact wpAny_Name (wpAny_loadName_free I.ok.kind hk hc hcell fin hcd) hd
theorem aD {i j pos}:PE X (.Constant (.int i) j pos) (tC (.int i)):=fun _ _ _ H _ I h=>wpAny_Constant_int ⟨.int i,H,I.tok _,⟨_,rfl⟩,h⟩
theorem qH {b j pos}:PE X (.Constant (.bool b) j pos) (tC (.bl b)):=fun _ _ _ H _ I h=>Constant_bool ⟨.bl b,H,I,rfl,h⟩
theorem fO {j pos}:PE X (.Constant .none j pos) (tC .non):=fun _ _ _ H _ I h=>Constant_none ⟨.non,H,I,rfl,h⟩
theorem bA {x j pos}:PE X (.Constant (.str x) j pos) (tC (.str x)):=fun _ _ _ H _ I h=>Calls.Constant_str ⟨.str x,H,I.tok _,⟨_,rfl⟩,h⟩
def Gl (X:Cx)(x:Str):Prop:=X.env.kindOf x=some .globalImplicit
theorem g7 {E:Value->Shared->Prop}{pins:List (Addr×Obj)}{s:Shared}{σ:St}{H:Hp}{x:Str}{u:Value}{pos:Pos}{Q:Value->Shared->Prop} (I:Inv X pins σ H s) (hg:Gl X x) (hm:X.mg x=some u) (h:Q u s)
  (hd:(x==("__debug__" :Str))=false:=by decide):wpAny (model X.prog X.w) X.A (eval (.Name x pos) X.env) Q E s :=
 Calls.Name_function_global I.ok.kind hg (Calls.loadGlobal_global (by rw[I.ok.glob];exact I.mod.glob.keeps I.bk) hm h) hd
theorem qD {E:Value->Shared->Prop}{pins:List (Addr×Obj)}{s:Shared}{σ:St}{H:Hp}{x:Str}{u:Value}{pos:Pos}{Q:Value->Shared->Prop} (I:Inv X pins σ H s) (hg:Gl X x) (hm:X.mg x=none) (hv:bootBuiltins x=some u) (h:Q u s)
  (hn:x≠ "__name__" :=by decide)(hd:(x==("__debug__" :Str))=false:=by decide):wpAny (model X.prog X.w) X.A (eval (.Name x pos) X.env) Q E s:=by
 obtain⟨mb,h1,h2⟩:=I.mod.blt;exact Calls.Name_function_global I.ok.kind hg (Calls.loadGlobal_builtin (by rw[I.ok.glob];exact I.mod.glob.keeps I.bk) hm (by rw[I.ok.blt];exact h1.keeps I.bk) ((h2 x hn).trans hv) h) hd
theorem xZ {x:Str}{v:V}{u:Value}{pos:Pos} (hg:Gl X x) (hm:X.mg x=some u) (r:RelV v u) (hd:(x==("__debug__" :Str))=false:=by decide):PE X (.Name x pos) (tC v) :=
 fun _ _ _ H _ I h=>g7 I hg hm ⟨v,H,I,r,h⟩ hd
theorem JA {x:Str}{v:V}{u:Value}{pos:Pos} (hg:Gl X x) (hm:X.mg x=none) (hv:bootBuiltins x=some u) (r:RelV v u) (hn:x≠ "__name__" :=by decide) (hd:(x==("__debug__" :Str))=false:=by decide):PE X (.Name x pos) (tC v) :=
 fun _ _ _ H _ I h=>qD I hg hm hv ⟨v,H,I,r,h⟩ hn hd
variable {a b:Expr}{ta tb:TE}{pos:Pos}
def PC (X:Cx)(op:CmpOp)(a b:Expr)(t:TE):Prop :=
 ∀(pins:List (Addr×Obj)) (s:Shared) (σ:St) (H:Hp) (Q:VK),Inv X pins σ H s->t σ H Q →
  wpAny (model X.prog X.w) X.A (eval a X.env) (fun v s₁=>wpAny (model X.prog X.w) X.A (eval b X.env) (fun u s₂=>wpAny (model X.prog X.w) X.A (compareOp op v u) (EP X pins σ Q) X.xe s₂) X.xe s₁) X.xe s
def tB (t:TE):TT:=fun σ H Q=>t σ H fun x H1=>∃c,x= .bl c/\Q c H1
theorem CO {op:CmpOp}{t:TE} (h:PC X op a b t) (h1:behindInMarks op b=false:=by first|exact nobehind _ (by decide) (by decide)|rfl):PT X (.Compare a [op] [b] pos) (tB t):=by
 intro pins s σ H Q I hw;refine wpAny_isTrue_Compare1 (thn (h pins s σ H _ I hw) fun v s1 h1=>thn h1 fun u s2 h2=>thn h2 fun c s3 ⟨x,H1,I1,r1,q1⟩=> ?_) h1;obtain⟨d,rfl,q⟩:=q1;cases r1;exact wpAny_truthy_bool ⟨H1,I1,q⟩
theorem iJ {e:Expr}{t:TE} (h:PE X e t) (he:∀whole,isTrue e X.env whole=(do let v ←whole;standAt e.pos;holding [v] (truthy v)):=by intro _;rfl):PT X e (tB t):=by
 intro pins s σ H Q I hw;refine isTrue_plain (thn (h pins s σ H _ I hw) fun v s1 ⟨x,H1,I1,r1,q1⟩=> ?_) (he _);obtain⟨d,rfl,q⟩:=q1;cases r1;exact wpAny_truthy_bool ⟨H1,I1,q⟩
variable {tA tB':TT}{rest:List Expr}
def tOr (t u:TT):TT:=fun σ H Q=>t σ H fun c H1=>if c=true then Q true H1 else u σ H1 Q
def L4 (t:TT):TT:=fun σ H Q=>t σ H fun c H1=>Q (!c) H1
theorem CW (ha:PT X a tA):PW X (.BoolOp .Or [a] pos) tA:=by
 intro wh pins s σ H Q I h;refine isTrue_or (thn (ha pins s σ H Q I h) fun c s1 e=> ?_);cases c with
 | false=>exact isTrue_or_nil e
 | true=>exact e
theorem GC (ha:PT X a tA)(hb:PW X (.BoolOp .Or (b::rest) pos) tB'):PW X (.BoolOp .Or (a::b::rest) pos) (tOr tA tB'):=by
 intro wh pins s σ H Q I h;refine isTrue_or (thn (ha pins s σ H _ I h) fun c s1 ⟨H1,I1,q1⟩=> ?_);cases c with
 | true=>exact⟨H1,I1,q1⟩
 | false=>exact hb wh pins s1 σ H1 Q I1 q1
theorem qZ (ha:PT X a tA):PT X (.UnaryOp .Not a pos) (L4 tA):=by
 intro pins s σ H Q I h;exact isTrue_not (ha pins s σ H (fun c H1=>Q (!c) H1) I h)
def OI (ta tb:TE):TE:=fun σ H Q=>ta σ H fun x H1=>∃c,x= .bl c/\if c=true then tb σ H1 Q else Q (.bl false) H1
def N9 (ta:TE):TE:=fun σ H Q=>ta σ H fun x H1=>∃c,x= .bl c/\Q (.bl (!c)) H1
theorem CI {op}{t:TE} (h:PE X a t):PE X (.BoolOp op [a] pos) t:=fun pins s σ H Q I hw=>BoolOp_one (h pins s σ H Q I hw)
theorem BG (ha:PE X a ta)(hb:PE X (.BoolOp .And (b::rest) pos) tb):PE X (.BoolOp .And (a::b::rest) pos) (OI ta tb):=by
 intro pins s σ H Q I h;refine BoolOp_and (thn (ha pins s σ H _ I h) fun v s1 ⟨x,H1,I1,r1,q1⟩=> ?_);obtain⟨c,rfl,q1⟩:=q1;cases r1;refine wpAny_truthy_bool ?_;cases c with
 | true=>exact hb pins s1 σ H1 Q I1 q1
 | false=>exact⟨.bl false,H1,I1,rfl,q1⟩
theorem LN (ha:PE X a ta):PE X (.UnaryOp .Not a pos) (N9 ta):=by
 intro pins s σ H Q I h;refine UnaryOp_ (thn (ha pins s σ H _ I h) fun v s1 ⟨x,H1,I1,r1,q1⟩=> ?_);obtain⟨c,rfl,q1⟩:=q1;cases r1;exact not_of (wpAny_truthy_bool ⟨.bl (!c),H1,I1,rfl,q1⟩)
end
end L2
namespace L2
open PySem PySem.Spec PyProof.Rows
def SqL (K:PySem.W.Frag)(H:Hp)(a:Addr)(xs:List V):Prop :=
 Rd H a (.lst xs) ∨
  ∃(o:Obj) (its:Array Value) (n:Nat),K.lookup a=some o/\o.cls= .type "list" /\o.dict=none/\o.data= .seq its n/\its.size<=sizeLine/\Vals xs its.toList
def SqT (K:PySem.W.Frag)(H:Hp)(a:Addr)(xs:List V):Prop :=
 Rd H a (.tup xs) ∨
  ∃(o:Obj) (its:Array Value) (n:Nat),K.lookup a=some o/\o.cls= .type "tuple" /\o.data= .seq its n/\its.size<=sizeLine/\Vals xs its.toList
def P3:Value->Option V
 | .none=>some .non
 | .bool b=>some (.bl b)
 | .int i _=>some (.int i)
 | .str x _=>some (.str x)
 | .bytes b _=>some (.byt b)
 | .float b _=>some (.flt b)
 | .ref a=>some (.ref a)
 | .type n=>some (.ty n)
 | _=>none
theorem RelV.abs {x:V}{u:Value} (r:RelV x u):P3 u=some x:=by
 cases x with
 | non=>cases r;rfl
 | bl _=>cases r;rfl
 | int _=>obtain⟨t,rfl⟩:=r;rfl
 | str _=>obtain⟨t,rfl⟩:=r;rfl
 | byt _=>obtain⟨t,rfl⟩:=r;rfl
 | flt _=>obtain⟨t,rfl⟩:=r;rfl
 | ref _=>cases r;rfl
 | ty _=>cases r;rfl
theorem RelV.inj {x y:V}{u:Value} (r:RelV x u) (q:RelV y u):x=y:=Option.some.inj (r.abs.symm.trans q.abs)
theorem Vals.inj:∀{xs ys:List V}{us:List Value},Vals xs us->Vals ys us->xs=ys
 | _,_,_,.nil,.nil=>rfl
 | _,_,_,.cons r t,.cons r' t'=>by rw[r.inj r',Vals.inj t t']
section
variable {X:Cx}{pins:List (Addr×Obj)}{σ:St}{H:Hp}{s:Shared}{a:Addr}{xs ys:List V}
theorem SqL.of {K:PySem.W.Frag}(h:H a=some (.lst xs)):SqL K H a xs:= .inl (.inl h)
theorem SqT.of {K:PySem.W.Frag}(h:H a=some (.tup xs)):SqT K H a xs:= .inl (.inl h)
theorem Inv.list (I:Inv X pins σ H s)(h:SqL X.K H a xs):∃its:List Value,Vals xs its/\PlainL s.heap a its.toArray/\xs.length<=sizeLine:=by
 rcases h with h|⟨o,its,n,hk,hc,hd,hs,hz,r⟩
 ·obtain⟨z,its,n,r,e⟩:=h.ok I.hok;exact⟨its,r,⟨_,n,e,rfl,rfl,rfl⟩,z⟩
 ·refine⟨its.toList,r,⟨o,n,I.kIn a o hk,hc,hd,by simpa using hs⟩,?_⟩;have e:=r.length;simp only[Array.length_toList]at e
  lia
theorem Inv.tuple (I:Inv X pins σ H s)(h:SqT X.K H a xs):∃its:List Value,Vals xs its/\IsTup s.heap a its.toArray/\xs.length<=sizeLine:=by
 rcases h with h|⟨o,its,n,hk,hc,hs,hz,r⟩
 ·obtain⟨z,its,r,p⟩:=h.ok I.hok;exact⟨its,r,p,z⟩
 ·refine⟨its.toList,r,⟨o,I.kIn a o hk,hc,n,by simpa using hs⟩,?_⟩;have e:=r.length;simp only[Array.length_toList]at e
  lia
theorem Inv.list_inj (I:Inv X pins σ H s)(h:SqL X.K H a xs)(h':SqL X.K H a ys):xs=ys:=by
 obtain⟨its,r,⟨o,n,e,_,_,d⟩,_⟩:=I.list h;obtain⟨its',r',⟨o',n',e',_,_,d'⟩,_⟩:=I.list h';rw[e]at e';cases e';rw[d]at d';injection d' with d1 _;have:its=its':=by simpa using congrArg Array.toList d1
 subst this;exact r.inj r'
end
abbrev Cx.wish (X:Cx)(E:Value->Shared->Prop):Cx:={ X with xe:=E }
abbrev Cx.nox (X:Cx):Cx:=X.wish fun _ _=>False
theorem Cx.Ok.wish {X:Cx}(ok:X.Ok)(E:Value->Shared->Prop):(X.wish E).Ok :=
 ⟨ok.mod,ok.kind,ok.glob,ok.blt,ok.above,ok.inj,ok.has,ok.cab,ok.hd,ok.frames,ok.stk,ok.exf,ok.bs,ok.bsz,ok.noex,ok.exfs,ok.funs,ok.frf⟩
theorem Cx.Ok.unwish {X:Cx}{E:Value->Shared->Prop} (ok:(X.wish E).Ok):X.Ok :=
 ⟨ok.mod,ok.kind,ok.glob,ok.blt,ok.above,ok.inj,ok.has,ok.cab,ok.hd,ok.frames,ok.stk,ok.exf,ok.bs,ok.bsz,ok.noex,ok.exfs,ok.funs,ok.frf⟩
section
variable {X:Cx}{pins:List (Addr×Obj)}{σ:St}{H:Hp}{s:Shared}{E:Value->Shared->Prop}
theorem Inv.wish (I:Inv X pins σ H s)(E:Value->Shared->Prop):Inv (X.wish E) pins σ H s:=⟨I.ok.wish E,I.os,I.bare,I.base,I.loc,I.cell,I.free,I.freeC,I.pin,I.hok,I.len⟩
theorem Inv.unwish (I:Inv (X.wish E) pins σ H s):Inv X pins σ H s:=⟨I.ok.unwish,I.os,I.bare,I.base,I.loc,I.cell,I.free,I.freeC,I.pin,I.hok,I.len⟩
theorem SP.unwish {D:fG}{f:Flow}{s':Shared} (h:SP (X.wish E) pins D f s'):SP X pins D f s':=by
 cases f with
 | next=>obtain⟨σ',H',I,q⟩:=h;exact⟨σ',H',I.unwish,q⟩
 | brk=>obtain⟨σ',H',I,q⟩:=h;exact⟨σ',H',I.unwish,q⟩
 | cont=>obtain⟨σ',H',I,q⟩:=h;exact⟨σ',H',I.unwish,q⟩
 | ret u=>obtain⟨v,σ',H',I,r,q⟩:=h;exact⟨v,σ',H',I.unwish,r,q⟩
theorem PSs.nox {st:List Stmt}{t:TS} (h:PSs X.nox st t):PSs X st t:=fun pins s σ H D I hw =>
 wpAny_mono (h pins s σ H D (I.wish _) hw) (fun _ _ q=>q.unwish) fun _ _ z=>False.elim z
end
section
variable {X:Cx}{st:Stmt}{rest:List Stmt}{t u:TS}{e:Expr}{te:TE}{pos:Pos}
def F9:TS:=fun D σ H=>D.nx σ H
def vD (t u:TS):TS:=fun D σ H=>t { D with nx:=u D } σ H
theorem bF:PSs X [] F9:=fun _ _ σ H _ I h=>wpAny_execs_nil ⟨σ,H,I,h⟩
theorem aC (h1:PS X st t)(h2:PSs X rest u):PSs X (st::rest) (vD t u):=by
 intro pins s σ H D I h;refine wpAny_execs_cons (thn (h1 pins s σ H { D with nx:=u D } I h) fun f s1 q=> ?_);cases f with
 | next =>
  obtain⟨σ',H',I',q⟩:=q;exact h2 pins s1 σ' H' D I' q
 | ret v=>exact q
 | brk=>exact q
 | cont=>exact q
theorem aH (h1:PS X st t):PSs X [st] t:=by
 intro pins s σ H D I h;refine wpAny_execs_cons (thn (h1 pins s σ H D I h) fun f s1 q=> ?_);cases f with
 | next=>exact wpAny_execs_nil q
 | ret v=>exact q
 | brk=>exact q
 | cont=>exact q
theorem Inv.quiet {pins:List (Addr×Obj)}{σ:St}{H:Hp}{s:Shared} (I:Inv X pins σ H s):interactive X.env=false:=by simp[interactive,I.ok.kind]
def GM (te:TE):TS:=fun D σ H=>te σ H fun _ H1=>D.nx σ H1
theorem dJ (he:PE X e te)(hs:swapsWith e none pos.line X.env=pure false:=by rfl):PS X (.Expr e pos) (GM te):=by
 intro pins s σ H D I h;exact wpAny_Expr_any (thn (he pins s σ H _ I h) fun v s1 ⟨x,H1,I1,r1,q1⟩=>⟨σ,H1,I1,q1⟩) I.quiet hs
def NM (te:TE):TS:=fun D σ H=>te σ H D.rt
theorem b0 (he:PE X e te):PS X (.Return (some e) pos) (NM te):=by
 intro pins s σ H D I h;exact wpAny_Return_some (thn (he pins s σ H _ I h) fun v s1 ⟨x,H1,I1,r1,q1⟩=>⟨x,σ,H1,I1,r1,q1⟩)
def yU (c:TT)(t u:TS):TS:=fun D σ H=>c σ H fun b H1=>if b=true then t D σ H1 else u D σ H1
theorem bS {c:Expr}{a b:List Stmt}{tc:TT} (hc:PT X c tc) (ha:PSs X a t) (hb:PSs X b u):PS X (.If c a b pos) (yU tc t u):=by
 intro pins s σ H D I h;refine wpAny_If (thn (hc pins s σ H _ I h) fun d s1 ⟨H1,I1,q1⟩=> ?_);cases d with
 | true=>exact ha pins s1 σ H1 D I1 q1
 | false=>exact hb pins s1 σ H1 D I1 q1
def LZ:TS:=fun _ _ _=>False
theorem wA:PS X st LZ:=fun _ _ _ _ _ _ h=>h.elim
end
abbrev TG:=V->St->Hp->(St->Hp->Prop)->Prop
abbrev TGs:=List V->St->Hp->(St->Hp->Prop)->Prop
def PG (X:Cx)(target:Expr)(t:TG):Prop :=
 ∀(pins:List (Addr×Obj)) (s:Shared) (σ:St) (H:Hp) (v:V) (u:Value) (Q:St->Hp->Prop),Inv X pins σ H s->RelV v u->t v σ H Q →
  wpAny (model X.prog X.w) X.A (assign target X.env u) (fun _ s'=>∃σ' H',Inv X pins σ' H' s'/\Q σ' H') X.xe s
def PGs (X:Cx)(ts:List Expr)(t:TGs):Prop :=
 ∀(pins:List (Addr×Obj)) (s:Shared) (σ:St) (H:Hp) (vs:List V) (us:List Value) (Q:St->Hp->Prop),Inv X pins σ H s->Vals vs us->t vs σ H Q →
  wpAny (model X.prog X.w) X.A (assignInOrder ((assignEach ts X.env).map (·.2)) us) (fun _ s'=>∃σ' H',Inv X pins σ' H' s'/\Q σ' H') X.xe s
section
variable {X:Cx}{pos:Pos}
def c8 (i:Nat):TG:=fun v σ H Q=>Q (σ.set i (some v)) H
theorem aU {i:Nat}{x:Str} (hN:X.N.Nodup) (hi:X.N[i]? =some x) (hx:Loc X.env.scope x) (hf:X.fn x=true∨X.env.scope.names.lookup x=some .local:=by first|exact .inl rfl|exact .inr rfl|assumption):PG X (.Name x pos) (c8 i):=by
 intro pins s σ H v u Q I r h;exact wpAny_assign_Name (oW I hN hi hx r (fun s' I'=>⟨_,H,I',h⟩) hf)
def D3:TGs:=fun vs σ H Q=>vs=[]/\Q σ H
def u2 (t:TG)(u:TGs):TGs:=fun vs σ H Q=>∃v r,vs=v::r/\t v σ H fun σ' H'=>u r σ' H' Q
theorem fZ:PGs X [] D3:=by
 intro pins s σ H vs us Q I r h;obtain⟨e,h⟩:=h;subst e;cases r;exact assignInOrder_nil ⟨σ,H,I,h⟩
theorem bW {e:Expr}{es:List Expr}{t:TG}{u:TGs} (h1:PG X e t) (h2:PGs X es u)
  (hs:(assignEach (e::es) X.env).map (·.2)=assign e X.env::(assignEach es X.env).map (·.2):=by rfl):PGs X (e::es) (u2 t u):=by
 intro pins s σ H vs us Q I r h;obtain⟨v,vr,e1,h⟩:=h;subst e1;cases r with
 | cons r rr =>
  rw[hs];refine assignInOrder_cons (thn (h1 pins s σ H _ _ _ I r h) fun _ s1 ⟨σ1,H1,I1,q1⟩=> ?_);exact h2 pins s1 σ1 H1 _ _ Q I1 rr q1
def yT (K:PySem.W.Frag)(n:Nat)(t:TGs):TG:=fun v σ H Q=>∃a xs,v= .ref a/\SqT K H a xs/\xs.length=n/\t xs σ H Q
theorem kD {es:List Expr}{k:Nat}{t:TGs}{n:Nat} (hc:X.calm=true) (h:PGs X es t)
  (hn:(assignEach es X.env).length=n:=by rfl)(hst:(assignEach es X.env).findIdx? (·.1)=none:=by rfl):PG X (.Tuple es k pos) (yT X.K n t):=by
 intro pins s σ H v u Q I r hw;obtain⟨a,xs,e1,hq,hl,hw⟩:=hw;subst e1;cases r;obtain⟨its,rv,ht,hz⟩:=I.tuple hq;refine assign_Tuple_tuple (I.ok.hd hc) ht (by simp[hn,←hl,rv.length]) hst fun h' hx=> ?_;have I1:Inv X pins σ H { s with heap:=h' }:=I.kept (t':=s.toks) fun b o e=>hx b o (Nat.ne_of_lt (Heap.lt_size e)) e;exact h pins _ σ H xs _ Q I1 (by simpa using rv) hw
def yZ (te:TE)(g:TG):TS:=fun D σ H=>te σ H fun x H1=>g x σ H1 D.nx
theorem q0 {tg e:Expr}{te:TE}{g:TG} (he:PE X e te) (hg:PG X tg g) (hs:swapsWithSole [tg] e pos.line X.env=pure false:=by rfl) (hw:swappedStores [tg] e X.env=pure none:=by rfl)
  (h1:(assignEach [tg] X.env).map (·.2)=[assign tg X.env]:=by rfl):PS X (.Assign [tg] e pos) (yZ te g):=by
 intro pins s σ H D I h;refine wpAny_Assign_stores (thn (he pins s σ H _ I h) fun v s1 ⟨x,H1,I1,r1,q1⟩=> ?_) hs hw;rw[h1];exact thn (hg pins s1 σ H1 x v _ I1 r1 q1) fun _ s2 q=>q
theorem aO {i:Nat}{x:Str}{e:Expr}{te:TE}{pos':Pos} (hN:X.N.Nodup) (hi:X.N[i]? =some x) (hx:Loc X.env.scope x) (he:PE X e te) (hs:swapsWith e (some (.Name x pos')) pos.line X.env=pure false:=by rfl) (hf:X.fn x=true∨X.env.scope.names.lookup x=some .local:=by first|exact .inl rfl|exact .inr rfl|assumption) :
  PS X (.Assign [.Name x pos'] e pos) (yZ te (c8 i)):=by
 intro pins s σ H D I h;refine wpAny_Assign_Name (thn (he pins s σ H _ I h) fun v s1 ⟨y,H1,I1,r1,q1⟩=> ?_) hs;exact oW I1 hN hi hx r1 (fun s2 I2=>⟨_,H1,I2,q1⟩) hf
end
section
variable {X:Cx}{pos:Pos}
end
structure It where
 go:Nat->Hp->Prop
 yld:Nat->Hp->V->Hp->Prop
 stop:Nat->Hp->Prop
def jF (X:Cx)(pins:List (Addr×Obj))(H:Hp)(b:Addr):Prop :=
 H b=none/\b≠X.env.locals/\b∉X.fs/\(b∈X.ex∨X.s₀.heap.objs.size<=b)/\(∀x c,X.env.cells.lookup x=some c->c≠b)/\∀p∈X.pn++pins,p.1≠b
theorem Inv.fpOk {X:Cx}{pins:List (Addr×Obj)}{σ:St}{H H':Hp}{s:Shared}{b:Addr} (I:Inv X pins σ H s) (hb:s.heap.objs.size<=b) (hn:H' b=none):jF X pins H' b:=by
 refine⟨hn,Nat.ne_of_gt (Nat.lt_of_lt_of_le I.lt hb),I.nofs hb,.inr (Nat.le_trans I.sz hb),fun x c e z=> ?_,fun p hp z=> ?_⟩
 ·obtain⟨v,q⟩:=I.cell x c e;exact absurd (Nat.lt_of_lt_of_le q.lt (by rw[z];exact hb)) (Nat.lt_irrefl _)
 ·exact absurd (Nat.lt_of_lt_of_le (Heap.lt_size (I.pin p hp).1) (by rw[z];exact hb)) (Nat.lt_irrefl _)
structure rZ (P:Program)(w:World)(K:PySem.W.Frag)(tg:Expr)(J:It)(fp:List Addr)(it:Addr)(tn:Nat->Heap->Prop):Prop where
 mem:it∈fp
 obj:∀i h,tn i h->∀b∈fp,∃o,h.get? b=some o/\∀v,o.data≠ .cell v
 keep:∀i h h',tn i h->(∀b∈fp,∀o,h.get? b=some o->h'.get? b=some o)->tn i h'
 item:∀(X:Cx),X.prog=P->X.w=w->X.K=K->X.calm=true->∀(i:Nat) (pins:List (Addr×Obj)) (s:Shared) (σ:St) (H:Hp) (E:Value->Shared->Prop),Inv X pins σ H s->(∀b∈fp,jF X pins H b)->tn i s.heap->J.go i H →
  wpAny (model P w) X.A (pyNext (.ref it)) (fun r s1=>∃u,r=some u ∧
   wpAny (model P w) X.A (letOwnedTupleGo tg (.ref it) u) (fun _ s2=>∃x H',Inv X pins σ H' s2/\RelV x u/\J.yld i H x H'/\tn (i+1) s2.heap/\∀b∈fp,H' b=none) E s1) E s
 done:∀(X:Cx),X.prog=P->X.w=w->X.K=K->X.calm=true->∀(i:Nat) (pins:List (Addr×Obj)) (s:Shared) (σ:St) (H:Hp) (E:Value->Shared->Prop),Inv X pins σ H s->(∀b∈fp,jF X pins H b)->tn i s.heap->J.stop i H →
  wpAny (model P w) X.A (pyNext (.ref it)) (fun r s1=>r=none/\Inv X pins σ H s1) E s
 self:∀(A:Around) (i:Nat) (s:Shared) (Q:Value->Shared->Prop) (E:Value->Shared->Prop),tn i s.heap->Q (.ref it) s->wpAny (model P w) A (pyIter (.ref it)) Q E s
abbrev TI:=St->Hp->(It->Hp->Prop)->Prop
def PIE (X:Cx)(pins:List (Addr×Obj))(σ:St)(tg:Expr)(R:It->Hp->Prop)(itv:Value)(s2:Shared):Prop :=
 ∃(it:Addr) (fp:List Addr) (tn:Nat->Heap->Prop) (J:It) (H':Hp),itv= .ref it/\Inv X pins σ H' s2/\rZ X.prog X.w X.K tg J fp it tn/\tn 0 s2.heap/\(∀b∈fp,jF X pins H' b)/\R J H'
def PI (X:Cx)(tg iter:Expr)(wi:TI):Prop :=
 ∀(pins:List (Addr×Obj)) (s:Shared) (σ:St) (H:Hp) (R:It->Hp->Prop),Inv X pins σ H s->wi σ H R →
  wpAny (model X.prog X.w) X.A (eval iter X.env) (fun v s1=>wpAny (model X.prog X.w) X.A (pyIter v) (PIE X pins σ tg R) X.xe s1) X.xe s
theorem yO {M:Model}{A:Around}{E:Value->Shared->Prop}{s:Shared}{tg:Expr}{it:Addr}{u:Value}{o:Obj}{n:String}{vs:Array Value}{Q:Unit->Shared->Prop} (ho:s.heap.get? it=some o) (hc:o.cls= .type n) (hd:o.data= .fields vs)
  (hn:["enumerate","zip","dict_itemiterator","dict_reverseitemiterator","odict_iterator","itertools.zip_longest","itertools.pairwise"].contains n=false)(hQ:Q () s):wpAny M A (letOwnedTupleGo tg (.ref it) u) Q E s:=by
 unfold letOwnedTupleGo;cases tg<;>first
  | exact wpAny_pure hQ
  | (cases u<;>first
    | exact wpAny_pure hQ
    | (refine wpAny_bind (wpAny_load ho ?_);rw[hc,hd];show wpAny M A (if (["enumerate","zip","dict_itemiterator","dict_reverseitemiterator","odict_iterator","itertools.zip_longest","itertools.pairwise"].contains n&&vs[0]? ==some (rawInt _))=true then _ else _) Q E s;rw[if_neg (by intro h;rw[hn,Bool.false_and]at h;cases h)];exact wpAny_pure hQ))
def Itl (K:PySem.W.Frag)(a:Addr):It :=
 ⟨fun i H=>∃xs x,SqL K H a xs/\xs[i]? =some x,fun i H x H'=>H'=H/\∀xs,SqL K H a xs->xs[i]? =some x,fun i H=>∃xs,SqL K H a xs/\xs.length<=i⟩
def Itr (lo:Int)(n:Nat):It:=⟨fun i _=>i<n,fun i H x H'=>H'=H/\x= .int (lo+i),fun i _=>n<=i⟩
theorem CQ {P:Program}{w:World}{K:PySem.W.Frag}{tg:Expr} (a it:Addr):rZ P w K tg (Itl K a) [it] it (fun i h=>h.IsListIter it a i) where
 mem:=by simp
 obj:=fun i h st b hb=>by
  have e:b=it:=by simpa using hb
  subst e;obtain⟨o,e,c,d⟩:=st;exact⟨o,e,fun v z=>by rw[d]at z;cases z⟩
 keep:=fun i h h' st k=>st.at fun o e=>k it (by simp) o e
 item:=by
  intro X hP hw hK hc i pins s σ H E I hf st hg;subst hP hw hK;obtain⟨xs,x,hq,hx⟩:=hg;obtain⟨its,rv,p,hz⟩:=I.list hq;obtain⟨u,hu,ru⟩:=rv.get hx;obtain⟨f0,f1,f2,f3,f4,f5⟩:=hf it (by simp);refine wpAny_pyNext_list_item st p.isList (x:=u) (by simpa using hu) fun h' st' sb=> ?_;have I1:Inv X pins σ H { s with heap:=h' }:=I.turned (t':=s.toks) (fun b o hb e=>(sb.2 b hb).trans e) f0 f1 f3 f4 f5;obtain⟨o,e,c,d⟩:=id st';exact⟨u,rfl,yO (s:={ s with heap:=h' }) e c d (by decide) ⟨x,H,I1,ru,⟨rfl,fun ys hy=>by rw[I.list_inj hy hq];exact hx⟩,st',fun b hb=>(hf b hb).1⟩⟩
 done:=by
  intro X hP hw hK hc i pins s σ H E I hf st hg;subst hP hw hK;obtain⟨xs,hq,hx⟩:=hg;obtain⟨its,rv,p,hz⟩:=I.list hq;obtain⟨f0,f1,f2,f3,f4,f5⟩:=hf it (by simp);have hl:=rv.length;exact wpAny_pyNext_list_end (I.ok.hd hc) st p.isList (by simp;lia) fun h' eb=>⟨rfl,I.turned (t':=s.toks) (fun b o hb e=>eb b o hb e) f0 f1 f3 f4 f5⟩
 self:=fun _ _ _ _ _ st h=>wpAny_pyIter_listiter st h
theorem zY {P:Program}{w:World}{K:PySem.W.Frag}{tg:Expr} (it:Addr) (lo:Int) (n:Nat):rZ P w K tg (Itr lo n) [it] it (fun i h=>IsRangeIter h it (lo+(i:Nat) * 1) ((n:Int) - (i:Nat)) 1) where
 mem:=by simp
 obj:=fun i h st b hb=>by
  have e:b=it:=by simpa using hb
  subst e;exact⟨_,st,fun v z=>by
   have z':Data.fields _=Data.cell v:=z;cases z'⟩
 keep:=fun i h h' st k=>k it (by simp) _ st
 item:=by
  intro X hP hw hK hc i pins s σ H E I hf st hg;subst hP hw hK;obtain⟨f0,f1,f2,f3,f4,f5⟩:=hf it (by simp);have W:=Walks.range (prog:=X.prog) (w:=X.w) (I.ok.hd hc) it lo 1 n;refine W.item i s _ _ hg st fun v h' tk hv st' kk=> ?_;obtain⟨t,rfl⟩:=hv;have I1:Inv X pins σ H { s with heap:=h',toks:=tk }:=I.turned (fun b o hb e=>kk b o (by simpa using hb) e) f0 f1 f3 f4 f5;refine⟨_,rfl,yO (s:={ s with heap:=h',toks:=tk }) (n:= "range_iterator") st' rfl rfl (by decide) ⟨.int (lo+i),H,I1,⟨t,?_⟩,⟨rfl,rfl⟩,st',fun b hb=>(hf b hb).1⟩⟩;rw[Int.mul_one]
 done:=by
  intro X hP hw hK hc i pins s σ H E I hf st hg;subst hP hw hK;obtain⟨f0,f1,f2,f3,f4,f5⟩:=hf it (by simp);exact wpAny_pyNext_range_end (I.ok.hd hc) st (by have:n<=i:=hg;lia) fun h' eb=>⟨rfl,I.turned (t':=s.toks) (fun b o hb e=>eb b o hb e) f0 f1 f3 f4 f5⟩
 self:=fun _ _ _ _ _ st h=>wpAny_pyIter_rangeiter st h
end L2
namespace L2
open PySem PySem.Spec PyProof.Rows
section
variable {X:Cx}{tg:Expr}
def GF (K:PySem.W.Frag)(tl:TE):TI:=fun σ H R=>tl σ H fun x H1=>∃a,x= .ref a/\(∃xs,SqL K H1 a xs)/\R (Itl K a) H1
theorem dI {l:Expr}{tl:TE} (hl:PE X l tl):PI X tg l (GF X.K tl):=by
 intro pins s σ H R I h;refine thn (hl pins s σ H _ I h) fun v s1 ⟨x,H1,I1,r1,q1⟩=> ?_;obtain⟨a,e,⟨xs,hq⟩,q⟩:=q1;subst e;cases r1;obtain⟨its,rv,p,hz⟩:=I1.list hq;refine wpAny_pyIter_list p.isList ?_;refine⟨s1.heap.objs.size,[s1.heap.objs.size],_,_,H1,rfl,I1.kept (t':=s1.toks) fun b o e=>Heap.get?_push_of_some _ e,CQ a _,⟨_,Heap.get?_push_size _ rfl,rfl,rfl⟩,fun b hb=> ?_,q⟩;have e:b=s1.heap.objs.size:=by simpa using hb
 subst e;exact I1.fpOk (Nat.le_refl _) (I1.hok.fresh (Nat.le_refl _))
theorem FM {pins:List (Addr×Obj)}{σ:St}{H:Hp}{s:Shared}{R:It->Hp->Prop}{E:Value->Shared->Prop}{lo hi:Int}{t u v:Tok}{tk:Nat} (I:Inv X pins σ H s) (h1: -(2^62)<=lo) (h2:lo<2^62) (h3: -(2^62)<=hi) (h4:hi<2^62)
  (q:R (Itr lo (hi - lo).toNat) H):wpAny (model X.prog X.w) X.A (pyIter (.ref s.heap.objs.size)) (PIE X pins σ tg R) E { s with heap:=s.heap.push { cls:= .type "range",data:= .fields #[.int lo t,.int hi u,.int 1 v] },toks:=tk }:=by
 refine wpAny_pyIter_range (IsRange.new ..) (small_one h1 h2 h3 h4) ?_;have I1:Inv X pins σ H { s with heap:=s.heap.push { cls:= .type "range",data:= .fields #[.int lo t,.int hi u,.int 1 v] },toks:=tk }:=I.kept fun b o e=>Heap.get?_push_of_some _ e;refine⟨(s.heap.push { cls:= .type "range",data:= .fields #[.int lo t,.int hi u,.int 1 v] }).objs.size,[(s.heap.push { cls:= .type "range",data:= .fields #[.int lo t,.int hi u,.int 1 v] }).objs.size],_,_,H,rfl,
  I1.kept (t':=tk) fun b o e=>Heap.get?_push_of_some _ e,zY _ lo (hi - lo).toNat,?_,fun b hb=> ?_,q⟩
 ·have e1:lo+((0:Nat):Int) * 1=lo:=by simp
  have e2:(((hi - lo).toNat:Nat):Int) - ((0:Nat):Int)=Builtin.Range.rangeSize lo hi 1:=by rw[rangeSize_one];split<;>lia
  show IsRangeIter _ _ (lo+((0:Nat):Int) * 1) ((((hi - lo).toNat:Nat):Int) - ((0:Nat):Int)) 1;rw[e1,e2];exact Heap.get?_push_size _ rfl
 ·have e:b=(s.heap.push { cls:= .type "range",data:= .fields #[.int lo t,.int hi u,.int 1 v] }).objs.size:=by simpa using hb
  subst e;exact I1.fpOk (Nat.le_refl _) (I1.hok.fresh (Nat.le_refl _))
def GL (ta:TA):TI:=fun σ H R=>ta σ H fun vs H1=>∃j:Int,vs=[.int j]/\ -(2^62)<=j/\j<2^62/\R (Itr 0 j.toNat) H1
theorem jW {a:Expr}{ta:TA}{p pos:Pos} (hg:Gl X "range") (hm:X.mg "range" =none) (ha:PA X [a] ta) (hs:starEach [a] X.env=[(false,eval a X.env)]:=by rfl):PI X tg (.Call (.Name "range" p) [a] [] pos) (GL ta):=by
 intro pins s σ H R I h;refine Call_ (qD I hg hm boot_range (PyProof.Rows.callWith_type1 (thn (ha pos pins s σ H _ I h) fun us s1 ⟨vs,H1,I1,r1,q1⟩=> ?_) hs rfl));obtain⟨j,e,q1,q2,q⟩:=q1;subst e;cases r1 with
 | cons r rr =>
  cases rr;obtain⟨t,rfl⟩:=r;exact call_range_1 (FM I1 (by lia) (by lia) q1 q2 (by simpa using q))
def M3 (wi:TI)(g:TG)(tb:TS):TS:=fun D σ H=>wi σ H fun J H1=>∃W:Nat->Nat->St->Hp->Prop,(∃m,W 0 m σ H1)/\∀i m σ H,W i m σ H →
 (J.stop i H/\D.nx σ H)∨(J.go i H/\∃N:St->Hp->Prop,(∀σ' H',N σ' H'->∃m',m'<m/\W (i+1) m' σ' H')/\∀x H',J.yld i H x H'->g x σ H' fun σ2 H2=>tb { D with nx:=N,ct:=N,bk:=D.nx } σ2 H2)
def iM (fp:List Addr)(h:Heap):List (Addr×Obj):=fp.filterMap fun b=>(h.get? b).map fun o=>(b,o)
theorem gF {fp:List Addr}{h:Heap}{b:Addr}{o:Obj} (hb:b∈fp) (e:h.get? b=some o):(b,o)∈iM fp h:=List.mem_filterMap.mpr ⟨b,hb,by rw[e];rfl⟩
theorem tS {fp:List Addr}{h:Heap}{p:Addr×Obj} (hp:p∈iM fp h):p.1∈fp/\h.get? p.1=some p.2:=by
 obtain⟨b,hb,e⟩:=List.mem_filterMap.mp hp;cases q:h.get? b with
 | none=>rw[q]at e;cases e
 | some o =>
  rw[q]at e;have e':(b,o)=p:=Option.some.inj e;subst e';exact⟨hb,q⟩
theorem Inv.pinned {pins:List (Addr×Obj)}{σ:St}{H:Hp}{s:Shared}{fp:List Addr} (I:Inv X pins σ H s) (hf:∀b∈fp,jF X pins H b) (ho:∀b∈fp,∃o,s.heap.get? b=some o/\∀v,o.data≠ .cell v):Inv X (pins++iM fp s.heap) σ H s :=
 I.pins_of fun p hp=>(List.mem_append.mp hp).elim (fun z=>I.pin p (List.mem_append_right _ z)) fun z=>by
  obtain⟨hb,e⟩:=tS z;obtain⟨f0,f1,f2,_⟩:=hf p.1 hb;obtain⟨o,e',d⟩:=ho p.1 hb;rw[e]at e';cases e';exact⟨e,f0,f1,f2,d⟩
theorem Inv.unpinned {pins pl:List (Addr×Obj)}{σ:St}{H:Hp}{s:Shared} (I:Inv X (pins++pl) σ H s):Inv X pins σ H s:=I.pins_of fun p hp=>I.pin p (List.mem_append_right _ (List.mem_append_left _ hp))
theorem iO {iter:Expr}{body:List Stmt}{wi:TI}{g:TG}{tb:TS}{pos:Pos} (hp:PassesOwn (model X.prog X.w) X.A X.env X.xe) (hc:X.calm=true) (hi:PI X tg iter wi) (hg:PG X tg g) (hb:PSs X body tb)
  (hs:∀x,foldedSetIterable iter X.env x=pure x:=by intro _;rfl):PS X (.For tg iter body [] pos) (M3 wi g tb):=by
 intro pins s σ H D I h;refine wpAny_For (thn (hi pins s σ H _ I h) fun v s1 h1=>thn h1 fun itv s2 h2=> ?_) hs;obtain⟨it,fp,tn,J,H2,e,I2,T,st2,f2,W,⟨m0,w0⟩,turn⟩:=h2;subst e;have stat:∀{H':Hp},(∀b∈fp,H' b=none)->∀b∈fp,jF X pins H' b:=fun hn b hb=>⟨hn b hb,(f2 b hb).2⟩
 refine codeAny_forLoop_any (fun n s'=>∃i σ' H',Inv X pins σ' H' s'/\tn i s'.heap/\(∀b∈fp,H' b=none)/\W i n σ' H') ?_ m0 ⟨0,σ,H2,I2,st2,fun b hb=>(f2 b hb).1,w0⟩;rintro n s3 ⟨i,σ3,H3,I3,st3,fr3,w3⟩;rcases turn i n σ3 H3 w3 with⟨stop,qn⟩|⟨go,N,hN,step⟩
 ·refine wpAny_passesOwn hp (thn (T.done X rfl rfl rfl hc i pins s3 σ3 H3 X.xe I3 (stat fr3) st3 stop) fun r s4 ⟨hr,I4⟩=> ?_);subst hr;exact wpAny_execs_nil ⟨σ3,H3,I4,qn⟩
 ·refine wpAny_passesOwn hp (thn (T.item X rfl rfl rfl hc i pins s3 σ3 H3 X.xe I3 (stat fr3) st3 go) fun r s4 ⟨u,hr,h4⟩=> ?_);subst hr;refine wpAny_passesOwn hp (thn h4 fun _ s5 ⟨x,H5,I5,r5,y5,st5,fr5⟩=> ?_);have I5':=I5.pinned (stat fr5) (T.obj _ _ st5);refine wpAny_passesOwn hp (thn (hg _ s5 σ3 H5 x u _ I5' r5 (step x H5 y5)) fun _ s6 ⟨σ6,H6,I6,q6⟩=> ?_);refine wpAny_passesOwn hp (thn (hb _ s6 σ6 H6 _ I6 q6) fun f s7 q7=> ?_);have again:∀{σ7:St}{H7:Hp},Inv X (pins++iM fp s5.heap) σ7 H7 s7->N σ7 H7->∃m,m<n/\∃i σ' H',Inv X pins σ' H' s7/\tn i s7.heap/\(∀b∈fp,H' b=none)/\W i m σ' H':=fun {σ7 H7} I7 n7=>by
   obtain⟨m',hm,w7⟩:=hN σ7 H7 n7;refine⟨m',hm,i+1,σ7,H7,I7.unpinned,T.keep _ _ _ st5 fun b hb o e=>(I7.pin (b,o) (List.mem_append_right _ (List.mem_append_right _ (gF hb e)))).1,fun b hb=> ?_,w7⟩;obtain⟨o,e,d⟩:=T.obj _ _ st5 b hb;exact(I7.pin (b,o) (List.mem_append_right _ (List.mem_append_right _ (gF hb e)))).2.1
  cases f with
  | next=>obtain⟨σ7,H7,I7,n7⟩:=q7;exact again I7 n7
  | cont=>obtain⟨σ7,H7,I7,n7⟩:=q7;exact again I7 n7
  | brk=>obtain⟨σ7,H7,I7,q7⟩:=q7;exact⟨σ7,H7,I7.unpinned,q7⟩
  | ret v=>obtain⟨x7,σ7,H7,I7,r7,q7⟩:=q7;exact⟨x7,σ7,H7,I7.unpinned,r7,q7⟩
end
theorem EM {K:PySem.W.Frag}{a:Addr}{xs:List V}{g:TG}{tb:TS}{D:fG}{σ:St}{H:Hp} (Pv:Nat->St->Hp->Prop) (h0:Pv 0 σ H) (hl:∀i σ H,i<=xs.length->Pv i σ H->SqL K H a xs)
  (hs:∀i x σ H,xs[i]? =some x->Pv i σ H->g x σ H fun σ2 H2=>tb { D with nx:=Pv (i+1),ct:=Pv (i+1),bk:=D.nx } σ2 H2)(hd:∀σ H,Pv xs.length σ H->D.nx σ H) :
  ∃W:Nat->Nat->St->Hp->Prop,(∃m,W 0 m σ H)/\∀i m σ H,W i m σ H →
   ((Itl K a).stop i H/\D.nx σ H)∨((Itl K a).go i H/\∃N:St->Hp->Prop,(∀σ' H',N σ' H'->∃m',m'<m/\W (i+1) m' σ' H')/\∀x H',(Itl K a).yld i H x H'->g x σ H' fun σ2 H2=>tb { D with nx:=N,ct:=N,bk:=D.nx } σ2 H2):=by
 refine⟨fun i m σ H=>m=xs.length - i/\i<=xs.length/\Pv i σ H,⟨xs.length,by simp,Nat.zero_le _,h0⟩,?_⟩;rintro i m σ H ⟨rfl,hi,p⟩;have q:=hl i σ H hi p
 by_cases hlt:i<xs.length
 ·refine .inr ⟨⟨xs,xs[i],q,by simp[hlt]⟩,Pv (i+1),fun σ' H' p'=>⟨xs.length - (i+1),by lia,rfl,hlt,p'⟩,fun x H' y=> ?_⟩;obtain⟨e,y⟩:=y;subst e;exact hs i x σ _ (y xs q) p
 ·have e:i=xs.length:=by lia
  subst e;exact .inl ⟨⟨xs,q,Nat.le_refl _⟩,hd σ H p⟩
theorem BZ {lo:Int}{n:Nat}{g:TG}{tb:TS}{D:fG}{σ:St}{H:Hp} (Pv:Nat->St->Hp->Prop) (h0:Pv 0 σ H)
  (hs:∀i σ H,i<n->Pv i σ H->g (.int (lo+i)) σ H fun σ2 H2=>tb { D with nx:=Pv (i+1),ct:=Pv (i+1),bk:=D.nx } σ2 H2)(hd:∀σ H,Pv n σ H->D.nx σ H) :
  ∃W:Nat->Nat->St->Hp->Prop,(∃m,W 0 m σ H)/\∀i m σ H,W i m σ H →
   ((Itr lo n).stop i H/\D.nx σ H)∨((Itr lo n).go i H/\∃N:St->Hp->Prop,(∀σ' H',N σ' H'->∃m',m'<m/\W (i+1) m' σ' H')/\∀x H',(Itr lo n).yld i H x H'->g x σ H' fun σ2 H2=>tb { D with nx:=N,ct:=N,bk:=D.nx } σ2 H2):=by
 refine⟨fun i m σ H=>m=n - i/\i<=n/\Pv i σ H,⟨n,by simp,Nat.zero_le _,h0⟩,?_⟩;rintro i m σ H ⟨rfl,hi,p⟩
 by_cases hlt:i<n
 ·refine .inr ⟨hlt,Pv (i+1),fun σ' H' p'=>⟨n - (i+1),by lia,rfl,hlt,p'⟩,fun x H' y=> ?_⟩;obtain⟨e,y⟩:=y;subst e y;exact hs i σ _ hlt p
 ·have e:i=n:=by lia
  subst e;exact .inl ⟨Nat.le_refl _,hd σ H p⟩
end L2
namespace L2
open PySem PySem.Spec PyProof.Rows
abbrev R2:=V->V->Hp->VK->Prop
def OpR (X:Cx)(f:Value->Value->Sem Value)(r:R2):Prop :=
 ∀(pins:List (Addr×Obj)) (s:Shared) (σ:St) (H:Hp) (x y:V) (v u:Value) (Q:VK),Inv X pins σ H s->RelV x v->RelV y u->r x y H Q →
  wpAny (model X.prog X.w) X.A (f v u) (EP X pins σ Q) X.xe s
def cV (X:Cx)(f:Value)(r:List V->Hp->VK->Prop):Prop :=
 ∀(pins:List (Addr×Obj)) (s:Shared) (σ:St) (H:Hp) (xs:List V) (us:List Value) (Q:VK),Inv X pins σ H s->Vals xs us->r xs H Q →
  wpAny (model X.prog X.w) X.A (call f us) (EP X pins σ Q) X.xe s
def tOp (r:R2)(ta tb:TE):TE:=fun σ H Q=>ta σ H fun x H1=>tb σ H1 fun y H2=>r x y H2 Q
def rI (C:Int->Int->Prop)(g:Int->Int->V):R2:=fun x y H Q=>∃i j,x= .int i/\y= .int j/\C i j/\Q (g i j) H
def rI0 (g:Int->Int->V):R2:=fun x y H Q=>∃i j,x= .int i/\y= .int j/\Q (g i j) H
section
variable {X:Cx}{a b c:Expr}{ta tb tc:TE}{pos:Pos}
theorem EX (ha:PE X a ta)(hb:PE X b tb){pins:List (Addr×Obj)}{s:Shared}{σ:St}{H:Hp}{R:V->V->Hp->Prop} (I:Inv X pins σ H s)
  (h:ta σ H fun x H1=>tb σ H1 fun y H2=>R x y H2){Q:Value->Shared->Prop}{f:Value->Value->Sem Value}
  (hf:∀v u s2 x y H2,Inv X pins σ H2 s2->RelV x v->RelV y u->R x y H2->wpAny (model X.prog X.w) X.A (f v u) Q X.xe s2) :
  wpAny (model X.prog X.w) X.A (eval a X.env) (fun v s₁=>wpAny (model X.prog X.w) X.A (eval b X.env) (fun u s₂=>wpAny (model X.prog X.w) X.A (f v u) Q X.xe s₂) X.xe s₁) X.xe s:=by
 refine thn (ha pins s σ H _ I h) fun v s1 ⟨x,H1,I1,r1,q1⟩=> ?_;refine thn (hb pins s1 σ H1 _ I1 q1) fun u s2 ⟨y,H2,I2,r2,q2⟩=> ?_;exact hf v u s2 x y H2 I2 r1 r2 q2
theorem aF {op:Operator}{r:R2} (ho:OpR X (binaryOp op) r) (ha:PE X a ta) (hb:PE X b tb):PE X (.BinOp a op b pos) (tOp r ta tb):=by
 intro pins s σ H Q I h;exact wpAny_BinOp (EX ha hb I h fun v u s2 x y H2 I2 rx ry q=>ho pins s2 σ H2 x y v u Q I2 rx ry q)
theorem opI {f:Value->Value->Sem Value}{C:Int->Int->Prop}{g:Int->Int->Int}
  (rule:∀(i j:Int) (t u:Tok) (s:Shared) (Q:Value->Shared->Prop) (E:Value->Shared->Prop),C i j->Q (.int (g i j) s.toks) { s with toks:=s.toks+1 }->wpAny (model X.prog X.w) X.A (f (.int i t) (.int j u)) Q E s) :
  OpR X f (rI C fun i j=> .int (g i j)):=by
 intro pins s σ H x y v u Q I rx ry h;obtain⟨i,j,rfl,rfl,hc,q⟩:=h;obtain⟨t,rfl⟩:=rx;obtain⟨t',rfl⟩:=ry;exact rule i j t t' s _ _ hc ⟨.int (g i j),H,I.tok _,⟨_,rfl⟩,q⟩
theorem MD {f:Value->Value->Sem Value}{g:Int->Int->Int}
  (rule:∀(i j:Int) (t u:Tok) (s:Shared) (Q:Value->Shared->Prop) (E:Value->Shared->Prop),Q (.int (g i j) s.toks) { s with toks:=s.toks+1 }->wpAny (model X.prog X.w) X.A (f (.int i t) (.int j u)) Q E s) :
  OpR X f (rI0 fun i j=> .int (g i j)):=by
 intro pins s σ H x y v u Q I rx ry h;obtain⟨i,j,rfl,rfl,q⟩:=h;obtain⟨t,rfl⟩:=rx;obtain⟨t',rfl⟩:=ry;exact rule i j t t' s _ _ ⟨.int (g i j),H,I.tok _,⟨_,rfl⟩,q⟩
theorem D0 {f:Value->Value->Sem Value}{g:Int->Int->Bool}
  (rule:∀(i j:Int) (t u:Tok) (s:Shared) (Q:Value->Shared->Prop) (E:Value->Shared->Prop),Q (.bool (g i j)) s->wpAny (model X.prog X.w) X.A (f (.int i t) (.int j u)) Q E s) :
  OpR X f (rI0 fun i j=> .bl (g i j)):=by
 intro pins s σ H x y v u Q I rx ry h;obtain⟨i,j,rfl,rfl,q⟩:=h;obtain⟨t,rfl⟩:=rx;obtain⟨t',rfl⟩:=ry;exact rule i j t t' s _ _ ⟨.bl (g i j),H,I,rfl,q⟩
def NC (i j:Int):Prop:=0<j/\j<1073741824
def NP (i j:Int):Prop:=0<=j/\j<=1000000/\i.natAbs<2^64
def CMul (i j:Int):Prop:=(-(2^64)<i/\i<2^64)∨(-(2^64)<j/\j<2^64)
theorem CMul.ok {i j:Int}(h:CMul i j):IntMulOk i j:=by
 rcases h with⟨h1,h2⟩|⟨h1,h2⟩
 ·exact .of_left (intBits_le_64 h1 h2)
 ·exact .of_right (intBits_le_64 h1 h2)
theorem cS:OpR X (binaryOp .Add) (rI0 fun i j=> .int (i+j)):=MD fun _ _ _ _ _ _ _ q=>add_int q
theorem mG:OpR X (binaryOp .Sub) (rI0 fun i j=> .int (i - j)):=MD fun _ _ _ _ _ _ _ q=>sub_int q
theorem CH:OpR X (binaryOp .Mult) (rI CMul fun i j=> .int (i * j)):=opI fun _ _ _ _ _ _ _ hc q=>mul_int q hc.ok
theorem cF:OpR X (binaryOp .FloorDiv) (rI NC fun i j=> .int (i/j)):=opI fun i j _ _ _ _ _ hc q=>by
 have h1:(0:Int)<j:=hc.1;have h2:j<1073741824:=hc.2;exact floordiv_int (by lia) (by rw[Int.fdiv_eq_ediv_of_nonneg i (by lia)];exact q) (.inl (PyProof.noPylong_small (by lia)))
theorem bD:OpR X (binaryOp .Mod) (rI (fun _ j=>0<j) fun i j=> .int (i%j)):=opI fun i j _ _ _ _ _ hc q=>by
 have h1:(0:Int)<j:=hc;exact mod_int' (by lia) (by rw[Int.fmod_eq_emod_of_nonneg i (by lia)];exact q)
theorem LB:OpR X (binaryOp .Pow) (rI NP fun i j=> .int (i^j.toNat)):=opI fun _ _ _ _ _ _ _ hc q=>pow_int_small hc.1 hc.2.1 hc.2.2 q
end
def PR:V->V->Bool
 | .non,.non=>true| .non,.int _=>true| .int _,.non=>true| .non,.bl _=>true| .bl _,.non=>true| .non,.str _=>true| .str _,.non=>true
 | .int _,.int _=>true| .bl _,.bl _=>true| .str _,.str _=>true| .byt _,.byt _=>true
 | .int _,.str _=>true| .str _,.int _=>true| .bl _,.str _=>true| .str _,.bl _=>true
 | _,_=>false
def rEq:R2:=fun x y H Q=>PR x y=true/\Q (.bl (decide (x=y))) H
theorem HM {i j:Int}:decide (V.int i=V.int j)=(i==j):=by
 rw[Bool.eq_iff_iff];simp
theorem MM {i j:Bool}:decide (V.bl i=V.bl j)=(i==j):=by
 rw[Bool.eq_iff_iff];simp
theorem HU {i j:Str}:decide (V.str i=V.str j)=(i==j):=by
 rw[Bool.eq_iff_iff];simp
theorem HR {i j:Array UInt8}:decide (V.byt i=V.byt j)=(i.toList==j.toList):=by
 rw[Bool.eq_iff_iff];cases i;cases j;simp
section
variable {X:Cx}{a b c:Expr}{ta tb tc:TE}{pos:Pos}
theorem cP {pins:List (Addr×Obj)}{σ:St}{H:Hp}{s:Shared}{Q:VK}{k k':Bool} (I:Inv X pins σ H s) (q:Q (.bl k) H) (e:k=k'):EP X pins σ Q (.bool k') s:=by
 subst e;exact⟨.bl k,H,I,rfl,q⟩
theorem eQ:OpR X (compareOp .Eq) rEq:=by
 intro pins s σ H x y v u Q I rx ry h;obtain⟨hs,q⟩:=h;cases x with
 | non =>
  cases rx;cases y with
  | non=>cases ry;exact PySem.EqNone.eq_none_none (cP I q (by simp))
  | bl j=>cases ry;exact PySem.EqNone.eq_none_bool (cP I q (by simp))
  | int j=>obtain⟨t',rfl⟩:=ry;exact PySem.EqNone.eq_none_int (cP I q (by simp))
  | str j=>obtain⟨t',rfl⟩:=ry;exact PySem.EqNone.eq_none_str (cP I q (by simp))
  | _=>exact absurd (show false=true from hs) Bool.false_ne_true
 | bl i =>
  cases rx;cases y with
  | non=>cases ry;exact PySem.EqNone.eq_bool_none (cP I q (by simp))
  | bl j=>cases ry;exact eq_bool (cP I q MM)
  | str j=>obtain⟨t',rfl⟩:=ry;exact PySem.EqMixed.eq_bool_str (cP I q (by simp))
  | _=>exact absurd (show false=true from hs) Bool.false_ne_true
 | int i =>
  obtain⟨t,rfl⟩:=rx;cases y with
  | non=>cases ry;exact PySem.EqNone.eq_int_none (cP I q (by simp))
  | int j=>obtain⟨t',rfl⟩:=ry;exact eq_int (cP I q HM)
  | str j=>obtain⟨t',rfl⟩:=ry;exact PySem.EqMixed.eq_int_str (cP I q (by simp))
  | _=>exact absurd (show false=true from hs) Bool.false_ne_true
 | str i =>
  obtain⟨t,rfl⟩:=rx;cases y with
  | non=>cases ry;exact PySem.EqNone.eq_str_none (cP I q (by simp))
  | bl j=>cases ry;exact PySem.EqMixed.eq_str_bool (cP I q (by simp))
  | int j=>obtain⟨t',rfl⟩:=ry;exact PySem.EqMixed.eq_str_int (cP I q (by simp))
  | str j=>obtain⟨t',rfl⟩:=ry;exact eq_str (cP I q HU)
  | _=>exact absurd (show false=true from hs) Bool.false_ne_true
 | byt i =>
  obtain⟨t,rfl⟩:=rx;cases y with
  | byt j=>obtain⟨t',rfl⟩:=ry;exact PySem.W.eq_bytes (cP I q HR)
  | _=>exact absurd (show false=true from hs) Bool.false_ne_true
 | _=>cases y<;>exact absurd (show false=true from hs) Bool.false_ne_true
theorem qL:OpR X (compareOp .Lt) (rI0 fun i j=> .bl (decide (i<j))):=D0 fun _ _ _ _ _ _ _ q=>lt_int q
theorem GV:OpR X (compareOp .LtE) (rI0 fun i j=> .bl (decide (i<=j))):=D0 fun _ _ _ _ _ _ _ q=>le_int q
theorem GE:OpR X (compareOp .Gt) (rI0 fun i j=> .bl (decide (j<i))):=D0 fun _ _ _ _ _ _ _ q=>gt_int q
theorem LU:OpR X (compareOp .Is) (fun x y H Q=>y= .non/\Q (.bl (decide (x= .non))) H):=by
 intro pins s σ H x y v u Q I rx ry h;obtain⟨rfl,q⟩:=h;cases ry;refine is_none_gen (cP I q ?_);cases x<;>first
  | (cases rx;rfl)
  | (obtain⟨t,rfl⟩:=rx;rfl)
theorem GY:OpR X (compareOp .IsNot) (fun x y H Q=>y= .non/\Q (.bl (!decide (x= .non))) H):=by
 intro pins s σ H x y v u Q I rx ry h;obtain⟨rfl,q⟩:=h;cases ry;refine isnot_none_gen (cP I q ?_);cases x<;>first
  | (cases rx;rfl)
  | (obtain⟨t,rfl⟩:=rx;rfl)
theorem bL (b:Expr){op:CmpOp}(h:op≠ .In:=by decide)(h2:op≠ .NotIn:=by decide):behindInMarks op b=false:=by
 have e1:(op==CmpOp.In)=false:=by cases op<;>first|rfl|exact absurd rfl h
 have e2:(op==CmpOp.NotIn)=false:=by cases op<;>first|rfl|exact absurd rfl h2
 cases b<;>simp[behindInMarks,e1,e2]
theorem jA {op:CmpOp}{r:R2} (ho:OpR X (compareOp op) r) (ha:PE X a ta) (hb:PE X b tb) (hm:behindInMarks op b=false):PE X (.Compare a [op] [b] pos) (tOp r ta tb):=by
 intro pins s σ H Q I h;exact wpAny_Compare1 (EX ha hb I h fun v u s2 x y H2 I2 rx ry q=>ho pins s2 σ H2 x y v u Q I2 rx ry q) hm
def GI (t:TE):TT:=fun σ H Q=>t σ H fun x H'=>∃k,x= .bl k/\Q k H'
theorem bU {op:CmpOp}{r:R2} (ho:OpR X (compareOp op) r) (ha:PE X a ta) (hb:PE X b tb) (hm:behindInMarks op b=false):PT X (.Compare a [op] [b] pos) (GI (tOp r ta tb)):=by
 intro pins s σ H Q I h;refine wpAny_isTrue_Compare1 (thn (ha pins s σ H _ I h) fun v s1 ⟨x,H1,I1,r1,q1⟩=>thn (hb pins s1 σ H1 _ I1 q1) fun u s2 ⟨y,H2,I2,r2,q2⟩ =>
  thn (ho pins s2 σ H2 x y v u _ I2 r1 r2 q2) fun c s3 ⟨z,H3,I3,r3,k,e,q3⟩=> ?_) hm
 subst e;cases r3;exact wpAny_truthy_bool ⟨H3,I3,q3⟩
def LF (r r':R2)(ta tb tc:TE):TE:=fun σ H Q=>ta σ H fun x H1=>tb σ H1 fun y H2=>r x y H2 fun z H3=>∃k,z= .bl k ∧
 (if k=true then tc σ H3 fun w' H4=>r' y w' H4 Q else Q (.bl false) H3)
theorem u9 {op op':CmpOp}{r r':R2} (ho:OpR X (compareOp op) r) (ho':OpR X (compareOp op') r') (ha:PE X a ta) (hb:PE X b tb) (hc:PE X c tc)
  (hm:lastMarks [op,op'] [b,c]=false:=by with_unfolding_all rfl):PE X (.Compare a [op,op'] [b,c] pos) (LF r r' ta tb tc):=by
 intro pins s σ H Q I h;refine Compare_chain (thn (ha pins s σ H _ I h) fun v s1 ⟨x,H1,I1,r1,q1⟩=>chain_link (thn (hb pins s1 σ H1 _ I1 q1) fun u s2 ⟨y,H2,I2,r2,q2⟩ =>
  thn (ho pins s2 σ H2 x y v u _ I2 r1 r2 q2) fun d s3 ⟨z,H3,I3,r3,k,e,q3⟩=> ?_)) hm
 subst e;cases r3;refine wpAny_truthy_bool ?_;cases k with
 | false=>exact ite_ff ⟨.bl false,H3,I3,rfl,q3⟩
 | true=>exact ite_tt (chain_last (thn (hc pins s3 σ H3 _ I3 q3) fun w' s4 ⟨z',H4,I4,r4,q4⟩=>ho' pins s4 σ H4 y z' u w' Q I4 r2 r4 q4))
theorem lS:(sizeLine:Nat)<2^63:=by rw[sizeLine_eq];decide
theorem zR:OpR X (binaryOp .Add) (fun x y H Q=>∃i j,x= .str i/\y= .str j/\i.length+j.length<=sizeLine/\Q (.str (i++j)) H):=by
 intro pins s σ H x y v u Q I rx ry h;obtain⟨i,j,rfl,rfl,hz,q⟩:=h;obtain⟨t,rfl⟩:=rx;obtain⟨t',rfl⟩:=ry;exact add_str (fun t' tk=>⟨.str (i++j),H,I.tok _,⟨_,rfl⟩,q⟩) hz
theorem kI {x:V}{us:List Value} (r:Vals [x] us):∃u,us=[u]/\RelV x u:=by
 cases r with
 | cons r1 r2=>cases r2;exact⟨_,rfl,r1⟩
theorem yR {x y:V}{us:List Value} (r:Vals [x,y] us):∃u w',us=[u,w']/\RelV x u/\RelV y w':=by
 cases r with
 | cons r1 r2 =>
  cases r2 with
  | cons r3 r4=>cases r4;exact⟨_,_,rfl,r1,r3⟩
theorem CL:cV X (.type "int") (fun xs H Q=>(∃i,xs=[.int i]/\Q (.int i) H)∨∃k,xs=[.bl k]/\Q (.int (if k then 1 else 0)) H):=by
 intro pins s σ H xs us Q I r h;rcases h with⟨i,rfl,q⟩|⟨k,rfl,q⟩
 ·obtain⟨u,rfl,t,rfl⟩:=kI r;exact call_int_int ⟨.int i,H,I,⟨_,rfl⟩,q⟩
 ·obtain⟨u,rfl,r1⟩:=kI r;cases r1;exact call_int_bool ⟨.int (if k then 1 else 0),H,I.tok _,⟨_,rfl⟩,q⟩
end
end L2
namespace L2
open PySem PySem.Spec PyProof.Rows
structure ObjM (h:Heap)(x dx C:Addr)(mA:Str->Option Value):Prop where
 obj:h.get? x=some (PySem.W.instObj C dx)
 ns:h.Ns1 dx mA
 ne:dx≠x
theorem CK {h:Heap}{dx:Addr}{mA:Str->Option Value} (n:h.Ns1 dx mA):∃od,h.get? dx=some od/\∀name,PySem.W.lookIn name od=some (mA name):=by
 obtain⟨o,es,ep,ho,hd,hk,_,hm⟩:=n;refine⟨o,ho,fun name=> ?_⟩;have e:=hm name;unfold nsFind findBy at e;rw[←Array.find?_toList]at e;unfold PySem.W.lookIn;rw[hd]
 dsimp only
 split
 ·rename_i y q;rw[q]at e;exact congrArg some e
 ·rename_i q;rw[q]at e;have a:es.toList.any (·.refKey)=false:=by
   rw[List.any_eq_false];intro y hy;obtain⟨z,t,hkey⟩:=hk y (Array.mem_toList_iff.mp hy);simp[DictEntry.refKey,hkey]
  have a':¬es.toList.any (·.refKey)=true:=by rw[a];exact Bool.false_ne_true
  rw[if_neg a'];exact congrArg some e
theorem ObjM.look {h:Heap}{x dx C:Addr}{mA:Str->Option Value} (I:ObjM h x dx C mA):∃od,PySem.W.InstAt h x (PySem.W.instObj C dx) C (some od)/\∀name,PySem.W.lookIn name od=some (mA name) :=
 let ⟨od,ho,hl⟩:=CK I.ns
 ⟨od,⟨I.obj,rfl,rfl,ho⟩,hl⟩
section
variable {prog:Program}{w:World}{A:Around}{E:Value->Shared->Prop}{s:Shared}{K:PySem.W.Frag}{x dx C f:Addr}{mA:Str->Option Value}{name:Str}{v:Value}
theorem JT {expr:Bool}{Q:Value->Shared->Prop} (X:K.In s.heap) (I:ObjM s.heap x dx C mA) (hg:PySem.W.plainGet K C name=true) (hh:PySem.W.hasDictIn K C=true)
  (ha:PySem.W.findIn K (.ref C) name=some none)(hv:mA name=some v)(hv':PySem.W.handedIn v=true)(h:Q v { s with toks:=s.toks+1 }) :
  wpAny (model prog w) A (getAttr (.ref x) name expr) Q E s:=by
 obtain⟨od,J,hl⟩:=I.look;exact PySem.W.get_value X J (PySem.W.plainGet_of hg).1 (PySem.W.findObj_own hh ha rfl (by rw[hl,hv])) hv' h
theorem DX {pl:Sem Bool}{Q:Value×List Value->Shared->Prop} (X:K.In s.heap) (I:ObjM s.heap x dx C mA) (hg:PySem.W.plainGet K C name=true)
  (hf:PySem.W.findIn K (.ref C) name=some (some (.ref f)))(ht:PySem.W.isFn K (.ref f)=true)(hv:mA name=none)(h:Q (.ref f,[.ref x]) s) :
  wpAny (model prog w) A (getMethod (.ref x) name pl) Q E s:=by
 obtain⟨od,J,hl⟩:=I.look;exact PySem.W.method_fn X J (PySem.W.plainGet_of hg).1 (PySem.W.plainGet_of hg).2 hf (beq_iff_eq.mp ht) (by show (PySem.W.lookIn name od).map (·.isSome)=some false;rw[hl,hv];rfl) h
theorem IL {ns:List Str}{Q:Unit->Shared->Prop} (X:K.In s.heap) (I:ObjM s.heap x dx C mA)
  (hs:PySem.W.findIn K (.ref C) "__setattr__" =some (some (.builtin "object.__setattr__")))(hp:PySem.W.plainOver K C=true)(ht:PySem.W.takerIn K C name=some none)(hh:PySem.W.hasDictIn K C=true)
  (hw:PySem.Within mA ns)(hsz:ns.length<=sizeLine)
  (h:∀h',ObjM h' x dx C (fun y=>if y=name then some v else mA y)->Heap.SameBut dx s.heap h'->Q () { s with heap:=h',toks:=s.toks+2 }) :
  wpAny (model prog w) A (setAttr (.ref x) name v) Q E s:=by
 obtain⟨od,J,hl⟩:=I.look;refine PySem.W.set_plain X J hs (PySem.W.osa_open (s:={ s with toks:=s.toks+1 }) (r:=none) X J hp ht fun b=> ?_);obtain⟨cd,hc,hd'⟩:=PySem.W.any_some hh;have hx:s.heap.get? x=some ⟨.ref C,some dx,.plain,#[]⟩:=I.obj;refine wpAny_bind (wpAny_pure (wpAny_bind (wpAny_bind (wpAny_loadPart hx (wpAny_bind (PySem.W.Looks.here (s:={ s with toks:=s.toks+1 }) (PySem.W.looks_clsIn X hc) ?_))))));rw[hd'];refine wpAny_pure (a:=some dx) (wpAny_bind (wpAny_pure (wpAny_bind ?_)));refine wpAny_nsSet1 (s:={ s with toks:=s.toks+1 }) I.ns fun h' hn2 hs2=> ?_;obtain⟨oD,esD,epD,hoD,hdD,hcD⟩:=hn2.count (PySem.Within.cons name v hw);refine wpAny_bind (wpAny_lookBehind hoD (by rw[hdD];exact pastItsLine_dict (Nat.le_trans hcD (by rw[List.length_cons];lia))) ?_);exact wpAny_pure (h _ ⟨(hs2.2 _ (Ne.symm I.ne)).trans I.obj,hn2,I.ne⟩ hs2)
theorem vW {R:Result->Shared->Prop}{vs:List Value}{kw:List (Str×Value)} (X:K.In s.heap) (hm:PySem.W.makesIn K C=true)
  (hi:PySem.W.findIn K (.ref C) "__init__" =some (some (.ref f)))(hf:PySem.W.typeIn K (.ref f)=some (.type "function"))
  (h:codeAny (model prog w) (A.under (.builtin "type.__call__" ⟨.ref C::vs,kw⟩)) (.call (.ref f) ⟨.ref (s.heap.objs.size+1)::vs,kw⟩) (PySem.W.InitBack (s.heap.objs.size+1) R)
   { s with heap:=(s.heap.push PySem.W.emptyDict).push (PySem.W.instObj C s.heap.objs.size) }) :
  codeAny (model prog w) A (.call (.ref C) ⟨vs,kw⟩) R s:=by
 obtain⟨hh,g,d,t,os⟩:=s;exact PySem.W.make_core (PySem.W.makes_of X hm) (PySem.W.looks_findIn X hi) (fun self=>PySem.W.bind_fn X self hf) (.inl rfl) h
end
def cD (f:Str)(v:V):List (Str×V)->List (Str×V)
 | []=>[(f,v)]
 | (g,x)::r=>if g=f then (g,v)::r else (g,x)::cD f v r
theorem iF (f g:Str)(v:V):∀fs:List (Str×V),(cD f v fs).lookup g=if g=f then some v else fs.lookup g
 | []=>by
  show List.lookup g [(f,v)]=_
  by_cases h:g=f
  ·have hb:(g==f)=true:=beq_iff_eq.mpr h;simp only[List.lookup,hb,if_pos h]
  ·have hb:(g==f)=false:=beq_eq_false_iff_ne.mpr h;simp only[List.lookup,hb,if_neg h]
 | (k,x)::r=>by
  have ih:=iF f g v r;rw[show cD f v ((k,x)::r)=(if k=f then (k,v)::r else (k,x)::cD f v r) from rfl]
  by_cases hk:k=f
  ·rw[if_pos hk]
   by_cases h:g=k
   ·have hb:(g==k)=true:=beq_iff_eq.mpr h;simp only[List.lookup,hb,if_pos (h.trans hk)]
   ·have hb:(g==k)=false:=beq_eq_false_iff_ne.mpr h;simp only[List.lookup,hb,if_neg (fun e:g=f=>h (e.trans hk.symm))]
  ·rw[if_neg hk]
   by_cases h:g=k
   ·have hb:(g==k)=true:=beq_iff_eq.mpr h;simp only[List.lookup,hb,if_neg (fun e:g=f=>hk (h.symm.trans e))]
   ·have hb:(g==k)=false:=beq_eq_false_iff_ne.mpr h;simp only[List.lookup,hb];exact ih
theorem lV (f:Str)(v:V):∀fs:List (Str×V),f∈(cD f v fs).map (·.1)/\∀g,g∈fs.map (·.1)->g∈(cD f v fs).map (·.1)
 | []=>⟨by simp[cD],fun g h=>by simp at h⟩
 | (k,x)::r=>by
  obtain⟨i1,i2⟩:=lV f v r;rw[show cD f v ((k,x)::r)=(if k=f then (k,v)::r else (k,x)::cD f v r) from rfl]
  by_cases hk:k=f
  ·rw[if_pos hk];subst hk;exact⟨by simp,fun g h=>by simpa using h⟩
  ·rw[if_neg hk];refine⟨?_,fun g h=> ?_⟩
   ·rw[List.map_cons];exact List.mem_cons_of_mem _ i1
   ·rw[List.map_cons]at h ⊢;rcases List.mem_cons.mp h with e|e
    ·exact List.mem_cons.mpr (.inl e)
    ·exact List.mem_cons_of_mem _ (i2 g e)
theorem oO (f:Str)(v:V):∀fs:List (Str×V),(cD f v fs).length<=fs.length+1
 | []=>by simp[cD]
 | (k,x)::r=>by
  have ih:=oO f v r;rw[show cD f v ((k,x)::r)=(if k=f then (k,v)::r else (k,x)::cD f v r) from rfl]
  by_cases hk:k=f
  ·rw[if_pos hk,List.length_cons,List.length_cons];lia
  ·rw[if_neg hk,List.length_cons,List.length_cons];lia
theorem RelO.some_of {v:V}{o:Option Value} (r:RelO (some v) o):∃u,o=some u/\RelV v u:=by
 cases o with
 | none=>exact(show False from r).elim
 | some u=>exact⟨u,rfl,r⟩
theorem RelO.none_of {o:Option Value}(r:RelO none o):o=none:=by
 cases o with
 | none=>rfl
 | some u=>exact(show False from r).elim
theorem C5 {v:V}{u:Value} (r:RelV v u):PySem.W.handedIn u=true:=by
 cases v with
 | non=>cases (show u=Value.none from r);rfl
 | bl b=>cases (show u=Value.bool b from r);rfl
 | int i=>obtain⟨t,e⟩:=(show ∃t,u=Value.int i t from r);cases e;rfl
 | str x=>obtain⟨t,e⟩:=(show ∃t,u=Value.str x t from r);cases e;rfl
 | byt b=>obtain⟨t,e⟩:=(show ∃t,u=Value.bytes b t from r);cases e;rfl
 | flt b=>obtain⟨t,e⟩:=(show ∃t,u=Value.float b t from r);cases e;rfl
 | ref a=>cases (show u=Value.ref a from r);rfl
 | ty n=>cases (show u=Value.type n from r);rfl
section
variable {P:Program}{w:World}{H H':Hp}{h h':Heap}{a C dx:Addr}{fs fs':List (Str×V)}
theorem nK (hok:HOk P w H h)(e:H a=some (.ins C dx fs)):∃mA,ObjM h a dx C mA/\(∀f,RelO (fs.lookup f) (mA f))/\PySem.Within mA (fs.map (·.1))/\fs.length<=1000/\H dx=some (.own a):=by
 obtain⟨d,z,ne,ob,mA,n,r,q⟩:=(show ObjOk P w H h a (.ins C dx fs) from hok a _ e)
 exact⟨mA,⟨ob,n,ne⟩,r,q,z,d⟩
end
structure Cls (K:PySem.W.Frag)(C:Addr):Prop where
 pg:PySem.W.plainGet K C Str.empty=true
 hd:PySem.W.hasDictIn K C=true
 po:PySem.W.plainOver K C=true
 sa:PySem.W.findIn K (.ref C) "__setattr__" =some (some (.builtin "object.__setattr__"))
theorem Cls.get {K:PySem.W.Frag}{C:Addr} (c:Cls K C) (f:Str):PySem.W.plainGet K C f=true:=c.pg
def NoAttr (K:PySem.W.Frag)(C:Addr)(f:Str):Prop:=PySem.W.findIn K (.ref C) f=some none
theorem NoAttr.taker {K:PySem.W.Frag}{C:Addr}{f:Str} (n:NoAttr K C f):PySem.W.takerIn K C f=some none:=by
 unfold PySem.W.takerIn;rw[show PySem.W.findIn K (.ref C) f=some none from n];rfl
structure fF (K:PySem.W.Frag)(C:Addr)(m:Str)(f:Addr):Prop where
 at_:PySem.W.findIn K (.ref C) m=some (some (.ref f))
 fn:PySem.W.isFn K (.ref f)=true
 kp:PySem.W.keepIn K (.ref f)=true
section
variable {X:Cx}{pins:List (Addr×Obj)}{σ:St}{H:Hp}{s:Shared}{a C dx:Addr}{fs:List (Str×V)}{f:Str}{v:V}{A:Around}{E:Value->Shared->Prop}
theorem z6 {b:Bool}{Q:Value->Shared->Prop} (I:Inv X pins σ H s) (e:H a=some (.ins C dx fs)) (c:Cls X.K C) (n:NoAttr X.K C f) (l:fs.lookup f=some v)
  (h:∀u s',Inv X pins σ H s'->RelV v u->Q u s'):wpAny (model X.prog X.w) A (getAttr (.ref a) f b) Q E s:=by
 obtain⟨mA,O,r,_,_,_⟩:=nK I.hok e;obtain⟨u,hu,ru⟩:=RelO.some_of (v:=v) (o:=mA f) (by rw[←l];exact r f);exact JT I.kIn O (c.get f) c.hd n hu (C5 ru) (h u _ (I.tok _) ru)
theorem zW {m:Str}{g:Addr}{pl:Sem Bool}{Q:Value×List Value->Shared->Prop} (I:Inv X pins σ H s) (e:H a=some (.ins C dx fs)) (c:Cls X.K C) (k:fF X.K C m g) (l:fs.lookup m=none)
  (h:Q (.ref g,[.ref a]) s):wpAny (model X.prog X.w) A (getMethod (.ref a) m pl) Q E s:=by
 obtain⟨mA,O,r,_,_,_⟩:=nK I.hok e;have hn:mA m=none:=RelO.none_of (by rw[←l];exact r m);exact DX I.kIn O (c.get m) k.at_ k.fn hn h
theorem zB {y:V}{u:Value}{Q:Unit->Shared->Prop} (I:Inv X pins σ H s) (e:H a=some (.ins C dx fs)) (c:Cls X.K C) (n:NoAttr X.K C f) (hl:fs.length<1000) (ry:RelV y u)
  (h:∀s',Inv X pins σ (upd H a (.ins C dx (cD f y fs))) s'->Q () s'):wpAny (model X.prog X.w) A (setAttr (.ref a) f u) Q E s:=by
 obtain⟨mA,O,r,wi,_,ho⟩:=nK I.hok e;have hz:(fs.map (·.1)).length<=sizeLine:=by rw[List.length_map,sizeLine_eq];lia
 refine IL I.kIn O c.sa c.po n.taker c.hd wi hz fun h' O' sb=>h _ ?_;have hd:∃o,h'.get? dx=some o:=let ⟨o,_,_,e',_⟩:=O'.ns;⟨o,e'⟩;refine I.write (x:=a) (e:=dx) (by rw[e];exact True.intro) (.inr ho) (fun b q hb z=>(sb.2 b hb).trans z) hd ?_;refine⟨by rw[aG O.ne];exact ho,?_,O.ne,O'.obj,_,O'.ns,fun g=> ?_,fun g hg=> ?_⟩
 ·have:=oO f y fs;lia
 ·show RelO ((cD f y fs).lookup g) (if g=f then some u else mA g);rw[iF]
  by_cases q:g=f
  ·rw[if_pos q,if_pos q];exact ry
  ·rw[if_neg q,if_neg q];exact r g
 ·by_cases q:g=f
  ·rw[q];exact(lV f y fs).1
  ·refine(lV f y fs).2 g (wi g fun z=>hg ?_);show (if g=f then some u else mA g)=none;rw[if_neg q];exact z
theorem Inv.made (I:Inv X pins σ H s):Inv X pins σ (upd (upd H s.heap.objs.size (.own (s.heap.objs.size+1))) (s.heap.objs.size+1) (.ins C s.heap.objs.size []))
  { s with heap:=(s.heap.push PySem.W.emptyDict).push (PySem.W.instObj C s.heap.objs.size) }:=by
 have e1:(s.heap.push PySem.W.emptyDict).get? s.heap.objs.size=some PySem.W.emptyDict:=Heap.get?_push_size s.heap rfl;have e2:((s.heap.push PySem.W.emptyDict).push (PySem.W.instObj C s.heap.objs.size)).get? (s.heap.objs.size+1)=some (PySem.W.instObj C s.heap.objs.size):=by
  have:=Heap.get?_push_size (s.heap.push PySem.W.emptyDict) (o:=PySem.W.instObj C s.heap.objs.size) rfl
  rwa [Heap.size_push]at this
 have e3:(s.heap.push PySem.W.emptyDict).Ns s.heap.objs.size (fun _=>none):=⟨PySem.W.emptyDict,#[],_,e1,rfl,(fun e he=>absurd he (by simp)),fun _=>rfl⟩
 have I1:=I.laid (a:=s.heap.objs.size) (o:= .own (s.heap.objs.size+1)) (h':=s.heap.push PySem.W.emptyDict) (t':=s.toks) (fun b u q=>Heap.get?_push_of_some _ q) (Nat.le_refl _) ⟨_,e1⟩;refine I1.laid (a:=s.heap.objs.size+1) (o:= .ins C s.heap.objs.size []) (t':=s.toks) (fun b u q=>Heap.get?_push_of_some _ q) (Nat.le_of_eq (Heap.size_push _ _)) ?_;have ne:s.heap.objs.size≠s.heap.objs.size+1:=Nat.ne_of_lt (Nat.lt_succ_self _);refine⟨by rw[aG ne,aR],Nat.zero_le _,ne,e2,fun _=>none,(Heap.Ns1.of_empty e3).at fun o q=>Heap.get?_push_of_some _ q,fun _=>True.intro,fun y hy=>absurd rfl hy⟩
theorem xQ {prog:Program}{w:World}{env:Env}{e:Expr}{f:Str}{pos:Pos}{s:Shared}{Q:Value->Shared->Prop} (hb:attributeBase e f env (eval e env)=eval e env)
  (h:wpAny (model prog w) A (eval e env) (fun o s₁=>wpAny (model prog w) A (getAttr o f true) Q E s₁) E s):wpAny (model prog w) A (eval (.Attribute e f pos) env) Q E s :=
 Attribute_any_ h (by rw[arm_eval_Attribute,hb])
end
def EE (K:PySem.W.Frag)(ta:TE)(f:Str):TE:=fun σ H Q=>ta σ H fun x H1=>∃a C dx fs v,x= .ref a/\H1 a=some (.ins C dx fs)/\Cls K C/\NoAttr K C f/\fs.lookup f=some v/\Q v H1
def L9 (K:PySem.W.Frag)(ta tv:TE)(f:Str):TS:=fun D σ H=>tv σ H fun y H1=>ta σ H1 fun x H2=>∃a C dx fs,x= .ref a/\H2 a=some (.ins C dx fs)/\Cls K C/\NoAttr K C f/\fs.length<1000 ∧
 D.nx σ (upd H2 a (.ins C dx (cD f y fs)))
def MK (X:Cx)(op:Operator)(rd:V->V->Hp->VK->Prop):Prop :=
 ∀(pins:List (Addr×Obj)) (s:Shared) (σ:St) (H:Hp) (x y:V) (u v:Value) (Q:VK),Inv X pins σ H s->RelV x u->RelV y v->rd x y H Q->wpAny (model X.prog X.w) X.A (inplaceOp op u v) (EP X pins σ Q) X.xe s
section
variable {X:Cx}{o e value:Expr}{f:Str}{pos pos' tpos:Pos}{ta tv:TE}
theorem eY (he:PE X e ta)(hb:attributeBase e f X.env (eval e X.env)=eval e X.env):PE X (.Attribute e f pos) (EE X.K ta f):=by
 intro pins s σ H Q I h;refine xQ hb (thn (he pins s σ H _ I h) fun u s1 ⟨x,H1,I1,rx,a,C,dx,fs,v,ex,ea,c,n,l,q⟩=> ?_);subst ex;obtain rfl:u=Value.ref a:=rx;exact z6 I1 ea c n l fun u' s2 I2 ru=>⟨v,H1,I2,ru,q⟩
theorem gK (ha:PE X o ta)(hv:PE X value tv)(hs:swapsWith value (some (.Attribute o f pos')) pos.line X.env=pure false):PS X (.Assign [.Attribute o f pos'] value pos) (L9 X.K ta tv f):=by
 intro pins s σ H D I h;refine plainObj_wpAny_Assign_Attribute (thn (hv pins s σ H _ I h) fun u s1 ⟨y,H1,I1,ry,q⟩=>thn (ha pins s1 σ H1 _ I1 q) fun ov s2 ⟨x,H2,I2,rx,a,C,dx,fs,ex,ea,c,n,l,q2⟩=> ?_) hs;subst ex;obtain rfl:ov=Value.ref a:=rx;exact zB I2 ea c n l ry fun s3 I3=>⟨σ,_,I3,q2⟩
def LJ:V->V->Hp->VK->Prop:=fun x y H Q=>∃i j,x= .int i/\y= .int j/\Q (.int (i+j)) H
theorem M8:MK X .Add LJ:=by
 rintro pins s σ H x y u v Q I rx ry ⟨i,j,rfl,rfl,q⟩;obtain⟨t,rfl⟩:=(show ∃t,u=Value.int i t from rx)
 obtain⟨t',rfl⟩:=(show ∃t',v=Value.int j t' from ry)
 exact PyProof.Rows.iadd_int ⟨.int (i+j),H,I.tok _,⟨_,rfl⟩,q⟩
end
section
variable {X:Cx}{pins:List (Addr×Obj)}{σ:St}{H:Hp}{s:Shared}{A:Around}{E:Value->Shared->Prop}{Q:Value->Shared->Prop}{c:Value}{b:Bool}
inductive fP (K:PySem.W.Frag)(H:Hp):V->Value->Prop where
 | non:fP K H .non (.type "NoneType")
 | bl (x:Bool):fP K H (.bl x) (.type "bool")
 | int (i:Int):fP K H (.int i) (.type "int")
 | str (x:Str):fP K H (.str x) (.type "str")
 | flt (x:UInt64):fP K H (.flt x) (.type "float")
 | lst {a:Addr}{xs:List V} (e:H a=some (.lst xs)):fP K H (.ref a) (.type "list")
 | frz {a:Addr}{o:Obj}{xs:List V} (e:H a=some (.frz o (.lst xs))):fP K H (.ref a) (.type "list")
 | tup {a:Addr}{xs:List V} (e:H a=some (.tup xs)):fP K H (.ref a) (.type "tuple")
 | dK {a:Addr}{kvs:List (Key×V)} (e:H a=some (.dK kvs)):fP K H (.ref a) (.type "dict")
 | dT {a:Addr}{kvs:List (List Key×V)} (e:H a=some (.dT kvs)):fP K H (.ref a) (.type "dict")
 | ins {a C dx:Addr}{fs:List (Str×V)} (e:H a=some (.ins C dx fs)) (cl:Cls K C) (ha:PySem.W.findIn K (.ref C) "__class__" =some (some (.builtin "object.__class__")))
   (hn:PySem.W.specialIn K (.builtin "object.__class__") "__get__" =some (some (.builtin "getset_descriptor.__get__")))(htk:PySem.W.takesIn K (.builtin "object.__class__")=some true)
   (hm:PySem.W.mroIn K C (.type "object")=some true):fP K H (.ref a) (.ref C)
theorem AR {x:V}{u t:Value} (I:Inv X pins σ H s) (rx:RelV x u) (ty:fP X.K H x t) (e:PySem.W.kitOne X.K t c=some b) (h:∀tk,Q (.bool b) { s with toks:=tk }) :
  wpAny (model X.prog X.w) A (call (.builtin "isinstance") [u,c]) Q E s:=by
 cases ty with
 | non=>cases (show u=Value.none from rx);exact PySem.W.kia_one PySem.W.kitx_none I.kIn True.intro e (fun z=>nomatch z) h
 | bl y=>cases (show u=Value.bool y from rx);exact PySem.W.kia_one PySem.W.kitx_bool I.kIn True.intro e (fun z=>nomatch z) h
 | int i=>obtain⟨t,q⟩:=(show ∃t,u=Value.int i t from rx);cases q;exact PySem.W.kia_one PySem.W.kitx_int I.kIn True.intro e (fun z=>nomatch z) h
 | str y=>obtain⟨t,q⟩:=(show ∃t,u=Value.str y t from rx);cases q;exact PySem.W.kia_one PySem.W.kitx_str I.kIn True.intro e (fun z=>nomatch z) h
 | flt y=>obtain⟨t,q⟩:=(show ∃t,u=Value.float y t from rx);cases q;exact PySem.W.kia_one PySem.W.kitx_float I.kIn True.intro e (fun z=>nomatch z) h
 | @lst a xs ea =>
  cases (show u=Value.ref a from rx);obtain⟨_,_,n,_,h1⟩:=(show ObjOk X.prog X.w H s.heap a (.lst xs) from I.hok a _ ea)
  exact PySem.W.kia_one PySem.W.kitx_list I.kIn ⟨_,h1,rfl⟩ e (fun z=>nomatch z) h
 | @frz a ob xs ea =>
  cases (show u=Value.ref a from rx);obtain⟨_,_,_,n,_,h1⟩:=(show ObjOk X.prog X.w H s.heap a (.frz ob (.lst xs)) from I.hok a _ ea)
  exact PySem.W.kia_one PySem.W.kitx_list I.kIn ⟨_,h1,rfl⟩ e (fun z=>nomatch z) h
 | @tup a xs ea =>
  cases (show u=Value.ref a from rx);obtain⟨_,_,_,p⟩:=(show ObjOk X.prog X.w H s.heap a (.tup xs) from I.hok a _ ea)
  obtain⟨o,h1,h2,_⟩:=p;exact PySem.W.kia_one PySem.W.kitx_tuple I.kIn ⟨o,h1,h2⟩ e (fun z=>nomatch z) h
 | @dK a kvs ea =>
  cases (show u=Value.ref a from rx);obtain⟨_,_,vs,_,p⟩:=(show ObjOk X.prog X.w H s.heap a (.dK kvs) from I.hok a _ ea)
  obtain⟨o,es,ep,h1,h2,_⟩:=p;exact PySem.W.kia_one PySem.W.kitx_dict I.kIn ⟨o,h1,h2.1⟩ e (fun z=>nomatch z) h
 | @dT a kvs ea =>
  cases (show u=Value.ref a from rx);obtain⟨_,_,xs,_,o,es,ep,h1,h2,_⟩:=(show ObjOk X.prog X.w H s.heap a (.dT kvs) from I.hok a _ ea)
  exact PySem.W.kia_one PySem.W.kitx_dict I.kIn ⟨o,h1,h2.1⟩ e (fun z=>nomatch z) h
 | @ins a C dx fs ea cl ha hn htk hm =>
  cases (show u=Value.ref a from rx);obtain⟨mA,O,_⟩:=nK I.hok ea;obtain⟨od,J,_⟩:=O.look;exact PySem.W.kia_one (PySem.W.kitx_own (cl.get _) cl.hd ha hn htk hm) I.kIn J e (fun z=>nomatch z) h
end
end L2
namespace L2
open PySem PySem.Spec PyProof.Rows
structure Room (k:Nat)(A:Around):Prop where
 hd:A.handled=none
 dp:A.depth+3 * k+5<recursionLimit
 un:A.units+16 * k+200<cLine
theorem Room.mono {j k:Nat}{A:Around} (r:Room k A) (h:j<=k):Room j A:=⟨r.hd,by have:=r.dp;lia,by have:=r.un;lia⟩
theorem Room.deeper {k:Nat}{A:Around} (r:Room (k+1) A) (env:Env):Room k (A.deeper env) :=
 ⟨r.hd,by have:=r.dp;show A.depth+1+3 * k+5<_;lia,by have:=r.un;show A.units+3+16 * k+200<_;lia⟩
theorem z7 {A:Around}{C:Addr}{us:List Value}{kw:List (Str×Value)}:(A.under (.builtin "type.__call__" ⟨.ref C::us,kw⟩)).depth=A.depth+1:=by
 first|rfl|simp[Around.under,Code.weight,Code.isCreation,Code.isGuard,Code.isCaller,Code.frames,Code.isFrame,guardIds]
theorem zK {A:Around}{C:Addr}{us:List Value}{kw:List (Str×Value)}:(A.under (.builtin "type.__call__" ⟨.ref C::us,kw⟩)).units=A.units+1:=by
 first|rfl|simp[Around.under,Code.cUnits,Code.frames,Code.isFrame]
theorem Room.make {k:Nat}{A:Around} (r:Room (k+1) A) (C:Addr) (us:List Value) (kw:List (Str×Value)):Room k (A.under (.builtin "type.__call__" ⟨.ref C::us,kw⟩)) :=
 ⟨r.hd,by have:=r.dp;rw[z7];lia,by have:=r.un;rw[zK];lia⟩
theorem Room.depth {k:Nat}{A:Around} (r:Room k A):A.depth<recursionLimit:=by have:=r.dp;lia
theorem Room.units0 {k:Nat}{A:Around} (r:Room k A):A.units<cLine:=by have:=r.un;lia
def DP:TA:=fun _ H Q=>Q [] H
def GK (ta:TE)(tr:TA):TA:=fun σ H Q=>ta σ H fun x H1=>tr σ H1 fun xs H2=>Q (x::xs) H2
section
variable {X:Cx}{e:Expr}{es:List Expr}{te:TE}{t:TA}{pos:Pos}
theorem aB:PA X [] DP:=fun _ _ _ _ H Q I h=>Calls.spliced_nil ⟨[],H,I,.nil,h⟩
theorem aA (ha:PE X e te)(hr:PA X es t)(hs:starEach (e::es) X.env=(false,eval e X.env)::starEach es X.env:=by rfl):PA X (e::es) (GK te t):=by
 intro pos pins s σ H Q I h;rw[hs];show wpAny _ _ (spliced ((false,eval e X.env)::backTo pos (starEach es X.env))) _ _ s;refine Calls.spliced_cons (thn (ha pins s σ H _ I h) fun u s1 ⟨x,H1,I1,r1,q1⟩=> ?_);exact thn (hr pos pins s1 σ H1 _ I1 q1) fun us s2 ⟨xs,H2,I2,r2,q2⟩=>⟨x::xs,H2,I2,.cons r1 r2,q2⟩
def MX (t:TA):TE:=fun σ H Q=>t σ H fun xs H1=>xs.length<=sizeLine/\∀p,H1 p=none->Q (.ref p) (upd H1 p (.tup xs))
def NO (t:TA):TE:=fun σ H Q=>t σ H fun xs H1=>xs.length<=sizeLine/\∀p,H1 p=none->Q (.ref p) (upd H1 p (.lst xs))
theorem bJ {x1}(h:PA X es t):PE X (.Tuple es x1 pos) (MX t):=by
 intro pins s σ H Q I hq;refine wpAny_Tuple_spliced (thn (h pos pins s σ H _ I hq) fun us s1 ⟨xs,H1,I1,r,z,q⟩=>⟨by rw[←r.length];exact z,?_⟩);have hf:H1 s1.heap.objs.size=none:=I1.hok.fresh (Nat.le_refl _);refine⟨.ref s1.heap.objs.size,upd H1 s1.heap.objs.size (.tup xs),I1.laid (t':=s1.toks) (fun b u e=>Heap.get?_push_of_some _ e) (Nat.le_refl _) ?_,rfl,q _ hf⟩;exact⟨z,us,r,⟨_,Heap.get?_push_size _ rfl,rfl,_,rfl⟩⟩
theorem b1 (h:PA X es t):PE X (.List es pos) (NO t):=by
 intro pins s σ H Q I hq;refine wpAny_List_spliced (thn (h pos pins s σ H _ I hq) fun us s1 ⟨xs,H1,I1,r,z,q⟩=>⟨by rw[←r.length];exact z,?_⟩);have hf:H1 s1.heap.objs.size=none:=I1.hok.fresh (Nat.le_refl _);refine⟨.ref s1.heap.objs.size,upd H1 s1.heap.objs.size (.lst xs),I1.laid (t':=s1.toks) (fun b u e=>Heap.get?_push_of_some _ e) (Nat.le_refl _) ?_,rfl,q _ hf⟩;exact⟨z,us,0,r,Heap.get?_push_size _ rfl⟩
end
abbrev Sp:=List V->Hp->VK->XK->Prop
abbrev CXT:=List Env->Hp->Shared->XK->Value->Shared->Prop
structure Env0 (P:Program)(w:World)(K:PySem.W.Frag)(mg:Str->Option Value)(base:Heap)(A:Around)(outer:List Env)(s:Shared)(H:Hp):Prop where
 frames:A.frames=some outer
 mod:Mod K mg base
 bs:∀b o,base.get? b=some o->s.heap.get? b=some o/\H b=none
 bsz:base.objs.size<=s.heap.objs.size
 funs:s.heap.FunFrames base outer
 frf:∀b∈frs outer,H b=none
 hok:HOk P w H s.heap
 bare:AllBare s.gens
def CE (outer:List Env)(P:Program)(w:World)(H:Hp)(s:Shared)(Q:VK)(u:Value)(s':Shared):Prop :=
 ∃v H',s'.os=s.os/\AllBare s'.gens/\Un (frs outer) [] H H' s.heap s'.heap/\HOk P w H' s'.heap/\RelV v u/\Q v H'
def CR (CX:CXT)(outer:List Env)(P:Program)(w:World)(H:Hp)(s:Shared)(Q:VK)(E:XK)(r:Result)(s':Shared):Prop :=
 match r with
 | .ok (.ret u)=>CE outer P w H s Q u s'
 | .ok _=>False
 | .error e=>CX outer H s E e s'
structure bK (P:Program)(w:World)(K:PySem.W.Frag)(mg:Str->Option Value)(base:Heap)(CX:CXT)(k:Nat)(f:Addr)(fd:FuncData)(ps:List Str)(sp:Sp):Prop where
 len:∀vs H Q E,sp vs H Q E->vs.length=ps.length
 run:∀(A:Around) (outer:List Env) (s:Shared) (H:Hp) (args:Args) (us:List Value) (vs:List V) (Q:VK) (E:XK),Room k A->Env0 P w K mg base A outer s H->BindsTo s fd args (ps.zip us)->Vals vs us->sp vs H Q E →
  codeAny (model P w) A (.call (.ref f) args) (CR CX outer P w H s Q E) s
theorem Env0.make {P:Program}{w:World}{K:PySem.W.Frag}{mg:Str->Option Value}{base:Heap}{A:Around}{outer:List Env}{s:Shared}{H:Hp} (e:Env0 P w K mg base A outer s H) (C:Addr) (us:List Value) (kw:List (Str×Value)) :
  Env0 P w K mg base (A.under (.builtin "type.__call__" ⟨.ref C::us,kw⟩)) outer s H:=⟨by first|exact e.frames|(simpa [Around.under,Code.envs,Code.isFrame,pushEnvs] using e.frames),e.mod,e.bs,e.bsz,e.funs,e.frf,e.hok,e.bare⟩
section
variable {X:Cx}{pins:List (Addr×Obj)}{σ:St}{H:Hp}{s s':Shared}
theorem Inv.env0 (I:Inv X pins σ H s):Env0 X.prog X.w X.K X.mg X.base X.A X.stack s H :=
 ⟨I.ok.frames,I.ok.mod,I.bs,Nat.le_trans I.ok.bsz I.sz,I.stack,I.stkFree,I.hok,I.bare⟩
theorem Inv.after {Q:VK}{u:Value} (I:Inv X pins σ H s) (h:CE X.stack X.prog X.w H s Q u s'):EP X pins σ Q u s':=by
 obtain⟨v,H',os,bare,un,hok,r,q⟩:=h;obtain⟨hh,g,d,t,os'⟩:=s';obtain rfl:os'=s.os:=os;exact⟨v,H',I.call (h':=hh) (g':=g) (d':=d) (t':=t) (ch:=[]) un hok bare (fun b z=>absurd z (by simp)),r,q⟩
end
def qK (sp:Sp)(dvs:List V)(E:XK)(t:TA):TE:=fun σ H Q=>t σ H fun vs H1=>sp (vs++dvs) H1 Q E
def uU (C:Addr)(sp:Sp)(dvs:List V)(E:XK)(t:TA):TE:=fun σ H Q=>t σ H fun vs H1=>∀x dx,H1 x=none->H1 dx=none->dx≠x →
 sp (.ref x::(vs++dvs)) (upd (upd H1 dx (.own x)) x (.ins C dx [])) (fun v H2=>v= .non/\Q (.ref x) H2) E
def Binds (K:PySem.W.Frag)(fd:FuncData)(ps:List Str)(ds:List Value):Prop :=
 ∀(s:Shared) (us:List Value),K.In s.heap->(us++ds).length=ps.length->BindsTo s fd ⟨us,[]⟩ (ps.zip (us++ds))
theorem Binds.all {K:PySem.W.Frag}{fd:FuncData}{ps:List Str} (h:∀us:List Value,us.length=ps.length->bindArgs fd ⟨us,[]⟩=pure (ps.zip us)):Binds K fd ps []:=fun s us _ hl=>by
 rw[List.append_nil]at hl ⊢;exact .of_eq (h us hl)
def jC (CX:CXT)(X:Cx)(E:XK):Prop:=∀(pins:List (Addr×Obj)) (σ:St) (H:Hp) (s:Shared) (e:Value) (s':Shared),Inv X pins σ H s->CX X.stack H s E e s'->X.xe e s'
section
variable {X:Cx}{CX:CXT}{k:Nat}{f C:Addr}{fd:FuncData}{ps:List Str}{sp:Sp}{dvs:List V}{ds:List Value}{E:XK}{x m:Str}{p pos apos:Pos}{e o:Expr}{es:List Expr}{ta:TE}{t:TA}
theorem AX {pins:List (Addr×Obj)}{σ:St}{H:Hp}{s:Shared}{Q:VK}{us:List Value}{vs:List V} (F:bK X.prog X.w X.K X.mg X.base CX k f fd ps sp) (hr:Room k X.A) (hb:Binds X.K fd ps ds) (hd:Vals dvs ds) (hx:jC CX X E)
  (I:Inv X pins σ H s)(r:Vals vs us)(h:sp (vs++dvs) H Q E):wpAny (model X.prog X.w) X.A (call (.ref f) us) (EP X pins σ Q) X.xe s:=by
 have r2:Vals (vs++dvs) (us++ds):=r.append hd;have hl:(us++ds).length=ps.length:=by rw[←r2.length];exact F.len _ _ _ _ h
 refine wpAny_call (codeAny_mono (F.run X.A X.stack s H ⟨us,[]⟩ (us++ds) (vs++dvs) Q E hr I.env0 (hb s us I.kIn hl) r2 h) fun r s' hq=> ?_);cases r with
 | error e=>exact hx pins σ H s e s' I hq
 | ok fl =>
  cases fl with
  | ret u=>exact I.after hq
  | next=>exact False.elim hq
  | brk=>exact False.elim hq
  | cont=>exact False.elim hq
theorem yA (F:bK X.prog X.w X.K X.mg X.base CX k f fd ps sp)(hr:Room k X.A)(hg:Gl X x)(hm:X.mg x=some (.ref f))(hk:PySem.W.keepIn X.K (.ref f)=true)(hb:Binds X.K fd ps ds)(hd:Vals dvs ds)(hx:jC CX X E)
  (ha:PA X (e::es) t)(hdb:(x==("__debug__" :Str))=false:=by decide)(he:starEach (e::es) X.env=(false,eval e X.env)::starEach es X.env:=by rfl)(hpl:(backTo pos (starEach es X.env)).any (·.1)=false:=by rfl) :
  PE X (.Call (.Name x p) (e::es) [] pos) (qK sp dvs E t):=by
 intro pins s σ H Q I h;refine wpAny_Call_Name_kw (g7 I hg hm ?_ hdb);refine PySem.W.callWith_K (h₀:=X.base) I.ok.mod.kin hk (thn (ha pos pins s σ H _ I h) fun us s1 ⟨vs,H1,I1,r,q⟩=>⟨I1.kIn,?_⟩) he hpl;exact AX F hr hb hd hx I1 r q
structure Mk (K:PySem.W.Frag)(C f:Addr):Prop where
 makes:PySem.W.makesIn K C=true
 init:PySem.W.findIn K (.ref C) "__init__" =some (some (.ref f))
 fn:PySem.W.isFn K (.ref f)=true
 kp:PySem.W.keepIn K (.ref C)=true
theorem FG {pins:List (Addr×Obj)}{σ:St}{H:Hp}{s:Shared}{Q:VK}{us:List Value}{vs:List V} (M:Mk X.K C f) (F:bK X.prog X.w X.K X.mg X.base CX k f fd ps sp) (hr:Room (k+1) X.A) (hb:Binds X.K fd ps ds) (hd:Vals dvs ds)
  (hx:jC CX X E)(I:Inv X pins σ H s)(r:Vals vs us)
  (h:∀x dx,H x=none->H dx=none->dx≠x->sp (.ref x::(vs++dvs)) (upd (upd H dx (.own x)) x (.ins C dx [])) (fun v H2=>v= .non/\Q (.ref x) H2) E) :
  wpAny (model X.prog X.w) X.A (call (.ref C) us) (EP X pins σ Q) X.xe s:=by
 have hq:=h (s.heap.objs.size+1) s.heap.objs.size (I.hok.fresh (Nat.le_succ _)) (I.hok.fresh (Nat.le_refl _)) (Nat.ne_of_lt (Nat.lt_succ_self _));have I2:=Inv.made (C:=C) I;have r2:Vals (V.ref (s.heap.objs.size+1)::(vs++dvs)) (Value.ref (s.heap.objs.size+1)::(us++ds)):= .cons rfl (r.append hd);have hl:(Value.ref (s.heap.objs.size+1)::us++ds).length=ps.length:=by
  have e:=r2.length;rw[F.len _ _ _ _ hq]at e;exact e.symm
 refine wpAny_call (vW (f:=f) I.kIn M.makes M.init (beq_iff_eq.mp M.fn) (codeAny_mono (F.run _ X.stack _ _ ⟨Value.ref (s.heap.objs.size+1)::us,[]⟩ (Value.ref (s.heap.objs.size+1)::(us++ds)) _ _ E (hr.make C us [])
  (I2.env0.make C us []) (hb _ (Value.ref (s.heap.objs.size+1)::us) I2.kIn hl) r2 hq) fun r s' hq'=> ?_))
 cases r with
 | error e=>exact hx pins σ _ _ e s' I2 hq'
 | ok fl =>
  cases fl with
  | ret u =>
   obtain⟨v,H',I3,rv,ev,q3⟩:=I2.after hq';subst ev;exact⟨rv,⟨V.ref (s.heap.objs.size+1),H',I3,rfl,q3⟩⟩
  | next=>exact False.elim hq'
  | brk=>exact False.elim hq'
  | cont=>exact False.elim hq'
theorem JG (M:Mk X.K C f)(F:bK X.prog X.w X.K X.mg X.base CX k f fd ps sp)(hr:Room (k+1) X.A)(hg:Gl X x)(hm:X.mg x=some (.ref C))(hb:Binds X.K fd ps ds)(hd:Vals dvs ds)(hx:jC CX X E)
  (ha:PA X (e::es) t)(hdb:(x==("__debug__" :Str))=false:=by decide)(he:starEach (e::es) X.env=(false,eval e X.env)::starEach es X.env:=by rfl)(hpl:(backTo pos (starEach es X.env)).any (·.1)=false:=by rfl) :
  PE X (.Call (.Name x p) (e::es) [] pos) (uU C sp dvs E t):=by
 intro pins s σ H Q I h;refine wpAny_Call_Name_kw (g7 I hg hm ?_ hdb);refine PySem.W.callWith_K (h₀:=X.base) I.ok.mod.kin M.kp (thn (ha pos pins s σ H _ I h) fun us s1 ⟨vs,H1,I1,r,q⟩=>⟨I1.kIn,?_⟩) he hpl;exact FG M F hr hb hd hx I1 r q
end
section
variable {X:Cx}{CX:CXT}{k:Nat}{f C:Addr}{fd:FuncData}{ps ks:List Str}{sp:Sp}{E:XK}{x m:Str}{p pos apos kpos:Pos}{e o:Expr}{es:List Expr}{kws:List Keyword}{te ta:TE}{t tk:TA}{nm:Option Str}
variable {g:List Value->List Value->List Value}{gV:List V->List V->List V}
end
structure bE (N P:List Str)(sc:Scope):Prop where
 kind:sc.kind= .function
 co:sc.isCoroutine=false
 gen:sc.isGenerator=false
 nd:N.Nodup
 pre:N.take P.length=P
 par:∀x∈P,sc.names.lookup x=some .local∨sc.names.lookup x=some .cell
 nofree:∀y∈sc.names,y.2≠ .free
theorem tE {kindOf:Str->Option NameKind}{x:Str}:∀{binds:List (Str×Value)}{m:Str->Option Value},(∀v,(x,v)∉binds)->bindL kindOf binds m x=m x
 | [],_,_=>rfl
 | (n,v)::r,m,h=>by
  unfold bindL;rw[tE fun w hw=>h w (List.mem_cons_of_mem _ hw)]
  split
  ·have:x≠n:=by rintro rfl;exact h v List.mem_cons_self
   simp[this]
  ·rfl
theorem t0 {kindOf:Str->Option NameKind}{x:Str}:∀{binds:List (Str×Value)}{m:Str->Option Value},(∀v,(x,v)∉binds)->bindC kindOf binds m x=m x
 | [],_,_=>rfl
 | (n,v)::r,m,h=>by
  unfold bindC;rw[t0 fun w hw=>h w (List.mem_cons_of_mem _ hw)]
  split
  ·rfl
  ·have:x≠n:=by rintro rfl;exact h v List.mem_cons_self
   simp[this]
theorem tQ {kindOf:Str->Option NameKind}{x:Str}{v:Value}:∀{P:List Str}{vs:List Value}{i:Nat}{m:Str->Option Value},P.Nodup->P[i]? =some x->vs[i]? =some v->kindOf x=some .local →
  bindL kindOf (P.zip vs) m x=some v
 | [],_,_,_,_,h,_,_=>by simp at h
 | _::_,[],_,_,_,_,h,_=>by simp at h
 | p::P,w::vs,0,m,nd,h1,h2,hk=>by
  simp at h1 h2;subst h1;subst h2;show bindL kindOf ((p,w)::P.zip vs) m p=_;unfold bindL;rw[tE fun v hv=>(List.nodup_cons.mp nd).1 (List.of_mem_zip hv).1,if_pos hk];simp
 | p::P,w::vs,i+1,m,nd,h1,h2,hk=>by
  show bindL kindOf ((p,w)::P.zip vs) m x=_;unfold bindL;exact tQ (i:=i) (List.nodup_cons.mp nd).2 (by simpa using h1) (by simpa using h2) hk
theorem t5 {kindOf:Str->Option NameKind}{x:Str}{v:Value}:∀{P:List Str}{vs:List Value}{i:Nat}{m:Str->Option Value},P.Nodup->P[i]? =some x->vs[i]? =some v->kindOf x≠some .local →
  bindC kindOf (P.zip vs) m x=some v
 | [],_,_,_,_,h,_,_=>by simp at h
 | _::_,[],_,_,_,_,h,_=>by simp at h
 | p::P,w::vs,0,m,nd,h1,h2,hk=>by
  simp at h1 h2;subst h1;subst h2;show bindC kindOf ((p,w)::P.zip vs) m p=_;unfold bindC;rw[t0 fun v hv=>(List.nodup_cons.mp nd).1 (List.of_mem_zip hv).1,if_neg hk];simp
 | p::P,w::vs,i+1,m,nd,h1,h2,hk=>by
  show bindC kindOf ((p,w)::P.zip vs) m x=_;unfold bindC;exact t5 (i:=i) (List.nodup_cons.mp nd).2 (by simpa using h1) (by simpa using h2) hk
def gN (N:List Str)(vs:List V):St:=vs.map some++List.replicate (N.length - vs.length) none
def c9 (CX:CXT)(P:Program)(w:World)(K:PySem.W.Frag)(mg:Str->Option Value)(base:Heap)(N:List Str)(qual:Str)(scope:Scope)(f:Addr)(cd:Value)(A:Around)(outer:List Env)(s:Shared)(H:Hp)(E:XK):Cx where
 prog:=P
 w:=w
 K:=K
 mg:=mg
 base:=base
 A:=A.deeper (envOfC qual scope s.heap.objs.size f cd)
 N:=N
 s₀:=s
 H₀:=H
 env:=envOfC qual scope s.heap.objs.size f cd
 outer:=outer
 stack:=envOfC qual scope s.heap.objs.size f cd::outer
 ex:=[]
 calm:=true
 fn:=fun _=>true
 pn:=[]
 xe:=fun e s'=>wpAny (model P w) (A.deeper (envOfC qual scope s.heap.objs.size f cd)) (leaving (envOfC qual scope s.heap.objs.size f cd) e) (fun _ s''=>CX outer H s E e s'') (fun e' s''=>CX outer H s E e' s'') s'
theorem oX {sc:Scope}{n:Nat}{x:Str} (h:sc.names.lookup x=some .cell):∃c,(cellsFrom n sc.names []).lookup x=some c:=by
 have q:=PySem.W.cellsFrom_some sc.names n [] (.inl h);exact Option.isSome_iff_exists.mp q
theorem CT {CX:CXT}{P:Program}{w:World}{K:PySem.W.Frag}{mg:Str->Option Value}{base:Heap}{N ps:List Str}{qual:Str}{scope:Scope}{f:Addr}{cd:Value}{A:Around}{outer:List Env}{s s1:Shared}{H:Hp}{E:XK}{us:List Value}{vs:List V}
  (S:bE N ps scope)(hd:A.handled=none)(e0:Env0 P w K mg base A outer s H)(hl:vs.length=ps.length)(r:Vals vs us)
  (x:InCallC s s.heap.objs.size (bindL (envOfC qual scope s.heap.objs.size f cd).kindOf (ps.zip us) fun _=>none) (cellsFrom (s.heap.objs.size+1) scope.names []) (bindC (envOfC qual scope s.heap.objs.size f cd).kindOf (ps.zip us) fun _=>none) s1) :
  Inv (c9 CX P w K mg base N qual scope f cd A outer s H E) [] (gN N vs) H s1:=by
 have hpl:ps.length<=N.length:=by have:=congrArg List.length S.pre;rw[List.length_take]at this;lia
 obtain⟨h1,tk,rfl,hk⟩:=x.done;have noA:∀b:Addr,b∉(c9 CX P w K mg base N qual scope f cd A outer s H E).ex:=fun b z=>absurd (show b∈([]:List Addr) from z) (by simp);refine⟨⟨e0.mod,S.kind,rfl,rfl,Nat.le_refl _,fun y z c h1 h2=> ?_,fun y hy=> ?_,fun y c _ h=> ?_,fun _=>hd,Around.frames_deeper e0.frames,.inr ⟨rfl,rfl⟩,fun b z=>absurd z (noA b),e0.bs,e0.bsz,fun b _ _=>noA b,fun b z=>absurd z (noA b),e0.funs,e0.frf⟩,
  rfl,e0.bare,Un.kept hk,⟨_,x.toInCall.ns,fun i y v h1 h2 h3=> ?_⟩,fun y c h=>⟨_,x.cell y c h⟩,e0.hok.fresh (Nat.le_refl _),fun y c h=> ?_,fun p hp=>absurd (show p∈([]:List (Addr×Obj)) from hp) (by simp),e0.hok.kept hk,?_⟩
 ·exact name_of_addr x.apart (PySem.mem_of_lookup h1) (PySem.mem_of_lookup h2)
 ·have hy:scope.names.lookup y=some .cell∨scope.names.lookup y=some .free:=hy;rcases hy with hy|hy
  ·exact oX hy
  ·exact absurd rfl (S.nofree _ (PySem.mem_of_lookup hy))
 ·exact Nat.le_of_lt (x.above y c (PySem.mem_of_lookup h))
 ·have hi:i<vs.length:=by
   unfold gN at h2
   by_cases hi:i<vs.length
   ·exact hi
   ·rw[List.getElem?_append_right (by simpa using hi)]at h2;rw[List.getElem?_replicate]at h2
    split at h2<;>cases h2
  have ha:vs[i]? =some v:=by
   unfold gN at h2;rw[List.getElem?_append_left (by simpa using hi),List.getElem?_map]at h2;cases e:vs[i]? with
   | none=>rw[e]at h2;cases h2
   | some a=>rw[e]at h2;cases h2;rfl
  obtain⟨u,hu,rv⟩:=r.get ha;have hp:ps[i]? =some y:=by
   rw[←S.pre,List.getElem?_take_of_lt (by lia)];exact h1
  have ndP:ps.Nodup:=by rw[←S.pre];exact S.nd.sublist (List.take_sublist _ _)
  refine⟨u,rv,?_⟩;rcases S.par y (List.mem_of_getElem? hp) with k|k
  ·exact .inl ⟨k,tQ ndP hp hu k⟩
  ·obtain⟨c,e⟩:=oX (n:=s.heap.objs.size+1) k;refine .inr ⟨.inl k,c,e,?_⟩;have q:=x.cell y c e;rw[t5 ndP hp hu (by show scope.names.lookup y≠_;rw[k];decide)]at q;exact q
 ·exact e0.hok.fresh (Nat.le_of_lt (x.above y c (PySem.mem_of_lookup h)))
 ·unfold gN;show _=N.length;rw[List.length_append,List.length_map,List.length_replicate]
  lia
theorem GB {CX:CXT}{P:Program}{w:World}{K:PySem.W.Frag}{mg:Str->Option Value}{base:Heap}{k:Nat}{f:Addr}{name qual:Str}{params:Arguments}{body:List Stmt}{scope:Scope}{dV kV doc pm cdv ct oc:Value}{an od:Option Addr}
  {osl:Array (Option Value)}{N ps:List Str}{sp:Sp} (lk:K.lookup f=some ⟨oc,od,.func (PySem.W.fnOf name qual params body scope dV kV doc pm an cdv ct),osl⟩) (hcd:PySem.W.codeIn K cdv qual=true) (S:bE N ps scope)
  (len:∀vs H Q E,sp vs H Q E->vs.length=ps.length)
  (hbody:∀(A:Around) (outer:List Env) (s:Shared) (H:Hp) (vs:List V) (Q:VK) (E:XK),Room k (A.deeper (envOfC qual scope s.heap.objs.size f cdv))->sp vs H Q E →
   ∃t,PSs (c9 CX P w K mg base N qual scope f cdv A outer s H E) body t/\t { nx:=fun _ H'=>Q .non H',rt:=Q } (gN N vs) H) :
  bK P w K mg base CX (k+1) f (PySem.W.fnOf name qual params body scope dV kV doc pm an cdv ct) ps sp:=by
 refine⟨len,fun A outer s H args us vs Q E hr e0 hb r hsp=> ?_⟩;have hl:=len _ _ _ _ hsp;have KX:K.In s.heap:=e0.mod.kin.keeps fun b o e=>(e0.bs b o e).1;have lim:s.heap.NoLimit:=e0.mod.nolimit.keeps fun b o e=>(e0.bs b o e).1;have hkind:∀y∈ps.zip us,scope.names.lookup y.1=some .local∨(scope.names.lookup y.1=some .cell/\((cellsFrom (s.heap.objs.size+1) scope.names []).lookup y.1).isSome=true):=fun⟨n,v⟩ hy=>by
  rcases S.par n (List.of_mem_zip hy).1 with q|q
  ·exact .inl q
  ·exact .inr ⟨q,PySem.W.cellsFrom_some _ _ _ (.inl q)⟩
 refine codeAny_call_function hr.depth (KX _ _ lk) rfl S.co S.gen rfl (PySem.W.codeRec_of KX hcd) (hb _ _ _ _ ?_);refine wpAny_newFunctionEnv_cells S.kind hkind fun env he s1 x=> ?_;subst he;refine⟨lim.keeps x.toInCall.keep,codeAny_func ?_⟩;obtain⟨t,ht,hq⟩:=hbody A outer s H vs Q E (hr.deeper _) hsp;have I:Inv (c9 CX P w K mg base N qual scope f cdv A outer s H E) [] (gN N vs) H s1:=CT S hr.hd e0 hl r x;refine wpAny_mono (ht [] s1 (gN N vs) H _ I hq) (fun fl s' hs=> ?_) fun e s' hs=>hs;have fin:∀{σ':St}{H':Hp}{v:V}{u:Value},Inv (c9 CX P w K mg base N qual scope f cdv A outer s H E) [] σ' H' s'->RelV v u->Q v H'->CE outer P w H s Q u s' :=
  fun {σ' H' v u} J rv q=>⟨v,H',J.os,J.bare,J.base,J.hok,rv,q⟩
 cases fl with
 | ret u =>
  obtain⟨v,σ',H',J,rv,q⟩:=hs;exact fin J rv q
 | next =>
  obtain⟨σ',H',J,q⟩:=hs;exact fin (v:=V.non) (u:=Value.none) J rfl q
 | brk =>
  obtain⟨_,_,_,q⟩:=hs;exact False.elim q
 | cont =>
  obtain⟨_,_,_,q⟩:=hs;exact False.elim q
end L2
namespace L2
open PySem PySem.Spec PyProof.Rows
section
variable {X:Cx}{x:Str}{p pos:Pos}{e:Expr}{es:List Expr}{t:TA}{id T:String}{r:List V->Hp->VK->Prop}
def tCB (r:List V->Hp->VK->Prop)(t:TA):TE:=fun σ H Q=>t σ H fun vs H1=>r vs H1 Q
theorem aW (hc:cV X (.builtin id) r)(hg:Gl X x)(hm:X.mg x=none)(hv:bootBuiltins x=some (.builtin id))(ha:PA X (e::es) t)(hn:x≠ "__name__" :=by decide)(hdb:(x==("__debug__" :Str))=false:=by decide)
  (he:starEach (e::es) X.env=(false,eval e X.env)::starEach es X.env:=by rfl)(hpl:(backTo pos (starEach es X.env)).any (·.1)=false:=by rfl):PE X (.Call (.Name x p) (e::es) [] pos) (tCB r t):=by
 intro pins s σ H Q I h;refine wpAny_Call_Name_kw (qD I hg hm hv ?_ hn hdb);exact PyProof.Rows.callWith_builtin1 (thn (ha pos pins s σ H _ I h) fun us s1 ⟨vs,H1,I1,r1,q1⟩=>hc pins s1 σ H1 vs us Q I1 r1 q1) he hpl
theorem lZ (hc:cV X (.type T) r)(hg:Gl X x)(hm:X.mg x=none)(hv:bootBuiltins x=some (.type T))(ha:PA X (e::es) t)(hn:x≠ "__name__" :=by decide)(hdb:(x==("__debug__" :Str))=false:=by decide)
  (he:starEach (e::es) X.env=(false,eval e X.env)::starEach es X.env:=by rfl)(hpl:(backTo pos (starEach es X.env)).any (·.1)=false:=by rfl):PE X (.Call (.Name x p) (e::es) [] pos) (tCB r t):=by
 intro pins s σ H Q I h;refine wpAny_Call_Name_kw (qD I hg hm hv ?_ hn hdb);exact PyProof.Rows.callWith_type1 (thn (ha pos pins s σ H _ I h) fun us s1 ⟨vs,H1,I1,r1,q1⟩=>hc pins s1 σ H1 vs us Q I1 r1 q1) he hpl
end
end L2
namespace HT
open PySem PyProof.Rows
section
open PySem.SeqAt
open PySem.AutoSeq1 (wpAny_loadPart')
open PySem.MeetsSeq PySem.MeetsSeq2 PySem.MeetsSeq3
end
section
variable {prog:Program}{w:World}{A:Around}{E:Value->Shared->Prop}{s:Shared}
def sIx (n d:Nat):Option Int->Nat
 | none=>d
 | some v=>if v<0 then (v+(n:Int)).toNat else min v.toNat n
theorem sIx_none (n d:Nat):sIx n d none=d:=rfl
theorem sIx_nat (n d k:Nat):sIx n d (some (k:Int))=min k n:=by
 show (if (k:Int)<0 then ((k:Int)+(n:Int)).toNat else min (k:Int).toNat n)=min k n;rw[if_neg (by lia),Int.toNat_natCast]
end
end HT
namespace L2
open PySem PySem.Spec PyProof.Rows
abbrev TO:=St->Hp->(Option Int->Hp->Prop)->Prop
def PO (X:Cx)(e:Option Expr)(t:TO):Prop :=
 ∀(pins:List (Addr×Obj)) (s:Shared) (σ:St) (H:Hp) (Q:Option Int->Hp->Prop),Inv X pins σ H s->t σ H Q →
  wpAny (model X.prog X.w) X.A (evalPart e X.env) (fun u s'=>∃o H',Inv X pins σ H' s'/\IsPart u o/\Q o H') X.xe s
def x0:TO:=fun _ H Q=>Q none H
def GP (t:TE):TO:=fun σ H Q=>t σ H fun x H1=>∃i,x= .int i/\Q (some i) H1
section
variable {X:Cx}{e:Expr}{te:TE}{lo hi:Option Expr}{tl th:TO}{pos p2:Pos}
theorem gE:PO X none x0:=by
 intro pins s σ H Q I h;rw[evalPart_none];exact wpAny_pure ⟨none,H,I,.none,h⟩
theorem gD (h:PE X e te):PO X (some e) (GP te):=by
 intro pins s σ H Q I hw;rw[evalPart_some];refine thn (h pins s σ H _ I hw) fun u s1 ⟨x,H1,I1,r1,q1⟩=> ?_;obtain⟨i,rfl,q⟩:=q1;obtain⟨t,rfl⟩:=r1;exact⟨some i,H1,I1,.int i t,q⟩
def SlR (X:Cx)(r:V->Option Int->Option Int->Hp->VK->Prop):Prop :=
 ∀(pins:List (Addr×Obj)) (s:Shared) (σ:St) (H:Hp) (x:V) (v vl vu:Value) (lo hi:Option Int) (sl:Addr) (Q:VK),Inv X pins σ H s->RelV x v->s.heap.IsSliceOf sl vl vu .none->IsPart vl lo->IsPart vu hi->r x lo hi H Q →
  ∃T id,typeLookup (.type T) "__getitem__" =pure (some (.builtin id))/\s.TypeIs v T/\wpAny (model X.prog X.w) X.A (getItem v (.ref sl)) (EP X pins σ Q) X.xe s
def tSl (r:V->Option Int->Option Int->Hp->VK->Prop)(te:TE)(tl th:TO):TE:=fun σ H Q=>te σ H fun x H1=>tl σ H1 fun l H2=>th σ H2 fun u H3=>r x l u H3 Q
theorem eU {r:V->Option Int->Option Int->Hp->VK->Prop}(hr:SlR X r)(he:PE X e te)(hl:PO X lo tl)(hu:PO X hi th):PE X (.Subscript e (.Slice lo hi none p2) pos) (tSl r te tl th):=by
 intro pins s σ H Q I h;refine Subscript_ (thn (he pins s σ H _ I h) fun v s1 ⟨x,H1,I1,r1,q1⟩=> ?_);refine wpAny_Slice (thn (hl pins s1 σ H1 _ I1 q1) fun vl s2 ⟨l,H2,I2,pl,q2⟩=>thn (hu pins s2 σ H2 _ I2 q2) fun vu s3 ⟨u,H3,I3,pu,q3⟩=> ?_);rw[evalPart_none];refine wpAny_pure ?_;have I4:Inv X pins σ H3 { s3 with heap:=s3.heap.push { cls:= .type "slice",data:= .fields #[vl,vu,.none] } }:=I3.kept (t':=s3.toks) fun b ob q=>Heap.get?_push_of_some _ q;obtain⟨T,id,hT,ht,hg⟩:=hr pins { s3 with heap:=s3.heap.push { cls:= .type "slice",data:= .fields #[vl,vu,.none] } } σ H3 x v vl vu l u s3.heap.objs.size Q I4 r1 (Heap.IsSliceOf.new ..) pl pu q3;show wpAny (model X.prog X.w) X.A (subscriptTail e (.Slice lo hi none p2) v (.ref s3.heap.objs.size)) (EP X pins σ Q) X.xe { s3 with heap:=s3.heap.push { cls:= .type "slice",data:= .fields #[vl,vu,.none] } };exact tail_any (ops:=[.ref s3.heap.objs.size,v]) ht hT hg (by with_unfolding_all rfl)
def g4 (xs:List V)(lo hi:Option Int):List V:=(xs.drop (HT.sIx xs.length 0 lo)).take (HT.sIx xs.length xs.length hi - HT.sIx xs.length 0 lo)
theorem wS (xs:List V)(lo hi:Option Int):(g4 xs lo hi).length<=xs.length:=by
 unfold g4;rw[List.length_take,List.length_drop]
 lia
end
end L2
namespace L2
open PySem PySem.Spec PyProof.Rows
def ixN (n:Nat)(i:Int):Option Nat:=if 0<=i then (if i<n then some i.toNat else none) else if -(n:Int)<=i then some (i+n).toNat else none
def atI {α:Type}(xs:List α)(i:Int):Option α:=(ixN xs.length i).bind fun j=>xs[j]?
theorem IA {n:Nat}{i:Int}{j:Nat} (h:ixN n i=some j):seqIndex? i n=some j/\j<n/\ -(n:Int)<=i/\i<n:=by
 unfold ixN at h
 by_cases h0:0<=i
 ·rw[if_pos h0]at h
  by_cases h1:i<n
  ·rw[if_pos h1]at h;have e:i.toNat=j:=Option.some.inj h;exact⟨by rw[seqIndex_of h0 h1,e],by lia,by lia,h1⟩
  ·rw[if_neg h1]at h;cases h
 ·rw[if_neg h0]at h
  by_cases h1: -(n:Int)<=i
  ·rw[if_pos h1]at h;have e:(i+n).toNat=j:=Option.some.inj h;exact⟨by rw[seqIndex_neg (by lia) h1,e],by lia,h1,by lia⟩
  ·rw[if_neg h1]at h;cases h
theorem rU {α:Type}{xs:List α}{i:Int}{v:α} (h:atI xs i=some v):∃j,seqIndex? i xs.length=some j/\xs[j]? =some v/\j<xs.length/\ -(xs.length:Int)<=i/\i<xs.length:=by
 unfold atI at h;cases e:ixN xs.length i with
 | none=>rw[e]at h;cases h
 | some j =>
  rw[e]at h;obtain⟨h1,h2,h3,h4⟩:=IA e;exact⟨j,h1,h,h2,h3,h4⟩
theorem nM {α:Type}{xs:List α}{j:Nat}{v:α} (h:xs[j]? =some v):atI xs (j:Int)=some v:=by
 have hj:j<xs.length:=(List.getElem?_eq_some_iff.mp h).1;have e:ixN xs.length (j:Int)=some j:=by
  unfold ixN;rw[if_pos (by lia),if_pos (by lia)];simp
 unfold atI;rw[e];exact h
def J6 (b:Expr):Prop:=∀o i,subscripted b false o i=operate [o,i] (getItem o i)
def IxR (X:Cx)(r:R2):Prop :=
 ∀(value slice:Expr) (pins:List (Addr×Obj)) (s:Shared) (σ:St) (H:Hp) (x y:V) (v u:Value) (Q:VK),Inv X pins σ H s->RelV x v->RelV y u->r x y H Q →
  subscripted slice false v u=operate [v,u] (getItem v u)->wpAny (model X.prog X.w) X.A (subscriptTail value slice v u) (EP X pins σ Q) X.xe s
def MtR (X:Cx)(id:String)(r:V->List V->Hp->VK->Prop):Prop :=
 ∀(pins:List (Addr×Obj)) (s:Shared) (σ:St) (H:Hp) (x:V) (xs:List V) (v:Value) (us:List Value) (Q:VK),Inv X pins σ H s->RelV x v->Vals xs us->r x xs H Q →
  wpAny (model X.prog X.w) X.A (call (.builtin id) (v::us)) (EP X pins σ Q) X.xe s
section
variable {X:Cx}{a b:Expr}{ta tb:TE}{pos:Pos}
theorem b2 {r:R2}(hr:IxR X r)(ha:PE X a ta)(hb:PE X b tb)(hs:J6 b):PE X (.Subscript a b pos) (tOp r ta tb):=by
 intro pins s σ H Q I h;exact Subscript_ (EX ha hb I h fun v u s2 x y H2 I2 rx ry q=>hr a b pins s2 σ H2 x y v u Q I2 rx ry q (hs _ _))
def vU (K:PySem.W.Frag):R2:=fun x y H Q=>∃p xs i v,x= .ref p/\y= .int i/\SqL K H p xs/\atI xs i=some v/\Q v H
def LC (K:PySem.W.Frag):R2:=fun x y H Q=>∃p xs i v,x= .ref p/\y= .int i/\SqT K H p xs/\atI xs i=some v/\Q v H
def PQ:R2:=fun x y H Q=>∃z i c,x= .str z/\y= .int i/\z.length<=sizeLine/\atI z.cps.toList i=some c/\Q (.str ⟨#[c]⟩) H
theorem cM:IxR X (vU X.K):=by
 intro value slice pins s σ H x y v u Q I rx ry h hs;obtain⟨p,xs,i,z,rfl,rfl,hq,he,q⟩:=h;cases rx;obtain⟨t,rfl⟩:=ry;obtain⟨its,r,pl,hz⟩:=I.list hq;obtain⟨j,h1,h2,h3,h4,h5⟩:=rU he;obtain⟨w,ew,rw'⟩:=r.get h2;have hl:=r.length;have hn:=lS;have fin:EP X pins σ Q w s:=⟨z,H,I,rw',q⟩
 by_cases h0:0<=i
 ·have hj:i.toNat=j:=by
   rw[seqIndex_of h0 h5]at h1;exact Option.some.inj h1
  exact item_listR pl.isList h0 (by lia) (by rw[hj];simpa using ew) fin hs
 ·have hj:(i+(its.toArray.size:Int)).toNat=j:=by
   rw[seqIndex_neg (by lia) h4]at h1;rw[List.size_toArray,←hl];exact Option.some.inj h1
  exact subscriptTail_builtinR (x:=w) pl.isList.typeIs slot_list_getitem.lookup
   (wpAny_getItem_list_neg (Q:=fun r s'=>r=w/\EP X pins σ Q r s') pl.isList (by lia) (by rw[List.size_toArray]<;>lia) (by lia) (by rw[hj];simpa using ew) ⟨rfl,fin⟩) hs
theorem iL:IxR X (LC X.K):=by
 intro value slice pins s σ H x y v u Q I rx ry h hs;obtain⟨p,xs,i,z,rfl,rfl,hq,he,q⟩:=h;cases rx;obtain⟨t,rfl⟩:=ry;obtain⟨its,r,pl,hz⟩:=I.tuple hq;obtain⟨j,h1,h2,h3,h4,h5⟩:=rU he;obtain⟨w,ew,rw'⟩:=r.get h2;have hl:=r.length;have hn:=lS;have fin:EP X pins σ Q w s:=⟨z,H,I,rw',q⟩
 exact subscriptTail_builtinR (x:=w) pl.typeIs slot_tuple_getitem.lookup
  (getItem_tuple (j:=j) (Q:=fun r s'=>r=w/\EP X pins σ Q r s') pl (by lia) (by lia) (by rw[List.size_toArray,←hl];exact h1) (by simpa using ew) ⟨rfl,fin⟩) hs
theorem CS:IxR X PQ:=by
 intro value slice pins s σ H x y v u Q I rx ry h hs;obtain⟨z,i,c,rfl,rfl,hz,he,q⟩:=h;obtain⟨t,rfl⟩:=rx;obtain⟨t',rfl⟩:=ry;obtain⟨j,h1,h2,h3,h4,h5⟩:=rU he;have hl:z.cps.toList.length=z.length:=by simp[Str.length]
 rw[hl]at h1 h4 h5;have hn:=lS;exact tail_any (typeIs_str s z t) slot_str_getitem.lookup (getItem_str (c:=c) (by
  have e1:decide (i< -(2^63:Int))=false:=decide_eq_false (by lia);have e2:decide (i≥2^63)=false:=decide_eq_false (by lia);rw[e1,e2,Bool.or_false]) (by rw[h1];simpa using h2) ⟨.str ⟨#[c]⟩,H,I.tok _,⟨_,rfl⟩,q⟩) hs
theorem vO (lo hi:Option Int)(n:Nat):(sliceBounds lo hi none n).1=((HT.sIx n 0 lo:Nat):Int)/\(sliceBounds lo hi none n).2.1=((HT.sIx n n hi:Nat):Int)/\(sliceBounds lo hi none n).2.2=1:=by
 refine⟨?_,?_,rfl⟩
 ·cases lo with
  | none=>simp[sliceBounds,HT.sIx]
  | some i =>
   simp only[sliceBounds,HT.sIx,Option.getD_none,show (1:Int)>0 by decide,if_true]
   by_cases h:i<0
   ·simp only[h,if_true]<;>lia
   ·simp only[h,if_false]<;>lia
 ·cases hi with
  | none=>simp[sliceBounds,HT.sIx]
  | some i =>
   simp only[sliceBounds,HT.sIx,Option.getD_none,show (1:Int)>0 by decide,if_true]
   by_cases h:i<0
   ·simp only[h,if_true]<;>lia
   ·simp only[h,if_false]<;>lia
theorem uI (its:List Value)(lo hi:Option Int):slicePick its.toArray lo hi none=((its.drop (HT.sIx its.length 0 lo)).take (HT.sIx its.length its.length hi - HT.sIx its.length 0 lo)).toArray:=by
 obtain⟨h1,h2,h3⟩:=vO lo hi its.toArray.size;unfold slicePick;rw[h1,h2,h3];simp only[sliceRange_one,pick_run,List.size_toArray]<;>rfl
def LG (K:PySem.W.Frag):V->Option Int->Option Int->Hp->VK->Prop:=fun x lo hi H Q=>∃a xs,x= .ref a/\SqL K H a xs/\∀p,H p=none->Q (.ref p) (upd H p (.lst (g4 xs lo hi)))
theorem fY:SlR X (LG X.K):=by
 intro pins s σ H x v vl vu lo hi sl Q I rx hs pl pu h;obtain⟨a,xs,rfl,hx,q⟩:=h;cases rx;obtain⟨its,r,ht,hz⟩:=I.list hx;have hlen:=r.length;refine⟨"list",_,slot_list_getitem.lookup,ht.isList.typeIs,?_⟩;refine wpAny_getItem_list_slice ht.isList hs pl pu .none (by simp) ?_ (by rw[List.size_toArray]<;>lia);rw[uI,←hlen];refine⟨.ref s.heap.objs.size,_,I.laid (t':=s.toks) (o:= .lst (g4 xs lo hi)) (fun b ob q=>Heap.get?_push_of_some _ q) (Nat.le_refl _) ?_,rfl,q _ (I.hok.fresh (Nat.le_refl _))⟩;exact⟨Nat.le_trans (wS xs lo hi) hz,_,0,(r.drop (HT.sIx xs.length 0 lo)).take (HT.sIx xs.length xs.length hi - HT.sIx xs.length 0 lo),Heap.get?_push_size _ rfl⟩
def qG:V->Bool
 | .non=>true
 | .bl _=>true
 | .int _=>true
 | .str _=>true
 | _=>false
def eqV:V->V->Bool
 | .non,.non=>true
 | .bl a,.bl b=>a==b
 | .bl a,.int b=>(if a then 1 else 0)==b
 | .int a,.bl b=>a==(if b then 1 else 0)
 | .int a,.int b=>a==b
 | .str a,.str b=>a==b
 | _,_=>false
theorem M0 {A:Around}{s:Shared}{y x:V}{u v:Value} (ry:RelV y u) (rx:RelV x v) (fy:qG y=true) (fx:qG x=true):SeqAt.EqAt A s u v (eqV y x):=by
 cases y with
 | non =>
  cases ry;cases x with
  | non=>cases rx;exact SeqAt.EqAt.same _
  | bl b=>cases rx;exact SeqAt.EqAt.none_bool b
  | int b=>obtain⟨t,rfl⟩:=rx;exact SeqAt.EqAt.none_int b t
  | str b=>obtain⟨t,rfl⟩:=rx;exact SeqAt.EqAt.none_str b t
  | _=>exact absurd (show false=true from fx) Bool.false_ne_true
 | bl a =>
  cases ry;cases x with
  | non=>cases rx;exact SeqAt.EqAt.bool_none a
  | bl b=>cases rx;exact SeqAt.EqAt.bool_bool a b
  | int b=>obtain⟨t,rfl⟩:=rx;exact SeqAt.EqAt.bool_int a b t
  | str b=>obtain⟨t,rfl⟩:=rx;exact SeqAt.EqAt.bool_str a b t
  | _=>exact absurd (show false=true from fx) Bool.false_ne_true
 | int a =>
  obtain⟨t',rfl⟩:=ry;cases x with
  | non=>cases rx;exact SeqAt.EqAt.int_none a t'
  | bl b=>cases rx;exact SeqAt.EqAt.int_bool a t' b
  | int b=>obtain⟨t,rfl⟩:=rx;exact SeqAt.EqAt.int_int a t' b t
  | str b=>obtain⟨t,rfl⟩:=rx;exact SeqAt.EqAt.int_str a t' b t
  | _=>exact absurd (show false=true from fx) Bool.false_ne_true
 | str a =>
  obtain⟨t',rfl⟩:=ry;cases x with
  | non=>cases rx;exact SeqAt.EqAt.str_none a t'
  | bl b=>cases rx;exact SeqAt.EqAt.str_bool a t' b
  | int b=>obtain⟨t,rfl⟩:=rx;exact SeqAt.EqAt.str_int a t' b t
  | str b=>obtain⟨t,rfl⟩:=rx;exact SeqAt.EqAt.str_str a t' b t
  | _=>exact absurd (show false=true from fx) Bool.false_ne_true
 | _=>exact absurd (show false=true from fy) Bool.false_ne_true
theorem vT:cV X (.builtin "len") (fun xs H Q=>∃p ys,xs=[.ref p]/\(SqL X.K H p ys∨SqT X.K H p ys)/\Q (.int ys.length) H):=by
 intro pins s σ H xs us Q I r h;obtain⟨p,ys,rfl,hq,q⟩:=h;obtain⟨u,rfl,rx⟩:=kI r;cases rx;have hn:=lS;rcases hq with hq|hq
 ·obtain⟨its,r',pl,hz⟩:=I.list hq;have hlen:=r'.length;exact Calls.call_len_list pl.isList (by simp only[List.size_toArray]<;>lia) ⟨.int ys.length,H,I.tok _,⟨s.toks+1,by rw[List.size_toArray,hlen]⟩,q⟩
 ·obtain⟨its,r',pl,hz⟩:=I.tuple hq;have hlen:=r'.length;exact len_tuple pl (by simp only[List.size_toArray]<;>lia) ⟨.int ys.length,H,I.tok _,⟨s.toks+1,by rw[List.size_toArray,hlen]⟩,q⟩
theorem u4:cV X (.builtin "len") (fun xs H Q=>∃z,xs=[.str z]/\z.length<=sizeLine/\Q (.int z.length) H):=by
 intro pins s σ H xs us Q I r h;obtain⟨z,rfl,hz,q⟩:=h;obtain⟨u,rfl,t,rfl⟩:=kI r;have hn:=lS;exact len_str (by lia) ⟨.int z.length,H,I.tok _,⟨_,rfl⟩,q⟩
def tyV (K:PySem.W.Frag)(T:String)(x:V)(H:Hp):Prop:=match x with
 | .str _=>T= "str"
 | .int _=>T= "int"
 | .ref p=>(T= "list" /\∃xs,SqL K H p xs)∨(T= "tuple" /\∃o,K.lookup p=some o/\o.cls= .type "tuple" /\o.dict=none) ∨
   (T= "dict" /\((∃kvs,H p=some (.dK kvs))∨∃kvs,H p=some (.dT kvs)))∨(T= "set" /\∃S n,H p=some (.set S n))
 | _=>False
theorem NI {pins:List (Addr×Obj)}{σ:St}{H:Hp}{s:Shared}{T:String}{x:V}{v:Value} (I:Inv X pins σ H s) (r:RelV x v) (ty:tyV X.K T x H) :
  s.TypeIs v T/\∀a,v= .ref a->∃ob,s.heap.get? a=some ob/\ob.dict=none:=by
 cases x with
 | str z =>
  obtain⟨t,rfl⟩:=r;cases (show T= "str" from ty);exact⟨typeIs_str s z t,fun _ e=>nomatch e⟩
 | int i =>
  obtain⟨t,rfl⟩:=r;cases (show T= "int" from ty);exact⟨typeIs_int s i t,fun _ e=>nomatch e⟩
 | ref p =>
  cases r;rcases ty with⟨rfl,xs,hq⟩|⟨rfl,o,hk,hc,hd⟩|⟨rfl,hk⟩|⟨rfl,S,n,hk⟩
  ·obtain⟨its,_,pl,_⟩:=I.list hq;refine⟨pl.isList.typeIs,fun a e=> ?_⟩;cases e;obtain⟨o,n,e,c,hd,_⟩:=pl;exact⟨o,e,hd⟩
  ·refine⟨⟨o,I.kIn p o hk,hc⟩,fun a e=> ?_⟩;cases e;exact⟨o,I.kIn _ o hk,hd⟩
  ·have z:∃o,s.heap.get? p=some o/\o.ExactDict:=by
    rcases hk with⟨kvs,hk⟩|⟨kvs,hk⟩
    ·obtain⟨_,_,_,_,o,_,_,e,ex,_⟩:=I.hok p _ hk;exact⟨o,e,ex⟩
    ·obtain⟨_,_,_,_,o,_,_,e,ex,_⟩:=I.hok p _ hk;exact⟨o,e,ex⟩
   obtain⟨o,e,ex⟩:=z;refine⟨⟨o,e,ex.1⟩,fun a e2=> ?_⟩;cases e2;exact⟨o,e,ex.2.1⟩
  ·obtain⟨o,_,_,_,e,ex,_⟩:=I.hok p _ hk;refine⟨⟨o,e,ex.1⟩,fun a e2=> ?_⟩;cases e2;exact⟨o,e,ex.2.1⟩
 | _=>exact False.elim ty
def tBM (K:PySem.W.Frag)(T:String)(r:V->List V->Hp->VK->Prop)(to:TE)(t:TA):TE:=fun σ H Q=>to σ H fun x H1=>tyV K T x H1/\t σ H1 fun xs H2=>r x xs H2 Q
variable {o e:Expr}{es:List Expr}{to:TE}{t:TA}{name:Str}{apos cpos:Pos}{T id:String}{r:V->List V->Hp->VK->Prop}
theorem yI (pa:PlainAttrs T)(slot:Slot T name id)(hty:typeOf (.builtin id)=pure (.type "method_descriptor"))(hm:MtR X id r)(ho:PE X o to)(ha:PA X (e::es) t)
  (hbase:attributeBase o name X.env (eval o X.env)=eval o X.env:=by rfl)
  (hfew:((backTo cpos (starEach (e::es) X.env)).all (fun x=> !x.1)&&(backToKw cpos (keywordEach [] X.env)).all (fun x=>x.1.isSome)
   && decide ((e::es).length+([]:List Keyword).length+(if ([]:List Keyword).isEmpty then 0 else 1)<30))=true:=by rfl)
  (hline:(apos.endLine==cpos.line)=true:=by rfl)(hs:starEach (e::es) X.env=(false,eval e X.env)::starEach es X.env:=by rfl)(hplain:(backTo cpos (starEach es X.env)).any (·.1)=false:=by rfl) :
  PE X (.Call (.Attribute o name apos) (e::es) [] cpos) (tBM X.K T r to t):=by
 intro pins s σ H Q I h;refine wpAny_Call_method_late hbase hfew hline rfl (thn (ho pins s σ H _ I h) fun v s1 ⟨x,H1,I1,r1,ty,q1⟩=> ?_);obtain⟨h1,h2⟩:=NI I1 r1 ty;refine⟨T,id,pa,slot,hty,h1,h2,?_⟩;have hA:=ha cpos pins s1 σ H1 _ I1 q1;rw[hs]at hA ⊢;refine Calls.callWith_builtin (by show (false||(backTo cpos (starEach es X.env)).any (·.1))=false;rw[hplain]<;>rfl) (Calls.evalArgs_plain ?_);exact thn hA fun us s2 ⟨vs,H2,I2,r2,q2⟩=>hm pins s2 σ H2 x vs v us Q I2 r1 r2 q2
end
end L2
namespace L2
open PySem PySem.Spec PyProof.Rows
def MtM (X:Cx)(id:String)(r:V->List V->Hp->VK->Prop):Prop :=
 ∀(pins:List (Addr×Obj)) (s:Shared) (σ:St) (H:Hp) (x:V) (xs:List V) (v:Value) (us:List Value) (Q:VK),Inv X pins σ H s->RelV x v->Vals xs us->r x xs H Q →
  wpAny (model X.prog X.w) X.A (call (.builtin id) (v::us)) (EP X pins σ Q) X.xe s
theorem Vals.one:∀{x:V}{us:List Value},Vals [x] us->∃u,us=[u]/\RelV x u
 | _,_,.cons r .nil=>⟨_,rfl,r⟩
section
variable {X:Cx}{pins:List (Addr×Obj)}{σ:St}{H:Hp}{s:Shared}{l b:Addr}{xs ys zs:List V}
theorem Inv.lset {its its':List Value}{n:Nat}{f:Array Value->Array Value}{t':Nat} (I:Inv X pins σ H s) (hH:H l=some (.lst xs))
  (e:s.heap.get? l=some { cls:= .type "list",data:= .seq its.toArray n })(hf:f its.toArray=its'.toArray)(hv:Vals ys its')(hz:ys.length<=sizeLine) :
  Inv X pins σ (upd H l (.lst ys)) { s with heap:=s.heap.update l (Obj.mapSeq f),toks:=t' }:=by
 have q:=PySem.IsL.update e f;rw[hf]at q;refine I.write (x:=l) (e:=l) (by rw[hH];exact trivial) (.inl rfl) (fun b' u hb hu=>(Heap.get?_update_other s.heap (Obj.mapSeq f) (Ne.symm hb)).trans hu) ⟨_,q⟩ ?_;exact⟨hz,its',_,hv,q⟩
theorem Inv.lnew {its:List Value}{t':Nat} (I:Inv X pins σ H s) (hv:Vals ys its) (hz:ys.length<=sizeLine) :
  Inv X pins σ (upd H s.heap.objs.size (.lst ys)) { s with heap:=s.heap.push { cls:= .type "list",data:= .seq its.toArray },toks:=t' } :=
 I.laid (fun _ _ q=>Heap.get?_push_of_some _ q) (Nat.le_refl _) ⟨hz,its,0,hv,Heap.get?_push_size _ rfl⟩
theorem Inv.fresh (I:Inv X pins σ H s):H s.heap.objs.size=none:=I.hok.fresh (Nat.le_refl _)
theorem Inv.lstM (I:Inv X pins σ H s)(hH:H l=some (.lst xs)):xs.length<=sizeLine/\∃(its:List Value) (n:Nat),Vals xs its/\xs.length=its.length/\s.heap.get? l=some { cls:= .type "list",data:= .seq its.toArray n }:=by
 obtain⟨z,its,n,r,e⟩:=I.hok l _ hH;exact⟨z,its,n,r,r.length,e⟩
end
section
variable {X:Cx}
def xM:V->List V->Hp->VK->Prop:=fun x vs H Q=>∃l xs y,x= .ref l/\vs=[y]/\H l=some (.lst xs)/\xs.length<sizeLine/\Q .non (upd H l (.lst (xs++[y])))
theorem j0:MtM X "list.append" xM:=by
 intro pins s σ H x vs v us Q I rx rv h;obtain⟨l,xs,y,rfl,rfl,hH,hz,q⟩:=h;cases rx;obtain⟨u,rfl,ru⟩:=rv.one;obtain⟨z,its,n,r,hl,e⟩:=I.lstM hH;refine call_meets F.slot_list_append ⟨_,e,rfl⟩ F.entry_list_append (F.args_list_append_2 _ _) (PySem.list_append l its.toArray n u (by rw[List.size_toArray];lia)) ⟨e,?_⟩;refine⟨.non,_,I.lset (its':=its++[u]) hH e (by simp) (r.append (.cons ru .nil)) ?_,rfl,q⟩;rw[List.length_append,List.length_singleton]
 lia
def NL:R2:=fun x y H Q=>∃l b xs zs,x= .ref l/\y= .ref b/\H l=some (.lst xs)/\H b=some (.lst zs)/\xs.length+zs.length<=sizeLine/\∀p,H p=none->Q (.ref p) (upd H p (.lst (xs++zs)))
theorem cT:OpR X (binaryOp .Add) NL:=by
 intro pins s σ H x y v u Q I rx ry h;obtain⟨l,b,xs,zs,rfl,rfl,hH,hB,hz,q⟩:=h;cases rx;cases ry;obtain⟨z,its,n,r,hl,e⟩:=I.lstM hH;obtain⟨z2,its2,n2,r2,hl2,e2⟩:=I.lstM hB;refine PySem.P.add_list e e2 ?_ (by rw[List.size_toArray,List.size_toArray];lia);have ea:its.toArray++its2.toArray=(its++its2).toArray:=by simp
 rw[ea];exact⟨.ref _,_,I.lnew (t':=s.toks) (r.append r2) (by rw[List.length_append];lia),rfl,q _ I.fresh⟩
end
section
variable {prog:Program}{w:World}{A:Around}{E:Value->Shared->Prop}{s:Shared}
set_option maxRecDepth 100000 in
end
section
variable {X:Cx}
end
end L2
namespace Att
open PySem PySem.W PySem.Calls PyProof.Rows
theorem qY {P:Params}{h:Heap}:∀(ns:List Int) (vs:List Value),WellAll P h vs (ns.map WData.int)->IntsAre vs ns:=by
 intro ns
 induction ns with
 | nil =>
  intro vs w;rw[List.map_nil]at w;cases w;exact .nil
 | cons n ns ih =>
  intro vs w;rw[List.map_cons]at w;cases w with
  | cons a b =>
   cases a;exact .cons _ _ (ih _ b)
theorem B4 {l:OpenLaw}{n:Nat} (hn:l.most=some n) {P:Params}{h:Heap}{args:List WData}{vals:List Value}
  (hpre:l.row.toRowW.claim.pre args=true)(hwl:WellAll P h vals args) :
  ∃a vs ns,vals=[Value.ref a]/\args=[WData.list (ns.map WData.int)]/\h.get? a=some { cls:= .type "list",data:= .seq vs.toArray }/\IntsAre vs ns/\ns.length<=n:=by
 have hsh:WShape.hasAll [] args [.list .int]=true:=(pre_splitW hpre).1;have hc:l.pre.holds [] { args:=args }=true:=(pre_splitW hpre).2;obtain⟨d,r,rfl,h1,h2⟩:=hasAllW_cons hsh;obtain rfl:=hasAllW_nil h2;obtain⟨xs,rfl,h3⟩:=hasW_list h1;obtain⟨ns,rfl⟩:=items_int h3;have hlen:ns.length<=n:=by
  unfold OpenLaw.pre at hc;have h4:(WTm.not (.lt (.lit (.int (n:Int))) (.len (.arg 0)))).holds [] { args:=[.list (ns.map .int)] }=true:=by
   have h4:=(holds_andW hc).1;rw[hn]at h4;exact h4
  have h5:=condW_of h4 (w_not (w_lt w_lit (w_len_list (w_arg rfl))));rw[List.length_map]at h5;refine Nat.le_of_not_lt fun q=> ?_;have q':(n:Int)<((ns.length:Nat):Int):=by lia
  first
   | (rw[decide_eq_true q']at h5;exact absurd h5 (by decide))
   | (simp at h5;lia)
 cases hwl with
 | cons w1 w2 =>
  cases w2;cases w1 with
  | list ho hall=>exact⟨_,_,ns,rfl,rfl,ho,qY ns _ hall,hlen⟩
theorem BA (l:OpenLaw)(args:List WData):l.row.toRowW.claim.post args (.bool true) args=true :=
 postW_of (r:=l.row.toRowW) (X:=(true==true))
  (show WShape.has [] (.bool true) .bool=true by first|rfl|decide|simp[WShape.has,WShape.arms,WShape.armsAll])
  (show (WTm.eq .res (.lit (.bool true))).value [] { args:=args,res:=some (.bool true),after:=args }=some (.bool (true==true)) from w_eq_bool (w_res rfl) w_lit) rfl
theorem attach_call {l:OpenLaw}{n:Nat}{q:Program}{loose:List Str}{XP:(Str->Option Value)->Heap->Prop}{YP:World->Heap->Prop}{d:DefRec}
  (hn:l.most=some n)(hdf:d.params.defaults=[])
  (call:∀(w:World) (s₀ s₁:Shared) (mg mb:Str->Option Value) (fa:Addr) (o:Obj) (pm cd doc:Value) (a:Addr) (vs:List Value) (ns:List Int),
   Ground q loose [] XP w s₀ mg mb s₁.heap->YP w s₁.heap →
   s₁.heap.get? fa=some o->o.data= .func (docDef d.name d.params d.body d.scope pm cd doc)->s₁.heap.CodeRec cd d.name->mg d.name=some (.ref fa) →
   s₁.heap.get? a=some { cls:= .type "list",data:= .seq vs.toArray }->IntsAre vs ns->ns.length<=n->s₁.gens= #[] →
   codeAny (model l.prog w) callerA (.call (.ref fa) ⟨[.ref a],[]⟩) (fun r s'=>r= .ok (.ret (.bool true))/\OldK s₁.heap s'.heap/\s'.os=s₁.os/\AllBare s'.gens) s₁) :
  WalkO q loose XP YP l.row.toRowW d [] (fun f vs=>PySem.call f vs):=by
 intro w s₀ s₁ mg mb G Y fa o pm cd doc dV kV ho hd hcd hD hmg hg args vals as hpre hlay hrd hwl hlo;obtain rfl:dV= .none:=Dflts.none hD hdf;obtain rfl:kV= .none:=Dflts.noKw hD;obtain⟨a,vs,ns,rfl,rfl,hobj,hints,hlen⟩:=B4 hn hpre hwl;refine enter_call (codeAny_mono (call w s₀ s₁ mg mb fa o pm cd doc a vs ns G Y ho (fd_plain hd) hcd hmg hobj hints hlen hg) fun r s' hq=> ?_);obtain⟨rfl,h2,h3,h4⟩:=hq;exact⟨.inl ⟨.bool true,.bool true,[],rfl,fun _=>rfl,.bool true,BA l _,fun _=>⟨List.Pairwise.nil,fun _ hm=>(nomatch hm)⟩⟩,h2,h3,h4⟩
section
variable {prog:Program}{w:World}{A:Around}{E:Value->Shared->Prop}{s:Shared}{K:Frag}
end
end Att
namespace L2
open PySem PySem.Spec PyProof.Rows
theorem tU:∀{vs:List Value}{ns:List Int},IntsAre vs ns->Vals (ns.map V.int) vs
 | _,_,.nil=> .nil
 | _,_,.cons n t h=> .cons ⟨t,rfl⟩ (tU h)
def D6 (H:Hp):Prop:=∀b,H b=none∨∃o xs,H b=some (.frz o (.lst xs))
theorem DR {P:Program}{w:World}{K:PySem.W.Frag}{mg mb:Str->Option Value}{CX:CXT}{k:Nat}{fa a:Addr}{fd:FuncData}{x:Str}{sp:Sp}{s₁:Shared}{vs:List Value}{ns:List Int}
  (KX:K.In s₁.heap)(hns:s₁.heap.Ns mainGlobals mg)(hb:s₁.heap.Ns builtinsNs mb)(hbb:∀x:Str,x≠ "__name__" ->mb x=bootBuiltins x)(hlim:s₁.heap.NoLimit)(hg:s₁.gens= #[])
  (ha:s₁.heap.get? a=some { cls:= .type "list",data:= .seq vs.toArray })(hi:IntsAre vs ns)(hl:ns.length<=sizeLine)(hr:Room k callerA)
  (F:∀base:Heap,K.In base->base.Ns mainGlobals mg->bK P w K mg base CX k fa fd [x] sp)(hbind:∀(s:Shared) (u:Value),BindsTo s fd ⟨[u],[]⟩ [(x,u)])
  (hsp:∀H:Hp,D6 H->SqL K H a (ns.map V.int)->sp [.ref a] H (fun v _=>v= .bl true) fun _ _ _=>False)
  (hCX:∀H e s',CX [] H s₁ (fun _ _ _=>False) e s'->False) :
  codeAny (model P w) callerA (.call (.ref fa) ⟨[.ref a],[]⟩) (fun r s'=>r= .ok (.ret (.bool true))/\OldK s₁.heap s'.heap/\s'.os=s₁.os/\AllBare s'.gens) s₁:=by
 have rv:=tU hi;have lenV:=hi.length;have core:∀H:Hp,D6 H->SqL K H a (ns.map V.int)->HOk P w H s₁.heap->(∀b,H b≠none->b=a)->(H a≠none->K.lookup a=none) →
   codeAny (model P w) callerA (.call (.ref fa) ⟨[.ref a],[]⟩) (fun r s'=>r= .ok (.ret (.bool true))/\OldK s₁.heap s'.heap/\s'.os=s₁.os/\AllBare s'.gens) s₁:=by
  intro H hO hS hok hA hK;have base_of:∀{b:Addr}{o:Obj},s₁.heap.get? b=some o->H b=none->(kT s₁.heap H).get? b=some o:=fun e n=>EA e n;have noA:∀{b:Addr}{o:Obj}{es:Array DictEntry}{ep:Nat},s₁.heap.get? b=some o->o.data= .dict es ep->H b=none:=fun {b o es ep} e d=>by
   cases q:H b with
   | none=>rfl
   | some u =>
    have e':b=a:=hA b (by rw[q];simp);subst e';rw[ha]at e;cases e;have d':Data.seq vs.toArray _=Data.dict es ep:=d;cases d'
  have nsK:∀{b:Addr}{m:Str->Option Value},s₁.heap.Ns b m->(kT s₁.heap H).Ns b m:=fun {b m} ⟨o,es,ep,e,d,r⟩=>⟨o,es,ep,base_of e (noA e d),d,r⟩
  have hKb:K.In (kT s₁.heap H):=fun b o e=>base_of (KX b o e) (by
   cases q:H b with
   | none=>rfl
   | some u =>
    have e':b=a:=hA b (by rw[q];simp);subst e';rw[hK (by rw[q];simp)]at e;cases e)
  have hM:Mod K mg (kT s₁.heap H):=⟨hKb,nsK hns,⟨mb,nsK hb,hbb⟩,let ⟨mc,h1,h2⟩:=hlim;⟨mc,nsK h1,h2⟩⟩
  have e0:Env0 P w K mg (kT s₁.heap H) callerA [] s₁ H:=⟨rfl,hM,fun b o e=>JU e,Nat.le_of_eq (BM _ _),trivial,fun b hb=>absurd (show b∈([]:List Addr) from hb) (by simp),hok,.of_eq hg⟩
  refine codeAny_mono ((F _ hKb (nsK hns)).run callerA [] s₁ H ⟨[.ref a],[]⟩ [.ref a] [.ref a] _ _ hr e0 (hbind s₁ (.ref a)) (.cons rfl .nil) (hsp H hO hS)) fun r s' h=> ?_;cases r with
  | error e=>exact(hCX H e s' h).elim
  | ok fl =>
   cases fl with
   | next=>exact False.elim h
   | brk=>exact False.elim h
   | cont=>exact False.elim h
   | ret u =>
    obtain⟨v,H',os,bare,un,hok',r',q⟩:=h;have q':v= .bl true:=q;subst q';obtain rfl:u=Value.bool true:=r';refine⟨rfl,OldK.of_keep fun b o e=> ?_,os,bare⟩;cases q:H b with
    | none=>exact un.keep b o e q (by intro z;exact absurd (show b∈([]:List Addr) from z) (by simp)) (by simp)
    | some u =>
     rcases hO b with z|⟨ob,xs,z⟩
     ·rw[q]at z;cases z
     ·have z2:=un.frzs b ob _ z;obtain⟨e1,_⟩:=hok b _ z;obtain⟨e2,_⟩:=hok' b _ z2;rw[e]at e1;cases e1;exact e2
 cases hk:K.lookup a with
 | some o =>
  have e:=KX a o hk;rw[ha]at e;cases e;refine core (fun _=>none) (fun _=> .inl rfl) (.inr ⟨_,vs.toArray,_,hk,rfl,rfl,rfl,by rw[List.size_toArray,lenV];exact hl,by simpa using rv⟩) (fun b u z=>by have z':(none:Option HO)=some u:=z;cases z') (fun b z=>absurd rfl z) fun z=>absurd rfl z
 | none =>
  refine core (fun b=>if b=a then some (.frz { cls:= .type "list",data:= .seq vs.toArray } (.lst (ns.map V.int))) else none) (fun b=> ?_) (.inl (.inr ⟨{ cls:= .type "list",data:= .seq vs.toArray },if_pos rfl⟩)) (fun b u z=> ?_) (fun b z=> ?_) fun _=>hk
  ·by_cases hb:b=a
   ·exact .inr ⟨_,_,if_pos hb⟩
   ·exact .inl (if_neg hb)
  ·by_cases hb:b=a
   ·have z':=(if_pos hb).symm.trans z;cases z';subst hb;exact⟨ha,by rw[List.length_map];exact hl,vs,_,rv,ha⟩
   ·have z':=(if_neg hb).symm.trans z;cases z'
  ·by_cases hb:b=a
   ·exact hb
   ·exact absurd (if_neg hb) z
end L2
namespace L2
open PySem PySem.Spec PyProof.Rows
theorem walk_of {l:PySem.W.OpenLaw}{n k:Nat}{q:Program}{loose:List Str}{XP:(Str->Option Value)->Heap->Prop}{YP:World->Heap->Prop}{d:DefRec}{K:Params->PySem.W.Frag}{CX:World->CXT}{sp:World->Sp}{x:Str}
  (hn:l.most=some n)(hn2:n<=sizeLine)(hdf:d.params.defaults=[])(hr:Room k callerA)
  (hY:∀(w:World) (h:Heap),YP w h->(K w.params).In h)
  (F:∀(w:World) (mg:Str->Option Value) (fa:Addr) (h:Heap),(K w.params).In h->h.Ns mainGlobals mg->mg d.name=some (.ref fa) →
   ∃fd:FuncData,(∀(s:Shared) (u:Value),BindsTo s fd ⟨[u],[]⟩ [(x,u)]) ∧
    ∀base:Heap,(K w.params).In base->base.Ns mainGlobals mg->bK l.prog w (K w.params) mg base (CX w) k fa fd [x] (sp w))
  (hsp:∀(w:World) (H:Hp) (a:Addr) (ns:List Int),ns.length<=n->D6 H->SqL (K w.params) H a (ns.map V.int)->sp w [.ref a] H (fun v _=>v= .bl true) fun _ _ _=>False)
  (hCX:∀(w:World) (H:Hp) (s:Shared) (e:Value) (s':Shared),CX w [] H s (fun _ _ _=>False) e s'->False) :
  PySem.W.WalkO q loose XP YP l.row.toRowW d [] (fun f vs=>PySem.call f vs):=by
 refine Att.attach_call hn hdf fun w s₀ s₁ mg mb fa o pm cd doc a vs ns G Y ho hd hcd hmg hobj hints hlen hg=> ?_;have KX:=hY w _ Y;obtain⟨fd,hb,hF⟩:=F w mg fa _ KX G.T.g hmg;exact DR KX G.T.g G.T.b G.T.builtins G.T.nolimit hg hobj hints (Nat.le_trans hlen hn2) hr hF hb (fun H hO hS=>hsp w H a ns hlen hO hS) fun H e s'=>hCX w H s₁ e s'
end L2
namespace L2
open PySem PySem.Spec PyProof.Rows
def bZ (s:Stmt)(j:Nat):Stmt:=match s with
 | .ClassDef _ _ _ body _ _ _ _ _ _ _=>body.getD j (.Pass ⟨0,0,0,0⟩)
 | _=> .Pass ⟨0,0,0,0⟩
def aJ (s:Stmt):Arguments:=match s with
 | .FunctionDef _ a _ _ _ _ _ _ _ _=>a
 | _=>{ posonlyargs:=[],args:=[],vararg:=none,kwonlyargs:=[],kw_defaults:=[],kwarg:=none,defaults:=[] }
def aI (s:Stmt):List Stmt:=match s with
 | .FunctionDef _ _ b _ _ _ _ _ _ _=>b
 | _=>[]
def aE (s:Stmt):Scope:=match s with
 | .FunctionDef _ _ _ _ _ _ sc _ _ _=>sc
 | _=>{ kind:= .function,names:=[],isGenerator:=false,isCoroutine:=false }
abbrev CX0:CXT:=fun _ _ _ _ _ _=>False
abbrev E0:XK:=fun _ _ _=>False
theorem yS {X:Cx}:jC CX0 X E0:=fun _ _ _ _ _ _ _ h=>h.elim
section
variable {P:Program}{w:World}{K:PySem.W.Frag}{mg:Str->Option Value}{base:Heap}
end
theorem BN {n:Nat}(h:n<=1000):n<sizeLine:=Nat.lt_of_le_of_lt h (by decide)
section
variable {X:Cx}
theorem pv (i:Nat){x:Str}{pos:Pos} (hN:X.N[i]? =some x:=by rfl) (hv:Vis X.env.scope x:=by first|exact Or.inl rfl|exact Or.inr (Or.inl rfl)|exact Or.inr (Or.inr rfl)) (hd:(x==("__debug__" :Str))=false:=by decide)
  (hcd:(x==("__classdict__" :Str))=false:=by decide):PE X (.Name x pos) (fR i):=K5 hN hv hd hcd
end
theorem r9 {c A B:Prop}[Decidable c](h1:c->A)(h2:¬c->B):if c then A else B:=by
 by_cases h:c
 ·rw[if_pos h];exact h1 h
 ·rw[if_neg h];exact h2 h
def Same (H H':Hp):Prop:=∀b o,H b=some o->H' b=some o
theorem Same.refl (H:Hp):Same H H:=fun _ _ h=>h
theorem Same.trans {H H1 H2:Hp}(a:Same H H1)(b:Same H1 H2):Same H H2:=fun c o h=>b c o (a c o h)
theorem Same.seq {K:PySem.W.Frag}{H H':Hp}{a:Addr}{xs:List V} (e:Same H H') (h:SqL K H a xs):SqL K H' a xs:=by
 rcases h with (h|⟨o,h⟩)|h
 ·exact .inl (.inl (e _ _ h))
 ·exact .inl (.inr ⟨o,e _ _ h⟩)
 ·exact .inr h
end L2
namespace L2
open PySem PySem.Spec PyProof.Rows
section
variable {X:Cx}{pins:List (Addr×Obj)}{σ:St}{H:Hp}{s:Shared}{D:Addr}{ys:List V}
theorem HOk.adds {P:Program}{w:World}{h:Heap}{o:HO} (x:HOk P w H h) (hn:H D=none) (new:ObjOk P w (upd H D o) h D o):HOk P w (upd H D o) h:=fun b u e=>by
 by_cases hb:b=D
 ·subst hb;rw[aR]at e;cases e;exact new
 ·rw[aG hb]at e;exact(x b u e).stay (fun c v _ q=>q) (fun c q=>by rw[aG (aL q hn)];exact q) fun c xs q=>by rw[aG (aL q hn)];exact q
theorem HOk.drops {P:Program}{w:World}{h:Heap} (x:HOk P w (upd H D (.lst ys)) h) (hn:H D=none):HOk P w H h:=fun b u e=>by
 have hb:b≠D:=aL e hn;refine(x b u (by rw[aG hb];exact e)).stay (fun c v _ q=>q) (fun c q=> ?_) fun c xs q=> ?_
 ·by_cases hc:c=D
  ·subst hc;rw[aR]at q;cases q
  ·rw[aG hc]at q;exact q
 ·by_cases hc:c=D
  ·subst hc;rw[aR]at q;cases q
  ·rw[aG hc]at q;exact q
theorem Inv.track {its:List Value}{n:Nat} (I:Inv X pins σ H s) (hn:H D=none) (e:s.heap.get? D=some { cls:= .type "list",data:= .seq its.toArray n }) (r:Vals ys its) (hz:ys.length<=sizeLine)
  (h0:X.s₀.heap.objs.size<=D)(h1:D≠X.env.locals)(h2:∀x c,X.env.cells.lookup x=some c->c≠D)(h3:∀p∈X.pn++pins,p.1≠D):Inv X pins σ (upd H D (.lst ys)) s where
 ok:=I.ok
 os:=I.os
 bare:=I.bare
 base:=by
  have lt:∀b o,X.s₀.heap.get? b=some o->b≠D:=fun b o q=>Nat.ne_of_lt (Nat.lt_of_lt_of_le (Heap.lt_size q) h0);refine⟨I.base.keep,I.base.slot,fun b o q n' hx=> ?_,I.base.there,fun b xs q=> ?_,fun b o u q=> ?_,fun b ps q=> ?_⟩
  ·rw[aG (lt b o q)];exact I.base.free b o q n' hx
  ·have z:=I.base.tups b xs q;rw[aG (aL z hn)];exact z
  ·have z:=I.base.frzs b o u q;rw[aG (aL z hn)];exact z
  ·obtain⟨more,z⟩:=I.base.tbls b ps q;exact⟨more,by rw[aG (aL z hn)];exact z⟩
 loc:=I.loc
 cell:=I.cell
 free:=by rw[aG (Ne.symm h1)];exact I.free
 freeC:=fun x c q=>by rw[aG (h2 x c q)];exact I.freeC x c q
 pin:=fun p hp=>by
  obtain⟨a,b,c⟩:=I.pin p hp;exact⟨a,by rw[aG (h3 p hp)];exact b,c⟩
 hok:=I.hok.adds hn ⟨hz,its,n,r,e⟩
 len:=I.len
theorem Inv.untrack (I:Inv X pins σ (upd H D (.lst ys)) s)(hn:H D=none):Inv X pins σ H s where
 ok:=I.ok
 os:=I.os
 bare:=I.bare
 base:=by
  have low:∀b u,upd H D (.lst ys) b=some u->(∀xs,u≠ .lst xs)->H b=some u:=fun b u q nl=>by
   by_cases hb:b=D
   ·subst hb;rw[aR]at q;cases q;exact absurd rfl (nl ys)
   ·rw[aG hb]at q;exact q
  refine⟨I.base.keep,I.base.slot,fun b o q n' hx=> ?_,I.base.there,fun b xs q=> ?_,fun b o u q=> ?_,fun b ps q=> ?_⟩
  ·have z:=I.base.free b o q n' hx
   by_cases hb:b=D
   ·subst hb;exact hn
   ·rw[aG hb]at z;exact z
  ·exact low _ _ (I.base.tups b xs q) (fun _ z=>by cases z)
  ·exact low _ _ (I.base.frzs b o u q) (fun _ z=>by cases z)
  ·obtain⟨more,z⟩:=I.base.tbls b ps q;exact⟨more,low _ _ z (fun _ z=>by cases z)⟩
 loc:=I.loc
 cell:=I.cell
 free:=by
  have z:=I.free
  by_cases hb:X.env.locals=D
  ·rw[hb];exact hn
  ·rw[aG hb]at z;exact z
 freeC:=fun x c q=>by
  have z:=I.freeC x c q
  by_cases hb:c=D
  ·rw[hb];exact hn
  ·rw[aG hb]at z;exact z
 pin:=fun p hp=>by
  obtain⟨a,b,c⟩:=I.pin p hp;refine⟨a,?_,c⟩
  by_cases hb:p.1=D
  ·rw[hb];exact hn
  ·rw[aG hb]at b;exact b
 hok:=I.hok.drops hn
 len:=I.len
end
def bC (X:Cx)(scope:Scope)(cl:List (Str×Addr))(N:List Str)(C:Addr)(s0:Shared)(H0:Hp)(fp:List Addr):Cx where
 prog:=X.prog
 w:=X.w
 K:=X.K
 mg:=X.mg
 base:=X.base
 A:=X.A
 N:=N
 s₀:=s0
 H₀:=H0
 env:=compEnvC scope cl C X.env
 outer:=X.stack
 stack:=X.stack
 ex:=fp
 fn:=fun _=>false
 calm:=X.calm
 pn:=[]
 xe:=fun _ _=>False
structure Blk (X:Cx)(scope:Scope)(cl:List (Str×Addr))(N:List Str)(nl:Nat)(ci:List Nat):Prop where
 kind:scope.kind= .function
 names:∀y∈scope.names,y.2= .local->scope.names.lookup y.1=some .local
 nocell:∀y∈scope.names,y.2≠ .cell
 clos:closureFor scope X.env=pure cl
 sub:∀n c,cl.lookup n=some c->X.env.cells.lookup n=some c
 has:∀n,((relabel scope X.env).names.lookup n=some .cell∨(relabel scope X.env).names.lookup n=some .free)->∃c,cl.lookup n=some c
 len:N.length=nl+ci.length
 cap:∀(j i:Nat),ci[j]? =some i->∃n,N[nl+j]? =some n/\X.N[i]? =some n/\(X.env.scope.names.lookup n=some .cell∨X.env.scope.names.lookup n=some .free) ∧
  ((relabel scope X.env).names.lookup n=some .cell∨(relabel scope X.env).names.lookup n=some .free)/\cl.lookup n=X.env.cells.lookup n
def b3 (nl:Nat)(ci:List Nat)(σ:St):St:=List.replicate nl none++ci.map fun i=>(σ[i]?).join
theorem DB {nl:Nat}{ci:List Nat}{σ:St}{k:Nat}{v:V} (h:(b3 nl ci σ)[k]? =some (some v)):∃j i,k=nl+j/\ci[j]? =some i/\σ[i]? =some (some v):=by
 unfold b3 at h
 by_cases hk:k<nl
 ·rw[List.getElem?_append_left (by simpa using hk),List.getElem?_replicate]at h
  split at h<;>cases h
 ·rw[List.getElem?_append_right (by simpa using hk),List.length_replicate,List.getElem?_map]at h;cases e:ci[k - nl]? with
  | none=>rw[e]at h;cases h
  | some i =>
   rw[e]at h;have h':(σ[i]?).join=some v:=by simpa using h
   refine⟨k - nl,i,by lia,e,?_⟩;cases q:σ[i]? with
   | none=>rw[q]at h';cases h'
   | some o=>rw[q]at h';simp at h';rw[h']
theorem vZ {nl:Nat}{ci:List Nat}{σ:St}:(b3 nl ci σ).length=nl+ci.length:=by unfold b3;simp
section
variable {X:Cx}{scope:Scope}{cl:List (Str×Addr)}{N:List Str}{nl:Nat}{ci:List Nat}{pins:List (Addr×Obj)}{σ:St}{H2:Hp}{s2:Shared}{fp:List Addr}
theorem w4 (B:Blk X scope cl N nl ci)(I:Inv X pins σ H2 s2)(f2:∀b∈fp,jF X pins H2 b)(fo:∀b∈fp,∃o,s2.heap.get? b=some o){C:Addr}{h4:Heap}{t4:Nat}{m4:Str->Option Value} (hC:s2.heap.objs.size<=C) (hns:h4.Ns C m4)
  (hk:∀b o,s2.heap.get? b=some o->h4.get? b=some o):Inv (bC X scope cl N C s2 H2 fp) [] (b3 nl ci σ) H2 { s2 with heap:=h4,toks:=t4 }:=by
 have lt2:∀b∈fp,b<s2.heap.objs.size:=fun b hb=>by obtain⟨o,e⟩:=fo b hb;exact Heap.lt_size e
 have ok:(bC X scope cl N C s2 H2 fp).Ok:=by
  refine⟨I.ok.mod,B.kind,I.ok.glob,I.ok.blt,hC,fun x y c h1 h2=>I.ok.inj x y c (B.sub x c h1) (B.sub y c h2),fun x hx=>B.has x hx,fun x c hf _=>(by cases hf),I.ok.hd,I.ok.frames,.inl rfl,fun b hb=>⟨?_,?_⟩,I.bs,?_,fun b o e hb=> ?_,fun b hb z=> ?_,I.stack,I.stkFree⟩
  ·exact Nat.ne_of_lt (Nat.lt_of_lt_of_le (lt2 b hb) hC)
  ·exact fun x c h=>(f2 b hb).2.2.2.2.1 x c (B.sub x c h)
  ·exact Nat.le_trans I.ok.bsz I.sz
  ·rcases (f2 b hb).2.2.2.1 with z|z
   ·exact I.ok.noex b o e z
   ·exact absurd (Nat.lt_of_lt_of_le (Heap.lt_size e) (Nat.le_trans I.ok.bsz z)) (Nat.lt_irrefl _)
  ·rcases List.mem_cons.mp (I.stkSub b z) with q|q
   ·exact(f2 b hb).2.1 q
   ·exact(f2 b hb).2.2.1 q
 refine⟨ok,rfl,I.bare,Un.kept hk,⟨m4,hns,fun k x v e1 e2 e3=> ?_⟩,fun x c e=> ?_,I.hok.fresh hC,fun x c e=>I.freeC x c (B.sub x c e),fun p hp=>(by cases hp),I.hok.kept hk,?_⟩
 ·obtain⟨j,i,rfl,hj,hσ⟩:=DB e2;obtain⟨n,hn1,hn2,hk1,hk2,hl⟩:=B.cap j i hj;have en:x=n:=by
   have e1':N[nl+j]? =some x:=e1;rw[hn1]at e1';exact(Option.some.inj e1').symm
  subst en;obtain⟨m,hm,hloc⟩:=I.loc;have vis:Vis X.env.scope x:= .inr hk1;obtain⟨u,ru,lk⟩:=hloc i x v hn2 hσ vis;refine⟨u,ru,.inr ⟨hk2,?_⟩⟩;rcases lk with⟨kl,_⟩|⟨_,c,ec,hc⟩
  ·have kl':X.env.scope.names.lookup x=some .local:=kl;rcases hk1 with z|z<;>· rw[z]at kl';cases kl'
  ·refine⟨c,hl.trans ec,?_⟩;obtain⟨o,ho,hd⟩:=hc;exact⟨o,hk _ _ ho,hd⟩
 ·obtain⟨v,o,ho,hd⟩:=I.cell x c (B.sub x c e);exact⟨v,o,hk _ _ ho,hd⟩
 ·show (b3 nl ci σ).length=N.length;rw[vZ,B.len]
theorem C3 {C:Addr}{σ':St}{H':Hp}{s':Shared}{pb:List (Addr×Obj)} (I:Inv X pins σ H2 s2) (f2:∀b∈fp,jF X pins H2 b) (J:Inv (bC X scope cl N C s2 H2 fp) pb σ' H' s'):Inv X pins σ H' s' :=
 I.call' J.os J.base J.hok J.bare fun b hb=>⟨(f2 b hb).2.2.2.1,(f2 b hb).2.1,(f2 b hb).2.2.2.2.1,(f2 b hb).2.2.2.2.2⟩
end
section
variable {prog:Program}{w:World}{A:Around}{R:Result->Shared->Prop}{s:Shared}
theorem wW {elt target iter:Expr}{ifs:List Expr}{scope:Scope}{pos:Pos}{it acc:Value}{env:Env} (I:Nat->Shared->Prop)
  (turn:∀n s,I n s->wpAny (model prog w) A (pyNext it) (fun r s₁=>match r with
   | none=>R (.ok .next) s₁
   | some v=>wpAny (model prog w) A (letOwnedTupleGo target it v) (fun _ s₁'=>wpAny (model prog w) A (assign target env v) (fun _ s₂ =>
     wpAny (model prog w) A (forIn ifs true fun c r=>if r=true then do let ok ←isTrue c env (eval c env);pure (ForInStep.yield ok) else pure (ForInStep.yield r)) (fun ok s₃ =>
      if ok=true then wpAny (model prog w) A (eval elt env) (fun x s₄ =>
       wpAny (model prog w) A (call (.builtin "list.append") [acc,x]) (fun _ s₅=>∃m,m<n/\I m s₅) (notedBy (model prog w) A env fun e s'=>R (.error e) s') s₄) (notedBy (model prog w) A env fun e s'=>R (.error e) s') s₃
      else ∃m,m<n/\I m s₃) (notedBy (model prog w) A env fun e s'=>R (.error e) s') s₂) (notedBy (model prog w) A env fun e s'=>R (.error e) s') s₁') (notedBy (model prog w) A env fun e s'=>R (.error e) s') s₁) (notedBy (model prog w) A env fun e s'=>R (.error e) s') s)
  (n:Nat)(h:I n s) :
  codeAny (model prog w) A (.compLoop (.ListComp elt [⟨target,iter,ifs,0⟩] scope pos) 0 it acc env) R s:=by
 refine codeAny_loop rfl I (fun n s hI=> ?_) n h;show wpAny _ A ((compTurn (.ListComp elt [⟨target,iter,ifs,0⟩] scope pos) 0 it acc env).onRaise (fun x=>do noteFrame x env;theTreesLotGoes x)) _ _ s;refine wpAny_noted ?_;rw[compTurn_list];refine wpAny_bind (wpAny_standAt (wpAny_bind (wpAny_mono (turn n s hI) (fun r s₁ h₁=> ?_) fun _ _ h'=>h')));cases r with
 | none=>exact wpAny_pure h₁
 | some v =>
  refine wpAny_bind (wpAny_mono h₁ (fun _ s₁' h₁'=> ?_) fun _ _ h'=>h');refine wpAny_bind (wpAny_mono h₁' (fun _ s₂ h₂=>wpAny_bind (wpAny_mono h₂ (fun ok s₃ h₃=> ?_) fun _ _ h'=>h')) fun _ _ h'=>h');cases ok with
  | false=>exact wpAny_pure ⟨rfl,h₃⟩
  | true =>
   exact wpAny_bind (wpAny_bind (wpAny_mono h₃ (fun x s₄ h₄=>wpAny_bind (wpAny_mono h₄ (fun _ s₅ h₅=>wpAny_pure (wpAny_pure ⟨rfl,h₅⟩)) fun _ _ h'=>h')) fun _ _ h'=>h'))
end
def PF (X:Cx)(ifs:List Expr)(t:TT):Prop :=
 ∀(pins:List (Addr×Obj)) (s:Shared) (σ:St) (H:Hp) (Q:Bool->Hp->Prop),Inv X pins σ H s->t σ H Q →
  wpAny (model X.prog X.w) X.A (forIn ifs true fun c r=>if r=true then do let ok ←isTrue c X.env (eval c X.env);pure (ForInStep.yield ok) else pure (ForInStep.yield r)) (TP X pins σ Q) X.xe s
def LR:TT:=fun _ H Q=>Q true H
theorem eT {X:Cx}:PF X [] LR:=fun _ _ _ H _ I h=>wpAny_tests_nil ⟨H,I,h⟩
def gO (J:It)(g:TG)(ti:TT)(te:TE)(σ0:St)(fin:List V->Hp->Prop)(H1:Hp):Prop :=
 ∃W:Nat->Nat->List V->Hp->Prop,(∃m,W 0 m [] H1)/\∀i m ys H,W i m ys H →
  (J.stop i H/\fin ys H) ∨
  (J.go i H/\∀x H',J.yld i H x H'->g x σ0 H' fun σ2 H2=>(σ2.length=σ0.length/\∀(j:Nat) v,σ0[j]? =some (some v)->σ2[j]? =some (some v)) ∧
   ti σ2 H2 fun b H3=>if b=true then te σ2 H3 fun y H4=>ys.length<sizeLine/\∃m',m'<m/\W (i+1) m' (ys++[y]) H4 else ∃m',m'<m/\W (i+1) m' ys H3)
def yG (wi:TI)(nl:Nat)(ci:List Nat)(g:TG)(ti:TT)(te:TE):TE:=fun σ H Q =>
 wi σ H fun J H1=>gO J g ti te (b3 nl ci σ) (fun ys H'=>∀p,H' p=none->Q (.ref p) (upd H' p (.lst ys))) H1
section
variable {X:Cx}{scope:Scope}{cl:List (Str×Addr)}{N:List Str}{nl:Nat}{ci:List Nat}{tg elt iter:Expr}{ifs:List Expr}{pos:Pos}{wi:TI}{g:TG}{ti:TT}{te:TE}
theorem tP {pins:List (Addr×Obj)}{σ:St}{H2:Hp}{s2:Shared}{fp:List Addr}{it:Addr}{J:It}{tn:Nat->Heap->Prop}{E:Value->Shared->Prop}{RR:Value->Addr->Result->Shared->Prop}{fin:List V->Hp->Prop}
  (hc:X.calm=true)(B:Blk X scope cl N nl ci)(hg:∀C s0 H0 fp,PG (bC X scope cl N C s0 H0 fp) tg g)(hi:∀C s0 H0 fp,PF (bC X scope cl N C s0 H0 fp) ifs ti)(he:∀C s0 H0 fp,PE (bC X scope cl N C s0 H0 fp) elt te)
  (I2:Inv X pins σ H2 s2)(T:rZ X.prog X.w X.K tg J fp it tn)(st2:tn 0 s2.heap)(f2:∀b∈fp,jF X pins H2 b)(hW:gO J g ti te (b3 nl ci σ) fin H2)
  (hfin:∀(D C:Addr) (s':Shared) (H':Hp) (ys:List V) (oC:Obj) (m:Str->Option Value),H' D=none->Inv X (pins++[(C,oC)]) σ (upd H' D (.lst ys)) s'->s'.heap.Ns C m->s2.heap.objs.size<=C->fin ys H'->RR (.ref D) C (.ok .next) s') :
  wpAny (model X.prog X.w) X.A (newList []) (fun acc s₃=>wpAny (model X.prog X.w) X.A (newFunctionEnv scope X.env.globals cl [] X.env.qual none .none (some X.env)) (fun cenv s₄ =>
   codeAny (model X.prog X.w) X.A (.compStart (.ListComp elt [⟨tg,iter,ifs,0⟩] scope pos) 0 (.ref it) acc { cenv with scope:=relabel scope X.env }) (RR acc cenv.locals) s₄) E s₃) E s2:=by
 obtain⟨W,⟨m0,w0⟩,turn⟩:=hW;refine wpAny_newObj_type (wpAny_newFunctionEnv B.nocell (by intro y hy;simp at hy) (fun h1 hns1 hsb1=> ?_) B.kind)
 dsimp only at hns1 hsb1 ⊢
 generalize hH2:s2.heap.push { cls:= .type "list",dict:=none,data:= .seq ([]:List Value).toArray }=G2 at hns1 hsb1 ⊢;have hCs:G2.objs.size=s2.heap.objs.size+1:=by rw[←hH2,Heap.size_push]
 generalize hCe:G2.objs.size=C at hns1 hsb1 hCs ⊢;have hDC:s2.heap.objs.size≠C:=by rw[hCs];exact Nat.ne_of_lt (Nat.lt_succ_self _)
 have hCle:s2.heap.objs.size<=C:=by rw[hCs];exact Nat.le_succ _
 have old:∀b o,s2.heap.get? b=some o->h1.get? b=some o:=fun b o e=>hsb1.extBut b o (by rw[hCs];exact Nat.ne_of_lt (Nat.lt_succ_of_lt (Heap.lt_size e))) (Heap.get?_push_of_some _ (hH2▸Heap.get?_push_of_some _ e));have hacc:h1.get? s2.heap.objs.size=some { cls:= .type "list",data:= .seq ([]:List Value).toArray 0 }:=hsb1.extBut _ _ hDC (Heap.get?_push_of_some _ (hH2▸Heap.get?_push_size _ rfl));have fo:∀b∈fp,∃o,s2.heap.get? b=some o:=fun b hb=>let ⟨o,e,_⟩:=T.obj 0 _ st2 b hb;⟨o,e⟩;have lt2:∀b∈fp,b<s2.heap.objs.size:=fun b hb=>let ⟨o,e⟩:=fo b hb;Heap.lt_size e;have hDfp:s2.heap.objs.size∉fp:=fun z=>Nat.lt_irrefl _ (lt2 _ z);have hCfp:C∉fp:=fun z=>Nat.lt_irrefl _ (Nat.lt_of_lt_of_le (lt2 _ z) hCle);generalize hDe:s2.heap.objs.size=D at hCs hDC hCle hacc hDfp lt2;have loop:∀s3:Shared,s3={ s2 with heap:=h1,toks:=s2.toks+([]:List (Str×Value)).length } →
   codeAny (model X.prog X.w) X.A (.compLoop (.ListComp elt [⟨tg,iter,ifs,0⟩] scope pos) 0 (.ref it) (.ref D) (compEnvC scope cl C X.env)) (RR (.ref D) C) s3:=by
  rintro s3 rfl;have I4:Inv (bC X scope cl N C s2 H2 fp) [] (b3 nl ci σ) H2 { s2 with heap:=h1,toks:=s2.toks+([]:List (Str×Value)).length }:=w4 B I2 f2 fo (by rw[hDe];exact hCle) hns1 old;have fpk:∀{H':Hp},(∀b∈fp,H' b=none)->∀b∈fp,jF (bC X scope cl N C s2 H2 fp) [] H' b:=fun hn b hb =>
   ⟨hn b hb,(I4.ok.exf b hb).1,I4.ok.exfs b hb,.inl hb,(I4.ok.exf b hb).2,fun p hp=>by cases hp⟩
  have hDX:∀x c,(bC X scope cl N C s2 H2 fp).env.cells.lookup x=some c->c≠D:=fun x c e=>by
   obtain⟨v,o,ho,_⟩:=I2.cell x c (B.sub x c e);rw[←hDe];exact Nat.ne_of_lt (Heap.lt_size ho)
  have hDL:D≠(bC X scope cl N C s2 H2 fp).env.locals:=hDC;have hDf:D∉(bC X scope cl N C s2 H2 fp).fs:=fun z=>by
   rcases List.mem_cons.mp (I2.stkSub D z) with q|q
   ·exact Nat.lt_irrefl _ (by have:=I2.lt;rw[hDe,←q]at this;exact this)
   ·exact I2.nofs (by rw[hDe];exact Nat.le_refl _) q
  refine wW (fun n s'=>∃i ys its k H',W i n ys H'/\Inv (bC X scope cl N C s2 H2 fp) [] (b3 nl ci σ) H' s'/\tn i s'.heap/\(∀b∈fp,H' b=none)/\H' D=none ∧
   s'.heap.get? D=some { cls:= .type "list",data:= .seq its.toArray k }/\Vals ys its/\ys.length<=sizeLine) ?_ m0 ?_
  ·rintro n s' ⟨i,ys,its,k,H',w',I',st',fr',hD',eD,rv,hz⟩;have IP:Inv (bC X scope cl N C s2 H2 fp) [(D,{ cls:= .type "list",data:= .seq its.toArray k })] (b3 nl ci σ) H' s':=I'.pins_of fun p hp=>by
    obtain rfl:p=_:=by simpa using hp
    exact⟨eD,hD',hDL,hDf,fun v z=>by cases z⟩
   have fpD:∀{H'':Hp},(∀b∈fp,H'' b=none)->∀b∈fp,jF (bC X scope cl N C s2 H2 fp) [(D,{ cls:= .type "list",data:= .seq its.toArray k })] H'' b:=fun hn b hb =>
    ⟨hn b hb,(I4.ok.exf b hb).1,I4.ok.exfs b hb,.inl hb,(I4.ok.exf b hb).2,fun p hp=>by
     obtain rfl:p=_:=by simpa [bC] using hp
     exact fun z=>hDfp ((show D=b from z)▸hb)⟩
   rcases turn i n ys H' w' with⟨stop,q⟩|⟨go,step⟩
   ·refine thn (T.done (bC X scope cl N C s2 H2 fp) rfl rfl rfl hc i _ s' (b3 nl ci σ) H' _ IP (fpD fr') st' stop) fun r s'' ⟨hr,I''⟩=> ?_;subst hr;have eD2:=(I''.pin (D,_) (List.mem_append_right _ List.mem_cons_self)).1;have J1:Inv (bC X scope cl N C s2 H2 fp) [] (b3 nl ci σ) (upd H' D (.lst ys)) s'' :=
     (I''.pins_of (pins':=[]) fun p hp=>by cases hp).track hD' eD2 rv hz (by show s2.heap.objs.size<=D;rw[hDe];exact Nat.le_refl _) hDL hDX fun p hp=>by cases hp
    have K1:Inv X pins σ (upd H' D (.lst ys)) s'':=C3 I2 f2 J1;obtain⟨mC,nsC,_⟩:=J1.loc;obtain⟨oC,es,ep,hoC,hdC,rC⟩:=id nsC;refine hfin D C s'' H' ys oC mC hD' (K1.pins_of fun p hp=> ?_) nsC (by rw[hDe];exact hCle) q;rcases List.mem_append.mp hp with hp|hp
    ·exact K1.pin p (List.mem_append_right _ hp)
    ·obtain rfl:p=(C,oC):=by simpa using hp
     refine⟨hoC,J1.free,Nat.ne_of_gt (Nat.lt_of_lt_of_le I2.lt (by rw[hDe];exact hCle)),I2.nofs (by rw[hDe];exact hCle),fun v z=> ?_⟩;rw[hdC]at z;cases z
   ·refine thn (T.item (bC X scope cl N C s2 H2 fp) rfl rfl rfl hc i _ s' (b3 nl ci σ) H' _ IP (fpD fr') st' go) fun r s4 ⟨u,hr,h4⟩=> ?_;subst hr;refine thn h4 fun _ s5 ⟨x,H5,I5,r5,y5,st5,fr5⟩=> ?_;have I5':=I5.pinned (fpD fr5) (T.obj _ _ st5);refine wpAny_mono (hg C s2 H2 fp _ s5 (b3 nl ci σ) H5 x u _ I5' r5 (step x H5 y5)) (fun _ s6 ⟨σ6,H6,I6,⟨hl6,hk6⟩,q6⟩=> ?_) fun _ _ f=>f.elim;refine wpAny_mono (hi C s2 H2 fp _ s6 σ6 H6 _ I6 q6) (fun b s7 ⟨H7,I7,q7⟩=> ?_) fun _ _ f=>f.elim;have pinD:∀{pp:List (Addr×Obj)}{σx:St}{Hx:Hp}{sx:Shared},Inv (bC X scope cl N C s2 H2 fp) ([(D,({ cls:= .type "list",data:= .seq its.toArray k }:Obj))]++iM fp s5.heap) σx Hx sx →
      sx.heap.get? D=some { cls:= .type "list",data:= .seq its.toArray k }/\Hx D=none/\tn (i+1) sx.heap/\(∀b∈fp,Hx b=none):=fun {pp σx Hx sx} Ix=>by
     refine⟨(Ix.pin (D,_) (List.mem_append_right _ (List.mem_append_left _ List.mem_cons_self))).1,(Ix.pin (D,_) (List.mem_append_right _ (List.mem_append_left _ List.mem_cons_self))).2.1,T.keep _ _ _ st5 fun b hb o e=>(Ix.pin (b,o) (List.mem_append_right _ (List.mem_append_right _ (gF hb e)))).1,fun b hb=> ?_⟩;obtain⟨o,e,d⟩:=T.obj _ _ st5 b hb;exact(Ix.pin (b,o) (List.mem_append_right _ (List.mem_append_right _ (gF hb e)))).2.1
    cases b with
    | false =>
     rw[if_neg Bool.false_ne_true]at q7 ⊢;obtain⟨m',hm',w7⟩:=q7;obtain⟨e7,n7,st7,fr7⟩:=pinD (pp:=[]) I7;exact⟨m',hm',i+1,ys,its,k,H7,w7,(I7.pins_of (pins':=[]) fun p hp=>by cases hp).weak hl6.symm hk6,st7,fr7,n7,e7,rv,hz⟩
    | true =>
     rw[if_pos rfl]at q7 ⊢;refine wpAny_mono (he C s2 H2 fp _ s7 σ6 H7 _ I7 q7) (fun y' s8 ⟨y,H8,I8,r8,hlt,m',hm',w8⟩=> ?_) fun _ _ f=>f.elim;obtain⟨e8,n8,st8,fr8⟩:=pinD (pp:=[]) I8;have I8f:Inv (bC X scope cl N C s2 H2 fp) (iM fp s5.heap) σ6 H8 s8:=I8.pins_of fun p hp=>I8.pin p (List.mem_append_right _ (List.mem_append_right _ hp));have I8t:=I8f.track n8 e8 rv hz (by show s2.heap.objs.size<=D;rw[hDe];exact Nat.le_refl _) hDL hDX fun p hp=>by
      have hp':p∈iM fp s5.heap:=by simpa [bC] using hp
      exact fun z=>hDfp (z▸(tS hp').1)
     refine wpAny_mono (j0 (X:=bC X scope cl N C s2 H2 fp) (iM fp s5.heap) s8 σ6 _ (.ref D) [y] (.ref D) [y'] (fun _ H9=>H9=upd H8 D (.lst (ys++[y]))) I8t rfl (.cons r8 .nil)
      ⟨D,ys,y,rfl,rfl,aR,hlt,IM⟩) (fun _ s9 ⟨_,H9,I9,_,e9⟩=> ?_) fun _ _ f=>f.elim
     subst e9;obtain⟨hz9,its9,k9,rv9,e9⟩:=I9.hok D _ aR;have I9u:=I9.untrack n8;refine⟨m',hm',i+1,ys++[y],its9,k9,H8,w8,(I9u.pins_of (pins':=[]) fun p hp=>by cases hp).weak hl6.symm hk6,?_,fr8,n8,e9,rv9,hz9⟩;exact T.keep _ _ _ st5 fun b hb o e=>(I9u.pin (b,o) (List.mem_append_right _ (gF hb e))).1
  ·exact⟨0,[],[],0,H2,w0,I4,T.keep _ _ _ st2 fun b hb o e=>old b o e,fun b hb=>(f2 b hb).1,I2.hok.fresh (by rw[hDe];exact Nat.le_refl _),hacc,.nil,Nat.zero_le _⟩
 exact codeAny_compStart_list (loop _ rfl) (T.self _ 0 _ _ _ (T.keep _ _ _ st2 fun b hb o e=>old b o e) (loop _ rfl))
theorem f9 (hc:X.calm=true)(B:Blk X scope cl N nl ci)(hp:PI X tg iter wi)(hg:∀C s0 H0 fp,PG (bC X scope cl N C s0 H0 fp) tg g)(hi:∀C s0 H0 fp,PF (bC X scope cl N C s0 H0 fp) ifs ti)
  (he:∀C s0 H0 fp,PE (bC X scope cl N C s0 H0 fp) elt te)(hs:∀x,foldedSetIterable iter X.env x=pure x:=by intro _;rfl):PE X (.ListComp elt [⟨tg,iter,ifs,0⟩] scope pos) (yG wi nl ci g ti te):=by
 intro pins s σ H Q I h;rw[eval_ListComp];refine wpAny_comprehension_free (use:=none) rfl hs B.clos B.kind B.names (thn (hp pins s σ H _ I h) fun v s1 h1=>thn h1 fun itv s2 h2=> ?_);obtain⟨it,fp,tn,J,H2,e,I2,T,st2,f2,hW⟩:=h2;subst e;refine tP (RR:=fun acc C=>compPost (model X.prog X.w) X.A X.xe none (EP X pins σ Q) acc C) hc B hg hi he I2 T st2 f2 hW ?_;intro D C s' H' ys oC m hD K1 hn hC q;refine⟨m,hn,fun h' hs'=> ?_⟩;have hL:C≠X.env.locals:=(K1.pin (C,oC) (by simp)).2.2.1;have I9:Inv X pins σ (upd H' D (.lst ys)) { s' with heap:=h',toks:=s'.toks }:=K1.unpinned.turned (t':=s'.toks) (it:=C) (fun b o hb e=>hs'.extBut b o hb e) (K1.pin (C,oC) (by simp)).2.1 hL (.inr (Nat.le_trans I2.sz hC)) (fun x c e z=> ?_) fun p hp z=> ?_
 ·exact⟨.ref D,_,I9,rfl,q D hD⟩
 ·obtain⟨v,o,ho,_⟩:=I2.cell x c e;exact absurd (Nat.lt_of_lt_of_le (Heap.lt_size ho) (z▸hC)) (Nat.lt_irrefl _)
 ·exact absurd (Nat.lt_of_lt_of_le (Heap.lt_size (I2.pin p hp).1) (z▸hC)) (Nat.lt_irrefl _)
theorem kG {i:Nat}{x:Str}{pos' spos:Pos} (hN:X.N.Nodup) (hix:X.N[i]? =some x) (hx:Loc X.env.scope x) (hc:X.calm=true) (B:Blk X scope cl N nl ci) (hp:PI X tg iter wi) (hg:∀C s0 H0 fp,PG (bC X scope cl N C s0 H0 fp) tg g)
  (hi:∀C s0 H0 fp,PF (bC X scope cl N C s0 H0 fp) ifs ti)(he:∀C s0 H0 fp,PE (bC X scope cl N C s0 H0 fp) elt te)
  (hsw:swapsWith (.ListComp elt [⟨tg,iter,ifs,0⟩] scope pos) (some (.Name x pos')) spos.line X.env=pure true:=by rfl)(hs:∀x,foldedSetIterable iter X.env x=pure x:=by intro _;rfl)
  (hf:X.fn x=true∨X.env.scope.names.lookup x=some .local:=by first|exact .inl rfl|exact .inr rfl|assumption) :
  PS X (.Assign [.Name x pos'] (.ListComp elt [⟨tg,iter,ifs,0⟩] scope pos) spos) (yZ (yG wi nl ci g ti te) (c8 i)):=by
 intro pins s σ H D I h;rw[exec_Assign_Name_used _ _ _ _ hsw];refine wpAny_bind (wpAny_standAt (wpAny_bind ?_));show wpAny _ X.A (do let _ ←comprehension (.ListComp elt [⟨tg,iter,ifs,0⟩] scope pos) scope X.env _ (newList []) false (eval iter X.env) (some (assign (.Name x pos') X.env))) _ _ s;refine wpAny_bind (wpAny_mono (wpAny_comprehension_free (use:=some (assign (.Name x pos') X.env)) (Q:=fun _ s'=>SP X pins D .next s') rfl hs B.clos B.kind B.names
  (thn (hp pins s σ H _ I h) fun v s1 h1=>thn h1 fun itv s2 h2=> ?_)) (fun _ s' hq=>wpAny_pure (wpAny_pure hq)) fun _ _ e=>e)
 obtain⟨it,fp,tn,J,H2,e,I2,T,st2,f2,hW⟩:=h2;subst e;refine tP (RR:=fun acc C=>compPost (model X.prog X.w) X.A X.xe (some (assign (.Name x pos') X.env)) (fun _ s'=>SP X pins D .next s') acc C) hc B hg hi he I2 T st2 f2 hW ?_;intro Dd C s' H' ys oC m hD K1 hn hC q;show wpAny _ X.A (assign (.Name x pos') X.env (.ref Dd)) _ _ _;refine thn (aU (i:=i) hN hix hx hf (pins++[(C,oC)]) s' σ (upd H' Dd (.lst ys)) (.ref Dd) (.ref Dd) (fun σ' H''=>D.nx σ' H'') K1 rfl (q Dd hD)) fun _ s'' ⟨σ',H'',K2,q2⟩=> ?_;have eC:=K2.pin (C,oC) (by simp);obtain⟨oC',es,ep,hoC,hdC,rC⟩:=id hn;have eo:oC'=oC:=by
  have:=(K1.pin (C,oC) (by simp)).1;rw[hoC]at this;exact Option.some.inj this
 subst eo;refine⟨m,⟨oC',es,ep,eC.1,hdC,rC⟩,fun h' hs'=> ?_⟩;have hL:C≠X.env.locals:=eC.2.2.1;have I9:Inv X pins σ' H'' { s'' with heap:=h',toks:=s''.toks }:=K2.unpinned.turned (t':=s''.toks) (it:=C) (fun b o hb e=>hs'.extBut b o hb e) eC.2.1 hL (.inr (Nat.le_trans I2.sz hC)) (fun x c e z=> ?_) fun p hp z=> ?_
 ·exact⟨σ',H'',I9,q2⟩
 ·obtain⟨v,o,ho,_⟩:=I2.cell x c e;exact absurd (Nat.lt_of_lt_of_le (Heap.lt_size ho) (z▸hC)) (Nat.lt_irrefl _)
 ·exact absurd (Nat.lt_of_lt_of_le (Heap.lt_size (I2.pin p hp).1) (z▸hC)) (Nat.lt_irrefl _)
end
end L2
namespace L2
open PySem PySem.Spec PyProof.Rows
def Its (x:Str):It:=⟨fun i _=>i<x.cps.size,fun i H v H'=>H'=H/\∃c,x.cps[i]? =some c/\v= .str ⟨#[c]⟩,fun i _=>i=x.cps.size⟩
theorem vI {P:Program}{w:World}{K:PySem.W.Frag}{tg:Expr} (it:Addr) (x:Str) (t:Tok) (ty:String)
  (hty:["enumerate","zip","dict_itemiterator","dict_reverseitemiterator","odict_iterator","itertools.zip_longest","itertools.pairwise"].contains ty=false)
  (W:∀A':Around,A'.handled=none->Walks P w A' it [it] [it] x.cps.size (SignAt x) (fun i h=>h.IsStrIter it ty x t i))
  (hself:∀(A:Around) (i:Nat) (s:Shared) (Q:Value->Shared->Prop) (E:Value->Shared->Prop),s.heap.IsStrIter it ty x t i->Q (.ref it) s->wpAny (model P w) A (pyIter (.ref it)) Q E s) :
  rZ P w K tg (Its x) [it] it (fun i h=>h.IsStrIter it ty x t i) where
 mem:=by simp
 obj:=fun i h st b hb=>by
  have e:b=it:=by simpa using hb
  subst e;obtain⟨o,e,c,d⟩:=st;exact⟨o,e,fun v z=>by rw[d]at z;cases z⟩
 keep:=fun i h h' st k=>let ⟨o,ho,r⟩:=st;⟨o,k it (by simp) o ho,r⟩
 item:=by
  intro X hP hw hK hc i pins s σ H E I hf st hg;subst hP hw hK;obtain⟨f0,f1,f2,f3,f4,f5⟩:=hf it (by simp);refine(W X.A (I.ok.hd hc)).item i s _ _ hg st fun v h' tk hv st' kk=> ?_;obtain⟨c,u,hc',rfl⟩:=hv;have I1:Inv X pins σ H { s with heap:=h',toks:=tk }:=I.turned (fun b o hb e=>kk b o (by simpa using hb) e) f0 f1 f3 f4 f5;obtain⟨o,e,c1,d⟩:=id st';exact⟨_,rfl,yO (s:={ s with heap:=h',toks:=tk }) e c1 d hty ⟨.str ⟨#[c]⟩,H,I1,⟨u,rfl⟩,⟨rfl,c,hc',rfl⟩,st',fun b hb=>(hf b hb).1⟩⟩
 done:=by
  intro X hP hw hK hc i pins s σ H E I hf st hg;subst hP hw hK;obtain⟨f0,f1,f2,f3,f4,f5⟩:=hf it (by simp);have e:i=x.cps.size:=hg;subst e;exact(W X.A (I.ok.hd hc)).done s _ _ st fun h' tk kk=>⟨rfl,I.turned (fun b o hb e=>kk b o (by simpa using hb) e) f0 f1 f3 f4 f5⟩
 self:=hself
def PZ (tl:TE):TI:=fun σ H R=>tl σ H fun x H1=>∃z,x= .str z/\R (Its z) H1
theorem ND {X:Cx}{tg l:Expr}{tl:TE} (hl:PE X l tl):PI X tg l (PZ tl):=by
 intro pins s σ H R I h;refine thn (hl pins s σ H _ I h) fun v s1 ⟨x,H1,I1,rx,z,ez,q⟩=> ?_;subst ez;obtain⟨t,rfl⟩:=rx;cases ha:z.cps.all (·<128)
 ·refine wpAny_pyIter_wide ha ⟨s1.heap.objs.size,[s1.heap.objs.size],_,Its z,H1,rfl,I1.kept (t':=s1.toks) fun b u e=>Heap.get?_push_of_some _ e,vI _ z t "str_iterator" (by decide) (fun A' hA=>Walks.strWide hA _ z t) (fun _ _ _ _ _ st h=>wpAny_pyIter_striter_wide st h),⟨_,Heap.get?_push_size _ rfl,rfl,rfl⟩,fun b hb=> ?_,q⟩;have e:b=s1.heap.objs.size:=by simpa using hb
  subst e;exact I1.fpOk (Nat.le_refl _) (I1.hok.fresh (Nat.le_refl _))
 ·refine wpAny_pyIter_ascii ha ⟨s1.heap.objs.size,[s1.heap.objs.size],_,Its z,H1,rfl,I1.kept (t':=s1.toks) fun b u e=>Heap.get?_push_of_some _ e,vI _ z t "str_ascii_iterator" (by decide) (fun A' hA=>Walks.strAscii hA _ z t) (fun _ _ _ _ _ st h=>wpAny_pyIter_striter_ascii st h),⟨_,Heap.get?_push_size _ rfl,rfl,rfl⟩,fun b hb=> ?_,q⟩;have e:b=s1.heap.objs.size:=by simpa using hb
  subst e;exact I1.fpOk (Nat.le_refl _) (I1.hok.fresh (Nat.le_refl _))
theorem JB {J:It}{g:TG}{ti:TT}{te:TE}{σ0:St}{fin:List V->Hp->Prop}{H1:Hp} (n:Nat) (f:Nat->V) (hn:n<=sizeLine) (Ok:Hp->Prop) (h0:Ok H1)
  (hst:∀H,Ok H->J.stop n H)(hgo:∀i H,i<n->Ok H->J.go i H)
  (hstep:∀i H x H',i<n->Ok H->J.yld i H x H'->g x σ0 H' fun σ2 H2=>(σ2.length=σ0.length/\∀(j:Nat) v,σ0[j]? =some (some v)->σ2[j]? =some (some v))/\ti σ2 H2 fun b H3=>b=true/\te σ2 H3 fun y H4=>y=f i/\Ok H4)
  (mono:∀σ H (Q Q':Bool->Hp->Prop),(∀b H',Q b H'->Q' b H')->ti σ H Q->ti σ H Q')(mono2:∀σ H (Q Q':VK),(∀b H',Q b H'->Q' b H')->te σ H Q->te σ H Q')(mono3:∀x σ H (Q Q':St->Hp->Prop),(∀σ' H',Q σ' H'->Q' σ' H')->g x σ H Q->g x σ H Q')
  (hfin:∀H,Ok H->fin ((List.range n).map f) H):gO J g ti te σ0 fin H1:=by
 refine⟨fun i m ys H=>m=n - i/\i<=n/\ys=(List.range i).map f/\Ok H,⟨n,by simp,Nat.zero_le _,rfl,h0⟩,?_⟩;rintro i m ys H ⟨rfl,hi,rfl,ok⟩
 by_cases hlt:i<n
 ·refine .inr ⟨hgo i H hlt ok,fun x H' y=> ?_⟩;refine mono3 _ _ _ _ _ (fun σ' H'' q=>⟨q.1,mono _ _ _ _ (fun b H3 q=> ?_) q.2⟩) (hstep i H x H' hlt ok y);obtain⟨rfl,q⟩:=q;rw[if_pos rfl];refine mono2 _ _ _ _ (fun v H4 q=> ?_) q;obtain⟨rfl,ok4⟩:=q;refine⟨by rw[List.length_map,List.length_range];lia,n - (i+1),by lia,rfl,hlt,?_,ok4⟩;rw[List.range_succ,List.map_append];rfl
 ·have e:i=n:=by lia
  subst e;exact .inl ⟨hst H ok,hfin H ok⟩
section
variable {X:Cx}
theorem vX:∀bs:List Bool,(List.range bs.length).all (fun i=>bs.getD i true)=bs.all id
 | []=>rfl
 | b::bs=>by
  rw[List.length_cons,List.range_succ_eq_map,List.all_cons,List.all_map,List.all_cons,←vX bs];rfl
theorem rW (hc:X.calm=true):cV X (.builtin "all") (fun xs H Q=>∃(p:Addr) (bs:List Bool),xs=[.ref p]/\SqL X.K H p (bs.map V.bl)/\Q (.bl (bs.all id)) H):=by
 intro pins s σ H xs us Q I r h;obtain⟨p,bs,rfl,hq,q⟩:=h;obtain⟨u,rfl,rx⟩:=kI r;cases rx;obtain⟨its,r',pl,hz⟩:=I.list hq;have hl:=pl.isList;have hlt:p<s.heap.objs.size:=by obtain⟨_,e,_⟩:=hl;exact Heap.lt_size e
 have hlen:bs.length=its.length:=by have:=r'.length;rw[List.length_map]at this;exact this
 refine call_all_walk (wpAny_pyIter_list hl ?_);refine⟨s.heap.objs.size,_,_,its.toArray.size,_,_,fun i=>bs.getD i true,rfl,Walks.list (show X.A.in1.handled=none from I.ok.hd hc) s.heap.objs.size p (Nat.ne_of_lt hlt) its.toArray,⟨⟨_,Heap.get?_push_size _ rfl,rfl,rfl⟩,hl.push _⟩,?_,?_⟩
 ·intro i v s' Q' E' hi hQ;have hi':its[i]? =some v:=by simpa using hi
  have hib:i<bs.length:=by rw[hlen];exact(List.getElem?_eq_some_iff.mp hi').1
  obtain⟨u,hu,ru⟩:=r'.get (i:=i) (x:=V.bl bs[i]) (by rw[List.getElem?_map,List.getElem?_eq_getElem hib];rfl);rw[hi']at hu;cases hu;have:v=Value.bool bs[i]:=ru;subst this;refine wpAny_truthy_bool ?_;have eb:bs.getD i true=bs[i]:=by rw[List.getD_eq_getElem?_getD,List.getElem?_eq_getElem hib];rfl
  have hQ':Q' (bs.getD i true) s':=hQ;rw[eb]at hQ';exact hQ'
 ·intro h' tk hk;have eall:(List.range its.toArray.size).all (fun i=>bs.getD i true)=bs.all id:=by
   rw[List.size_toArray,←hlen];exact vX bs
  rw[eall];refine⟨.bl (bs.all id),H,?_,rfl,q⟩;have I1:Inv X pins σ H { s with heap:=s.heap.push { cls:= .type "list_iterator",data:= .fields #[.ref p,.int 0 0] },toks:=s.toks }:=I.kept fun b u e=>Heap.get?_push_of_some _ e;obtain⟨f0,f1,f2,f3,f4,f5⟩:=I.fpOk (Nat.le_refl _) (I.hok.fresh (Nat.le_refl _));exact I1.turned (fun b o hb e=>hk b o (by simpa using hb) e) f0 f1 f3 f4 f5
theorem wU:cV X (.builtin "isinstance") (fun xs H Q=>∃x c t u b,xs=[x,c]/\fP X.K H x t/\RelV c u/\PySem.W.kitOne X.K t u=some b/\Q (.bl b) H):=by
 intro pins s σ H xs us Q I r h;obtain⟨x,c,t,u,b,rfl,ty,rc,e,q⟩:=h;obtain⟨v1,v2,rfl,r1,r2⟩:=yR r;have e2:v2=u:=by
  cases c with
  | non=>exact(show v2=_ from r2).trans (show u=_ from rc).symm
  | bl b=>exact(show v2=_ from r2).trans (show u=_ from rc).symm
  | ref b=>exact(show v2=_ from r2).trans (show u=_ from rc).symm
  | ty b=>exact(show v2=_ from r2).trans (show u=_ from rc).symm
  | int i =>
   obtain⟨t1,rfl⟩:=(show ∃t,u=_ from rc)
   cases ty<;>simp[PySem.W.kitOne,PySem.W.kitCls]at e
  | str i =>
   obtain⟨t1,rfl⟩:=(show ∃t,u=_ from rc)
   cases ty<;>simp[PySem.W.kitOne,PySem.W.kitCls]at e
  | byt i =>
   obtain⟨t1,rfl⟩:=(show ∃t,u=_ from rc)
   cases ty<;>simp[PySem.W.kitOne,PySem.W.kitCls]at e
  | flt i =>
   obtain⟨t1,rfl⟩:=(show ∃t,u=_ from rc)
   cases ty<;>simp[PySem.W.kitOne,PySem.W.kitCls]at e
 subst e2;exact AR I r1 ty e fun tk=>⟨.bl b,H,I.tok tk,rfl,q⟩
theorem C1:OpR X (compareOp .LtE) (fun x y H Q=>∃i j,x= .str i/\y= .str j/\Q (.bl (!decide (j.cps.toList<i.cps.toList))) H):=by
 intro pins s σ H x y v u Q I rx ry h;obtain⟨i,j,rfl,rfl,q⟩:=h;obtain⟨t,rfl⟩:=rx;obtain⟨t',rfl⟩:=ry;exact P.le_str ⟨.bl _,H,I,rfl,q⟩
end
end L2
namespace L2
open PySem PySem.Spec PyProof.Rows
def GS (xs:List (Str×NameKind))(XN:List Str)(ns:List (Str×NameKind))(N:List Str)(nl:Nat)(ci:List Nat):Bool :=
 (ns.all fun y=>y.2 != .cell&&(y.2 != .local||ns.lookup y.1==some .local)&&(y.2 != .free||(xs.lookup y.1==some .cell&&ns.lookup y.1==some .free))) &&
 (N.length==nl+ci.length) &&
 (List.range ci.length).all fun j=>match ci[j]?,N[nl+j]? with
  | some i,some n=>XN[i]? ==some n&&xs.lookup n==some .cell&&ns.lookup n==some .free
  | _,_=>false
def kN (ns:List (Str×NameKind))(cs:List (Str×Addr)):List (Str×Addr)->List (Str×Addr)
 | acc=>ns.foldl (fun acc y=>if y.2== .free then (y.1,(cs.lookup y.1).getD 0)::acc else acc) acc
theorem k8 {env:Env}:∀(ns:List (Str×NameKind)) (acc:List (Str×Addr)),(∀y∈ns,y.2= .free->∃c,env.cells.lookup y.1=some c) →
  (forIn ns acc fun x r=>(do
   let (name,kind):=x
   if (kind==NameKind.free)=true then do
     let c ←cellOf env name
     pure (ForInStep.yield ((name,c)::r))
    else pure (ForInStep.yield r)):Sem (List (Str×Addr)))=pure (kN ns env.cells acc)
 | [],acc,_=>rfl
 | (n,k)::r,acc,h=>by
  have ih:=fun acc=>k8 r acc fun y hy=>h y (List.mem_cons_of_mem _ hy);rw[List.forIn_cons]
  by_cases hk:k= .free
  ·subst hk;obtain⟨c,e⟩:=h (n,.free) List.mem_cons_self rfl;have e1:cellOf env n=pure c:=by unfold cellOf;rw[e]
   simp only[beq_self_eq_true,if_true,e1];show (forIn r ((n,c)::acc) _:Sem (List (Str×Addr)))=_;rw[ih];show _=pure (kN ((n,NameKind.free)::r) env.cells acc);simp only[kN,List.foldl_cons,beq_self_eq_true,if_true,e,Option.getD_some]
  ·have hb:(k==NameKind.free)=false:=by simpa using hk
   simp only[hb,Bool.false_eq_true,if_false];show (forIn r acc _:Sem (List (Str×Addr)))=_;rw[ih];simp only[kN,List.foldl_cons,hb,Bool.false_eq_true,if_false]
theorem fL {cs:List (Str×Addr)}:∀(ns:List (Str×NameKind)) (acc:List (Str×Addr)) (n:Str),(∀y∈ns,y.2= .free->∃c,cs.lookup y.1=some c) →
  ((n,NameKind.free)∈ns∨acc.lookup n=cs.lookup n)->(∀c,acc.lookup n=some c->cs.lookup n=some c)->(kN ns cs acc).lookup n=cs.lookup n
 | [],acc,n,_,h,_=>by
  rcases h with h|h
  ·cases h
  ·exact h
 | (m,k)::r,acc,n,hc,h,hs=>by
  have hc':∀y∈r,y.2= .free->∃c,cs.lookup y.1=some c:=fun y hy=>hc y (List.mem_cons_of_mem _ hy);show (kN r cs (if k== .free then (m,(cs.lookup m).getD 0)::acc else acc)).lookup n=cs.lookup n
  by_cases hk:k= .free
  ·subst hk;obtain⟨c,e⟩:=hc (m,.free) List.mem_cons_self rfl;simp only[beq_self_eq_true,if_true,e,Option.getD_some]
   by_cases hm:n=m
   ·subst hm;have q:List.lookup n ((n,c)::acc)=some c:=by simp[List.lookup_cons]
    exact fL r _ n hc' (.inr (q.trans e.symm)) fun c' z=>by rw[q]at z;cases z;exact e
   ·have hb:(n==m)=false:=by simpa using hm
    have q:List.lookup n ((m,c)::acc)=acc.lookup n:=by simp[List.lookup_cons,hb]
    refine fL r _ n hc' ?_ fun c' z=>hs c' (q▸z);rcases h with h|h
    ·rcases List.mem_cons.mp h with z|z
     ·cases z;exact absurd rfl hm
     ·exact .inl z
    ·exact .inr (q.trans h)
  ·have hb:(k==NameKind.free)=false:=by simpa using hk
   simp only[hb,Bool.false_eq_true,if_false];refine fL r _ n hc' ?_ hs;rcases h with h|h
   ·rcases List.mem_cons.mp h with z|z
    ·cases z;exact absurd rfl hk
    ·exact .inl z
   ·exact .inr h
theorem v5 {cs:List (Str×Addr)}:∀(ns:List (Str×NameKind)) (acc:List (Str×Addr)),(∀y∈ns,y.2= .free->∃c,cs.lookup y.1=some c) →
  (∀n c,acc.lookup n=some c->cs.lookup n=some c)->∀n c,(kN ns cs acc).lookup n=some c->cs.lookup n=some c
 | [],acc,_,hs,n,c,h=>hs n c h
 | (m,k)::r,acc,hc,hs,n,c,h=>by
  have hc':∀y∈r,y.2= .free->∃c,cs.lookup y.1=some c:=fun y hy=>hc y (List.mem_cons_of_mem _ hy);have h':(kN r cs (if k== .free then (m,(cs.lookup m).getD 0)::acc else acc)).lookup n=some c:=h;refine v5 r _ hc' ?_ n c h';intro n' c' z
  by_cases hk:k= .free
  ·subst hk;obtain⟨d,e⟩:=hc (m,.free) List.mem_cons_self rfl;simp only[beq_self_eq_true,if_true,e,Option.getD_some]at z
   by_cases hm:n'=m
   ·subst hm;simp[List.lookup_cons]at z;subst z;exact e
   ·have hb:(n'==m)=false:=by simpa using hm
    simp[List.lookup_cons,hb]at z;exact hs n' c' z
  ·have hb:(k==NameKind.free)=false:=by simpa using hk
   simp only[hb,Bool.false_eq_true,if_false]at z;exact hs n' c' z
theorem gZ {env:Env}(hkf:env.scope.kind= .function):∀{names:List (Str×NameKind)}{x:Str},names.lookup x=some .free->env.kindOf x=some .cell →
  (names.map fun (n,k)=>if (k==NameKind.free&&env.scope.kind== .function&&env.kindOf n==some .cell) then (n,NameKind.cell) else (n,k)).lookup x=some .cell
 | [],_,h,_=>by simp at h
 | (n,k)::r,x,h,hc=>by
  show List.lookup x ((if (k==NameKind.free&&env.scope.kind== .function&&env.kindOf n==some .cell)=true then (n,NameKind.cell) else (n,k))::_)=_;cases hx:x==n with
  | true =>
   simp only[List.lookup_cons,hx]at h;cases h;have e:x=n:=by simpa using hx
   subst e;rw[hkf,hc];simp[List.lookup_cons]
  | false =>
   simp only[List.lookup_cons,hx]at h;have ih:=gZ hkf h hc
   split
   ·simp only[List.lookup_cons,hx];exact ih
   ·simp only[List.lookup_cons,hx];exact ih
theorem eN {env:Env}:∀{names:List (Str×NameKind)}{x:Str}{k':NameKind},(∀y∈names,y.2≠ .cell)->(k'= .cell∨k'= .free) →
  (names.map fun (n,k)=>if (k==NameKind.free&&env.scope.kind== .function&&env.kindOf n==some .cell) then (n,NameKind.cell) else (n,k)).lookup x=some k'->(x,NameKind.free)∈names
 | [],_,_,_,_,h=>by simp at h
 | (n,k)::r,x,k',hn,hk',h=>by
  have h':List.lookup x ((if (k==NameKind.free&&env.scope.kind== .function&&env.kindOf n==some .cell)=true then (n,NameKind.cell) else (n,k))::r.map _)=some k':=h;cases hx:x==n with
  | true =>
   have e:x=n:=by simpa using hx
   subst e
   by_cases hf:k= .free
   ·subst hf;exact List.mem_cons_self
   ·have hb:(k==NameKind.free)=false:=by simpa using hf
    simp only[hb,Bool.false_and,Bool.false_eq_true,if_false,List.lookup_cons,hx]at h';cases h';rcases hk' with z|z
    ·exact absurd z (hn (x,k) List.mem_cons_self)
    ·exact absurd z hf
  | false =>
   have h2:List.lookup x (r.map fun (n,k)=>if (k==NameKind.free&&env.scope.kind== .function&&env.kindOf n==some .cell) then (n,NameKind.cell) else (n,k))=some k':=by
    split at h'
    ·simp only[List.lookup_cons,hx]at h';exact h'
    ·simp only[List.lookup_cons,hx]at h';exact h'
   exact List.mem_cons_of_mem _ (eN (fun y hy=>hn y (List.mem_cons_of_mem _ hy)) hk' h2)
theorem blk {X:Cx}{scope:Scope}{N:List Str}{nl:Nat}{ci:List Nat} (n0:Nat) (hX:X.env.cells=cellsFrom n0 X.env.scope.names []) (hkf:X.env.scope.kind= .function) (hk:scope.kind= .function)
  (h:GS X.env.scope.names X.N scope.names N nl ci=true):Blk X scope (kN scope.names X.env.cells []) N nl ci:=by
 unfold GS at h;rw[Bool.and_eq_true,Bool.and_eq_true]at h;obtain⟨⟨h1,h2⟩,h3⟩:=h;rw[List.all_eq_true]at h1;have h1':∀y∈scope.names,y.2≠ .cell/\(y.2= .local->scope.names.lookup y.1=some .local)/\(y.2= .free->X.env.scope.names.lookup y.1=some .cell/\scope.names.lookup y.1=some .free):=fun y hy=>by
  have q:=h1 y hy;simp only[Bool.and_eq_true,Bool.or_eq_true,bne_iff_ne,ne_eq,beq_iff_eq]at q;obtain⟨⟨q1,q2⟩,q3⟩:=q;exact⟨q1,fun e=>q2.resolve_left fun z=>z e,fun e=>q3.resolve_left fun z=>z e⟩
 have hcs:∀y∈scope.names,y.2= .free->∃c,X.env.cells.lookup y.1=some c:=fun y hy e=>by
  rw[hX];exact oX ((h1' y hy).2.2 e).1
 refine⟨hk,fun y hy=>(h1' y hy).2.1,fun y hy=>(h1' y hy).1,?_,?_,?_,by simpa using h2,?_⟩
 ·unfold closureFor;refine(congrArg (fun m:Sem (List (Str×Addr))=>m >>= fun cs=>pure cs) (k8 scope.names [] hcs)).trans ?_;rfl
 ·exact v5 scope.names [] hcs fun n c z=>by cases z
 ·intro n hn;have hm:(n,NameKind.free)∈scope.names:=by
   rcases hn with z|z
   ·exact eN (fun y hy=>(h1' y hy).1) (.inl rfl) z
   ·exact eN (fun y hy=>(h1' y hy).1) (.inr rfl) z
  obtain⟨c,e⟩:=hcs _ hm rfl;exact⟨c,(fL scope.names [] n hcs (.inl hm) fun c z=>by cases z).trans e⟩
 ·intro j i hj;have hjl:j<ci.length:=(List.getElem?_eq_some_iff.mp hj).1;rw[List.all_eq_true]at h3;have q:=h3 j (List.mem_range.mpr hjl);rw[hj]at q;cases e:N[nl+j]? with
  | none=>rw[e]at q;cases q
  | some n =>
   rw[e]at q;simp only[Bool.and_eq_true,beq_iff_eq]at q;obtain⟨⟨q1,q2⟩,q3⟩:=q;refine⟨n,rfl,q1,.inl q2,.inl (gZ hkf q3 q2),?_⟩;exact fL scope.names [] n hcs (.inl (PySem.mem_of_lookup q3)) fun c z=>by cases z
structure Fc (P:Program)(w:World)(K:PySem.W.Frag)(mg:Str->Option Value)(base:Heap)(x:Str)(k:Nat)(ps:List Str)(sp:Sp):Prop where
 ex:∃f fd,mg x=some (.ref f)/\PySem.W.keepIn K (.ref f)=true/\Binds K fd ps []/\bK P w K mg base CX0 k f fd ps sp
theorem b9 {X:Cx}{x:Str}{k k':Nat}{ps:List Str}{sp:Sp}{e:Expr}{es:List Expr}{t:TA}{p pos:Pos} (F:Fc X.prog X.w X.K X.mg X.base x k ps sp) (hr:Room k' X.A) (ha:PA X (e::es) t) (hk:k<=k':=by decide) (hg:Gl X x:=by rfl)
  (hdb:(x==("__debug__" :Str))=false:=by decide)(he:starEach (e::es) X.env=(false,eval e X.env)::starEach es X.env:=by rfl)(hpl:(backTo pos (starEach es X.env)).any (·.1)=false:=by rfl) :
  PE X (.Call (.Name x p) (e::es) [] pos) (qK sp [] E0 t):=by
 obtain⟨f,fd,hm,kp,b,G⟩:=F.ex;exact yA G (hr.mono hk) hg hm kp b .nil yS ha hdb he hpl
theorem uZ {X:Cx}{x:Str}{n:String}{pos:Pos} (hg:Gl X x) (hm:X.mg x=none) (hv:bootBuiltins x=some (.type n)) (hn:x≠ "__name__" :=by decide) (hd:(x==("__debug__" :Str))=false:=by decide):PE X (.Name x pos) (tC (.ty n)):=JA hg hm hv rfl hn hd
theorem JV {X:Cx}{x:Str}{i:Int}{t:Tok}{pos:Pos} (hg:Gl X x) (hm:X.mg x=some (.int i t)) (hd:(x==("__debug__" :Str))=false:=by decide):PE X (.Name x pos) (tC (.int i)):=xZ hg hm ⟨t,rfl⟩ hd
theorem iN {X:Cx}{x:Str}{a:Addr}{pos:Pos} (hg:Gl X x) (hm:X.mg x=some (.ref a)) (hd:(x==("__debug__" :Str))=false:=by decide):PE X (.Name x pos) (tC (.ref a)):=xZ hg hm rfl hd
theorem bI:bootBuiltins "isinstance" =some (.builtin "isinstance"):=by decide +kernel
theorem NB:bootBuiltins "all" =some (.builtin "all"):=by decide +kernel
theorem fM:bootBuiltins "len" =some (.builtin "len"):=by decide +kernel
theorem vE:bootBuiltins "int" =some (.type "int"):=by decide +kernel
theorem LY:bootBuiltins "str" =some (.type "str"):=by decide +kernel
theorem JI:bootBuiltins "bool" =some (.type "bool"):=by decide +kernel
theorem KB:bootBuiltins "dict" =some (.type "dict"):=by decide +kernel
inductive BTy (K:PySem.W.Frag)(H:Hp):V->String->Prop where
 | non:BTy K H .non "NoneType"
 | bl (x:Bool):BTy K H (.bl x) "bool"
 | int (i:Int):BTy K H (.int i) "int"
 | str (x:Str):BTy K H (.str x) "str"
 | lst {a:Addr}{xs:List V} (e:H a=some (.lst xs)):BTy K H (.ref a) "list"
 | tup {a:Addr}{xs:List V} (e:H a=some (.tup xs)):BTy K H (.ref a) "tuple"
 | dK {a:Addr}{kvs:List (Key×V)} (e:H a=some (.dK kvs)):BTy K H (.ref a) "dict"
theorem BTy.ty {K:PySem.W.Frag}{H:Hp}{x:V}{n:String} (b:BTy K H x n):fP K H x (.type n):=by
 cases b with
 | non=>exact .non
 | bl=>exact .bl _
 | int=>exact .int _
 | str=>exact .str _
 | lst e=>exact .lst e
 | tup e=>exact .tup e
 | dK e=>exact .dK e
def isB (n c:String):Bool:=n==c||(n== "bool" &&c== "int")
theorem zQ {K:PySem.W.Frag}{H:Hp}{x:V}{n:String} (b:BTy K H x n) (c:String) (hc:c= "int" ∨c= "bool" ∨c= "str"):PySem.W.kitOne K (.type n) (.type c)=some (isB n c):=by
 cases b<;>rcases hc with rfl|rfl|rfl<;>kernel_rfl
end L2
namespace L2
open PySem PySem.Spec PyProof.Rows
section
variable {X:Cx}
theorem FF {x:V}(h:qG x=true):eqV x x=true:=by
 cases x<;>first|rfl|(simp[eqV];done)|exact absurd h Bool.false_ne_true
theorem o9 (n:Nat):(List.range n).all (fun _=>true)=true:=by simp
end
structure FunV (K:PySem.W.Frag)(x qual:Str)(st:Stmt)(f:Addr)(fd:FuncData):Prop where
 ex:∃(oc:Value) (od:Option Addr) (dV kV doc pm:Value) (an:Option Addr) (cdv ct:Value) (osl:Array (Option Value)),
  fd=PySem.W.fnOf x qual (aJ st) (aI st) (aE st) dV kV doc pm an cdv ct/\K.lookup f=some ⟨oc,od,.func fd,osl⟩/\PySem.W.codeIn K cdv qual=true
 kp:PySem.W.keepIn K (.ref f)=true
section
variable {P:Program}{w:World}{K:PySem.W.Frag}{mg:Str->Option Value}{base:Heap}
theorem FunV.ok {x qual:Str}{st:Stmt}{f:Addr}{fd:FuncData}{N ps:List Str}{k:Nat}{sp:Sp} (F:FunV K x qual st f fd) (S:bE N ps (aE st)) (len:∀vs H Q E,sp vs H Q E->vs.length=ps.length)
  (hbody:∀(cdv:Value) (A:Around) (outer:List Env) (s:Shared) (H:Hp) (vs:List V) (Q:VK) (E:XK),Room k (A.deeper (envOfC qual (aE st) s.heap.objs.size f cdv))->sp vs H Q E →
   ∃t,PSs (c9 CX0 P w K mg base N qual (aE st) f cdv A outer s H E).nox (aI st) t/\t { nx:=fun _ H'=>Q .non H',rt:=Q } (gN N vs) H):bK P w K mg base CX0 (k+1) f fd ps sp:=by
 obtain⟨oc,od,dV,kV,doc,pm,an,cdv,ct,osl,rfl,lk,hcd⟩:=F.ex;refine GB lk hcd S len fun A outer s H vs Q E hr h=> ?_;obtain⟨t,h1,h2⟩:=hbody cdv A outer s H vs Q E hr h;exact⟨t,PSs.nox h1,h2⟩
theorem aN {x qual:Str}{st:Stmt}{f:Addr}{oc:Value}{od an:Option Addr}{osl:Array (Option Value)}{dV kV doc pm cdv ct:Value} (l:K.lookup f=some ⟨oc,od,.func (PySem.W.fnOf x qual (aJ st) (aI st) (aE st) dV kV doc pm an cdv ct),osl⟩) (c:PySem.W.codeIn K cdv qual=true)
  (k:PySem.W.keepIn K (.ref f)=true):FunV K x qual st f (PySem.W.fnOf x qual (aJ st) (aI st) (aE st) dV kV doc pm an cdv ct):=⟨⟨oc,od,dV,kV,doc,pm,an,cdv,ct,osl,rfl,l,c⟩,k⟩
structure Mc (P:Program)(w:World)(K:PySem.W.Frag)(mg:Str->Option Value)(base:Heap)(C:Addr)(nm:Str)(k:Nat)(sp:Sp):Prop where
 ex:∃f fd ps,Cls K C/\fF K C nm f/\Binds K fd ps []/\bK P w K mg base CX0 k f fd ps sp
structure Kc (P:Program)(w:World)(K:PySem.W.Frag)(mg:Str->Option Value)(base:Heap)(x:Str)(C:Addr)(k:Nat)(dvs:List V)(sp:Sp):Prop where
 ex:∃f fd ps ds,mg x=some (.ref C)/\Mk K C f/\Vals dvs ds/\Binds K fd ps ds/\bK P w K mg base CX0 k f fd ps sp
end
section
variable {X:Cx}{k k':Nat}{sp:Sp}{x m:Str}{p pos apos:Pos}{e o:Expr}{es:List Expr}{ta:TE}{t:TA}{C:Addr}{dvs:List V}
def tMD (M:Addr->Sp->Prop)(m:Str)(ta:TE)(t:TA):TE:=fun σ H Q=>ta σ H fun x H1=>∃a C dx fs sp,x= .ref a/\H1 a=some (.ins C dx fs)/\fs.lookup m=none/\M C sp/\t σ H1 fun vs H2=>sp (x::vs) H2 Q E0
theorem MZ (k:Nat){pl:Sem Bool}(hr:Room k' X.A)(ho:PE X o ta)(hk:k<=k':=by decide)
  (ht:eval (.Call (.Attribute o m apos) [] [] pos) X.env=(do
   let ov ←eval o X.env
   standAt apos.atName
   let (f,first) ←holding [ov] (getMethod ov m pl)
   callWith pos f first (backTo pos (starEach [] X.env)) (backToKw pos (keywordEach [] X.env))):=by rfl) :
  PE X (.Call (.Attribute o m apos) [] [] pos) (tMD (fun C sp=>Mc X.prog X.w X.K X.mg X.base C m k sp) m ta DP):=by
 intro pins s σ H Q I h;refine PySem.W.methodCall_KW (pl:=pl) (thn (ho pins s σ H _ I h) fun u s1 ⟨x,H1,I1,rx,a,C,dx,fs,sp,ex,ea,l,M,q⟩=> ?_) ht;subst ex;obtain rfl:u=Value.ref a:=rx;obtain⟨f,fd,ps,c,hm,hb,F⟩:=M.ex;refine zW I1 ea c hm l ?_;exact PySem.W.callWith_K0 (first:=[.ref a]) I1.kIn hm.kp (AX (us:=[.ref a]) (vs:=[.ref a]) (dvs:=[]) F (hr.mono hk) hb .nil yS I1 (.cons rfl .nil) q)
theorem u3 (F:Kc X.prog X.w X.K X.mg X.base x C k dvs sp)(hr:Room k' X.A)(ha:PA X (e::es) t)(hk:k+1<=k':=by decide)(hg:Gl X x:=by rfl)
  (hdb:(x==("__debug__" :Str))=false:=by decide)(he:starEach (e::es) X.env=(false,eval e X.env)::starEach es X.env:=by rfl)(hpl:(backTo pos (starEach es X.env)).any (·.1)=false:=by rfl) :
  PE X (.Call (.Name x p) (e::es) [] pos) (uU C sp dvs E0 t):=by
 obtain⟨f,fd,ps,ds,hm,M,hd,hb,G⟩:=F.ex;exact JG M G (hr.mono hk) hg hm hb hd yS ha hdb he hpl
end
end L2
namespace L2
open PySem PySem.Spec PyProof.Rows
def GQ:R2:=fun x y H Q=>∃i j,x= .str i/\y= .str j/\i.length+j.length<=sizeLine/\Q (.str (i++j)) H
def zO:R2:=fun x y H Q=>y= .non/\Q (.bl (decide (x= .non))) H
def zV:R2:=fun x y H Q=>y= .non/\Q (.bl (!decide (x= .non))) H
def PU:R2:=fun x y H Q=>∃i j,x= .str i/\y= .str j/\Q (.bl (!decide (j.cps.toList<i.cps.toList))) H
def PY (K:PySem.W.Frag):List V->Hp->VK->Prop:=fun xs H Q=>∃x c t u b,xs=[x,c]/\fP K H x t/\RelV c u/\PySem.W.kitOne K t u=some b/\Q (.bl b) H
def P1 (K:PySem.W.Frag):List V->Hp->VK->Prop:=fun xs H Q=>∃(p:Addr) (bs:List Bool),xs=[.ref p]/\SqL K H p (bs.map V.bl)/\Q (.bl (bs.all id)) H
def OO:List V->Hp->VK->Prop:=fun xs H Q=>∃z,xs=[.str z]/\z.length<=sizeLine/\Q (.int z.length) H
def z8 (K:PySem.W.Frag):List V->Hp->VK->Prop:=fun xs H Q=>∃p ys,xs=[.ref p]/\(SqL K H p ys∨SqT K H p ys)/\Q (.int ys.length) H
def F7:List V->Hp->VK->Prop:=fun xs H Q=>(∃i,xs=[.int i]/\Q (.int i) H)∨∃k,xs=[.bl k]/\Q (.int (if k then 1 else 0)) H
section
variable {X:Cx}
theorem xW:OpR X (binaryOp .Add) GQ:=zR
theorem BT:OpR X (compareOp .Is) zO:=LU
theorem JM:OpR X (compareOp .IsNot) zV:=GY
theorem CY:OpR X (compareOp .LtE) PU:=C1
theorem oV:cV X (.builtin "isinstance") (PY X.K):=wU
theorem E7 (hc:X.calm=true):cV X (.builtin "all") (P1 X.K):=rW hc
theorem BV:cV X (.builtin "len") OO:=u4
theorem dM:cV X (.builtin "len") (z8 X.K):=vT
theorem tJ:cV X (.type "int") F7:=CL
theorem xJ {i j:Int}(n:Int){k1 k2 p1 p2 pos}(h:i^j.toNat=n)(c:NP i j):PE X (.BinOp (.Constant (.int i) k1 p1) .Pow (.Constant (.int j) k2 p2) pos) (tC (.int n)):=by
 subst h;intro pins s σ H Q I q;exact aF LB aD aD pins s σ H Q I ⟨i,j,rfl,rfl,c,q⟩
end
def zC (P:Bool->Hp->Prop):VK:=fun x H=>∃k,x= .bl k/\P k H
def MA (O:Option Int->Hp->Prop):VK:=fun x H=>∃i,x= .int i/\O (some i) H
def MF (Q:VK):List V->Hp->Prop:=fun xs H=>xs.length<=sizeLine/\∀p,H p=none->Q (.ref p) (upd H p (.lst xs))
def NJ (Q:VK):List V->Hp->Prop:=fun xs H=>xs.length<=sizeLine/\∀p,H p=none->Q (.ref p) (upd H p (.tup xs))
def MG (Q:VK):List V->Hp->Prop:=fun ys H=>∀p,H p=none->Q (.ref p) (upd H p (.lst ys))
def L5 (K:PySem.W.Frag)(f:Str)(Q:VK):VK:=fun x H=>∃a C dx fs v,x= .ref a/\H a=some (.ins C dx fs)/\Cls K C/\NoAttr K C f/\fs.lookup f=some v/\Q v H
def GU (K:PySem.W.Frag)(f:Str)(y:V)(q:Hp->Prop):VK:=fun x H=>∃a C dx fs,x= .ref a/\H a=some (.ins C dx fs)/\Cls K C/\NoAttr K C f/\fs.length<1000/\q (upd H a (.ins C dx (cD f y fs)))
def MdP (M:Addr->Sp->Prop)(m:Str)(t:TA)(σ:St)(Q:VK):VK:=fun x H=>∃a C dx fs sp,x= .ref a/\H a=some (.ins C dx fs)/\fs.lookup m=none/\M C sp/\t σ H fun vs H2=>sp (x::vs) H2 Q E0
def uV (C:Addr)(sp:Sp)(dvs:List V)(E:XK)(Q:VK):List V->Hp->Prop:=fun vs H1=>∀x dx,H1 x=none->H1 dx=none->dx≠x →
 sp (.ref x::(vs++dvs)) (upd (upd H1 dx (.own x)) x (.ins C dx [])) (fun v H2=>v= .non/\Q (.ref x) H2) E
def BmP (K:PySem.W.Frag)(T:String)(r:V->List V->Hp->VK->Prop)(t:TA)(σ:St)(Q:VK):VK:=fun x H1=>tyV K T x H1/\t σ H1 fun xs H2=>r x xs H2 Q
def L8 (K:PySem.W.Frag)(R:It->Hp->Prop):VK:=fun x H1=>∃a,x= .ref a/\(∃xs,SqL K H1 a xs)/\R (Itl K a) H1
def K7 (R:It->Hp->Prop):List V->Hp->Prop:=fun vs H1=>∃j:Int,vs=[.int j]/\ -(2^62)<=j/\j<2^62/\R (Itr 0 j.toNat) H1
section
variable {nx bk ct:St->Hp->Prop}{rt:VK}{σ:St}{H:Hp}{Q:VK}{t u:TS}{te ta tb tc:TE}{g:TG}{c d:TT}{v:V}{K:PySem.W.Frag}{E:XK}
theorem K6 (h:t ⟨u ⟨nx,rt,bk,ct⟩,rt,bk,ct⟩ σ H):vD t u ⟨nx,rt,bk,ct⟩ σ H:=h
theorem eI (R:St->Hp->Prop)(h2:∀σ' H',R σ' H'->u ⟨nx,rt,bk,ct⟩ σ' H')(h1:∀nx':St->Hp->Prop,(∀σ' H',R σ' H'->nx' σ' H')->t ⟨nx',rt,bk,ct⟩ σ H):vD t u ⟨nx,rt,bk,ct⟩ σ H:=h1 _ h2
theorem FK {v:TS}(h:vD (yU c t u) v ⟨nx,rt,bk,ct⟩ σ H):vD (yU c t u) v ⟨nx,rt,bk,ct⟩ σ H:=h
theorem IS (h:nx σ H):F9 ⟨nx,rt,bk,ct⟩ σ H:=h
theorem MQ (h:te σ H fun x H1=>g x σ H1 nx):yZ te g ⟨nx,rt,bk,ct⟩ σ H:=h
theorem MI (h:te σ H rt):NM te ⟨nx,rt,bk,ct⟩ σ H:=h
theorem HN (h:te σ H fun _ H1=>nx σ H1):GM te ⟨nx,rt,bk,ct⟩ σ H:=h
theorem O9 (h:c σ H fun b H1=>if b=true then t ⟨nx,rt,bk,ct⟩ σ H1 else u ⟨nx,rt,bk,ct⟩ σ H1):yU c t u ⟨nx,rt,bk,ct⟩ σ H:=h
def vJ (J:It)(g:TG)(tb:TS)(D:fG)(σ:St)(H:Hp):Prop :=
 ∃W:Nat->Nat->St->Hp->Prop,(∃m,W 0 m σ H)/\∀i m σ H,W i m σ H →
  (J.stop i H/\D.nx σ H)∨(J.go i H/\∃N:St->Hp->Prop,(∀σ' H',N σ' H'->∃m',m'<m/\W (i+1) m' σ' H')/\∀x H',J.yld i H x H'->g x σ H' fun σ2 H2=>tb { D with nx:=N,ct:=N,bk:=D.nx } σ2 H2)
theorem MS {wi:TI}{tb:TS} (h:wi σ H fun J H1=>vJ J g tb ⟨nx,rt,bk,ct⟩ σ H1):M3 wi g tb ⟨nx,rt,bk,ct⟩ σ H:=h
theorem ON {l:St}(h:Q v H):fR 0 (some v::l) H Q:=⟨v,rfl,h⟩
theorem O0 {a0}{l:St} (h:Q v H):fR 1 (a0::some v::l) H Q:=⟨v,rfl,h⟩
theorem OA {a0 a1}{l:St} (h:Q v H):fR 2 (a0::a1::some v::l) H Q:=⟨v,rfl,h⟩
theorem OL {a0 a1 a2}{l:St} (h:Q v H):fR 3 (a0::a1::a2::some v::l) H Q:=⟨v,rfl,h⟩
theorem OJ {a0 a1 a2 a3}{l:St} (h:Q v H):fR 4 (a0::a1::a2::a3::some v::l) H Q:=⟨v,rfl,h⟩
theorem O2 {a0 a1 a2 a3 a4}{l:St} (h:Q v H):fR 5 (a0::a1::a2::a3::a4::some v::l) H Q:=⟨v,rfl,h⟩
theorem OB {a0 a1 a2 a3 a4 a5}{l:St} (h:Q v H):fR 6 (a0::a1::a2::a3::a4::a5::some v::l) H Q:=⟨v,rfl,h⟩
theorem OD {a0 a1 a2 a3 a4 a5 a6}{l:St} (h:Q v H):fR 7 (a0::a1::a2::a3::a4::a5::a6::some v::l) H Q:=⟨v,rfl,h⟩
theorem OC {a0 a1 a2 a3 a4 a5 a6 a7}{l:St} (h:Q v H):fR 8 (a0::a1::a2::a3::a4::a5::a6::a7::some v::l) H Q:=⟨v,rfl,h⟩
theorem OZ {a0 a1 a2 a3 a4 a5 a6 a7 a8}{l:St} (h:Q v H):fR 9 (a0::a1::a2::a3::a4::a5::a6::a7::a8::some v::l) H Q:=⟨v,rfl,h⟩
variable {q:St->Hp->Prop}
theorem O5 {a0 a}{l:St} (h:q (a0::some v::l) H):c8 1 v (a0::a::l) H q:=h
theorem OY {a0 a1 a}{l:St} (h:q (a0::a1::some v::l) H):c8 2 v (a0::a1::a::l) H q:=h
theorem O8 {a0 a1 a2 a}{l:St} (h:q (a0::a1::a2::some v::l) H):c8 3 v (a0::a1::a2::a::l) H q:=h
theorem OH {a0 a1 a2 a3 a}{l:St} (h:q (a0::a1::a2::a3::some v::l) H):c8 4 v (a0::a1::a2::a3::a::l) H q:=h
theorem OT {a0 a1 a2 a3 a4 a}{l:St} (h:q (a0::a1::a2::a3::a4::some v::l) H):c8 5 v (a0::a1::a2::a3::a4::a::l) H q:=h
theorem O3 {a0 a1 a2 a3 a4 a5 a}{l:St} (h:q (a0::a1::a2::a3::a4::a5::some v::l) H):c8 6 v (a0::a1::a2::a3::a4::a5::a::l) H q:=h
theorem PB {a0 a1 a2 a3 a4 a5 a6 a}{l:St} (h:q (a0::a1::a2::a3::a4::a5::a6::some v::l) H):c8 7 v (a0::a1::a2::a3::a4::a5::a6::a::l) H q:=h
theorem OQ {a0 a1 a2 a3 a4 a5 a6 a7 a}{l:St} (h:q (a0::a1::a2::a3::a4::a5::a6::a7::some v::l) H):c8 8 v (a0::a1::a2::a3::a4::a5::a6::a7::a::l) H q:=h
theorem OX {a0 a1 a2 a3 a4 a5 a6 a7 a8 a}{l:St} (h:q (a0::a1::a2::a3::a4::a5::a6::a7::a8::some v::l) H):c8 9 v (a0::a1::a2::a3::a4::a5::a6::a7::a8::a::l) H q:=h
theorem LI {a0 a1 a2 a3 a4 a5 a6 a7 a8 a9 a}{l:St} (h:q (a0::a1::a2::a3::a4::a5::a6::a7::a8::a9::some v::l) H):c8 10 v (a0::a1::a2::a3::a4::a5::a6::a7::a8::a9::a::l) H q:=h
theorem P4 (h:Q v H):tC v σ H Q:=h
theorem PK {r:R2}(h:ta σ H fun x H1=>tb σ H1 fun y H2=>r x y H2 Q):tOp r ta tb σ H Q:=h
theorem OP {f:Int->Int->V}{i j:Int} (h:Q (f i j) H):rI0 f (.int i) (.int j) H Q:=⟨i,j,rfl,rfl,h⟩
theorem LD {f:Int->Int->V}{i j:Int} (h0:0<j) (h1:j<1073741824) (h:Q (f i j) H):rI NC f (.int i) (.int j) H Q:=⟨i,j,rfl,rfl,⟨h0,h1⟩,h⟩
theorem M7 {f:Int->Int->V}{i j:Int} (h0:0<j) (h:Q (f i j) H):rI (fun _ j=>0<j) f (.int i) (.int j) H Q:=⟨i,j,rfl,rfl,h0,h⟩
theorem JY {f:Int->Int->V}{i j:Int} (h0: -18446744073709551616<i) (h1:i<18446744073709551616) (h:Q (f i j) H):rI CMul f (.int i) (.int j) H Q:=⟨i,j,rfl,rfl,.inl ⟨by lia,by lia⟩,h⟩
theorem OR {i j:Int}:decide (V.int i=V.int j)=decide (i=j):=by simp
theorem OK {i j:Str}:decide (V.str i=V.str j)=decide (i=j):=by simp
theorem M1 {i j:Int}(h:Q (.bl (decide (i=j))) H):rEq (.int i) (.int j) H Q:=⟨rfl,by rw[OR];exact h⟩
theorem M2 {i j:Str}(h:Q (.bl (decide (i=j))) H):rEq (.str i) (.str j) H Q:=⟨rfl,by rw[OK];exact h⟩
theorem IT (h:Q (.bl true) H):zO .non .non H Q:=⟨rfl,h⟩
theorem JR {i:Str}(h:Q (.bl false) H):zO (.str i) .non H Q:=⟨rfl,by rw[decide_eq_false (fun z=>by cases z)];exact h⟩
theorem IH (h:Q (.bl (decide (v= .non))) H):zO v .non H Q:=⟨rfl,h⟩
theorem HW (h:Q (.bl false) H):zV .non .non H Q:=⟨rfl,h⟩
theorem HF {i:Str}(h:Q (.bl true) H):zV (.str i) .non H Q:=⟨rfl,by rw[decide_eq_false (fun z=>by cases z)];exact h⟩
theorem JC {i j:Str}(hl:i.length+j.length<=sizeLine)(h:Q (.str (i++j)) H):GQ (.str i) (.str j) H Q:=⟨i,j,rfl,rfl,hl,h⟩
theorem HL {sp:Sp}{t:TA} (h:t σ H fun vs H1=>sp vs H1 Q E):qK sp [] E t σ H Q:=by
 unfold qK;simp only[List.append_nil];exact h
theorem OS {r:List V->Hp->VK->Prop}{t:TA} (h:t σ H fun vs H1=>r vs H1 Q):tCB r t σ H Q:=h
theorem LA {t:TA}(h:t σ H (MF Q)):NO t σ H Q:=h
theorem M4 {t:TA}(h:t σ H (NJ Q)):MX t σ H Q:=h
theorem g6 {o:HO}{R:V->Hp->Prop} (h:∀p H',H p=none->Same H H'->H' p=some o->R (.ref p) H'):∀p,H p=none->R (.ref p) (upd H p o) :=
 fun p hp=>h p _ hp (fun b u e=>by rw[aG (aL e hp)];exact e) aR
theorem JZ {xs:List V}(hn:xs.length<=sizeLine)(h:∀p H',H p=none->Same H H'->H' p=some (.lst xs)->Q (.ref p) H'):MF Q xs H:=⟨hn,g6 h⟩
theorem IR {xs:List V}(hn:xs.length<=sizeLine)(h:∀p H',H p=none->Same H H'->H' p=some (.tup xs)->Q (.ref p) H'):NJ Q xs H:=⟨hn,g6 h⟩
theorem HV {xs:List V}(h:∀p H',H p=none->Same H H'->H' p=some (.lst xs)->Q (.ref p) H'):MG Q xs H:=g6 h
theorem L6 {f:Str}(h:ta σ H (L5 K f Q)):EE K ta f σ H Q:=h
theorem JN {a C dx:Addr}{fs:List (Str×V)}{f:Str} (e:H a=some (.ins C dx fs)) (cl:Cls K C) (na:NoAttr K C f) (l:fs.lookup f=some v) (h:Q v H):L5 K f Q (.ref a) H:=⟨a,C,dx,fs,v,rfl,e,cl,na,l,h⟩
theorem HQ {f:Str}(h:ta σ H fun y H1=>tb σ H1 (GU K f y (nx σ))):L9 K tb ta f ⟨nx,rt,bk,ct⟩ σ H:=h
theorem EQ {a C dx:Addr}{fs:List (Str×V)}{f:Str}{y:V}{w:Hp->Prop} (e:H a=some (.ins C dx fs)) (cl:Cls K C) (na:NoAttr K C f) (l:decide (fs.length<1000)=true)
  (h:∀H',(∀b o,H b=some o->b≠a->H' b=some o)->H' a=some (.ins C dx (cD f y fs))->w H'):GU K f y w (.ref a) H :=
 ⟨a,C,dx,fs,rfl,e,cl,na,of_decide_eq_true l,h _ (fun b o q hb=>by rw[aG hb];exact q) aR⟩
theorem O7 {M:Addr->Sp->Prop}{m:Str}{t:TA} (h:ta σ H (MdP M m t σ Q)):tMD M m ta t σ H Q:=h
theorem NK {M:Addr->Sp->Prop}{m:Str}{t:TA}{a C dx:Addr}{fs:List (Str×V)}{sp:Sp} (e:H a=some (.ins C dx fs)) (l:fs.lookup m=none) (F:M C sp) (h:t σ H fun vs H2=>sp (.ref a::vs) H2 Q E0):MdP M m t σ Q (.ref a) H :=
 ⟨a,C,dx,fs,sp,rfl,e,l,F,h⟩
theorem HH {C:Addr}{sp:Sp}{dvs:List V}{t:TA} (h:t σ H (uV C sp dvs E Q)):uU C sp dvs E t σ H Q:=h
theorem D7 {C:Addr}{sp:Sp}{dvs vs:List V}{fs:List (Str×V)}
  (hsp:∀p dx H0 (Q':VK),H0 p=some (.ins C dx [])->(∀H',(∀b o,H0 b=some o->b≠p->H' b=some o)->H' p=some (.ins C dx fs)->Q' .non H')->Same H H0->sp (.ref p::(vs++dvs)) H0 Q' E)
  (k:∀p dx H',H p=none->Same H H'->H' p=some (.ins C dx fs)->Q (.ref p) H'):uV C sp dvs E Q vs H:=by
 intro x dx nx nd ne;have s0:Same H (upd (upd H dx (.own x)) x (.ins C dx [])):=fun b o e=>by
  rw[aG (aL e nx),aG (aL e nd)];exact e
 exact hsp x dx _ _ aR (fun H' sb e=>⟨rfl,k x dx H' nx (fun b o q=>sb b o (s0 b o q) (aL q nx)) e⟩) s0
theorem J5 {wi:TI}{nl:Nat}{ci:List Nat}{ti:TT} (h:wi σ H fun J H1=>gO J g ti te (b3 nl ci σ) (MG Q) H1):yG wi nl ci g ti te σ H Q:=h
theorem PD {r:V->Option Int->Option Int->Hp->VK->Prop}{tl th:TO} (h:te σ H fun x H1=>tl σ H1 fun l H2=>th σ H2 fun u H3=>r x l u H3 Q):tSl r te tl th σ H Q:=h
theorem L7 {a:Addr}{xs:List V}{lo hi:Option Int} (e:SqL K H a xs) (h:∀p H',H p=none->Same H H'->H' p=some (.lst (g4 xs lo hi))->Q (.ref p) H'):LG K (.ref a) lo hi H Q:=⟨a,xs,rfl,e,g6 h⟩
theorem JD {l b:Addr}{xs zs:List V} (e:H l=some (.lst xs)) (e2:H b=some (.lst zs)) (hn:xs.length+zs.length<=sizeLine) (h:∀p H',H p=none->Same H H'->H' p=some (.lst (xs++zs))->Q (.ref p) H'):NL (.ref l) (.ref b) H Q :=
 ⟨l,b,xs,zs,rfl,rfl,e,e2,hn,g6 h⟩
theorem O4 {T:String}{r:V->List V->Hp->VK->Prop}{to:TE}{t:TA} (h:to σ H (BmP K T r t σ Q)):tBM K T r to t σ H Q:=h
theorem ME {r:V->List V->Hp->VK->Prop}{t:TA}{p:Addr}{xs:List V} (e:SqL K H p xs) (h:t σ H fun xs H2=>r (.ref p) xs H2 Q):BmP K "list" r t σ Q (.ref p) H:=⟨.inl ⟨rfl,xs,e⟩,h⟩
structure ICls (K:PySem.W.Frag)(C:Addr):Prop where
 cl:Cls K C
 ha:PySem.W.findIn K (.ref C) "__class__" =some (some (.builtin "object.__class__"))
 hn:PySem.W.specialIn K (.builtin "object.__class__") "__get__" =some (some (.builtin "getset_descriptor.__get__"))
 tk:PySem.W.takesIn K (.builtin "object.__class__")=some true
 hm:PySem.W.mroIn K C (.type "object")=some true
theorem IU {p:Addr}{ys:List V} (e:SqL K H p ys) (h:Q (.int ys.length) H):z8 K [.ref p] H Q:=⟨p,ys,rfl,.inl e,h⟩
theorem HE {k:Bool}(h:Q (.int (if k then 1 else 0)) H):F7 [.bl k] H Q:= .inr ⟨k,rfl,h⟩
variable {B:Bool->Hp->Prop}
theorem J7 (h:te σ H (zC B)):GI te σ H B:=h
theorem OF (h:te σ H (zC B)):tB te σ H B:=h
theorem PH (h:c σ H fun k H1=>if k=true then B true H1 else d σ H1 B):tOr c d σ H B:=h
theorem LH (h:c σ H fun k H1=>B (!k) H1):L4 c σ H B:=h
theorem MP {b:Bool}{P:Bool->Hp->Prop} (h:P b H):zC P (.bl b) H:=⟨b,rfl,h⟩
theorem CP {A B:Prop}(h:A):if true=true then A else B:=by rw[if_pos rfl];exact h
theorem B1 {A B:Prop}(h:B):if false=true then A else B:=by rw[if_neg Bool.false_ne_true];exact h
theorem JO {A B:Prop}(h:B):if (!true)=true then A else B:=B1 h
theorem JW {A B:Prop}(h:A):if (!false)=true then A else B:=CP h
theorem LL {p A B:Prop}[Decidable p](hp:¬p)(h:B):if decide p=true then A else B:=by rw[if_neg (by rw[decide_eq_false hp];exact Bool.false_ne_true)];exact h
theorem c4 {p A B:Prop}[Decidable p](h1:p->A)(h2:¬p->B):if decide p=true then A else B:=r9 (fun h=>h1 (of_decide_eq_true h)) fun h=>h2 fun z=>h (decide_eq_true z)
variable {L:List V->Hp->Prop}{O:Option Int->Hp->Prop}{tr:TA}
theorem MY (h:L [] H):DP σ H L:=h
theorem IJ (h:te σ H fun x H1=>tr σ H1 fun xs H2=>L (x::xs) H2):GK te tr σ H L:=h
theorem BC (h:O none H):x0 σ H O:=h
theorem IF (h:te σ H (MA O)):GP te σ H O:=h
theorem MT {i:Int}(h:O (some i) H):MA O (.int i) H:=⟨i,rfl,h⟩
variable {vs:List V}{gs:TGs}
theorem IV (h:q σ H):D3 [] σ H q:=⟨rfl,h⟩
theorem DU (h:g v σ H fun σ' H'=>gs vs σ' H' q):u2 g gs (v::vs) σ H q:=⟨v,vs,rfl,h⟩
theorem IB {a:Addr}{n:Nat} (e:SqT K H a vs) (hl:vs.length=n) (h:gs vs σ H q):yT K n gs (.ref a) σ H q:=⟨a,vs,rfl,e,hl,h⟩
variable {R:It->Hp->Prop}
theorem DV (h:te σ H (L8 K R)):GF K te σ H R:=h
theorem tT {a:Addr}{xs:List V} (e:SqL K H a xs) (h:R (Itl K a) H):L8 K R (.ref a) H:=⟨a,rfl,⟨xs,e⟩,h⟩
theorem ES (h:tr σ H (K7 R)):GL tr σ H R:=h
theorem BW {j:Int}(h0: -4611686018427387904<=j)(h1:j<4611686018427387904)(h:R (Itr 0 j.toNat) H):K7 R [.int j] H:=⟨j,rfl,by lia,by lia,h⟩
theorem kC {a:Addr}{tb:TS} (xs:List V) (Pv:Nat->St->Hp->Prop) (h0:Pv 0 σ H) (hl:∀i σ H,i<=xs.length->Pv i σ H->SqL K H a xs)
  (hs:∀i x σ H,xs[i]? =some x->Pv i σ H->g x σ H fun σ2 H2=>tb ⟨Pv (i+1),rt,nx,Pv (i+1)⟩ σ2 H2)(hd:∀σ H,Pv xs.length σ H->nx σ H):vJ (Itl K a) g tb ⟨nx,rt,bk,ct⟩ σ H :=
 EM (D:=⟨nx,rt,bk,ct⟩) Pv h0 hl hs hd
theorem xH {lo:Int}{n:Nat}{tb:TS} (Pv:Nat->St->Hp->Prop) (h0:Pv 0 σ H)
  (hs:∀i σ H,i<n->Pv i σ H->g (.int (lo+i)) σ H fun σ2 H2=>tb ⟨Pv (i+1),rt,nx,Pv (i+1)⟩ σ2 H2)(hd:∀σ H,Pv n σ H->nx σ H):vJ (Itr lo n) g tb ⟨nx,rt,bk,ct⟩ σ H :=
 BZ (D:=⟨nx,rt,bk,ct⟩) Pv h0 hs hd
theorem DQ {lo:Int}{n:Nat}{tb:TS} (S:St->Prop) (h0:S σ)
  (hs:∀(i:Nat) σ' H',i<n->Same H H'->S σ'->g (.int (lo+i)) σ' H' fun σ2 H2=>tb ⟨fun σ3 H3=>Same H H3/\S σ3,rt,nx,fun σ3 H3=>Same H H3/\S σ3⟩ σ2 H2)(hd:∀σ' H',Same H H'->S σ'->nx σ' H'):vJ (Itr lo n) g tb ⟨nx,rt,bk,ct⟩ σ H :=
 xH (fun _ σ' H'=>Same H H'/\S σ') ⟨Same.refl _,h0⟩ (fun i σ' H' hi p=>hs i σ' H' hi p.1 p.2) fun σ' H' p=>hd σ' H' p.1 p.2
end
section
variable {K:PySem.W.Frag}{te:TE}{σ:St}{ci:List Nat}{rest:St}{fin:List V->Hp->Prop}{H:Hp}{a:Addr}
theorem vH (hr:ci.map (fun i=>(σ[i]?).join)=rest):b3 1 ci σ=none::rest:=by
 unfold b3;rw[hr];rfl
end
section
variable {K:PySem.W.Frag}{te:TE}{σ:St}{ci:List Nat}{rest:St}{fin:List V->Hp->Prop}{H:Hp}{a:Addr}
end
theorem Same.at {H H':Hp}{b:Addr}{o:HO} (s:Same H H') (h:H b=some o):H' b=some o:=s b o h
def SameBut (p:Addr)(H H':Hp):Prop:=∀b o,H b=some o->b≠p->H' b=some o
theorem SameBut.upd {p:Addr}{H:Hp}{o:HO}:SameBut p H (upd H p o):=fun b u e hb=>by rw[aG hb];exact e
theorem SameBut.trans {p:Addr}{H H1 H2:Hp} (a:SameBut p H H1) (b:SameBut p H1 H2):SameBut p H H2:=fun c o h hc=>b c o (a c o h hc) hc
theorem Same.but {p:Addr}{H H':Hp} (s:Same H H'):SameBut p H H':=fun b o e _=>s b o e
theorem SameBut.same {p:Addr}{H H0 H':Hp} (n:H0 p=none) (s:Same H0 H) (b:SameBut p H H'):Same H0 H':=fun c o e=>b c o (s c o e) (aL e n)
theorem bG {t:TS}{D:fG}{N:List Str}{vs:List V}{σ:St}{H:Hp} (e:gN N vs=σ) (h:t D σ H):t D (gN N vs) H:=e▸h
theorem SameBut.refl {p:Addr}{H:Hp}:SameBut p H H:=fun _ _ e _=>e
theorem SameBut.snoc {p:Addr}{H H1 H2:Hp} (b:∀c o,H1 c=some o->c≠p->H2 c=some o) (a:SameBut p H H1):SameBut p H H2:=fun c o h hc=>b c o (a c o h hc) hc
theorem SameBut.snocS {p:Addr}{H H1 H2:Hp} (b:Same H1 H2) (a:SameBut p H H1):SameBut p H H2:=fun c o h hc=>b c o (a c o h hc)
theorem Same.snoc {H H1 H2:Hp}(b:Same H1 H2)(a:Same H H1):Same H H2:=a.trans b
theorem G0 {f:Str}{v:V}{fs:List (Str×V)}:(cD f v fs).lookup f=some v:=by rw[iF,if_pos rfl]
theorem OG {f g:Str}{v:V}{o:Option V}{fs:List (Str×V)} (h:decide (g=f)=false) (l:fs.lookup g=o):(cD f v fs).lookup g=o:=by rw[iF,if_neg (of_decide_eq_false h)];exact l
theorem MB {f:Str}:([]:List (Str×V)).lookup f=none:=rfl
section
variable {K:PySem.W.Frag}{x qual:Str}{st:Stmt}{kV doc pm cdv ct:Value}{an:Option Addr}{ps:List Str}
theorem aP (h:∀us:List Value,us.length=ps.length->bindArgs (PySem.W.fnOf x qual (aJ st) (aI st) (aE st) .none kV doc pm an cdv ct) ⟨us,[]⟩=pure (ps.zip us)) :
  Binds K (PySem.W.fnOf x qual (aJ st) (aI st) (aE st) .none kV doc pm an cdv ct) ps []:= .all h
theorem kB (k:Nat){T:Addr}{ds:List Value}{oc:Value}{od:Option Addr}{sl:Array (Option Value)}{items:Array Value}{n:Nat} (lt:K.lookup T=some ⟨oc,od,.seq items n,sl⟩)
  (h:∀us:List Value,us.length=k->∃k,bindArgs (PySem.W.fnOf x qual (aJ st) (aI st) (aE st) (.ref T) kV doc pm an cdv ct) ⟨us,[]⟩=seqItems? (.ref T) >>= k/\k (some items)=pure (ps.zip (us++ds)))(hk:k+ds.length=ps.length:=by rfl) :
  Binds K (PySem.W.fnOf x qual (aJ st) (aI st) (aE st) (.ref T) kV doc pm an cdv ct) ps ds:=fun s us hK hl=>by
 obtain⟨k,h1,h2⟩:=h us (by rw[List.length_append]at hl;lia);exact .of_defaults (T:=T) (items:=items) (n:=n) rfl (hK T _ lt) rfl h1 h2
theorem kM {C:Addr}:PySem.W.kitOne K (.ref C) (.ref C)=some true:=by
 unfold PySem.W.kitOne;rw[if_pos (beq_self_eq_true _)]
theorem b7 {C D:Addr}{cd:ClassData}{b:Bool} (ne:(Value.ref C==Value.ref D)=false) (c:PySem.W.clsIn K D=some cd) (t:PySem.W.typeIn K (.ref D)=some (.type "type")) (s:PySem.W.subIn K (.ref C) (.ref D)=some b) :
  PySem.W.kitOne K (.ref C) (.ref D)=some b:=by
 unfold PySem.W.kitOne;rw[ne,if_neg Bool.false_ne_true];show (if ((PySem.W.clsIn K D).isSome&&PySem.W.typeIn K (.ref D)==some (.type "type"))=true then PySem.W.subIn K (.ref C) (.ref D) else none)=_;rw[c,t,if_pos (by rfl)];exact s
end
theorem bB (s:String):(Str.ofString s).length=s.length:=by
 rw[Str.ofString_eq_toList];show (s.toList.map Char.toNat).toArray.size=_;rw[List.size_toArray,List.length_map,String.length_toList]
def sgB (c:Nat):Bool:=decide (97<=c)&&decide (c<=122)
def gM (z:Str):Bool:=z.cps.toList.all sgB
def aZ (z:Str):Bool:=decide (1<=(z.length:Int))&&decide ((z.length:Int)<=8)&&gM z
theorem C0 {z:Str}(h:aZ z=true):z.length<=8:=by
 unfold aZ at h;simp only[Bool.and_eq_true,decide_eq_true_eq]at h
 lia
theorem vM {z:Str}(h0:1<=z.length)(h1:z.length<=8)(h2:gM z=true):aZ z=true:=by
 unfold aZ;simp only[Bool.and_eq_true,decide_eq_true_eq];exact⟨⟨by lia,by lia⟩,h2⟩
theorem FN {c:Nat}{z:Str} (h:gM z=true) (hc:c∈z.cps.toList):gM ⟨#[c]⟩=true:=by
 unfold gM at h ⊢;rw[List.all_eq_true]at h;show [c].all sgB=true;rw[List.all_cons,h c hc];rfl
theorem iE (x y:Str):(x++y).cps.toList=x.cps.toList++y.cps.toList:=by
 show (x.cps++y.cps).toList=_;simp
theorem dQ (x y:Str):(x++y).length=x.length+y.length:=by
 show (x.cps++y.cps).size=_;rw[Array.size_append];rfl
theorem sI (c:Nat):(⟨#[c]⟩:Str).length=1:=rfl
theorem vC {x y:Str}(h:gM x=true)(h':gM y=true):gM (x++y)=true:=by
 unfold gM at h h' ⊢;rw[iE,List.all_append,h,h'];rfl
theorem x6 {x y:Str}(h:x.cps.toList=y.cps.toList):x=y:=by
 cases x;cases y;have:_=_:=Array.ext' h;cases this;rfl
end L2
namespace L2
open PySem PySem.Spec PyProof.Rows
section
variable {prog:Program}{w:World}{A:Around}{E:Value->Shared->Prop}{s:Shared}
end
section
variable {X:Cx}{pos:Pos}
end
section
variable {nx bk ct:St->Hp->Prop}{rt:VK}{σ:St}{H:Hp}{g:TG}{K:PySem.W.Frag}{a:Addr}{tb:TS}{xs:List V}
end
theorem JQ {H:Hp}{Q:VK}{i j:Int} (h0:0<j) (h:0<=i%j->i%j<j->Q (.int (i%j)) H):rI (fun _ j=>0<j) (fun i j=> .int (i%j)) (.int i) (.int j) H Q:=⟨i,j,rfl,rfl,h0,h (Int.emod_nonneg _ (by lia)) (Int.emod_lt_of_pos _ h0)⟩
end L2
namespace L2
open PySem PySem.Spec PyProof.Rows PySem.W
structure dR (K:Frag)(C:Addr):Prop where
 ga:findIn K (.ref C) "__getattribute__" =some (some (.builtin "BaseException.__getattribute__"))
 gg:findIn K (.ref C) "__getattr__" =some none
 cl:findIn K (.ref C) "__class__" =some (some (.builtin "object.__class__"))
 so:subIn K (.ref C) (.type "object")=some true
 sb:subIn K (.ref C) (.type "BaseException")=some true
 cd:∃cd,clsIn K C=some cd
section
variable {prog:Program}{w:World}{A:Around}{E:Value->Shared->Prop}{h:Heap}{g:Array GenState}{d:Drawn}{t:Nat}{os:OsState}{a C:Addr}{o:Obj}{vs:Array Value}{K:Frag}
theorem eV {M:Model}(hx:h.get? a=some o)(hc:o.cls= .ref C)(hd:o.data= .fields vs):Looks M h (typeOf (.ref a)) (.ref C):=by
 have L:Looks M h (typeOf (.ref a)) o.cls:=by
  refine(Looks.ld hx).andThen ?_;exact .now
 rw[hc]at L;exact L
theorem uN {R:Result->Shared->Prop}(X:K.In h)(k:dR K C)(hx:h.get? a=some o)(hc:o.cls= .ref C)(hd:o.data= .fields vs)(hq:R (.ok (.ret (.ref C))) ⟨h,g,d,t,os⟩) :
  codeAny (model prog w) A (.call (.builtin "getset_descriptor.__get__") ⟨[.builtin "object.__class__",.ref a,.ref C],[]⟩) R ⟨h,g,d,t,os⟩:=by
 have hT5:(⟨h,g,d,t,os⟩:Shared).TypeIs (.builtin "object.__class__") "getset_descriptor" :=F.typeOf_object_class;have L0:=eV (M:=model prog w) hx hc hd;have L1:Looks (model prog w) h (isSubtype (.ref C) (.type (".".intercalate ("object.__class__".cutAt '.').dropLast))) true:=by rw[F.owner_object_class];exact looks_subIn X k.so
 refine codeAny_call_builtin F.slot_gs_get.plain F.entry_gs_get (F.slot_gs_get.check _ _ _ _ _ _ _ _ hT5 (F.args_gs_get _ _ _) ?_)
 repeat (any_goals (first|assumption|(with_reducible refine L0.at ?_)|(with_reducible refine L1.at ?_)|wp_step))
 refine⟨Code.quiet_builtin _ (by decide +kernel),codeAny_builtin F.entry_object_class ?_⟩
 repeat (any_goals (first|assumption|(with_reducible refine L0.at ?_)|wp_step))
theorem qV {tk:Tok}{Q:Fin->Shared->Prop} (X:K.In h) (k:dR K C) (hx:h.get? a=some o) (hc:o.cls= .ref C) (hd:o.data= .fields vs) (hq:Q (.done (.ret (.ref C))) ⟨h,g,d,t,os⟩) :
  wpAny (model prog w) A (Builtin.«object.__getattribute__» ⟨[.ref a,.str "__class__" tk],[]⟩) Q E ⟨h,g,d,t,os⟩:=by
 have hT5:(⟨h,g,d,t,os⟩:Shared).TypeIs (.builtin "object.__class__") "getset_descriptor" :=F.typeOf_object_class;have L0:=eV (M:=model prog w) hx hc hd;have L1:=looks_findIn (M:=model prog w) X k.cl;have f5:=F.typeOf_object_class;have f6:=F.slot_gs_get.lookup;have f7:=F.slot_gs_set.lookup
 repeat (any_goals (first|assumption|(with_reducible refine L0.at ?_)|(with_reducible refine L1.at ?_)|wp_step))
 refine uN X k hx hc hd ?_
 repeat (any_goals (first|assumption|wp_step))
theorem mH {M:Model}{nameV:Value}{Q:Unit->Shared->Prop} (X:K.In h) (k:dR K C) (hx:h.get? a=some o) (hc:o.cls= .ref C) (hd:o.data= .fields vs) (hq:Q () ⟨h,g,d,t,os⟩) :
  wpAny M A (checkBuiltinCall "BaseException.__getattribute__" ⟨[.ref a,nameV],[]⟩) Q E ⟨h,g,d,t,os⟩:=by
 have hk:builtinKind "BaseException.__getattribute__" =some .slot:=by decide +kernel
 have hsplit:splitId "BaseException.__getattribute__" =some ("BaseException","__getattribute__"):=by decide +kernel
 have ha:=F.args_bexc_ga (.ref a) nameV;have L0:=eV (M:=M) hx hc hd;have L1:=looks_subIn (M:=M) X k.sb;simp only[checkBuiltinCall,hk,hsplit];refine wpAny_bind ?_
 ·unfold isInstance
  repeat (first|(with_reducible refine L0.at ?_)|(with_reducible refine L1.at ?_)|wp_step)
  exact hq
theorem rR {tk:Tok}{R:Result->Shared->Prop} (X:K.In h) (k:dR K C) (hx:h.get? a=some o) (hc:o.cls= .ref C) (hd:o.data= .fields vs) (hq:R (.ok (.ret (.ref C))) ⟨h,g,d,t,os⟩) :
  codeAny (model prog w) A (.call (.builtin "BaseException.__getattribute__") ⟨[.ref a,.str "__class__" tk],[]⟩) R ⟨h,g,d,t,os⟩ :=
 codeAny_call_builtin F.excAttr_ValueError.ga.plain F.entry_bexc_ga (mH X k hx hc hd (qV X k hx hc hd hq))
theorem vA {tk:Tok}{fill expr:Bool}{Q:Value->Shared->Prop} (X:K.In h) (k:dR K C) (hx:h.get? a=some o) (hc:o.cls= .ref C) (hd:o.data= .fields vs) (hq:Q (.ref C) ⟨h,g,d,t,os⟩) :
  wpAny (model prog w) A (getAttrBy (.ref a) (.str "__class__" tk) fill expr) Q E ⟨h,g,d,t,os⟩:=by
 have L0:=eV (M:=model prog w) hx hc hd;have L1:=looks_findIn (M:=model prog w) X k.ga;have L2:=looks_findIn (M:=model prog w) X k.gg;have f3:=F.excAttr_ValueError.ga.bind (.ref a);have hx0:(expr&&onTheHeap (Value.builtin "BaseException.__getattribute__"))=false:=by cases expr<;>rfl
 have hx2:(Value.builtin "BaseException.__getattribute__" ==Value.builtin "object.__getattribute__")=false:=by decide +kernel
 have hx1:(onTheHeap (Value.ref C)&&Value.builtin "BaseException.__getattribute__" ==Value.builtin "object.__getattribute__")=false:=by rw[hx2];rfl
 repeat (any_goals (first|assumption|(with_reducible refine L0.at ?_)|(with_reducible refine L1.at ?_)|(with_reducible refine L2.at ?_)|wp_step))
 refine rR X k hx hc hd ?_
 repeat (any_goals (first|assumption|wp_step))
theorem sM {Q:Option Value->Shared->Prop}(X:K.In h)(k:dR K C)(hx:h.get? a=some o)(hc:o.cls= .ref C)(hd:o.data= .fields vs)(hq:Q (some (.ref C)) ⟨h,g,d,t+1,os⟩) :
  wpAny (model prog w) A (getAttr? (.ref a) "__class__") Q E ⟨h,g,d,t,os⟩:=by
 unfold getAttr? getAttrBy?
 repeat (any_goals (first|assumption|with_reducible apply vA X k hx hc hd|wp_step))
end
def eO (a C:Addr)(h:Heap):Prop:=∃o vs,h.get? a=some o/\o.cls= .ref C/\o.data= .fields vs
theorem v3 {K:Frag}{a C:Addr} (k:dR K C):KitX K (.ref a) (.ref C) (eO a C) where
 ty:=fun M h X ⟨o,vs,hx,hc,hd⟩=>eV hx hc hd
 it:=fun _ _ X _=>by
  obtain⟨cd,hcD⟩:=k.cd;unfold clsIn at hcD
  split at hcD
  ·rename_i c' d' cd' sl' ho;intro A' Q' E' s' k q;unfold isType loadHead;exact wpAny_bind (wpAny_loadPart (k _ _ (X _ _ ho)) (wpAny_pure q))
  ·cases hcD
 ne:=fun h tp dd its n sl X htp=>by
  obtain⟨cd,hcD⟩:=k.cd;refine Bool.eq_false_iff.mpr fun q=> ?_;have e:C=tp:=Value.ref.inj (beq_iff_eq.mp q);subst e;unfold clsIn at hcD
  split at hcD
  ·rename_i c' d' cd' sl' ho;have z:=(X _ _ ho).symm.trans htp;cases z
  ·cases hcD
 ca:=fun {_ _ _ _ _ s} X ⟨o,vs,hx,hc,hd⟩ q=>by
  obtain⟨h,g,d,t,os⟩:=s;exact sM X k hx hc hd q
end L2
namespace L2
open PySem PySem.Spec PyProof.Rows PySem.W
def zH (h base:Heap)(ea:Addr)(cls:Value)(dd:Option Addr)(a0:Value):Prop :=
 ∃ob fv tb tbo tv,h.get? ea=some ob/\ob.cls=cls/\ob.dict=dd/\fv[0]? =some a0/\ob.data= .fields fv/\fv[1]? =some (.ref tb)/\base.get? tb=none/\tb≠ea/\h.get? tb=some tbo/\tbo.data= .fields tv/\tv[3]? =some .none
def yJ (base:Heap)(l:List Env)(ea:Addr)(cls:Value)(dd:Option Addr)(a0:Value)(h h':Heap):Prop :=
 base.StaysIn h'/\h'.FunFrames base l/\zH h' base ea cls dd a0/\h.UpToSlots h'
theorem uA (ob:Obj)(g):(ob.mapFields g).dict=ob.dict:=by
 obtain⟨c,d,dt,sl⟩:=ob;cases dt<;>rfl
section
variable {M:Model}{A:Around}{E:Value->Shared->Prop}{s:Shared}{base:Heap}{env:Env}{outer:List Env}{L ea:Addr}{Q:Unit->Shared->Prop}
theorem rG {ob:Obj}{fv:Array Value}{hd0 a0:Value}{nx:Bool} (hfr:A.frames=some (env::outer)) (ff:s.heap.FunFrames base (env::outer)) (hL:env.frame=some L) (go:s.heap.get? ea=some ob) (st:base.StaysIn s.heap)
  (nb:base.get? ea=none)(hdt:ob.data= .fields fv)(hz:1<fv.size)(h0:fv[0]? =some a0)(k:∀h',yJ base (env::outer) ea ob.cls ob.dict a0 s.heap h'->Q () { s with heap:=h' }) :
  wpAny M A (do let a ←frameOf env;let pl ←entryPlaceOf L nx;let b ←EntryCells.newEntry hd0 a .none (rawInt L) .none pl;setField (.ref ea) 1 b) (fun _ s'=>wpAny M A (setFlight (.ref ea) none) Q E s') E s:=by
 have nin:ea∉(env::outer).filterMap (·.frame):=fun hm=>by
  obtain⟨_,o,ho,hnf⟩:=ff.mem hm;rw[go]at ho;cases ho;exact hnf fv hdt
 refine wpAny_bind (wpAny_frameOf_fun hfr ff hL fun hA sA=>wpAny_bind (wpAny_entryPlaceOf fun pl hpl=> ?_));unfold EntryCells.newEntry newFields;refine wpAny_bind (wpAny_newObj_type ?_ (hpl.sizeOk5 _ _ _ _ _));have gA:hA.get? ea=some ob:=(sA.2.1 ea nin).trans go;have stA:base.StaysIn hA:=fun b o q=>(sA.2.1 b fun hm=>by rw[(ff.mem hm).1]at q;cases q).trans (st b o q);generalize hN:({ cls:= .type "traceback",dict:=none,data:= .fields ([hd0,.ref L,.none,rawInt L,.none]++(if pl.isEmpty then List.replicate 6 Value.none else pl)).toArray }:Obj)=nob;have hNd:∃tv,nob.data= .fields tv/\3<tv.size:=by
  rw[←hN];exact⟨_,rfl,by simp only[List.size_toArray,List.length_append,List.length_cons,List.length_nil];lia⟩
 obtain⟨tv,hNd,hNs⟩:=hNd;have gB:(hA.push nob).get? ea=some ob:=Heap.get?_push_of_some nob gA;refine wpAny_setField gB hdt hz ?_;have tne:hA.objs.size≠ea:=Nat.ne_of_gt (Heap.lt_size gA);have dC:=Obj.data_mapFields hdt (·.setIfInBounds 1 (Value.ref hA.objs.size));have gC:=Heap.get?_update_self (Obj.mapFields (·.setIfInBounds 1 (Value.ref hA.objs.size))) gB (Obj.isFreed_of_fields dC);have tC:((hA.push nob).update ea (Obj.mapFields (·.setIfInBounds 1 (Value.ref hA.objs.size)))).get? hA.objs.size=some nob:=(Heap.get?_update_other _ _ (Ne.symm tne)).trans (Heap.get?_push_size hA (Obj.isFreed_of_fields hNd));unfold setFlight;refine wpAny_bind (wpAny_field gC dC (x:= .ref hA.objs.size) (by simp[hz]) ?_);rw[if_pos (show (Value.ref hA.objs.size !=Value.none)=true from by simp)];refine wpAny_setField tC hNd hNs (k _ ?_);generalize hF:((hA.push nob).update ea (Obj.mapFields (·.setIfInBounds 1 (Value.ref hA.objs.size)))).update hA.objs.size _=hX;have keepF:∀b o,b≠ea->hA.get? b=some o->hX.get? b=some o:=fun b o hb q=>by
  rw[←hF,Heap.get?_update_other _ _ (Nat.ne_of_gt (Heap.lt_size q)),Heap.get?_update_other _ _ (Ne.symm hb)];exact Heap.get?_push_of_some _ q
 have norec:∀b o,s.heap.get? b=some o->(∀vs,o.data≠ .fields vs)->b≠ea:=fun b o q hnf z=>by
  rw[z,go]at q;cases q;exact hnf fv hdt
 refine⟨fun b o q=>keepF b o (fun z=>by rw[z,nb]at q;cases q) (stA b o q),ff.of_keeps fun b o q hnf=> ?_,?_,fun b o q hnf=> ?_⟩
 ·obtain⟨sl,hs⟩:=sA.2.2 b o q;exact⟨_,keepF b _ (norec b o q hnf) hs,rfl⟩
 ·refine⟨_,_,hA.objs.size,_,_,by rw[←hF,Heap.get?_update_other _ _ tne];exact gC,Obj.cls_mapFields _ _,uA _ _,by rw[Array.getElem?_setIfInBounds_ne (by decide)];exact h0,dC,by simp[hz],stA.fresh,tne,
   by rw[←hF];exact Heap.get?_update_self _ tC (Obj.isFreed_of_fields (Obj.data_mapFields hNd _)),Obj.data_mapFields hNd _,?_⟩
  simp[hNs]
 ·obtain⟨sl,hs⟩:=sA.2.2 b o q;exact⟨sl,keepF b _ (norec b o q hnf) hs⟩
theorem lX {ob:Obj}{fv:Array Value}{a0:Value} (hfr:A.frames=some (env::outer)) (ff:s.heap.FunFrames base (env::outer)) (hL:env.frame=some L) (go:s.heap.get? ea=some ob) (st:base.StaysIn s.heap) (nb:base.get? ea=none)
  (hdt:ob.data= .fields fv)(h1:fv[1]? =some .none)(h0:fv[0]? =some a0)(k:∀h',yJ base (env::outer) ea ob.cls ob.dict a0 s.heap h'->Q () { s with heap:=h' }):wpAny M A (leaving env (.ref ea)) Q E s:=by
 unfold leaving noteFrame;simp only[hL];refine wpAny_bind (wpAny_bind (wpAny_field go hdt h1 ?_));rw[if_neg (by decide)];exact rG hfr ff hL go st nb hdt (Array.getElem?_eq_some_iff.mp h1).1 h0 k
theorem wT {cls a0:Value}{dd:Option Addr} (hfr:A.frames=some (env::outer)) (ff:s.heap.FunFrames base (env::outer)) (hL:env.frame=some L) (tr:zH s.heap base ea cls dd a0) (st:base.StaysIn s.heap) (nb:base.get? ea=none)
  (k:∀h',yJ base (env::outer) ea cls dd a0 s.heap h'->Q () { s with heap:=h' }):wpAny M A (leaving env (.ref ea)) Q E s:=by
 obtain⟨ob,fv,tb,tbo,tv,go,ec,ed,h0,hdt,h1,nT,tne,gT,dT,h3⟩:=tr;subst ec ed;unfold leaving noteFrame;simp only[hL];refine wpAny_bind (wpAny_bind (wpAny_field go hdt h1 ?_));rw[if_pos (show (Value.ref tb !=Value.none)=true from by simp)];refine wpAny_bind (wpAny_field gT dT h3 ?_);rw[if_neg (show ¬((Value.none==rawInt L)=true) from by simp[rawInt])];refine wpAny_bind (wpAny_setField gT dT (Array.getElem?_eq_some_iff.mp h3).1 ?_);have oth:∀b,b≠tb->(s.heap.update tb (Obj.mapFields (·.setIfInBounds 3 Value.none))).get? b=s.heap.get? b:=fun b hb=>Heap.get?_update_other _ _ (Ne.symm hb);have norec:∀b o,s.heap.get? b=some o->(∀vs,o.data≠ .fields vs)->b≠tb:=fun b o q hnf z=>by
  rw[z,gT]at q;cases q;exact hnf tv dT
 refine rG hfr (ff.of_keeps fun b o q hnf=>⟨o,(oth b (norec b o q hnf)).trans q,rfl⟩) hL ((oth ea (Ne.symm tne)).trans go) (fun b o q=>(oth b fun z=>by rw[z,nT]at q;cases q).trans (st b o q)) nb hdt (Array.getElem?_eq_some_iff.mp h1).1 h0 fun h' ⟨x1,x2,x3,x4⟩=> ?_;exact k h' ⟨x1,x2,x3,fun b o q hnf=>x4 b o ((oth b (norec b o q hnf)).trans q) hnf⟩
def FlyD (base:Heap)(l:List Env)(ea:Addr)(cls:Value)(dd:Option Addr)(a0:Value)(h:Heap):Prop:=base.StaysIn h/\base.get? ea=none/\h.FunFrames base l/\zH h base ea cls dd a0
theorem FlyD.there {l:List Env}{cls a0:Value}{dd:Option Addr}{h:Heap} (x:FlyD base l ea cls dd a0 h):∃ob fv,h.get? ea=some ob/\ob.cls=cls/\ob.dict=dd/\ob.data= .fields fv:=by
 obtain⟨_,_,_,ob,fv,_,_,_,go,ec,ed,_,hdt,_⟩:=x;exact⟨ob,fv,go,ec,ed,hdt⟩
theorem yE {cls a0:Value}{dd:Option Addr} (hfr:A.frames=some (env::outer)) (hL:env.frame=some L) (fl:FlyD base (env::outer) ea cls dd a0 s.heap) (k:∀h',FlyD base outer ea cls dd a0 h'->s.heap.UpToSlots h'->Q () { s with heap:=h' }) :
  wpAny M A (leaving env (.ref ea)) Q E s:=by
 obtain⟨f1,f2,f3,f4⟩:=fl;refine wT hfr f3 hL f4 f1 f2 fun h' hl=> ?_;obtain⟨k1,⟨_,_,k2⟩,k3,k4⟩:=hl;exact k h' ⟨k1,f2,k2,k3⟩ k4
theorem vQ {h:Heap}{cls:Value}{args:List Value} (hfr:A.frames=some (env::outer)) (hL:env.frame=some L) (st:base.StaysIn h) (ff:h.FunFrames base (env::outer)) (m:Heap.MadeExcOf h s.heap ea cls args)
  (k:∀h' t,FlyD base outer ea cls none (.ref t) h'->s.heap.UpToSlots h'->Q () { s with heap:=h' }):wpAny M A (leaving env (.ref ea)) Q E s:=by
 obtain⟨t,go,_,_⟩:=m.there;have nb:base.get? ea=none:=by
  cases q:base.get? ea with
  | none=>rfl
  | some o =>
   have z:=st ea o q;rw[m.new]at z;cases z
 refine lX (a0:= .ref t) hfr (ff.of_keeps fun b o q _=>⟨o,m.keeps b o q,rfl⟩) hL go (fun b o q=>m.keeps b o (st b o q)) nb rfl rfl rfl fun h' hl=> ?_;obtain⟨k1,⟨_,_,k2⟩,k3,k4⟩:=hl;exact k h' t ⟨k1,nb,k2,k3⟩ k4
end
end L2
namespace L2
open PySem PySem.Spec PyProof.Rows PySem.W
section
variable {P:Program}{w:World}{H H':Hp}{h h':Heap}{a:Addr}{o:HO}
theorem ObjOk.there (x:ObjOk P w H h a o):∃ob,h.get? a=some ob:=by
 cases o with
 | lst xs=>obtain⟨_,_,_,_,e⟩:=x;exact⟨_,e⟩
 | tup xs=>obtain⟨_,_,_,ob,e,_⟩:=x;exact⟨_,e⟩
 | dK kvs=>obtain⟨_,_,_,_,o,_,_,e,_⟩:=x;exact⟨_,e⟩
 | dT kvs=>obtain⟨_,_,_,_,o,_,_,e,_⟩:=x;exact⟨_,e⟩
 | set S n=>obtain⟨o,_,_,_,e,_⟩:=x;exact⟨_,e⟩
 | ins C dx fs=>obtain⟨_,_,_,e,_⟩:=x;exact⟨_,e⟩
 | own y=>exact x
 | xd fs=>obtain⟨_,⟨_,_,_,e,_⟩,_⟩:=x;exact⟨_,e⟩
 | rng lo hi=>obtain⟨_,_,_,e⟩:=x;exact⟨_,e⟩
 | frz ob u=>obtain⟨e,_⟩:=x;exact⟨_,e⟩
 | tbl ps=>exact⟨_,(show h.get? a=some _ from x)⟩
 | met f y=>exact⟨_,(show h.get? a=some _ from x)⟩
 | ext φ=>obtain⟨_,e,_⟩:=x;exact e
end
def CXE (P:Program)(w:World):CXT:=fun outer H s E e s' =>
 ∃ea cls dd a0 H' B,e= .ref ea/\s'.os=s.os/\AllBare s'.gens/\Un (frs outer) [] H H' s.heap s'.heap/\HOk P w H' s'.heap/\H' ea=none/\s.heap.get? ea=none ∧
  FlyD B outer ea cls dd a0 s'.heap/\(∀b,(H' b≠none∨∃o,s.heap.get? b=some o)->b∉frs outer->∃o,B.get? b=some o)/\E cls dd H'
section
variable {X:Cx}{pins:List (Addr×Obj)}{σ:St}{H H1:Hp}{s s1:Shared}{h2 B:Heap}
theorem y6 (I:Inv X pins σ H s)(hex:X.ex=[])(st:B.StaysIn h2)(sb:B.StaysIn s.heap)(up:s.heap.UpToSlots h2)(cov:∀b,(H b≠none∨∃o,X.s₀.heap.get? b=some o)->b∉frs X.stack->∃o,B.get? b=some o)(hst:X.stack=X.env::X.outer)(hf:X.env.frame=some X.env.locals) :
  Un X.fs [] X.H₀ H X.s₀.heap h2/\HOk X.prog X.w H h2:=by
 have hfr:∀b,b∈frs X.stack->b=X.env.locals∨b∈X.fs:=fun b hb=>List.mem_cons.mp (I.stkSub b hb);have nloc:∀b o,X.s₀.heap.get? b=some o->b≠X.env.locals:=fun b o q z=>by
  have e1:=Nat.lt_of_lt_of_le (Heap.lt_size q) I.ok.above;rw[z]at e1;exact Nat.lt_irrefl _ e1
 have same:∀b o,(H b≠none∨∃o,X.s₀.heap.get? b=some o)->b∉frs X.stack->s.heap.get? b=some o->h2.get? b=some o:=fun b o hc hb q=>by
  obtain⟨o',e⟩:=cov b hc hb;have e1:=sb b o' e;rw[q]at e1;cases e1;exact st b _ e
 have ub:=I.base;rw[hex]at ub;refine⟨⟨fun b o q n hb _=> ?_,fun b o q n hb _=> ?_,fun b o q n _=>ub.free b o q n (by simp),fun b o q _=> ?_,ub.tups,ub.frzs,ub.tbls⟩,fun b u e=> ?_⟩
 ·have q1:=ub.keep b o q n hb (by simp);exact same b o (.inr ⟨o,q⟩) (fun z=>(hfr b z).elim (nloc b o q) hb) q1
 ·obtain⟨sl,q1⟩:=ub.slot b o q n hb (by simp);obtain⟨_,o',ho',hd⟩:=I.funs.mem hb;have hd1:∀vs,({ o with slots:=sl }:Obj).data≠ .fields vs:=fun vs z=>by
   rw[q1]at ho';cases ho';exact hd vs z
  obtain⟨sl2,q2⟩:=up b _ q1 hd1;exact⟨sl2,q2⟩
 ·obtain⟨o1,q1⟩:=ub.there b o q (by simp)
  by_cases hb:b∈frs X.stack
  ·obtain⟨_,o',ho',hd⟩:=I.stack.mem hb;rw[q1]at ho';cases ho';obtain⟨sl2,q2⟩:=up b _ q1 hd;exact⟨_,q2⟩
  ·exact⟨o1,same b o1 (.inr ⟨o,q⟩) hb q1⟩
 ·refine(I.hok b u e).stay (fun c v hc q=> ?_) (fun _ q=>q) fun _ _ q=>q;have hn:H c≠none:=by
   rcases hc with z|z
   ·rw[z,e];simp
   ·rw[z];simp
  exact same c v (.inl hn) (fun z=>hn (I.stkFree c z)) q
end
theorem qN {P:Program}{w:World}{K:PySem.W.Frag}{mg:Str->Option Value}{base:Heap}{N:List Str}{qual:Str}{scope:Scope}{f:Addr}{cd:Value}{A:Around}{outer:List Env}{s₀:Shared}{H₀:Hp}{E:XK} :
  jC (CXE P w) (c9 (CXE P w) P w K mg base N qual scope f cd A outer s₀ H₀ E) E:=by
 intro pins σ H s e s' I h;obtain⟨ea,cls,dd,a0,H',B,rfl,os,bare,un,hok,hn,new,fl,cov,q⟩:=h;have I':=I.call' (ch:=[]) os un hok bare (fun b z=>absurd z (by simp));have there:∀b o,s₀.heap.get? b=some o->∃o',s.heap.get? b=some o':=fun b o e=>I.base.there b o e (fun z=>absurd (show b∈([]:List Addr) from z) (by simp));show wpAny _ _ (leaving _ _) _ _ s';refine yE (I.ok.frames) rfl fl fun h2 fl2 up=> ?_;obtain⟨un2,hok2⟩:=y6 (B:=B) (h2:=h2) I' rfl fl2.1 fl.1 up (fun b hb hs=>cov b (hb.imp id fun⟨o,e⟩=>there b o e) hs) rfl rfl;refine⟨ea,cls,dd,a0,H',B,rfl,I'.os,bare,un2,hok2,hn,?_,fl2,fun b hb hs=>cov b (hb.imp id fun⟨o,e⟩=>there b o e) fun z=> ?_,q⟩
 ·cases e:s₀.heap.get? ea with
  | none=>rfl
  | some o =>
   obtain⟨o',e'⟩:=there ea o e;rw[new]at e';cases e'
 ·rcases List.mem_cons.mp (I.stkSub b z) with e|hb'
  ·rcases hb with hb|⟨o,e2⟩
   ·exact hb (by rw[e];exact I'.free)
   ·have e1:=Nat.lt_of_lt_of_le (Heap.lt_size e2) I.ok.above;rw[e]at e1;exact Nat.lt_irrefl _ e1
  ·exact hs hb'
theorem y9 {P:Program}{w:World}{K:PySem.W.Frag}{mg:Str->Option Value}{base:Heap}{N:List Str}{qual:Str}{scope:Scope}{f:Addr}{cd:Value}{A:Around}{outer:List Env}{s₀:Shared}{H₀:Hp}{E:XK}
  {pins:List (Addr×Obj)}{σ:St}{H:Hp}{s1:Shared}{h':Heap}{ea:Addr}{cls:Value}{args:List Value} (I:Inv (c9 (CXE P w) P w K mg base N qual scope f cd A outer s₀ H₀ E) pins σ H s1)
  (m:Heap.MadeExcOf s1.heap h' ea cls args)(q:E cls none H):(c9 (CXE P w) P w K mg base N qual scope f cd A outer s₀ H₀ E).xe (.ref ea) { s1 with heap:=h' }:=by
 have there:∀b o,s₀.heap.get? b=some o->∃o',s1.heap.get? b=some o':=fun b o e=>I.base.there b o e (fun z=>absurd (show b∈([]:List Addr) from z) (by simp));have hin:∀env∈(c9 (CXE P w) P w K mg base N qual scope f cd A outer s₀ H₀ E).stack,∀b,env.frame=some b->b∈frs (c9 (CXE P w) P w K mg base N qual scope f cd A outer s₀ H₀ E).stack:=fun env he b hb=>List.mem_filterMap.mpr ⟨env,he,hb⟩;have hk:(hideAll s1.heap (frs (c9 (CXE P w) P w K mg base N qual scope f cd A outer s₀ H₀ E).stack)).StaysIn s1.heap:=fun b o e=>of_hideAll _ e;have cov:∀b,(H b≠none∨∃o,s₀.heap.get? b=some o)->b∉frs (c9 (CXE P w) P w K mg base N qual scope f cd A outer s₀ H₀ E).stack →
   ∃o,(hideAll s1.heap (frs (c9 (CXE P w) P w K mg base N qual scope f cd A outer s₀ H₀ E).stack)).get? b=some o:=fun b hb hs=>by
  have:∃o,s1.heap.get? b=some o:=by
   rcases hb with hb|⟨o,e⟩
   ·cases e:H b with
    | none=>exact absurd e hb
    | some u=>exact(I.hok b u e).there
   ·exact there b o e
  obtain⟨o,e⟩:=this;exact⟨o,hideAll_get _ e hs⟩
 show wpAny _ _ (leaving _ _) _ _ _;refine vQ (s:={ s1 with heap:=h' }) (h:=s1.heap) (base:=hideAll s1.heap (frs (c9 (CXE P w) P w K mg base N qual scope f cd A outer s₀ H₀ E).stack)) (I.ok.frames) rfl hk (funFrames_hide I.stack hin) m fun h2 t fl up=> ?_;have up2:s1.heap.UpToSlots h2:=(Heap.UpToSlots.of_keeps m.keeps).trans up;obtain⟨un2,hok2⟩:=y6 (h2:=h2) I rfl fl.1 hk up2 cov rfl rfl;have hn:H ea=none:=by
  cases e:H ea with
  | none=>rfl
  | some u =>
   obtain⟨o,e2⟩:=(I.hok ea u e).there;rw[m.new]at e2;cases e2
 refine⟨ea,cls,none,.ref t,H,_,rfl,I.os,I.bare,un2,hok2,hn,?_,fl,fun b hb hs=>cov b hb fun z=> ?_,q⟩
 ·cases e:s₀.heap.get? ea with
  | none=>rfl
  | some o =>
   obtain⟨o',e'⟩:=there ea o e;rw[m.new]at e';cases e'
 ·rcases List.mem_cons.mp (I.stkSub b z) with e|hb'
  ·rcases hb with hb|⟨o,e2⟩
   ·exact hb (by rw[e];exact I.free)
   ·have e1:=Nat.lt_of_lt_of_le (Heap.lt_size e2) I.ok.above;rw[e]at e1;exact Nat.lt_irrefl _ e1
  ·exact hs hb'
end L2
namespace L2
open PySem PySem.Spec PyProof.Rows PySem.W
def B7 (X:Cx)(E:XK):Prop:=∀(pins:List (Addr×Obj)) (σ:St) (H:Hp) (s1:Shared) (h':Heap) (ea:Addr) (cls:Value) (args:List Value),Inv X pins σ H s1->Heap.MadeExcOf s1.heap h' ea cls args->E cls none H->X.xe (.ref ea) { s1 with heap:=h' }
theorem rE {P:Program}{w:World}{K:PySem.W.Frag}{mg:Str->Option Value}{base:Heap}{N:List Str}{qual:Str}{scope:Scope}{f:Addr}{cd:Value}{A:Around}{outer:List Env}{s₀:Shared}{H₀:Hp}{E:XK} :
  B7 (c9 (CXE P w) P w K mg base N qual scope f cd A outer s₀ H₀ E) E:=fun _ _ _ _ _ _ _ _ I m q=>y9 I m q
abbrev bmV:List Value:=[.type "ValueError",.type "Exception",.type "BaseException",.type "object"]
abbrev D9 (K:PySem.W.Frag)(C:Addr):Prop:=excIn K C bmV "ValueError.__new__" =true
theorem JH {K:Frag}{h₀:Heap}{C:Addr}{bmB:List Value}{newId:String} (X:K.In h₀) (q:excIn K C bmB newId=true) :
  ∃bm N nm q bs hdct sn sub ab col dd k0 k1 k2 k3 k5 mN,h₀.get? C=some (excClassObj nm q C N bs bm hdct sn sub ab col dd k0 k1 k2 k3 k5 newId)/\h₀.Ns N mN/\mN "__init__" =none/\OwnTail h₀ bmB bm:=by
 unfold excIn at q
 split at q
 ·rename_i dd cd sl ho
  split at q
  ·rename_i C' bm k0 k1 k2 k3 n k5 hm hs;simp only[Bool.and_eq_true,beq_iff_eq,Bool.not_eq_true']at q;obtain⟨⟨⟨⟨⟨rfl,rfl⟩,hdel⟩,ht⟩,hok⟩,hni⟩:=q;obtain⟨nm,bs,mro,ns,qn,hd,sn,sub,ab,col,del⟩:=cd
   dsimp only at hm hdel hok hni
   subst hm hdel;have hsl:sl= #[k0,k1,k2,k3,some (.builtin n),k5]:=by
    obtain⟨l⟩:=sl;simp only at hs;rw[hs]
   subst hsl;exact⟨bm,ns,nm,qn,bs,hd,sn,sub,ab,col,dd,k0,k1,k2,k3,k5,_,X _ _ ho,.of_isNs (isNs_of_in X hok),nsMap_none_of_in X hok hni,tail_of_in X ht⟩
  ·cases q
 ·cases q
section
variable {X:Cx}{E:XK}{x:Str}{C:Addr}{np cpos pos:Pos}{e:Expr}{es:List Expr}{t:TA}
def BP (C:Addr)(E:XK)(t:TA):TS:=fun D σ H=>t σ H fun vs H1=>vs.length<=sizeLine/\E (.ref C) none H1
theorem kH (hm:X.mg x=some (.ref C))(hc:D9 X.K C)(hx:B7 X E)(ha:PA X (e::es) t)(cm:X.calm=true:=by rfl)(hg:Gl X x:=by rfl)(hdb:(x==("__debug__" :Str))=false:=by decide)
  (he:starEach (e::es) X.env=(false,eval e X.env)::starEach es X.env:=by rfl)(hpl:(backTo cpos (starEach es X.env)).any (·.1)=false:=by rfl) :
  PS X (.Raise (some (.Call (.Name x np) (e::es) [] cpos)) none pos) (BP C E t):=by
 intro pins s σ H D I h;obtain⟨tl,N,nm,q,bs,hdct,sn,sub,ab,col,dd,k0,k1,k2,k3,k5,mN,hC,hN,hni,T⟩:=JH I.ok.mod.kin hc;refine wpAny_Raise_call_subT (C:=C) (nm:=nm) (q:=q) (N:=N) (bs:=bs) (bm:=tl) (hdct:=hdct) (sn:=sn) (sub:=sub) (ab:=ab) (col:=col) (dd:=dd) (k0:=k0) (k1:=k1) (k2:=k2) (k3:=k3) (k5:=k5)
  PySem.F.excBase_ValueError (mN:=mN) (T.hasType PySem.F.excBase_ValueError.hasBase) (I.ok.hd cm) (by rw[he];show (false||(backTo cpos (starEach es X.env)).any (·.1))=false;rw[hpl];rfl) hni (g7 I hg hm ⟨rfl,?_⟩ hdb)
 have hh:=ha cpos pins s σ H _ I h;rw[he]at hh ⊢;refine Calls.evalArgs_plain (wpAny_mono hh (fun vs s₂ h₂=> ?_) fun _ _ y=>y);obtain⟨us,H2,I2,r,z,q2⟩:=h₂;exact⟨rfl,by rw[←r.length];exact z,I2.bk _ _ hC,hN.keeps I2.bk,T.keeps I2.bk,fun h' ea m=>hx pins σ H2 s₂ h' ea _ _ I2 m q2⟩
end
structure FcE (P:Program)(w:World)(K:PySem.W.Frag)(mg:Str->Option Value)(base:Heap)(x:Str)(k:Nat)(ps:List Str)(sp:Sp):Prop where
 ex:∃f fd,mg x=some (.ref f)/\PySem.W.keepIn K (.ref f)=true/\Binds K fd ps []/\bK P w K mg base (CXE P w) k f fd ps sp
structure KcE (P:Program)(w:World)(K:PySem.W.Frag)(mg:Str->Option Value)(base:Heap)(x:Str)(C:Addr)(k:Nat)(dvs:List V)(sp:Sp):Prop where
 ex:∃f fd ps ds,mg x=some (.ref C)/\Mk K C f/\Vals dvs ds/\Binds K fd ps ds/\bK P w K mg base (CXE P w) k f fd ps sp
section
variable {X:Cx}{k k':Nat}{sp:Sp}{x m:Str}{p pos apos:Pos}{e o:Expr}{es:List Expr}{ta:TE}{t:TA}{C:Addr}{dvs:List V}{E:XK}{ps:List Str}
theorem qJ (F:FcE X.prog X.w X.K X.mg X.base x k ps sp)(hr:Room k' X.A)(hx:jC (CXE X.prog X.w) X E)(ha:PA X (e::es) t)(hk:k<=k':=by decide)(hg:Gl X x:=by rfl)
  (hdb:(x==("__debug__" :Str))=false:=by decide)(he:starEach (e::es) X.env=(false,eval e X.env)::starEach es X.env:=by rfl)(hpl:(backTo pos (starEach es X.env)).any (·.1)=false:=by rfl) :
  PE X (.Call (.Name x p) (e::es) [] pos) (qK sp [] E t):=by
 obtain⟨f,fd,hm,kp,b,G⟩:=F.ex;exact yA G (hr.mono hk) hg hm kp b .nil hx ha hdb he hpl
end
section
variable {P:Program}{w:World}{K:PySem.W.Frag}{mg:Str->Option Value}{base:Heap}
theorem FunV.okE {x qual:Str}{st:Stmt}{f:Addr}{fd:FuncData}{N ps:List Str}{k:Nat}{sp:Sp} (F:FunV K x qual st f fd) (S:bE N ps (aE st)) (len:∀vs H Q E,sp vs H Q E->vs.length=ps.length)
  (hbody:∀(cdv:Value) (A:Around) (outer:List Env) (s:Shared) (H:Hp) (vs:List V) (Q:VK) (E:XK),Room k (A.deeper (envOfC qual (aE st) s.heap.objs.size f cdv))->sp vs H Q E →
   ∃t,PSs (c9 (CXE P w) P w K mg base N qual (aE st) f cdv A outer s H E) (aI st) t/\t { nx:=fun _ H'=>Q .non H',rt:=Q } (gN N vs) H):bK P w K mg base (CXE P w) (k+1) f fd ps sp:=by
 obtain⟨oc,od,dV,kV,doc,pm,an,cdv,ct,osl,rfl,lk,hcd⟩:=F.ex;exact GB lk hcd S len fun A outer s H vs Q E hr h=>hbody cdv A outer s H vs Q E hr h
end
end L2
namespace L2
open PySem PySem.Spec PyProof.Rows PySem.W
def FV (h base:Heap)(ea:Addr)(cls:Value)(dd:Option Addr)(a0 mk:Value):Prop :=
 ∃ob fv tb tbo tv,h.get? ea=some ob/\ob.cls=cls/\ob.dict=dd/\fv[0]? =some a0/\ob.data= .fields fv/\fv[1]? =some (.ref tb)/\base.get? tb=none/\tb≠ea/\h.get? tb=some tbo/\tbo.data= .fields tv/\tv[3]? =some mk
def GT (base:Heap)(l:List Env)(ea:Addr)(cls:Value)(dd:Option Addr)(a0 mk:Value)(h h':Heap):Prop :=
 base.StaysIn h'/\h'.FunFrames base l/\FV h' base ea cls dd a0 mk/\h.UpToSlots h'
section
variable {M:Model}{A:Around}{E:Value->Shared->Prop}{s:Shared}{base:Heap}{env:Env}{outer:List Env}{L ea:Addr}{Q:Unit->Shared->Prop}
theorem w6 {ob:Obj}{fv:Array Value}{hd0 a0:Value}{nx:Bool} (hfr:A.frames=some (env::outer)) (ff:s.heap.FunFrames base (env::outer)) (hL:env.frame=some L) (go:s.heap.get? ea=some ob) (st:base.StaysIn s.heap)
  (nb:base.get? ea=none)(hdt:ob.data= .fields fv)(hz:1<fv.size)(h0:fv[0]? =some a0)(k:∀h',GT base (env::outer) ea ob.cls ob.dict a0 (rawInt L) s.heap h'->Q () { s with heap:=h' }) :
  wpAny M A (do let a ←frameOf env;let pl ←entryPlaceOf L nx;let b ←EntryCells.newEntry hd0 a .none (rawInt L) .none pl;setField (.ref ea) 1 b) Q E s:=by
 have nin:ea∉(env::outer).filterMap (·.frame):=fun hm=>by
  obtain⟨_,o,ho,hnf⟩:=ff.mem hm;rw[go]at ho;cases ho;exact hnf fv hdt
 refine wpAny_bind (wpAny_frameOf_fun hfr ff hL fun hA sA=>wpAny_bind (wpAny_entryPlaceOf fun pl hpl=> ?_));unfold EntryCells.newEntry newFields;refine wpAny_bind (wpAny_newObj_type ?_ (hpl.sizeOk5 _ _ _ _ _));have gA:hA.get? ea=some ob:=(sA.2.1 ea nin).trans go;have stA:base.StaysIn hA:=fun b o q=>(sA.2.1 b fun hm=>by rw[(ff.mem hm).1]at q;cases q).trans (st b o q);generalize hN:({ cls:= .type "traceback",dict:=none,data:= .fields ([hd0,.ref L,.none,rawInt L,.none]++(if pl.isEmpty then List.replicate 6 Value.none else pl)).toArray }:Obj)=nob;have hNd:∃tv,nob.data= .fields tv/\tv[3]? =some (rawInt L):=by
  rw[←hN];exact⟨_,rfl,by first|(simp;done)|(rcases hpl with rfl|⟨_,_,_,_,_,_,_,rfl⟩<;>simp)⟩
 obtain⟨tv,hNd,hN3⟩:=hNd;have gB:(hA.push nob).get? ea=some ob:=Heap.get?_push_of_some nob gA;refine wpAny_setField gB hdt hz (k _ ?_);have tne:hA.objs.size≠ea:=Nat.ne_of_gt (Heap.lt_size gA);have dC:=Obj.data_mapFields hdt (·.setIfInBounds 1 (Value.ref hA.objs.size));have gC:=Heap.get?_update_self (Obj.mapFields (·.setIfInBounds 1 (Value.ref hA.objs.size))) gB (Obj.isFreed_of_fields dC);have tC:((hA.push nob).update ea (Obj.mapFields (·.setIfInBounds 1 (Value.ref hA.objs.size)))).get? hA.objs.size=some nob:=(Heap.get?_update_other _ _ (Ne.symm tne)).trans (Heap.get?_push_size hA (Obj.isFreed_of_fields hNd));generalize hF:(hA.push nob).update ea (Obj.mapFields (·.setIfInBounds 1 (Value.ref hA.objs.size)))=hX at gC tC ⊢;have keepF:∀b o,b≠ea->hA.get? b=some o->hX.get? b=some o:=fun b o hb q=>by
  rw[←hF,Heap.get?_update_other _ _ (Ne.symm hb)];exact Heap.get?_push_of_some _ q
 have norec:∀b o,s.heap.get? b=some o->(∀vs,o.data≠ .fields vs)->b≠ea:=fun b o q hnf z=>by
  rw[z,go]at q;cases q;exact hnf fv hdt
 refine⟨fun b o q=>keepF b o (fun z=>by rw[z,nb]at q;cases q) (stA b o q),ff.of_keeps fun b o q hnf=> ?_,?_,fun b o q hnf=> ?_⟩
 ·obtain⟨sl,hs⟩:=sA.2.2 b o q;exact⟨_,keepF b _ (norec b o q hnf) hs,rfl⟩
 ·exact⟨_,_,hA.objs.size,_,_,gC,Obj.cls_mapFields _ _,uA _ _,by rw[Array.getElem?_setIfInBounds_ne (by decide)];exact h0,dC,by simp[hz],stA.fresh,tne,tC,hNd,hN3⟩
 ·obtain⟨sl,hs⟩:=sA.2.2 b o q;exact⟨sl,keepF b _ (norec b o q hnf) hs⟩
theorem CD {cls a0:Value}{dd:Option Addr} (hfr:A.frames=some (env::outer)) (hL:env.frame=some L) (fl:FlyD base (env::outer) ea cls dd a0 s.heap)
  (k:∀h',GT base (env::outer) ea cls dd a0 (rawInt L) s.heap h'->Q () { s with heap:=h' }):wpAny M A (noteFrame (.ref ea) env) Q E s:=by
 obtain⟨st,nb,ff,ob,fv,tb,tbo,tv,go,ec,ed,h0,hdt,h1,nT,tne,gT,dT,h3⟩:=fl;subst ec ed;unfold noteFrame;simp only[hL];refine wpAny_bind (wpAny_field go hdt h1 ?_);rw[if_pos (show (Value.ref tb !=Value.none)=true from by simp)];refine wpAny_bind (wpAny_field gT dT h3 ?_);rw[if_neg (show ¬((Value.none==rawInt L)=true) from by simp[rawInt])];refine wpAny_bind (wpAny_setField gT dT (Array.getElem?_eq_some_iff.mp h3).1 ?_);have oth:∀b,b≠tb->(s.heap.update tb (Obj.mapFields (·.setIfInBounds 3 Value.none))).get? b=s.heap.get? b:=fun b hb=>Heap.get?_update_other _ _ (Ne.symm hb);have norec:∀b o,s.heap.get? b=some o->(∀vs,o.data≠ .fields vs)->b≠tb:=fun b o q hnf z=>by
  rw[z,gT]at q;cases q;exact hnf tv dT
 refine w6 hfr (ff.of_keeps fun b o q hnf=>⟨o,(oth b (norec b o q hnf)).trans q,rfl⟩) hL ((oth ea (Ne.symm tne)).trans go) (fun b o q=>(oth b fun z=>by rw[z,nT]at q;cases q).trans (st b o q)) nb hdt (Array.getElem?_eq_some_iff.mp h1).1 h0 fun h' ⟨x1,x2,x3,x4⟩=> ?_;exact k h' ⟨x1,x2,x3,fun b o q hnf=>x4 b o ((oth b (norec b o q hnf)).trans q) hnf⟩
theorem BE {l:List Env}{cls a0 mk:Value}{dd:Option Addr} (st:base.StaysIn s.heap) (nb:base.get? ea=none) (ff:s.heap.FunFrames base l) (tr:FV s.heap base ea cls dd a0 mk)
  (k:∀h',FlyD base l ea cls dd a0 h'->s.heap.UpToSlots h'->Q () { s with heap:=h' }):wpAny M A (setFlight (.ref ea) none) Q E s:=by
 obtain⟨ob,fv,tb,tbo,tv,go,ec,ed,h0,hdt,h1,nT,tne,gT,dT,h3⟩:=tr;have oth:∀b,b≠tb->(s.heap.update tb (Obj.mapFields (·.setIfInBounds 3 ((none:Option Addr).elim Value.none fun f=>rawInt f)))).get? b=s.heap.get? b:=fun b hb=>Heap.get?_update_other _ _ (Ne.symm hb);have norec:∀b o,s.heap.get? b=some o->(∀vs,o.data≠ .fields vs)->b≠tb:=fun b o q hnf z=>by
  rw[z,gT]at q;cases q;exact hnf tv dT
 have z3:=(Array.getElem?_eq_some_iff.mp h3).1;unfold setFlight;refine wpAny_bind (wpAny_field go hdt h1 ?_);rw[if_pos (show (Value.ref tb !=Value.none)=true from by simp)];refine wpAny_setField gT dT z3 (k _ ⟨fun b o q=>(oth b fun z=>by rw[z,nT]at q;cases q).trans (st b o q),nb,ff.of_keeps fun b o q hnf=>⟨o,(oth b (norec b o q hnf)).trans q,rfl⟩,?_⟩ fun b o q hnf=>⟨o.slots,(oth b (norec b o q hnf)).trans q⟩);exact⟨ob,fv,tb,_,_,(oth ea (Ne.symm tne)).trans go,ec,ed,h0,hdt,h1,nT,tne,Heap.get?_update_self _ gT (Obj.isFreed_of_fields (Obj.data_mapFields dT _)),Obj.data_mapFields dT _,by simp[z3]⟩
end
end L2
namespace L2
open PySem PySem.Spec PyProof.Rows PySem.W
abbrev Cx.inx (X:Cx)(ea:Addr):Cx:={ X with A:=X.A.mark (some (.ref ea)),calm:=false,xe:=fun _ _=>False }
section
variable {X:Cx}{pins:List (Addr×Obj)}{σ:St}{H:Hp}{s:Shared}{ea:Addr}
theorem Cx.Ok.inx (ok:X.Ok)(ea:Addr):(X.inx ea).Ok :=
 ⟨ok.mod,ok.kind,ok.glob,ok.blt,ok.above,ok.inj,ok.has,ok.cab,(fun z=>by cases z),ok.frames,ok.stk,ok.exf,ok.bs,ok.bsz,ok.noex,ok.exfs,ok.funs,ok.frf⟩
theorem Inv.inx (I:Inv X pins σ H s)(ea:Addr):Inv (X.inx ea) pins σ H s:=⟨I.ok.inx ea,I.os,I.bare,I.base,I.loc,I.cell,I.free,I.freeC,I.pin,I.hok,I.len⟩
theorem Inv.outx (ok:X.Ok)(I:Inv (X.inx ea) pins σ H s):Inv X pins σ H s:=⟨ok,I.os,I.bare,I.base,I.loc,I.cell,I.free,I.freeC,I.pin,I.hok,I.len⟩
end
theorem HK {P:Program}{w:World}{fs:List Addr}{H1 H':Hp}{h1 h' h6 B:Heap} (un:Un fs [] H1 H' h1 h') (hok:HOk P w H' h') (cov:∀b,(H' b≠none∨∃o,h1.get? b=some o)->b∉fs->∃o,B.get? b=some o)
  (sb:B.StaysIn h')(st:B.StaysIn h6)(up:h'.UpToSlots h6)(hf:∀b∈fs,H' b=none/\∃o,h'.get? b=some o/\∀vs,o.data≠ .fields vs):Un fs [] H1 H' h1 h6/\HOk P w H' h6:=by
 have same:∀b o,(H' b≠none∨∃o,h1.get? b=some o)->b∉fs->h'.get? b=some o->h6.get? b=some o:=fun b o hc hb q=>by
  obtain⟨o',e⟩:=cov b hc hb;have e1:=sb b o' e;rw[q]at e1;cases e1;exact st b _ e
 have atf:∀b o,b∈fs->h'.get? b=some o->∃sl,h6.get? b=some { o with slots:=sl }:=fun b o hb q=>by
  obtain⟨_,o',e,d⟩:=hf b hb;rw[q]at e;cases e;exact up b _ q d
 refine⟨⟨fun b o q n hb hx=>same b o (.inr ⟨o,q⟩) hb (un.keep b o q n hb hx),fun b o q n hb hx=> ?_,un.free,fun b o q hx=> ?_,un.tups,un.frzs,un.tbls⟩,fun b u e=> ?_⟩
 ·obtain⟨sl,q1⟩:=un.slot b o q n hb hx;obtain⟨sl2,q2⟩:=atf b _ hb q1;exact⟨sl2,q2⟩
 ·obtain⟨o1,q1⟩:=un.there b o q hx
  by_cases hb:b∈fs
  ·obtain⟨sl,q2⟩:=atf b o1 hb q1;exact⟨_,q2⟩
  ·exact⟨o1,same b o1 (.inr ⟨o,q⟩) hb q1⟩
 ·refine(hok b u e).stay (fun c v hc q=> ?_) (fun _ q=>q) fun _ _ q=>q;have hn:H' c≠none:=by
   rcases hc with z|z
   ·rw[z,e];simp
   ·rw[z];simp
  exact same c v (.inl hn) (fun z=>hn (hf c z).1) q
def ExcDAt (a C dx:Addr)(h:Heap):Prop:=∃o vs,h.get? a=some o/\o.cls= .ref C/\o.dict=some dx/\o.data= .fields vs
theorem ExcDAt.at {a C dx:Addr}{h:Heap} (x:ExcDAt a C dx h):eO a C h:=let ⟨o,vs,e,c,_,d⟩:=x;⟨o,vs,e,c,d⟩
def u0 (a C:Addr):Option Addr->HO
 | none=> .ext (eO a C)
 | some dx=> .ext (ExcDAt a C dx)
theorem AT {P:Program}{w:World}{fs:List Addr}{H1 H':Hp}{h1 h6:Heap}{ea C:Addr}{φ:Heap->Prop} (un:Un fs [] H1 H' h1 h6) (hok:HOk P w H' h6) (new:h1.get? ea=none) (hn:H' ea=none) (x:φ h6) (tx:∃o,h6.get? ea=some o)
  (kx:∀g1 g2,φ g1->(∀o,g1.get? ea=some o->g2.get? ea=some o)->φ g2):Un fs [] H1 (upd H' ea (.ext φ)) h1 h6/\HOk P w (upd H' ea (.ext φ)) h6:=by
 have ne1:∀b o,h1.get? b=some o->b≠ea:=fun b o q z=>by rw[z,new]at q;cases q
 refine⟨⟨un.keep,un.slot,fun b o q n hx=>by rw[aG (ne1 b o q)];exact un.free b o q n hx,un.there,fun b xs q=> ?_,fun b o u q=> ?_,fun b ps q=> ?_⟩,fun b u e=> ?_⟩
 ·have z:=un.tups b xs q;rw[aG (aL z hn)];exact z
 ·have z:=un.frzs b o u q;rw[aG (aL z hn)];exact z
 ·obtain⟨m,z⟩:=un.tbls b ps q;exact⟨m,by rw[aG (aL z hn)];exact z⟩
 ·by_cases hb:b=ea
  ·subst hb;rw[aR]at e;cases e;exact⟨x,tx,kx⟩
  ·rw[aG hb]at e;exact(hok b u e).stay (fun _ _ _ q=>q) (fun c q=>by rw[aG (aL q hn)];exact q) fun c xs q=>by rw[aG (aL q hn)];exact q
theorem J0 {P:Program}{w:World}{fs:List Addr}{H1 H':Hp}{h1 h6:Heap}{ea C:Addr}{dd:Option Addr}{ob:Obj}{vs:Array Value} (un:Un fs [] H1 H' h1 h6) (hok:HOk P w H' h6) (new:h1.get? ea=none) (hn:H' ea=none) (go:h6.get? ea=some ob) (hc:ob.cls= .ref C) (hd:ob.dict=dd) (hf:ob.data= .fields vs) :
  Un fs [] H1 (upd H' ea (u0 ea C dd)) h1 h6/\HOk P w (upd H' ea (u0 ea C dd)) h6:=by
 cases dd with
 | none=>exact AT (C:=C) un hok new hn ⟨ob,vs,go,hc,hf⟩ ⟨_,go⟩ fun g1 g2 ⟨o',vs',q1,q2,q3⟩ k=>⟨o',vs',k _ q1,q2,q3⟩
 | some dx=>exact AT (C:=C) un hok new hn ⟨ob,vs,go,hc,hd,hf⟩ ⟨_,go⟩ fun g1 g2 ⟨o',vs',q1,q2,q3⟩ k=>⟨o',vs',k _ q1,q2,q3⟩
def XW (X:Cx)(pins:List (Addr×Obj))(σ:St)(R:XK)(e:Value)(s':Shared):Prop:=∃H1 s1,Inv X pins σ H1 s1/\CXE X.prog X.w X.stack H1 s1 R e s'
def PEx (X:Cx)(e:Expr)(t:XK->TE):Prop :=
 ∀(R:XK) (pins:List (Addr×Obj)) (s:Shared) (σ:St) (H:Hp) (Q:VK),Inv X pins σ H s->t R σ H Q->wpAny (model X.prog X.w) X.A (eval e X.env) (EP X pins σ Q) (XW X pins σ R) s
theorem PA.noxx {X:Cx}{es:List Expr}{t:TA} (h:PA X.nox es t) {E:Value->Shared->Prop}:∀(pos:Pos) (pins:List (Addr×Obj)) (s:Shared) (σ:St) (H:Hp) (Q:List V->Hp->Prop),Inv X pins σ H s->t σ H Q->wpAny (model X.prog X.w) X.A (spliced (backTo pos (starEach es X.env))) (AP X pins σ Q) E s :=
 fun pos pins s σ H Q I q=>wpAny_mono (h pos pins s σ H Q (I.wish _) q) (fun _ _ ⟨vs,H',I',r,z⟩=>⟨vs,H',I'.unwish,r,z⟩) fun _ _ z=>False.elim z
section
variable {X:Cx}{k k':Nat}{sp:Sp}{x m:Str}{p pos apos:Pos}{e o:Expr}{es:List Expr}{ta:TE}{t:TA}{C f:Addr}{dvs:List V}{ds:List Value}{R:XK}{ps:List Str}{fd:FuncData}
end
section
variable {X:Cx}{k k':Nat}{sp:Sp}{x m:Str}{p pos apos:Pos}{e o:Expr}{es:List Expr}{ta:TE}{t:TA}{C:Addr}{dvs:List V}{R:XK}
theorem K8 {f:Addr}{fd:FuncData}{ps:List Str}{ds:List Value}{pins:List (Addr×Obj)}{σ:St}{H:Hp}{s:Shared}{Q:VK}{us:List Value}{vs:List V} (M:Mk X.K C f) (G:bK X.prog X.w X.K X.mg X.base (CXE X.prog X.w) k f fd ps sp) (hr:Room (k+1) X.A) (hb:Binds X.K fd ps ds) (hd:Vals dvs ds) (I:Inv X pins σ H s) (rv:Vals vs us)
  (h:∀a dx,H a=none->H dx=none->dx≠a->sp (.ref a::(vs++dvs)) (upd (upd H dx (.own a)) a (.ins C dx [])) (fun v H2=>v= .non/\Q (.ref a) H2) R):wpAny (model X.prog X.w) X.A (call (.ref C) us) (EP X pins σ Q) (XW X pins σ R) s:=by
 have n0:H (s.heap.objs.size+1)=none:=I.hok.fresh (Nat.le_succ _);have n1:H s.heap.objs.size=none:=I.hok.fresh (Nat.le_refl _);have want:=h _ _ n0 n1 (Nat.ne_of_lt (Nat.lt_succ_self _));have J:=Inv.made (C:=C) I;have rr:Vals (V.ref (s.heap.objs.size+1)::(vs++dvs)) (Value.ref (s.heap.objs.size+1)::(us++ds)):= .cons rfl (rv.append hd);have ln:(Value.ref (s.heap.objs.size+1)::us++ds).length=ps.length:=rr.length.symm.trans (G.len _ _ _ _ want);have go:=G.run _ X.stack _ _ ⟨Value.ref (s.heap.objs.size+1)::us,[]⟩ _ _ _ R (hr.make C us []) (J.env0.make C us []) (hb _ (Value.ref (s.heap.objs.size+1)::us) J.kIn ln) rr want;refine wpAny_call (vW (f:=f) I.kIn M.makes M.init (beq_iff_eq.mp M.fn) (codeAny_mono go fun res s' hq=> ?_))
 match res,hq with
 | .error e,hq=>exact⟨_,_,J,hq⟩
 | .ok (.ret u),hq =>
  obtain⟨v,H',I3,rv',ev,q3⟩:=J.after hq;subst ev;exact⟨rv',⟨V.ref (s.heap.objs.size+1),H',I3,rfl,q3⟩⟩
 | .ok .next,hq=>exact False.elim hq
 | .ok .brk,hq=>exact False.elim hq
 | .ok .cont,hq=>exact False.elim hq
theorem MR (F:KcE X.prog X.w X.K X.mg X.base x C k dvs sp)(hr:Room k' X.A)(ha:PA X.nox (e::es) t)(hk:k+1<=k':=by decide)(hg:Gl X x:=by rfl)
  (hdb:(x==("__debug__" :Str))=false:=by decide)(he:starEach (e::es) X.env=(false,eval e X.env)::starEach es X.env:=by rfl)(hpl:(backTo pos (starEach es X.env)).any (·.1)=false:=by rfl) :
  PEx X (.Call (.Name x p) (e::es) [] pos) (fun R=>uU C sp dvs R t):=by
 intro R pins s σ H Q I h;obtain⟨f,fd,ps,ds,hm,M,hd,hb,G⟩:=F.ex;refine wpAny_Call_Name_kw (g7 I hg hm ?_ hdb);refine PySem.W.callWith_K (h₀:=X.base) I.ok.mod.kin M.kp (thn (ha.noxx pos pins s σ H _ I h) fun us s1 ⟨vs,H1,I1,r,q⟩=>⟨I1.kIn,?_⟩) he hpl;exact K8 M G (hr.mono hk) hb hd I1 r q
end
theorem j3 {X:Cx}{pins:List (Addr×Obj)}{σ:St}{H:Hp}{s:Shared}{M:Model}{A:Around}{E:Value->Shared->Prop}{i:Nat}{n:Str}{pos:Pos}{Q:Unit->Shared->Prop} (I:Inv X pins σ H s) (hN:X.N.Nodup) (hi:X.N[i]? =some n) (hk:X.env.scope.names.lookup n=some .local)
  (h:∀s',Inv X pins (σ.set i none) H s'->Q () s'):wpAny M A (do bindName X.env n .none;unbindBehindTheSuite X.env n pos) Q E s:=by
 obtain⟨m,hn,hl⟩:=id I.loc;have hcls:(X.env.scope.kind== .class||(X.env.scope.kind== .module&&X.env.locals !=X.env.globals))=false:=by rw[I.ok.kind];rfl
 have cne:=I.cne;have tracked:∀{a:Addr}{h':Heap},(∃o,s.heap.get? a=some o/\H a=none)->Heap.SameBut a s.heap h'->HOk X.prog X.w H h':=fun {a h'} ha hs b ob e=>by
  obtain⟨_,_,hfree⟩:=ha;refine(I.hok b ob e).stay (fun c w' hc q=>(hs.2 c ?_).trans q) (fun _ q=>q) fun _ _ q=>q;rintro rfl;rcases hc with rfl|hc
  ·rw[hfree]at e;cases e
  ·rw[hfree]at hc;cases hc
 refine wpAny_nameGoes_keeps hk hn hcls fun h' v hn' hs=> ?_;obtain⟨oL,_,_,hoL,_⟩:=id hn;refine h _ ⟨I.ok,I.os,I.bare,⟨fun b o e n hb hx=> ?_,fun b o e n hb hx=> ?_,I.base.free,fun b o e hx=> ?_,I.base.tups,I.base.frzs,I.base.tbls⟩,⟨_,hn',fun j y v' e1 e2 e3=> ?_⟩,fun y c e=> ?_,I.free,I.freeC,fun p hp=> ?_,tracked ⟨oL,hoL,I.free⟩ hs,by simpa using I.len⟩
 ·exact(hs.2 b (Nat.ne_of_lt (Nat.lt_of_lt_of_le (Heap.lt_size e) I.ok.above))).trans (I.base.keep b o e n hb hx)
 ·obtain⟨sl,e1⟩:=I.base.slot b o e n hb hx;exact⟨sl,(hs.2 b (Nat.ne_of_lt (Nat.lt_of_lt_of_le (Heap.lt_size e) I.ok.above))).trans e1⟩
 ·obtain⟨o',e1⟩:=I.base.there b o e hx;exact⟨o',(hs.2 b (Nat.ne_of_lt (Nat.lt_of_lt_of_le (Heap.lt_size e) I.ok.above))).trans e1⟩
 ·by_cases hj:j=i
  ·subst hj;rw[List.getElem?_set]at e2;simp at e2
  ·rw[List.getElem?_set_ne (Ne.symm hj)]at e2;obtain⟨u',r',q⟩:=hl j y v' e1 e2 e3;refine⟨u',r',?_⟩;rcases q with⟨k,e⟩|⟨k,c,e,z⟩
   ·refine .inl ⟨k,?_⟩;have:y≠n:=fun e=>hj (pH hN e1 (e▸hi));simp[this,e]
   ·exact .inr ⟨k,c,e,z.sameBut hs (cne y c e)⟩
 ·obtain⟨w',z⟩:=I.cell y c e;exact⟨w',z.sameBut hs (cne y c e)⟩
 ·obtain⟨e,n,ne,nf,d⟩:=I.pin p hp;exact⟨(hs.2 p.1 ne).trans e,n,ne,nf,d⟩
section
variable {X:Cx}{i:Nat}{n x:Str}{T:Addr}{np hpos pos epos:Pos}{e:Expr}{tc:XK->TE}{b₀:Stmt}{suite:List Stmt}{ts:TS}
def F8 (K:PySem.W.Frag)(T:Addr)(i:Nat)(ts:TS)(D:fG)(σ:St):XK:=fun cls dd H1=>∃C,cls= .ref C/\PySem.W.exmOne K (.ref C) (.ref T)=some true ∧
 ∀ea,H1 ea=none->ts { nx:=fun σ' H'=>D.nx (σ'.set i none) H',rt:=D.rt,bk:=fun σ' H'=>D.bk (σ'.set i none) H',ct:=fun σ' H'=>D.ct (σ'.set i none) H' } (σ.set i (some (.ref ea))) (upd H1 ea (u0 ea C dd))
def PXs (X:Cx)(st:List Stmt)(t:XK->TS):Prop :=
 ∀(R:XK) (pins:List (Addr×Obj)) (s:Shared) (σ:St) (H:Hp) (D:fG),Inv X pins σ H s->t R D σ H->wpAny (model X.prog X.w) X.A (execs st X.env) (SP X pins D) (XW X pins σ R) s
def txE (tc:XK->TE):XK->TS:=fun R D σ H=>tc R σ H fun _ H1=>D.nx σ H1
theorem OU (he:PEx X e tc)(hsw:swapsWith e none epos.line X.env=pure false:=by rfl):PXs X [.Expr e epos] (txE tc):=by
 intro R pins s σ H D I h;refine wpAny_execs_cons (wpAny_Expr_any ?_ I.quiet hsw);exact wpAny_mono (he R pins s σ H _ I h) (fun v s1 ⟨v',H1,I1,r1,q1⟩=>wpAny_execs_nil ⟨σ,H1,I1,q1⟩) fun _ _ z=>z
theorem IY {body:List Stmt}{tb:XK->TS} (hN:X.N.Nodup) (hi:X.N[i]? =some n) (hk:X.env.scope.names.lookup n=some .local) (hst:X.stack=X.env::X.outer) (hfr:X.env.frame=some X.env.locals) (hm:X.mg x=some (.ref T)) (he:PXs X body tb) (hs:∀ea,PSs (X.inx ea) (b₀::suite) ts)
  (hg:Gl X x:=by rfl)(hdb:(x==("__debug__" :Str))=false:=by decide) :
  PS X (.Try body [.ExceptHandler (some (.Name x np)) (some n) (b₀::suite) hpos] [] [] pos) (fun D σ H=>tb (F8 X.K T i ts D σ) D σ H):=by
 intro pins s σ H D I h;refine wpAny_Try_except ?_;refine wpAny_mono (he _ pins s σ H _ I h) (fun f s1 q=> ?_) fun ev s' hx=> ?_
 ·cases f with
  | next=>exact wpAny_execs_nil q
  | ret v=>exact q
  | brk=>exact q
  | cont=>exact q
 obtain⟨H1,s1,I1,ea,cls,dd,a0,H',B,rfl,os,bare,un,hok,hn,new,fl,cov,C,rfl,hex,hq⟩:=hx;have frms:∀b∈frs X.stack,H' b=none:=fun b hb=>by
  obtain⟨_,o,ho,_⟩:=I1.stack.mem hb;exact un.free b o ho (I1.stkFree b hb) (by simp)
 have fl0:=fl;rw[hst]at fl0;refine CD (by rw[I.ok.frames,hst]) hfr fl0 fun h4 ⟨k1,k2,k3,up4⟩=> ?_;refine BE k1 fl.2.1 k2 k3 fun h5 hfl5 up5=> ?_;have step:∀h6,FlyD B (X.env::X.outer) ea (.ref C) dd a0 h6->s'.heap.UpToSlots h6->Inv X pins σ (upd H' ea (u0 ea C dd)) { s' with heap:=h6 }:=fun h6 f6 up6=>by
  obtain⟨un2,hok2⟩:=HK un hok cov fl.1 f6.1 up6 fun b hb=>⟨frms b hb,(fl.2.2.1.mem hb).2⟩
  obtain⟨oe,vs,q1,q2,q3,q4⟩:=f6.there;obtain⟨un3,hok3⟩:=J0 (C:=C) un2 hok2 new hn q1 q2 q3 q4;exact I1.call' (s':={ s' with heap:=h6 }) (ch:=[]) os un3 hok3 bare fun b z=>absurd z (by simp)
 have I5:=step h5 hfl5 (up4.trans up5);obtain⟨ob,_,hob,hobc,_⟩:=hfl5.there;have LT:Looks (model X.prog X.w) h5 (typeOf (.ref ea)) (.ref C):=by
  rw[←hobc];exact(Looks.ld hob).andThen .now
 refine wpAny_handleBy_cons (codeAny_handlers_test ?_) (by intro q;cases q);refine g7 (X:=X.inx ea) (I5.inx ea) hg hm ?_ hdb;refine(PySem.W.exm_one I5.kIn LT hex).here ?_;show codeAny _ _ _ _ _;refine codeAny_handlers_suite_as ?_;obtain⟨l1,l2,l3,l4⟩:=hfl5;refine BE l1 l2 l3 l4 fun h6 hfl6 up6=> ?_;have I6:=step h6 hfl6 ((up4.trans up5).trans up6);refine oW (X:=X.inx ea) (v:= .ref ea) (I6.inx ea) hN hi (.inl hk) rfl (fun s7 I7=> ?_) (.inr hk);refine wpAny_mono (hs ea pins s7 _ _ _ I7 (hq ea hn)) (fun f s8 hsp=> ?_) fun _ _ z=>False.elim z;cases f with
 | next =>
  obtain⟨σ',H8,I8,q8⟩:=hsp;exact j3 (I8.outx I.ok) hN hi hk fun s9 I9=>⟨_,H8,I9,q8⟩
 | brk =>
  obtain⟨σ',H8,I8,q8⟩:=hsp;exact j3 (I8.outx I.ok) hN hi hk fun s9 I9=>⟨_,H8,I9,q8⟩
 | cont =>
  obtain⟨σ',H8,I8,q8⟩:=hsp;exact j3 (I8.outx I.ok) hN hi hk fun s9 I9=>⟨_,H8,I9,q8⟩
 | ret u =>
  obtain⟨v,σ',H8,I8,r8,q8⟩:=hsp;exact j3 (I8.outx I.ok) hN hi hk fun s9 I9=>⟨v,_,H8,I9,r8,q8⟩
end
def IsX (H:Hp)(a C:Addr):Prop:=∃φ,H a=some (.ext φ)/\∀h,φ h->eO a C h
def AD (K:PySem.W.Frag):List V->Hp->VK->Prop:=fun xs H Q=>∃a C c u b,xs=[.ref a,c]/\IsX H a C/\dR K C/\(c= .ref u/\PySem.W.kitOne K (.ref C) (.ref u)=some b)/\Q (.bl b) H
def uT (K:PySem.W.Frag):List V->Hp->VK->Prop:=fun xs H Q=>∃a C n b,xs=[.ref a,.ty n]/\IsX H a C/\dR K C/\PySem.W.kitOne K (.ref C) (.type n)=some b/\Q (.bl b) H
theorem DS {X:Cx}:cV X (.builtin "isinstance") (AD X.K):=by
 intro pins s σ H xs us Q I r h;obtain⟨a,C,c,u,b,rfl,hs,k,⟨rfl,e⟩,q⟩:=h;obtain⟨v1,v2,rfl,r1,r2⟩:=yR r;obtain rfl:v1= .ref a:=r1;obtain rfl:v2= .ref u:=r2;obtain⟨φ,hs,hφ⟩:=hs;obtain⟨z,_⟩:=I.hok a _ hs;exact kia_one (v3 k) I.kIn (hφ _ z) e (fun z=>by cases z) fun tk=>⟨.bl b,H,I.tok tk,rfl,q⟩
theorem AY {X:Cx}:cV X (.builtin "isinstance") (uT X.K):=by
 intro pins s σ H xs us Q I r h;obtain⟨a,C,n,b,rfl,hs,k,e,q⟩:=h;obtain⟨v1,v2,rfl,r1,r2⟩:=yR r;obtain rfl:v1= .ref a:=r1;obtain rfl:v2= .type n:=r2;obtain⟨φ,hs,hφ⟩:=hs;obtain⟨z,_⟩:=I.hok a _ hs;exact kia_one (v3 k) I.kIn (hφ _ z) e (fun z=>by cases z) fun tk=>⟨.bl b,H,I.tok tk,rfl,q⟩
end L2
namespace L2
open PySem PySem.Spec PyProof.Rows PySem.W
section
variable {X:Cx}{x:Str}{j:Nat}{p pos:Pos}{e v1 v2:Expr}{es:List Expr}{te:TE}{t:TJ}
end
theorem FB {C:Addr}{E:XK}{t:TA}{D:fG}{σ:St}{H:Hp} (h:t σ H fun vs H1=>vs.length<=sizeLine/\E (.ref C) none H1):BP C E t D σ H:=h
end L2
namespace L2
open PySem PySem.W
theorem uG:bootBuiltins "ValueError" =some (.type "ValueError"):=PyProof.Rows.Boot.«ValueError»
section
variable {K:Frag}{C D:Addr}{cd:ClassData}{b:Bool}
theorem rB (c:clsIn K D=some cd)(t:typeIn K (.ref D)=some (.type "type"))(sb:subIn K (.ref D) (.type "BaseException")=some true)(s:subIn K (.ref C) (.ref D)=some b):exmOne K (.ref C) (.ref D)=some b:=by
 unfold exmOne;rw[if_pos (by rw[sb];rfl)];show (if ((clsIn K D).isSome&&typeIn K (.ref D)==some (.type "type"))=true then subIn K (.ref C) (.ref D) else none)=_;rw[c,t,if_pos (by rfl)];exact s
theorem qO {n:String}(hm:kitMeta n=true)(s:subIn K (.ref C) (.type n)=some b):kitOne K (.ref C) (.type n)=some b:=by
 unfold kitOne;rw[if_neg (by intro h;cases (beq_iff_eq.mp h))];show (if kitMeta n=true then subIn K (.ref C) (.type n) else none)=_;rw[if_pos hm];exact s
end
theorem dL:kitMeta "ValueError" =true:=by decide +kernel
variable {K:Frag}{H:Hp}{Q:VK}
theorem MJ {a C D:Addr}{b:Bool} (e:H a=some (.ext (eO a C))) (k:dR K C) (i:kitOne K (.ref C) (.ref D)=some b) (h:Q (.bl b) H):AD K [.ref a,.ref D] H Q:=⟨a,C,.ref D,D,b,rfl,⟨_,e,fun _ z=>z⟩,k,⟨rfl,i⟩,h⟩
theorem IG {a C:Addr}{n:String}{b:Bool} (e:H a=some (.ext (eO a C))) (k:dR K C) (i:kitOne K (.ref C) (.type n)=some b) (h:Q (.bl b) H):uT K [.ref a,.ty n] H Q:=⟨a,C,n,b,rfl,⟨_,e,fun _ z=>z⟩,k,i,h⟩
theorem J8 {a C D dx:Addr}{b:Bool} (e:H a=some (.ext (ExcDAt a C dx))) (k:dR K C) (i:kitOne K (.ref C) (.ref D)=some b) (h:Q (.bl b) H):AD K [.ref a,.ref D] H Q:=⟨a,C,.ref D,D,b,rfl,⟨_,e,fun _ z=>z.at⟩,k,⟨rfl,i⟩,h⟩
theorem E1 {a C dx:Addr}{n:String}{b:Bool} (e:H a=some (.ext (ExcDAt a C dx))) (k:dR K C) (i:kitOne K (.ref C) (.type n)=some b) (h:Q (.bl b) H):uT K [.ref a,.ty n] H Q:=⟨a,C,n,b,rfl,⟨_,e,fun _ z=>z.at⟩,k,i,h⟩
end L2
namespace L2
open PySem PySem.W
theorem d7 {X:Cx}(K:Frag)(h:X.K=K):cV X (.builtin "isinstance") (AD K):=by
 subst h;exact DS
theorem yW {X:Cx}(K:Frag)(h:X.K=K):cV X (.builtin "isinstance") (uT K):=by
 subst h;exact AY
end L2
set_option maxHeartbeats 4000000
namespace L2
open PySem PySem.Spec PyProof.Rows
section
variable {X:Cx}{pins:List (Addr×Obj)}{σ:St}{H:Hp}{s:Shared}
end
section
variable {X:Cx}{CX:CXT}{k k':Nat}{sp:Sp}{E:XK}{x y:Str}{p pos:Pos}{e:Expr}{es:List Expr}{t:TA}{i:Nat}{c:Addr}
end
section
variable {P:Program}{w:World}{K:PySem.W.Frag}{mg:Str->Option Value}{base:Heap}
end
section
variable {X:Cx}{k k':Nat}{x:Str}{p pos:Pos}{e:Expr}{es:List Expr}{t:TA}
end
section
variable {X:Cx}{args:Arguments}{body:Expr}{lsc:Scope}{pos:Pos}{y:Str}{c cL PL:Addr}
end
end L2
namespace L2
open PySem PySem.Spec PyProof.Rows
section
variable {P:Program}{w:World}{K:PySem.W.Frag}{mg:Str->Option Value}{base:Heap}
end
section
variable {X:Cx}{o:Expr}{to:TE}{ap pos:Pos}
end
section
variable {X:Cx}{k k':Nat}{sp:Sp}{x m:Str}{p pos apos:Pos}{e:Expr}{es:List Expr}{t:TA}{dvs:List V}
end
end L2
namespace L2
open PySem PySem.Spec PyProof.Rows
section
variable {P:Program}{w:World}
end
section
variable {P:Program}{w:World}{K:PySem.W.Frag}{mg:Str->Option Value}{base:Heap}
end
section
variable {X:Cx}{st:Stmt}{rest:List Stmt}{t:TS}{u:fG->(St->V->Hp->Prop)->St->Hp->Prop}{e:Expr}{te:TE}{pos:Pos}
end
section
variable {P:Program}{w:World}{K:PySem.W.Frag}{mg:Str->Option Value}{base:Heap}
end
section
open PySem.W
variable {X:Cx}{i j:Nat}{n x y:Str}{T:Addr}{np yp hpos pos epos:Pos}{e:Expr}{tc:XK->TE}{b₀:Stmt}{suite:List Stmt}{ts:TS}
end
end L2
namespace L2
open PySem PySem.Spec PyProof.Rows
end L2
namespace L2
open PySem PySem.Spec PyProof.Rows
section
variable {X:Cx}
end
end L2
namespace L2
open PySem PySem.Spec PyProof.Rows
section
variable {κ:Type}[DecidableEq κ]
def bH (kvs:List (κ×V))(k:κ):Option V:=(kvs.find? fun kv=>decide (kv.1=k)).map (·.2)
def cU (kvs:List (κ×V))(k:κ)(v:V):List (κ×V) :=
 if (kvs.any fun kv=>decide (kv.1=k))=true then kvs.map (fun kv=>if kv.1=k then (kv.1,v) else kv) else kvs++[(k,v)]
theorem cQ {p:κ×V}{r:List (κ×V)}{k:κ} (e:p.1=k):bH (p::r) k=some p.2:=by simp[bH,List.find?_cons,e]
theorem cI {p:κ×V}{r:List (κ×V)}{k:κ} (e:¬p.1=k):bH (p::r) k=bH r k:=by simp[bH,List.find?_cons,e]
theorem fS (k:κ):∀kvs:List (κ×V),(kvs.any fun kv=>decide (kv.1=k))=(bH kvs k).isSome
 | []=>rfl
 | p::r=>by
  rw[List.any_cons]
  by_cases e:p.1=k
  ·simp only[cQ e,decide_eq_true e,Bool.true_or,Option.isSome_some]
  ·rw[cI e,decide_eq_false e,Bool.false_or];exact fS k r
theorem vR (k j:κ)(y:V):∀kvs:List (κ×V),bH (kvs.map fun kv=>if kv.1=k then (kv.1,y) else kv) j=(bH kvs j).map fun x=>if j=k then y else x
 | []=>rfl
 | p::r=>by
  have ih:=vR k j y r;rw[List.map_cons]
  by_cases h:p.1=k
  ·rw[if_pos h]
   by_cases e:p.1=j
   ·rw[cQ (p:=(p.1,y)) e,cQ e,Option.map_some,if_pos (e.symm.trans h)]
   ·rw[cI (p:=(p.1,y)) e,cI e,ih]
  ·rw[if_neg h]
   by_cases e:p.1=j
   ·rw[cQ (p:=p) e,cQ e,Option.map_some,if_neg (fun z=>h (e.trans z))]
   ·rw[cI (p:=p) e,cI e,ih]
theorem tH (k j:κ)(y:V):∀kvs:List (κ×V),bH kvs k=none->bH (kvs++[(k,y)]) j=if j=k then some y else bH kvs j
 | [],_=>by
  by_cases e:k=j
  ·rw[if_pos e.symm];exact cQ (p:=(k,y)) e
  ·rw[if_neg (fun z=>e z.symm)];exact cI (p:=(k,y)) e
 | p::r,hn=>by
  rw[List.cons_append];have hk:¬p.1=k:=fun z=>by rw[cQ z]at hn;cases hn
  rw[cI hk]at hn;have ih:=tH k j y r hn
  by_cases e:p.1=j
  ·rw[cQ e,cQ e,if_neg (fun z=>hk (e.trans z))]
  ·rw[cI e,cI e,ih]
theorem v4 (kvs:List (κ×V))(k j:κ)(y:V):bH (cU kvs k y) j=if j=k then some y else bH kvs j:=by
 unfold cU
 by_cases a:(kvs.any fun kv=>decide (kv.1=k))=true
 ·rw[if_pos a,vR];rw[fS]at a
  by_cases e:j=k
  ·obtain⟨x,hx⟩:=Option.isSome_iff_exists.mp a;rw[if_pos e,e,hx,Option.map_some,if_pos rfl]
  ·rw[if_neg e];cases bH kvs j with
   | none=>rfl
   | some x=>rw[Option.map_some,if_neg e]
 ·rw[if_neg a];refine tH k j y kvs ?_;rw[fS]at a;cases q:bH kvs k with
  | none=>rfl
  | some x=>rw[q]at a;exact(a rfl).elim
theorem fN (kvs:List (κ×V))(k:κ)(v:V):(cU kvs k v).length<=kvs.length+1:=by
 unfold cU
 split
 ·rw[List.length_map];lia
 ·rw[List.length_append,List.length_cons,List.length_nil];lia
theorem u5 {kvs:List (κ×V)}{k:κ} (v:V) (h:bH kvs k=none):cU kvs k v=kvs++[(k,v)]:=by
 unfold cU;rw[fS,h];exact if_neg (by decide)
theorem RelO.isSome_eq {o:Option V}{u:Option Value} (r:RelO o u):o.isSome=u.isSome:=by
 cases o with
 | none=>cases u with
  | none=>rfl
  | some _=>exact(show False from r).elim
 | some _=>cases u with
  | none=>exact(show False from r).elim
  | some _=>rfl
theorem KV.val {kvs:List (κ×V)}{vs:List (κ×Value)} (r:KV kvs vs) (k:κ):RelO (bH kvs k) (valueAt vs k):=by
 unfold KV at r
 induction r with
 | nil=>exact True.intro
 | @cons p q ps qs h t ih =>
  obtain⟨h1,h2⟩:=h
  by_cases e:p.1=k
  ·have e':q.1=k:=h1.symm.trans e;have b:valueAt (q::qs) k=some q.2:=by simp[valueAt,List.find?_cons,e']
   rw[cQ e,b];exact h2
  ·have e':¬q.1=k:=fun z=>e (h1.trans z);have b:valueAt (q::qs) k=valueAt qs k:=by simp[valueAt,List.find?_cons,e']
   rw[cI e,b];exact ih
theorem KV.any {kvs:List (κ×V)}{vs:List (κ×Value)} (r:KV kvs vs) (k:κ):(kvs.any fun kv=>decide (kv.1=k))=vs.any fun kv=>decide (kv.1=k):=by
 unfold KV at r
 induction r with
 | nil=>rfl
 | cons h t ih=>rw[List.any_cons,List.any_cons,ih,h.1]
theorem KV.repl {kvs:List (κ×V)}{vs:List (κ×Value)} (r:KV kvs vs) (k:κ) {y:V}{u:Value} (ry:RelV y u) :
  KV (kvs.map fun kv=>if kv.1=k then (kv.1,y) else kv) (vs.map fun kv=>if kv.1=k then (kv.1,u) else kv):=by
 unfold KV at r ⊢
 induction r with
 | nil=>exact .nil
 | @cons p q ps qs h t ih =>
  rw[List.map_cons,List.map_cons];refine .cons ?_ ih;obtain⟨h1,h2⟩:=h
  by_cases e:p.1=k
  ·rw[if_pos e,if_pos (h1.symm.trans e)];exact⟨h1,ry⟩
  ·rw[if_neg e,if_neg (fun z=>e (h1.trans z))];exact⟨h1,h2⟩
theorem KV.put {kvs:List (κ×V)}{vs:List (κ×Value)} (r:KV kvs vs) (k:κ) {y:V}{u:Value} (ry:RelV y u):KV (cU kvs k y) (stored vs k u):=by
 unfold cU stored;rw[r.any k]
 by_cases e:(vs.any fun kv=>decide (kv.1=k))=true
 ·rw[if_pos e,if_pos e];exact r.repl k ry
 ·rw[if_neg e,if_neg e];exact Paired.snoc r ⟨rfl,ry⟩
theorem KV.length {kvs:List (κ×V)}{vs:List (κ×Value)} (r:KV kvs vs):kvs.length=vs.length:=Paired.length r
end
theorem nN {P:Program}{w:World}{k:Key}{u:Value} (r:RelV (kV k) u):(b8 P w).is k u=true:=by
 cases k with
 | inl i=>obtain⟨t,e⟩:=(show ∃t,u=Value.int i t from r);subst e;exact xA P w i t
 | inr x=>obtain⟨t,e⟩:=(show ∃t,u=Value.str x t from r);subst e;exact wV P w x t
theorem tY {P:Program}{w:World}:∀{ks:List Key}{us:List Value},Vals (ks.map kV) us->ItemsAre (b8 P w) ks us
 | [],_,r=>by rw[List.map_nil]at r;cases r;exact .nil
 | k::ks,_,r=>by
  rw[List.map_cons]at r;cases r with
  | cons h t=>exact .cons (nN h) (tY t)
abbrev KT (H:Hp):List (List Key×V)->List (List Key×Addr×Value)->Prop:=Paired fun p q=>p.1=q.1/\H q.2.1=some (.tup (p.1.map kV))/\RelV p.2 q.2.2
theorem KT.val {H:Hp}{kvs:List (List Key×V)}{xs:List (List Key×Addr×Value)} (r:KT H kvs xs) (k:List Key):RelO (bH kvs k) ((atKey xs k).map (·.2)):=by
 induction r with
 | nil=>exact True.intro
 | @cons p q ps qs h t ih =>
  obtain⟨h1,_,h2⟩:=h
  by_cases e:p.1=k
  ·have e':q.1=k:=h1.symm.trans e;have b:atKey (q::qs) k=some q.2:=by simp[atKey,List.find?_cons,e']
   rw[cQ e,b];exact h2
  ·have e':¬q.1=k:=fun z=>e (h1.trans z);have b:atKey (q::qs) k=atKey qs k:=by simp[atKey,List.find?_cons,e']
   rw[cI e,b];exact ih
theorem KT.repl {H:Hp}{kvs:List (List Key×V)}{xs:List (List Key×Addr×Value)} (r:KT H kvs xs) (k:List Key) {y:V}{u:Value} (ry:RelV y u) :
  KT H (kvs.map fun kv=>if kv.1=k then (kv.1,y) else kv) (xs.map (putAt k u)):=by
 induction r with
 | nil=>exact .nil
 | @cons p q ps qs h t ih =>
  rw[List.map_cons,List.map_cons];refine .cons ?_ ih;obtain⟨h1,h2,h3⟩:=h;unfold putAt
  by_cases e:p.1=k
  ·rw[if_pos e,if_pos (h1.symm.trans e)];exact⟨h1,h2,ry⟩
  ·rw[if_neg e,if_neg (fun z=>e (h1.trans z))];exact⟨h1,h2,h3⟩
theorem KT.put {H:Hp}{kvs:List (List Key×V)}{xs:List (List Key×Addr×Value)} (r:KT H kvs xs) (k:List Key) {b:Addr}{y:V}{u:Value} (hb:H b=some (.tup (k.map kV))) (ry:RelV y u) :
  KT H (cU kvs k y) (storedH xs k b u):=by
 have e:(kvs.any fun kv=>decide (kv.1=k))=(atKey xs k).isSome:=by
  rw[fS,(r.val k).isSome_eq,Option.isSome_map]
 unfold cU storedH;rw[e]
 by_cases q:(atKey xs k).isSome=true
 ·rw[if_pos q,if_pos q];exact r.repl k ry
 ·rw[if_neg q,if_neg q];exact Paired.snoc r ⟨rfl,hb,ry⟩
theorem KT.keeps {H H':Hp}{kvs:List (List Key×V)}{xs:List (List Key×Addr×Value)} (r:KT H kvs xs) (ht:∀b ys,H b=some (.tup ys)->H' b=some (.tup ys)):KT H' kvs xs :=
 Paired.mapP r fun _ _ z=>⟨z.1,ht _ _ z.2.1,z.2.2⟩
section
variable {P:Program}{w:World}{H:Hp}{h:Heap}{a:Addr}
theorem GA {u:HO}(ok:HOk P w H h)(e:Rd H a u):ObjOk P w H h a u:=e.ok ok
theorem rF {kvs:List (Key×V)}(ok:HOk P w H h)(e:Rd H a (.dK kvs)):kvs.length<=sizeLine/\(a==sysModules)=false/\∃vs,KV kvs vs/\h.DictOf (b8 P w) a vs :=
 show ObjOk P w H h a (.dK kvs) from GA ok e
theorem OV {kvs:List (Key×V)}(ok:HOk P w H h)(e:H a=some (.dK kvs)):kvs.length<=sizeLine/\(a==sysModules)=false/\∃vs,KV kvs vs/\h.DictOf (b8 P w) a vs:=rF ok (.inl e)
theorem lR {ks:List Key}(ok:HOk P w H h)(e:H a=some (.tup (ks.map kV))):(tupleKind (b8 P w)).is h ks a:=by
 obtain⟨_,its,r,o,h1,h2,n,h3⟩:=(show ObjOk P w H h a (.tup (ks.map kV)) from ok a _ e)
 exact⟨o,its.toArray,n,h1,h2,h3,by simpa using tY r⟩
theorem qE {kvs:List (List Key×V)}(ok:HOk P w H h)(e:Rd H a (.dT kvs)):kvs.length<=sizeLine/\(a==sysModules)=false ∧
  ∃xs,KT H kvs xs/\h.DictOfH (tupleKind (b8 P w)) a xs:=by
 obtain⟨z,y,xs,r,o,es,ep,h1,h2,h3,h4,h5⟩:=(show ObjOk P w H h a (.dT kvs) from GA ok e)
 refine⟨z,y,xs,r,o,es,ep,h1,h2,h3,h4,fun x hx=> ?_,h5⟩;have all:∀{l:List (List Key×V)}{m:List (List Key×Addr×Value)},KT H l m->∀x∈m,(tupleKind (b8 P w)).is h x.1 x.2.1:=by
  intro l m q
  induction q with
  | nil=>intro x hx;exact nomatch hx
  | @cons p q ps qs hq t ih =>
   intro x hx;rcases List.mem_cons.mp hx with e|hx
   ·subst e;exact lR ok (by rw[←hq.1];exact hq.2.1)
   ·exact ih x hx
 exact all r x hx
theorem OE {kvs:List (List Key×V)}(ok:HOk P w H h)(e:H a=some (.dT kvs)):kvs.length<=sizeLine/\(a==sysModules)=false ∧
  ∃xs,KT H kvs xs/\h.DictOfH (tupleKind (b8 P w)) a xs:=qE ok (.inl e)
end
def iS (H:Hp)(a:Addr)(y:V)(r:Option V):Prop :=
 (∃kvs k,Rd H a (.dK kvs)/\y=kV k/\r=bH kvs k)∨∃kvs k b,Rd H a (.dT kvs)/\y= .ref b/\H b=some (.tup (k.map kV))/\r=bH kvs k
def DPut (H:Hp)(a:Addr)(y v:V)(H':Hp):Prop :=
 (∃kvs k,H a=some (.dK kvs)/\y=kV k/\kvs.length<sizeLine/\H'=upd H a (.dK (cU kvs k v))) ∨
 ∃kvs k b,H a=some (.dT kvs)/\y= .ref b/\H b=some (.tup (k.map kV))/\kvs.length<sizeLine/\H'=upd H a (.dT (cU kvs k v))
theorem DPut.k {H:Hp}{a:Addr}{kvs:List (Key×V)}{k:Key}{v:V} (e:H a=some (.dK kvs)) (hl:kvs.length<sizeLine):DPut H a (kV k) v (upd H a (.dK (cU kvs k v))):= .inl ⟨kvs,k,e,rfl,hl,rfl⟩
section
variable {X:Cx}{pins:List (Addr×Obj)}{σ:St}{H:Hp}{s:Shared}{a:Addr}{y v:V}{u r:Value}{o:Option V}{A:Around}{E:Value->Shared->Prop}
theorem Inv.big (I:Inv X pins σ H s):sysModules<s.heap.objs.size:=by
 have h:mainGlobals<s.heap.objs.size:=(I.mod.glob.keeps I.bk).lt;exact Nat.lt_trans (by decide) h
theorem tI {Q:Value->Shared->Prop}(hu:A.units+1<cLine)(I:Inv X pins σ H s)(g:iS H a y (some v))(ry:RelV y u)(h:∀w' s',Inv X pins σ H s'->RelV v w'->Q w' s') :
  wpAny (model X.prog X.w) A (getItem (.ref a) u) Q E s:=by
 rcases g with⟨kvs,k,e,ey,l⟩|⟨kvs,k,b,e,ey,eb,l⟩
 ·subst ey;obtain⟨z,hd,vs,rel,dd⟩:=rF I.hok e;obtain⟨w',hw,rw'⟩:=RelO.some_of (v:=v) (o:=valueAt vs k) (by rw[l];exact rel.val k);exact wpAny_getItem_of (nN ry) dd.mapOf hw (h w' _ (I.tok _) rw')
 ·subst ey;cases (show u=Value.ref b from ry);obtain⟨z,hd,xs,rel,dd⟩:=qE I.hok e;obtain⟨w',hw,rw'⟩:=RelO.some_of (v:=v) (o:=(atKey xs k).map (·.2)) (by rw[l];exact rel.val k);obtain⟨p,hp,hp2⟩:=Option.map_eq_some_iff.mp hw;refine wpAny_getItem_heap (tupleKind_room_in1 hu) (lR I.hok eb) dd hp ?_;rw[hp2];exact h w' _ (I.tok _) rw'
theorem PX {Q:Value->Shared->Prop}(hu:A.units+1<cLine)(I:Inv X pins σ H s)(g:iS H a y o)(ry:RelV y u)(h:∀s',Inv X pins σ H s'->Q (.bool o.isSome) s') :
  wpAny (model X.prog X.w) A (compareOp .In u (.ref a)) Q E s:=by
 rcases g with⟨kvs,k,e,ey,l⟩|⟨kvs,k,b,e,ey,eb,l⟩
 ·subst ey;obtain⟨z,hd,vs,rel,dd⟩:=rF I.hok e;refine wpAny_in_of (nN ry) hd dd.mapOf ?_;rw[←(rel.val k).isSome_eq,←l];exact h _ (I.tok _)
 ·subst ey;cases (show u=Value.ref b from ry);obtain⟨z,hd,xs,rel,dd⟩:=qE I.hok e;refine wpAny_in_heap (tupleKind_room_in1 hu) (lR I.hok eb) hd dd ?_;have q:=(rel.val k).isSome_eq;rw[Option.isSome_map]at q;rw[←q,←l];exact h _ (I.tok _)
theorem JJ {Q:Value->Shared->Prop}(hu:A.units+1<cLine)(I:Inv X pins σ H s)(g:iS H a y o)(ry:RelV y u)(h:∀s',Inv X pins σ H s'->Q (.bool (!o.isSome)) s') :
  wpAny (model X.prog X.w) A (compareOp .NotIn u (.ref a)) Q E s:=by
 rcases g with⟨kvs,k,e,ey,l⟩|⟨kvs,k,b,e,ey,eb,l⟩
 ·subst ey;obtain⟨z,hd,vs,rel,dd⟩:=rF I.hok e;refine wpAny_notIn_of (nN ry) hd dd.mapOf ?_;rw[←(rel.val k).isSome_eq,←l];exact h _ (I.tok _)
 ·subst ey;cases (show u=Value.ref b from ry);obtain⟨z,hd,xs,rel,dd⟩:=qE I.hok e;refine wpAny_notIn_heap (tupleKind_room_in1 hu) (lR I.hok eb) hd dd ?_;have q:=(rel.val k).isSome_eq;rw[Option.isSome_map]at q;rw[←q,←l];exact h _ (I.tok _)
theorem yB {h':Heap}{t':Nat}{ob:HO} (I:Inv X pins σ H s) (mu:Mut (H a)) (hs:Heap.SameBut a s.heap h') (he:∃q,h'.get? a=some q) (new:ObjOk X.prog X.w (upd H a ob) h' a ob) :
  Inv X pins σ (upd H a ob) { s with heap:=h',toks:=t' } :=
 I.write (x:=a) (e:=a) mu (.inl rfl) (fun b q hb z=>(hs.2 b hb).trans z) he new
theorem CZ {P:Program}{w:World}{H':Hp}{h':Heap}{kvs:List (Key×V)}{vs:List (Key×Value)} (z:kvs.length<=sizeLine) (hd:(a==sysModules)=false) (rel:KV kvs vs) (dd:h'.DictOf (b8 P w) a vs) :
  ObjOk P w H' h' a (.dK kvs):=⟨z,hd,vs,rel,dd⟩
theorem tV {H':Hp}{Q:Unit->Shared->Prop} (hu:A.units+1<cLine) (I:Inv X pins σ H s) (g:DPut H a y v H') (ry:RelV y u) (rv:RelV v r) (h:∀s',Inv X pins σ H' s'->Q () s') :
  wpAny (model X.prog X.w) A (setItem (.ref a) u r) Q E s:=by
 rcases g with⟨kvs,k,e,ey,l,eH⟩|⟨kvs,k,b,e,ey,eb,l,eH⟩
 ·subst ey eH;obtain⟨z,hd,vs,rel,dd⟩:=OV I.hok e;have hz:vs.length<=sizeLine:=by rw[←rel.length];exact z
  have hl:(cU kvs k v).length<=sizeLine:=by have:=fN kvs k v;lia
  refine wpAny_setItem_pairs (hsz:=hz) (nN ry) dd fun h' dd' hs=>h _ ?_;have he:∃q,h'.get? a=some q:=let ⟨q,_,_,hq,_⟩:=dd';⟨q,hq⟩;exact yB I (by rw[e];exact True.intro) hs he (CZ hl hd (rel.put k rv) dd')
 ·subst ey eH;cases (show u=Value.ref b from ry);obtain⟨z,hd,xs,rel,dd⟩:=OE I.hok e;have hz:xs.length<=sizeLine:=by rw[←Paired.length rel];exact z
  have hl:(cU kvs k v).length<=sizeLine:=by have:=fN kvs k v;lia
  refine wpAny_setItem_heap (hsz:=hz) (tupleKind_room_in1 hu) (lR I.hok eb) dd fun h' dd' hs=>h _ ?_;obtain⟨q,es,ep,hq,h2,h3,h4,_,h5⟩:=dd';refine yB I (by rw[e];exact True.intro) hs ⟨q,hq⟩ ⟨hl,hd,_,(rel.put k eb rv).keeps fun c ys ec=> ?_,q,es,ep,hq,h2,h3,h4,h5⟩;rw[aG (PJ ec e (fun z=>nomatch z))];exact ec
end
section
variable {X:Cx}{pins:List (Addr×Obj)}{σ:St}{H:Hp}{s:Shared}{a:Addr}{kvs:List (Key×V)}{k:Key}{u:Value}{A:Around}{E:Value->Shared->Prop}
end
def NA (i:Expr):Prop:=∀ov iv,subscripted i false ov iv=operate [ov,iv] (getItem ov iv)
theorem IO {prog:Program}{w:World}{A:Around}{E:Value->Shared->Prop}{s:Shared}{env:Env}{value slice:Expr}{pos:Pos}{T id:String}{Q:Value->Shared->Prop}
  (hl:typeLookup (.type T) "__getitem__" =pure (some (.builtin id)))(hs:NA slice)
  (h:wpAny (model prog w) A (eval value env) (fun o s₁=>wpAny (model prog w) A (eval slice env) (fun i s₂=>s₂.TypeIs o T/\wpAny (model prog w) A (getItem o i) Q E s₂) E s₁) E s) :
  wpAny (model prog w) A (eval (.Subscript value slice pos) env) Q E s:=by
 refine Subscript_ (wpAny_mono h (fun o s₁ h₁=>wpAny_mono h₁ (fun i s₂ h₂=> ?_) fun _ _ x=>x) fun _ _ x=>x);obtain⟨hT,h₂⟩:=h₂;unfold subscriptTail;refine wpAny_bind ?_;rw[getitemInPython_of_ne hT.not_modules];refine wpAny_bind (wpAny_specialOf hT hl ?_);have fin:wpAny (model prog w) A (subscripted slice false o i) (fun r s₃=>wpAny (model prog w) A (letTemporaryGo value o r >>= fun _=>pure r) Q E s₃) E s₂:=by
  rw[hs o i];exact wpAny_operating (wpAny_mono h₂ (fun r s₃ h₃=>wpAny_bind (wpAny_letTemporaryGo (wpAny_pure h₃))) fun _ _ x=>x)
 first
  | exact wpAny_pure (wpAny_bind fin)
  | exact wpAny_bind (wpAny_pure (wpAny_bind fin))
  | exact wpAny_bind fin
theorem wZ {X:Cx}{pins:List (Addr×Obj)}{σ:St}{H:Hp}{s:Shared}{a:Addr}{y:V}{o:Option V} (I:Inv X pins σ H s) (g:iS H a y o):s.TypeIs (.ref a) "dict" :=by
 rcases g with⟨kvs,k,e,_,_⟩|⟨kvs,k,b,e,_,_,_⟩
 ·obtain⟨_,_,vs,_,dd⟩:=rF I.hok e;exact dd.typeIs
 ·obtain⟨_,_,xs,_,dd⟩:=qE I.hok e;exact dd.typeIs
def GJ (td ty:TE):TE:=fun σ H Q=>td σ H fun x H1=>ty σ H1 fun y H2=>∃a v,x= .ref a/\iS H2 a y (some v)/\Q v H2
def LO (ty td:TE):TE:=fun σ H Q=>ty σ H fun y H1=>td σ H1 fun x H2=>∃a o,x= .ref a/\iS H2 a y o/\Q (.bl o.isSome) H2
def xL (ty td:TE):TE:=fun σ H Q=>ty σ H fun y H1=>td σ H1 fun x H2=>∃a o,x= .ref a/\iS H2 a y o/\Q (.bl (!o.isSome)) H2
def FX (td ty tv:TE):TS:=fun D σ H=>tv σ H fun v H1=>td σ H1 fun x H2=>ty σ H2 fun y H3=>∃a H4,x= .ref a/\DPut H3 a y v H4/\D.nx σ H4
def F0 (td ty tv:TE)(rd:V->V->Hp->VK->Prop):TS:=fun D σ H=>td σ H fun x H1=>ty σ H1 fun y H2=>∃a v,x= .ref a/\iS H2 a y (some v) ∧
 tv σ H2 fun y2 H3=>rd v y2 H3 fun z H4=>∃H5,DPut H4 a y z H5/\D.nx σ H5
section
variable {X:Cx}{o i e value:Expr}{pos pos' tpos:Pos}{td ty tv:TE}
theorem xN (hu:X.A.units+1<cLine)(ho:PE X o td)(hi:PE X i ty)(hs:NA i):PE X (.Subscript o i pos) (GJ td ty):=by
 intro pins s σ H Q I h;refine IO PySem.F.slot_dict_getitem.lookup hs (thn (ho pins s σ H _ I h) fun u s1 ⟨x,H1,I1,rx,q1⟩=>thn (hi pins s1 σ H1 _ I1 q1) fun iv s2 ⟨y,H2,I2,ry,a,v,ex,g,q2⟩=> ?_);subst ex;obtain rfl:u=Value.ref a:=rx;exact⟨wZ I2 g,tI hu I2 g ry fun w' s3 I3 rw'=>⟨v,H2,I3,rw',q2⟩⟩
theorem LM (hu:X.A.units+1<cLine)(hi:PE X i ty)(ho:PE X o td):PC X .In i o (LO ty td):=by
 intro pins s σ H Q I h;refine thn (hi pins s σ H _ I h) fun iv s1 ⟨y,H1,I1,ry,q1⟩=>thn (ho pins s1 σ H1 _ I1 q1) fun u s2 ⟨x,H2,I2,rx,a,ov,ex,g,q2⟩=> ?_;subst ex;obtain rfl:u=Value.ref a:=rx;exact PX hu I2 g ry fun s3 I3=>⟨.bl ov.isSome,H2,I3,rfl,q2⟩
theorem C8 (hu:X.A.units+1<cLine)(hi:PE X i ty)(ho:PE X o td):PC X .NotIn i o (xL ty td):=by
 intro pins s σ H Q I h;refine thn (hi pins s σ H _ I h) fun iv s1 ⟨y,H1,I1,ry,q1⟩=>thn (ho pins s1 σ H1 _ I1 q1) fun u s2 ⟨x,H2,I2,rx,a,ov,ex,g,q2⟩=> ?_;subst ex;obtain rfl:u=Value.ref a:=rx;exact JJ hu I2 g ry fun s3 I3=>⟨.bl (!ov.isSome),H2,I3,rfl,q2⟩
theorem sN (hu:X.A.units+1<cLine)(ho:PE X o td)(hi:PE X i ty)(hv:PE X value tv)(hs:swapsWith value (some (.Subscript o i pos')) pos.line X.env=pure false) :
  PS X (.Assign [.Subscript o i pos'] value pos) (FX td ty tv):=by
 intro pins s σ H D I h;refine wpAny_Assign_Subscript (thn (hv pins s σ H _ I h) fun r s1 ⟨v,H1,I1,rv,q1⟩=>thn (ho pins s1 σ H1 _ I1 q1) fun u s2 ⟨x,H2,I2,rx,q2⟩=>thn (hi pins s2 σ H2 _ I2 q2) fun iv s3 ⟨y,H3,I3,ry,a,H4,ex,g,q3⟩=> ?_) hs;subst ex;obtain rfl:u=Value.ref a:=rx;exact tV hu I3 g ry rv fun s4 I4=>⟨σ,H4,I4,q3⟩
theorem IX {op:Operator}{rd:V->V->Hp->VK->Prop} (hu:X.A.units+1<cLine) (ho:PE X o td) (hi:PE X i ty) (hv:PE X value tv) (hop:MK X op rd)
  (ha:∀ov iv new,augStore i ov iv new=(do holding [new,ov,iv] (setItem ov iv new);release [new,ov,iv] [];pure .next)):PS X (.AugAssign (.Subscript o i tpos) op value pos) (F0 td ty tv rd):=by
 intro pins s σ H D I h;refine wpAny_AugAssign_SubscriptAny (thn (ho pins s σ H _ I h) fun u s1 ⟨x,H1,I1,rx,q1⟩=>thn (hi pins s1 σ H1 _ I1 q1) fun iv s2 ⟨y,H2,I2,ry,a,v,ex,g,q2⟩=> ?_) ha;subst ex;obtain rfl:u=Value.ref a:=rx;refine tI hu I2 g ry fun w' s3 I3 rw'=>thn (hv pins s3 σ H2 _ I3 q2) fun w2 s4 ⟨y2,H3,I4,ry2,q3⟩=>thn (hop pins s4 σ H3 v y2 w' w2 _ I4 rw' ry2 q3) fun w3 s5 ⟨z,H4,I5,rz,H5,g5,q4⟩=> ?_;exact tV hu I5 g5 ry rz fun s6 I6=>⟨σ,H5,I6,q4⟩
end
theorem EG {P:Program}{w:World}{H:Hp} (h:Heap) (hb:sysModules<h.objs.size):ObjOk P w H (h.push { cls:= .type "dict",data:= .dict #[] }) h.objs.size (.dK []) :=
 ⟨Nat.zero_le _,beq_eq_false_iff_ne.mpr (Ne.symm (Nat.ne_of_lt hb)),[],.nil,Heap.DictOf.new h⟩
def BO:TE:=fun _ H Q=>∀p,H p=none->Q (.ref p) (upd H p (.dK []))
section
variable {X:Cx}{pos:Pos}
theorem oR:PE X (.Dict [] [] pos) BO:=fun pins s σ H Q I h =>
 wpAny_Dict_empty ⟨.ref s.heap.objs.size,_,I.laid (a:=s.heap.objs.size) (o:= .dK []) (t':=s.toks) (fun _ _ q=>Heap.get?_push_of_some _ q) (Nat.le_refl _) (EG s.heap I.big),rfl,h _ (I.hok.fresh (Nat.le_refl _))⟩
end
def gG (kvs more:List (Key×V)):List (Key×V):=more.foldl (fun acc kv=>cU acc kv.1 kv.2) kvs
theorem KV.merge:∀{more:List (Key×V)}{rs:List (Key×Value)}{kvs:List (Key×V)}{vs:List (Key×Value)},KV more rs->KV kvs vs->KV (gG kvs more) (merged vs rs):=by
 intro more rs kvs vs r;unfold KV at r
 induction r generalizing kvs vs with
 | nil=>intro q;exact q
 | @cons p q ps qs h t ih =>
  intro r0;have e:KV (cU kvs p.1 p.2) (stored vs q.1 q.2):=by
   have:=r0.put p.1 h.2;rw[←h.1];exact this
  exact ih e
theorem lA:∀(more kvs:List (Key×V)),(gG kvs more).length<=kvs.length+more.length
 | [],kvs=>by show kvs.length<=kvs.length+0;lia
 | p::r,kvs=>by
  have h1:=lA r (cU kvs p.1 p.2);have h2:=fN kvs p.1 p.2;show (gG (cU kvs p.1 p.2) r).length<=_;rw[List.length_cons];lia
section
variable {X:Cx}{pins:List (Addr×Obj)}{σ:St}{H:Hp}{s:Shared}{a:Addr}{y d:V}{u r:Value}{o:Option V}{A:Around}{E:Value->Shared->Prop}
end
section
variable {X:Cx}{o e f:Expr}{apos cpos:Pos}{td ty tx:TE}
end
section
variable {X:Cx}{pins:List (Addr×Obj)}{σ:St}{H:Hp}{s:Shared}{a:Addr}{kvs:List (Key×V)}{A:Around}{E:Value->Shared->Prop}
end
section
variable {X:Cx}{pins:List (Addr×Obj)}{σ:St}{H:Hp}{s:Shared}{a:Addr}{y:V}{u:Value}{A:Around}{E:Value->Shared->Prop}
end
end L2
namespace L2
open PySem PySem.Spec PyProof.Rows
section
variable {κ:Type}[DecidableEq κ]
theorem IE {kvs:List (κ×V)}{k:κ}{v:V} (h:bH kvs k=some v):k∈kvs.map (·.1):=by
 have q:(kvs.any fun kv=>decide (kv.1=k))=true:=by
  rw[fS,h]
  all_goals rfl
 obtain⟨p,hp,e⟩:=List.any_eq_true.mp q;exact List.mem_map.mpr ⟨p,hp,of_decide_eq_true e⟩
end
end L2
namespace L2
open PySem PySem.W PyProof.Rows
end L2
namespace L2
open PySem PySem.W PyProof.Rows PySem.Calls
section
variable {prog:Program}{w:World}{A:Around}{E:Value->Shared->Prop}{s:Shared}
end
end L2
namespace L2
open PySem PySem.W PyProof.Rows
section
variable {prog:Program}{w:World}{A:Around}{s:Shared}
end
section
variable {X:Cx}{pins:List (Addr×Obj)}{σ:St}{H:Hp}{s:Shared}
end
end L2
namespace L2
open PySem PySem.W PyProof.Rows
section
variable {prog:Program}{w:World}{A:Around}{E:Value->Shared->Prop}{s:Shared}{d it:Addr}{o:Obj}{es:Array DictEntry}{ep i:Nat}
theorem E2 {Q:Value->Shared->Prop}(hd:(d==sysModules)=false)(ho:s.heap.get? d=some o)(hc:o.ExactDict)(hq:o.data= .dict es ep)
  (k:Q (.ref s.heap.objs.size) { s with heap:=s.heap.push { cls:= .type "dict_keyiterator",data:= .fields #[.ref d,.int 0 0,.int es.size 0,.int ep 0] } }):wpAny (model prog w) A (pyIter (.ref d)) Q E s:=by
 have T:s.TypeIs (.ref d) "dict" :=⟨o,ho,hc.1⟩
 refine wpAny_pyIter_slot T F.slot_dict_iter (wpAny_call_entry F.slot_dict_iter T F.entry_dict_iter ?_ (F.args_dict_iter_1 _));unfold Builtin.«dict.__iter__» Builtin.Dict.dictSlotNone;refine wpAny_bind (wpAny_bind (wpAny_notOrdered_dict T (wpAny_pure ?_)));show wpAny _ A.in1 (Builtin.Dict.showsAll d >>= _) _ _ s;unfold Builtin.Dict.showsAll;rw[if_neg (fun z=>by rw[hd]at z;cases z)];refine wpAny_bind (wpAny_pure (wpAny_bind (wpAny_dictEntries ho hq (wpAny_bind (wpAny_dictEpoch ho hq ?_)))));exact wpAny_bind (wpAny_newObj_type (wpAny_pure ⟨_,rfl,"dict_keyiterator",_,⟨_,Heap.get?_push_size _ rfl,rfl⟩,F.slot_dict_keyiterator_next.lookup,k⟩))
theorem EK {Q:Option Value->Shared->Prop}{e:DictEntry} (hit:s.heap.IsKeyIter it d i es.size ep) (ho:s.heap.get? d=some o) (hq:o.data= .dict es ep) (hx:es[i]? =some e)
  (k:∀h',h'.IsKeyIter it d (i+1) es.size ep->Heap.SameBut it s.heap h'->Q (some e.key) { s with heap:=h' }):wpAny (model prog w) A (pyNext (.ref it)) Q E s:=by
 obtain⟨oi,hi,ci,di⟩:=id hit;have T:=hit.typeIs;unfold pyNext;refine wpAny_bind (wpAny_attempt (wpAny_callSpecial?_slot (name:=Str.ofString "__next__") T F.slot_dict_keyiterator_next (wpAny_call_entry F.slot_dict_keyiterator_next T F.entry_dict_keyiterator_next ?_ (F.args_dict_keyiterator_next_1 _))));refine wpAny_bind (wpAny_pure (wpAny_bind (wpAny_bind ?_)))
 first|refine wpAny_bind (wpAny_typeNameOfWhole_keyiter T (wpAny_pure (wpAny_bind (wpAny_fieldsOf hi di ?_))))|refine wpAny_bind (wpAny_typeNameOf_keyiter T (wpAny_pure (wpAny_bind (wpAny_fieldsOf hi di ?_))))
 simp only[show Builtin.Dict_items.ownsTuple "dict_keyiterator" =false by decide,Bool.false_eq_true,if_false];show wpAny _ A.in1 (if (Value.ref d==Value.none)=true then _ else _) _ _ s;rw[if_neg (show ¬(Value.ref d==Value.none)=true from Bool.false_ne_true)];refine wpAny_bind (wpAny_pure (wpAny_bind (wpAny_dictEntries ho hq ?_)));rw[if_neg (by simp)];refine wpAny_bind (wpAny_pure (wpAny_bind (wpAny_dictEpoch ho hq ?_)));rw[if_neg (by simp)];refine wpAny_pure ?_;simp only[show ¬((i:Int)<0) from by lia,if_false,Int.toNat_natCast,hx];refine wpAny_bind ?_
 first|refine wpAny_bind (wpAny_typeNameOfWhole_keyiter T (wpAny_pure (wpAny_bind (wpAny_isOneOf_keyiter T ?_))))|refine wpAny_bind (wpAny_typeNameOf_keyiter T (wpAny_pure (wpAny_bind (wpAny_isOneOf_keyiter T ?_))))
 show wpAny _ A.in1 (setField (.ref it) 1 (rawInt ((i:Int)+1)) >>= _) _ _ s;refine wpAny_bind (wpAny_setField hi di (by simp) ?_);have H2:(s.heap.update it (Obj.mapFields (·.setIfInBounds 1 (rawInt ((i:Int)+1))))).IsKeyIter it d (i+1) es.size ep :=
  ⟨_,Heap.get?_update_self _ hi (Obj.isFreed_of_fields (Obj.data_mapFields di _)),(Obj.cls_mapFields ..).trans ci,(Obj.data_mapFields di _).trans (by simp[rawInt])⟩
 refine wpAny_bind (wpAny_holding (wpAny_bind (wpAny_isOneOf_keyiter (s:={ s with heap:=s.heap.update it (Obj.mapFields (·.setIfInBounds 1 (rawInt ((i:Int)+1)))) }) H2.typeIs ?_)));show wpAny _ A.in1 (pure e.key) _ _ _;exact wpAny_pure (wpAny_pure ⟨_,rfl,wpAny_pure (k _ H2 (Heap.SameBut.update ..))⟩)
theorem HS {Q:Option Value->Shared->Prop}(hh:A.handled=none)(hit:s.heap.IsKeyIter it d i es.size ep)(ho:s.heap.get? d=some o)(hq:o.data= .dict es ep)(hx:es.size<=i)
  (k:∀h',Heap.ExtBut it s.heap h'->Q none { s with heap:=h' }):wpAny (model prog w) A (pyNext (.ref it)) Q E s:=by
 obtain⟨oi,hi,ci,di⟩:=id hit;have T:=hit.typeIs;unfold pyNext;refine wpAny_bind (wpAny_attempt (wpAny_callSpecial?_slot (name:=Str.ofString "__next__") T F.slot_dict_keyiterator_next (wpAny_call_entry F.slot_dict_keyiterator_next T F.entry_dict_keyiterator_next ?_ (F.args_dict_keyiterator_next_1 _))));refine wpAny_bind (wpAny_pure (wpAny_bind (wpAny_bind ?_)))
 first|refine wpAny_bind (wpAny_typeNameOfWhole_keyiter T (wpAny_pure (wpAny_bind (wpAny_fieldsOf hi di ?_))))|refine wpAny_bind (wpAny_typeNameOf_keyiter T (wpAny_pure (wpAny_bind (wpAny_fieldsOf hi di ?_))))
 simp only[show Builtin.Dict_items.ownsTuple "dict_keyiterator" =false by decide,Bool.false_eq_true,if_false];show wpAny _ A.in1 (if (Value.ref d==Value.none)=true then _ else _) _ _ s;rw[if_neg (show ¬(Value.ref d==Value.none)=true from Bool.false_ne_true)];refine wpAny_bind (wpAny_pure (wpAny_bind (wpAny_dictEntries ho hq ?_)));rw[if_neg (by simp)];refine wpAny_bind (wpAny_pure (wpAny_bind (wpAny_dictEpoch ho hq ?_)));rw[if_neg (by simp)];refine wpAny_pure ?_;simp only[show ¬((i:Int)<0) from by lia,if_false,Int.toNat_natCast,Array.getElem?_eq_none hx];refine wpAny_bind ?_
 first|refine wpAny_bind (wpAny_typeNameOfWhole_keyiter T (wpAny_pure ?_))|refine wpAny_bind (wpAny_typeNameOf_keyiter T (wpAny_pure ?_))
 show wpAny _ A.in1 (setField (.ref it) 0 .none >>= _) _ _ s;refine wpAny_bind (wpAny_setField hi di (by simp) ?_);show wpAny _ A.in1 (newExc (.type "StopIteration") [] >>= _) _ _ _;refine wpAny_bind ?_;simp only[newExc,newTuple];refine wpAny_bind (wpAny_newObj_type (wpAny_bind (m:=firstArgMember _ _) (wpAny_of_eq (a:=Value.none) (by first|rfl|(simp only[firstArgMember];rfl)) (wpAny_newObj_type ?_ (by size_fits)))) (by size_fits));simp only[raiseNew];refine wpAny_bind (wpAny_handled ?_);rw[show A.in1.handled=none from hh];refine wpAny_bind (wpAny_pure (wpAny_throw ?_));refine wpAny_bind (wpAny_isInstance (b:=true) (T:= "StopIteration") ⟨_,Heap.get?_push_size _ rfl,rfl⟩ isSubtype_stop ?_);exact wpAny_pure (k _ (((Heap.SameBut.update ..).extBut.push _).push _))
end
end L2
namespace L2
open PySem PySem.W PyProof.Rows
def Itk (a:Addr)(o:Obj)(kvs:List (Key×V)):It :=
 ⟨fun i H=>H a=some (.frz o (.dK kvs))/\i<kvs.length,fun i H x H'=>H'=H/\∃k v,kvs[i]? =some (k,v)/\x=kV k,fun i H=>H a=some (.frz o (.dK kvs))/\kvs.length<=i⟩
section
variable {X:Cx}{tg:Expr}
theorem Inv.freeze {pins:List (Addr×Obj)}{σ:St}{H:Hp}{s:Shared}{a:Addr}{u:HO}{o:Obj} (I:Inv X pins σ H s) (mu:Mut (some u)) (e:H a=some u) (ho:s.heap.get? a=some o) (new:ObjOk X.prog X.w (upd H a (.frz o u)) s.heap a (.frz o u)):Inv X pins σ (upd H a (.frz o u)) s :=
 I.write (t':=s.toks) (h':=s.heap) (by rw[e];exact mu) (.inl rfl) (fun b u _ z=>z) ⟨_,ho⟩ new
end
end L2
namespace L2
open PySem PySem.W PyProof.Rows
section
variable {X:Cx}{e c:Expr}{te:TE}{lo hi:Option Expr}{tl th ts:TO}{pos p2:Pos}
end
def nJ:V->Bool
 | .ref _=>true
 | x=>qG x
section
variable {X:Cx}
end
section
variable {X:Cx}{pins:List (Addr×Obj)}{σ:St}{H:Hp}{s:Shared}
end
section
variable {X:Cx}
end
end L2
namespace L2
open PySem PySem.W PyProof.Rows
section
variable {K:PySem.W.Frag}{ti:TT}{te:TE}{σ:St}{ci:List Nat}{rest:St}{fin:List V->Hp->Prop}{H:Hp}{a:Addr}
end
end L2
namespace L2
open PySem PySem.W PyProof.Rows
theorem Room.units1 {k:Nat}{A:Around} (r:Room k A):A.units+1<cLine:=by have:=r.un;lia
section
variable {K:PySem.W.Frag}{H:Hp}{Q:VK}
end
section
variable {H:Hp}{Q:VK}{σ:St}
end
end L2
namespace L2
open PySem PySem.W PyProof.Rows
section
variable {X:Cx}{K:PySem.W.Frag}
theorem rS {es:List Expr}{k:Nat}{t:TGs}{n:Nat}{pos:Pos} (hc:X.calm=true) (h:PGs X es t) (hK:X.K=K:=by rfl)
  (hn:(assignEach es X.env).length=n:=by rfl)(hst:(assignEach es X.env).findIdx? (·.1)=none:=by rfl):PG X (.Tuple es k pos) (yT K n t):=by
 subst hK;exact kD hc h hn hst
theorem II (hK:X.K=K:=by rfl):IxR X (LC K):=by
 subst hK;exact iL
end
def GD (nx:St->Hp->Prop)(σ:St)(x v:V):VK:=fun y H3=>∃a H4,x= .ref a/\DPut H3 a y v H4/\nx σ H4
def GG (Q:VK)(x:V):VK:=fun y H2=>∃a v,x= .ref a/\iS H2 a y (some v)/\Q v H2
section
variable {K:PySem.W.Frag}{H:Hp}{Q:VK}{σ:St}{nx rt bk ct:St->Hp->Prop}
theorem J3 {td ty tv:TE}{nx:St->Hp->Prop}{rt:VK}{bk ct:St->Hp->Prop} (h:tv σ H fun v H1=>td σ H1 fun x H2=>ty σ H2 (GD nx σ x v)):FX td ty tv ⟨nx,rt,bk,ct⟩ σ H:=h
theorem JL {td ty:TE}(h:td σ H fun x H1=>ty σ H1 (GG Q x)):GJ td ty σ H Q:=h
theorem mI {p:Addr}{xs:List V}{i:Int} (e:SqL K H p xs) (h0:0<=i) (h1:i<xs.length) (h:∀v∈xs,Q v H):vU K (.ref p) (.int i) H Q:=by
 have hl:i.toNat<xs.length:=by lia
 have e1:=nM (xs:=xs) (j:=i.toNat) (v:=xs[i.toNat]) (List.getElem?_eq_getElem hl);rw[show ((i.toNat:Nat):Int)=i by lia]at e1;exact⟨p,xs,i,_,rfl,rfl,e,e1,h _ (List.getElem_mem hl)⟩
end
end L2
namespace L2
open PySem PySem.W PyProof.Rows
theorem IZ {P:Program}{w:World}{k:Key}{u:Value} (h:(b8 P w).is k u=true):RelV (kV k) u:=by
 rcases cA h with⟨i,t,rfl,rfl⟩|⟨x,t,rfl,rfl⟩
 ·exact⟨t,rfl⟩
 ·exact⟨t,rfl⟩
theorem MC {κ:Type}{kvs:List (κ×V)}{vs:List (κ×Value)}{i:Nat} (h:KV kvs vs) (hi:i<kvs.length):∃k v u,kvs[i]? =some (k,v)/\vs[i]? =some (k,u)/\RelV v u:=by
 induction h generalizing i with
 | nil=>exact absurd hi (Nat.not_lt_zero _)
 | @cons x y l m h t ih =>
  cases i with
  | zero=>exact⟨x.1,x.2,y.2,rfl,by rw[h.1];rfl,h.2⟩
  | succ i=>exact ih (Nat.lt_of_succ_lt_succ hi)
theorem tZ {P:Program}{w:World}{κ:Type} [DecidableEq κ] {knd:KeyKind P w κ}:∀{es:List DictEntry}{kvs:List (κ×Value)}{i:Nat}{k:κ}{u:Value},Pairs knd es kvs->kvs[i]? =some (k,u)->∃e,es[i]? =some e/\knd.is k e.key=true/\e.val=u
 | _,_,0,_,_,.cons h1 h2 _,z=>by cases z;exact⟨_,rfl,h1,h2⟩
 | _,_,i+1,_,_,.cons _ _ t,z=>by
  obtain⟨e,e1,e2⟩:=tZ (i:=i) t (by simpa using z);exact⟨e,by simpa using e1,e2⟩
 | _,_,_,_,_,.nil,z=>by simp at z
theorem zA {P:Program}{w:World}{K:PySem.W.Frag}{tg:Expr} (a it:Addr) {o:Obj}{es:Array DictEntry}{ep:Nat} (kvs:List (Key×V)) (hd:o.data= .dict es ep) (hz:es.size=kvs.length) :
  rZ P w K tg (Itk a o kvs) [it] it (fun i h=>h.IsKeyIter it a i es.size ep) where
 mem:=by simp
 obj:=fun i h st b hb=>by
  have e:b=it:=by simpa using hb
  subst e;obtain⟨ob,e,c,d⟩:=st;exact⟨ob,e,fun v z=>by rw[d]at z;cases z⟩
 keep:=fun i h h' st k=>st.at fun ob e=>k it (by simp) ob e
 item:=by
  intro X hP hw hK hc i pins s σ H E I hf st hg;subst hP hw hK;obtain⟨ha,hi⟩:=hg;obtain⟨ho,z,y,vs,r,o',es',ep',h1,h2,h3,h4,h5,h6⟩:=(show ObjOk X.prog X.w H s.heap a (.frz o (.dK kvs)) from I.hok a _ ha)
  rw[ho]at h1;cases h1;rw[hd]at h3;cases h3;obtain⟨k,v,u,e1,e2,e3⟩:=MC r hi;obtain⟨e,f6,f7,f8⟩:=tZ h5 e2;obtain⟨f0,f1,f2,f3,f4,f5⟩:=hf it (by simp);refine EK st ho hd (e:=e) (by simpa using f6) fun h' st' sb=> ?_;have I1:Inv X pins σ H { s with heap:=h' }:=I.turned (t':=s.toks) (fun b o hb e=>(sb.2 b hb).trans e) f0 f1 f3 f4 f5;exact⟨_,rfl,letGo_keyiter (s':={ s with heap:=h' }) st' ⟨kV k,H,I1,IZ f7,⟨rfl,k,v,e1,rfl⟩,st',fun b hb=>(hf b hb).1⟩⟩
 done:=by
  intro X hP hw hK hc i pins s σ H E I hf st hg;subst hP hw hK;obtain⟨ha,hi⟩:=hg;obtain⟨ho,hok⟩:=(show ObjOk X.prog X.w H s.heap a (.frz o (.dK kvs)) from I.hok a _ ha)
  obtain⟨f0,f1,f2,f3,f4,f5⟩:=hf it (by simp);exact HS (I.ok.hd hc) st ho hd (by lia) fun h' eb=>⟨rfl,I.turned (t':=s.toks) (fun b o hb e=>eb b o hb e) f0 f1 f3 f4 f5⟩
 self:=fun _ _ _ _ _ st h=>wpAny_pyIter_keyiter st h
def C4 (td:TE):TI:=fun σ H R=>td σ H fun x H1=>∃a kvs,x= .ref a/\H1 a=some (.dK kvs)/\∀o,R (Itk a o kvs) (upd H1 a (.frz o (.dK kvs)))
section
variable {X:Cx}{tg:Expr}
theorem v6 {l:Expr}{td:TE} (hl:PE X l td):PI X tg l (C4 td):=by
 intro pins s σ H R I h;refine thn (hl pins s σ H _ I h) fun v s1 ⟨x,H1,I1,r1,q1⟩=> ?_;obtain⟨a,kvs,rfl,hq,q⟩:=q1;cases r1;obtain⟨z,y,vs,r,o,es,ep,h1,h2,h3,h4,h5,h6⟩:=(show ObjOk X.prog X.w H1 s1.heap a (.dK kvs) from I1.hok a _ hq)
 have hz:es.size=kvs.length:=by rw[r.length,←h5.length];simp
 have new:ObjOk X.prog X.w (upd H1 a (.frz o (.dK kvs))) s1.heap a (.frz o (.dK kvs)):=⟨h1,z,y,vs,r,o,es,ep,h1,h2,h3,h4,h5,h6⟩
 have I2:Inv X pins σ (upd H1 a (.frz o (.dK kvs))) s1:=I1.freeze trivial hq h1 new;refine E2 y h1 h2 h3 ?_;refine⟨s1.heap.objs.size,[s1.heap.objs.size],_,_,upd H1 a (.frz o (.dK kvs)),rfl,I2.kept (t':=s1.toks) fun b o e=>Heap.get?_push_of_some _ e,zA a _ kvs h3 hz,⟨_,Heap.get?_push_size _ rfl,rfl,rfl⟩,fun b hb=> ?_,q o⟩;have e:b=s1.heap.objs.size:=by simpa using hb
 subst e;exact I2.fpOk (Nat.le_refl _) (I2.hok.fresh (Nat.le_refl _))
end
section
variable {X:Cx}
end
end L2
namespace L2
open PySem PySem.W PyProof.Rows
section
variable {X:Cx}{pins:List (Addr×Obj)}{σ:St}{H:Hp}{s:Shared}{a:Addr}{o:Obj}{u:HO}
theorem Inv.thaw (I:Inv X pins σ H s)(h0:∀o u,X.H₀ a≠some (.frz o u))(e:H a=some (.frz o u)):Inv X pins σ (upd H a u) s:=by
 have nn:∀b,H b=none->b≠a:=fun b n z=>by rw[z,e]at n;cases n
 have no:∀b c,H b=some (.own c)->b≠a:=fun b c n z=>by rw[z,e]at n;cases n
 have nt:∀b xs,H b=some (.tup xs)->b≠a:=fun b c n z=>by rw[z,e]at n;cases n
 refine⟨I.ok,I.os,I.bare,⟨I.base.keep,I.base.slot,fun b ob q n hx=> ?_,I.base.there,fun b xs q=> ?_,fun b ob xs q=> ?_,fun b ps q=> ?_⟩,I.loc,I.cell,?_,fun x c ec=> ?_,fun p hp=> ?_,fun b v q=> ?_,I.len⟩
 ·have z:=I.base.free b ob q n hx;rw[aG (nn b z)];exact z
 ·have z:=I.base.tups b xs q;rw[aG (nt b xs z)];exact z
 ·have z:=I.base.frzs b ob xs q;have hb:b≠a:=fun y=>h0 ob xs (by rw[←y];exact q);rw[aG hb];exact z
 ·obtain⟨more,z⟩:=I.base.tbls b ps q;refine⟨more,?_⟩;rw[aG (fun y=>by rw[y,e]at z;cases z)];exact z
 ·rw[aG (nn _ I.free)];exact I.free
 ·rw[aG (nn _ (I.freeC x c ec))];exact I.freeC x c ec
 ·obtain⟨p1,p2,p3⟩:=I.pin p hp;exact⟨p1,by rw[aG (nn _ p2)];exact p2,p3⟩
 ·have so:∀b c,H b=some (.own c)->upd H a u b=some (.own c):=fun b c z=>by rw[aG (no b c z)];exact z
  have st:∀b xs,H b=some (.tup xs)->upd H a u b=some (.tup xs):=fun b c z=>by rw[aG (nt b c z)];exact z
  by_cases hb:b=a
  ·subst hb;rw[aR]at q;cases q;obtain⟨_,z⟩:=(show ObjOk X.prog X.w H s.heap b (.frz o u) from I.hok b _ e)
   exact z.stay (fun _ _ _ q=>q) (fun c z=>so c b z) st
  ·rw[aG hb]at q;exact(I.hok b v q).stay (fun _ _ _ q=>q) (fun c z=>so c b z) st
theorem Inv.wasFree (I:Inv X pins σ H s)(h:∀o u,H a≠some (.frz o u)):∀o u,X.H₀ a≠some (.frz o u):=fun o u z=>h o u (I.base.frzs a o u z)
end
def eS (a:Addr)(R:Hp->Prop):Hp->Prop:=fun H=>∃o u,H a=some (.frz o u)/\R (upd H a u)
def GO (te:TE):TE:=fun σ H Q=>∃a,(∀o u,H a≠some (.frz o u))/\te σ H fun x=>eS a (Q x)
def GR (ts:TS):TS:=fun D σ H=>∃a,(∀o u,H a≠some (.frz o u))/\ts ⟨fun σ'=>eS a (D.nx σ'),fun v=>eS a (D.rt v),fun σ'=>eS a (D.bk σ'),fun σ'=>eS a (D.ct σ')⟩ σ H
section
variable {X:Cx}
theorem HI {e:Expr}{te:TE} (he:PE X e te):PE X e (GO te):=by
 intro pins s σ H Q I h;obtain⟨a,h0,h⟩:=h;refine thn (he pins s σ H _ I h) fun v s1 ⟨x,H1,I1,r1,o,u,e,q⟩=> ?_;exact⟨x,_,I1.thaw (I.wasFree h0) e,r1,q⟩
theorem J2 {st:Stmt}{ts:TS} (he:PS X st ts):PS X st (GR ts):=by
 intro pins s σ H D I h;obtain⟨a,h0,h⟩:=h;refine thn (he pins s σ H _ I h) fun f s1 z=> ?_;cases f with
 | next=>obtain⟨σ1,H1,I1,o,u,e,q⟩:=z;exact⟨σ1,_,I1.thaw (I.wasFree h0) e,q⟩
 | brk=>obtain⟨σ1,H1,I1,o,u,e,q⟩:=z;exact⟨σ1,_,I1.thaw (I.wasFree h0) e,q⟩
 | cont=>obtain⟨σ1,H1,I1,o,u,e,q⟩:=z;exact⟨σ1,_,I1.thaw (I.wasFree h0) e,q⟩
 | ret v=>obtain⟨x,σ1,H1,I1,r,o,u,e,q⟩:=z;exact⟨x,σ1,_,I1.thaw (I.wasFree h0) e,r,q⟩
end
end L2
namespace L2
open PySem PySem.W PyProof.Rows
theorem vP:∀bs:List Bool,((List.range bs.length).any fun i=>bs.getD i false)=bs.any id
 | []=>rfl
 | b::bs=>by
  rw[List.length_cons,List.range_succ_eq_map,List.any_cons,List.any_map,List.any_cons,←vP bs];rfl
section
variable {X:Cx}
def LS (K:PySem.W.Frag):List V->Hp->VK->Prop:=fun xs H Q=>∃(p:Addr) (bs:List Bool),xs=[.ref p]/\SqL K H p (bs.map V.bl)/\Q (.bl (bs.any id)) H
theorem tR (hc:X.calm=true):cV X (.builtin "any") (LS X.K):=by
 intro pins s σ H xs us Q I r h;obtain⟨p,bs,rfl,hq,q⟩:=h;obtain⟨u,rfl,rx⟩:=kI r;cases rx;obtain⟨its,r',pl,hz⟩:=I.list hq;have hl:=pl.isList;have hlt:p<s.heap.objs.size:=by obtain⟨_,e,_⟩:=hl;exact Heap.lt_size e
 have hlen:bs.length=its.length:=by have:=r'.length;rw[List.length_map]at this;exact this
 refine call_any_walk (wpAny_pyIter_list hl ?_);refine⟨s.heap.objs.size,_,_,its.toArray.size,_,_,fun i=>bs.getD i false,rfl,Walks.list (show X.A.in1.handled=none from I.ok.hd hc) s.heap.objs.size p (Nat.ne_of_lt hlt) its.toArray,⟨⟨_,Heap.get?_push_size _ rfl,rfl,rfl⟩,hl.push _⟩,?_,?_⟩
 ·intro i v s' Q' E' hi hQ;have hi':its[i]? =some v:=by simpa using hi
  have hib:i<bs.length:=by rw[hlen];exact(List.getElem?_eq_some_iff.mp hi').1
  obtain⟨u,hu,ru⟩:=r'.get (i:=i) (x:=V.bl bs[i]) (by rw[List.getElem?_map,List.getElem?_eq_getElem hib];rfl);rw[hi']at hu;cases hu;have:v=Value.bool bs[i]:=ru;subst this;refine wpAny_truthy_bool ?_;have eb:bs.getD i false=bs[i]:=by rw[List.getD_eq_getElem?_getD,List.getElem?_eq_getElem hib];rfl
  have hQ':Q' (bs.getD i false) s':=hQ;rw[eb]at hQ';exact hQ'
 ·intro h' tk hk;have eany:(List.range its.toArray.size).any (fun i=>bs.getD i false)=bs.any id:=by
   rw[List.size_toArray,←hlen];exact vP bs
  rw[eany];refine⟨.bl (bs.any id),H,?_,rfl,q⟩;have I1:Inv X pins σ H { s with heap:=s.heap.push { cls:= .type "list_iterator",data:= .fields #[.ref p,.int 0 0] },toks:=s.toks }:=I.kept fun b u e=>Heap.get?_push_of_some _ e;obtain⟨f0,f1,f2,f3,f4,f5⟩:=I.fpOk (Nat.le_refl _) (I.hok.fresh (Nat.le_refl _));exact I1.turned (fun b o hb e=>hk b o (by simpa using hb) e) f0 f1 f3 f4 f5
end
section
variable {K:PySem.W.Frag}{H:Hp}{Q:VK}
theorem CU {p:Addr}{bs:List Bool} (e:SqL K H p (bs.map V.bl)) (h:Q (.bl (bs.any id)) H):LS K [.ref p] H Q:=⟨p,bs,rfl,e,h⟩
end
theorem BQ:bootBuiltins "any" =some (.builtin "any"):=by decide +kernel
end L2
namespace L2
open PySem PySem.W PyProof.Rows
theorem JK:typeLookup (.type "list") "keys" =pure none:=by rw[typeLookup_type,builtinLookup_eq_fast];kernel_rfl
theorem JE:typeLookup (.type "list") "__getattr__" =pure none:=by rw[typeLookup_type,builtinLookup_eq_fast];kernel_rfl
theorem vG:isSubtype (.type "AttributeError") (.type "AttributeError")=pure true:=by rw[isSubtype_type];kernel_rfl
theorem EW:((Manifest.find? "AttributeError").elim false fun t=>t.mro.contains "StopIteration" ||t.mro.contains "SystemExit")=false:=by decide +kernel
section
variable {prog:Program}{w:World}{A:Around}{E:Value->Shared->Prop}{s:Shared}
theorem EB {α:Type}{v:Value}{a:Addr}{Q:α->Shared->Prop} (hh:A.handled=none)
  (k:∀e h' tk' o,h'.get? e=some o->o.cls= .type "AttributeError" ->(∀b o,s.heap.get? b=some o->h'.get? b=some o)->E (.ref e) { s with heap:=h',toks:=tk' }) :
  wpAny (model prog w) A (do
   let e ←newExc (.type "AttributeError") [v];let l ←mkText "keys"
   noteAttr e (.ref a) l
   raiseNew e) Q E s:=by
 unfold newExc newTuple;refine wpAny_bind (wpAny_bind (wpAny_newObj_type (wpAny_bind (m:=firstArgMember _ _) (wpAny_of_eq (a:=Value.none) (by simp only[firstArgMember,EW];rfl) (wpAny_newObj_type ?_ (by size_fits)))) (by size_fits)));refine wpAny_bind (wpAny_mkText ?_);refine wpAny_bind ?_;unfold noteAttr;refine wpAny_bind ?_;unfold lacksNameAndObj;have e1:(#[Value.ref s.heap.objs.size,.none,.none,.none,.bool false,.none]++ownMembersOf (.type "AttributeError") [v]:Array Value)= #[Value.ref s.heap.objs.size,.none,.none,.none,.bool false,.none,unsetMember,unsetMember]:=rfl;rw[e1];generalize hs:s.heap.push { cls:=Value.type "tuple",data:=Data.seq #[v] }=h1;have ho:(h1.push { cls:= .type "AttributeError",data:= .fields #[Value.ref s.heap.objs.size,.none,.none,.none,.bool false,.none,unsetMember,unsetMember] }).get? h1.objs.size=some { cls:= .type "AttributeError",data:= .fields #[Value.ref s.heap.objs.size,.none,.none,.none,.bool false,.none,unsetMember,unsetMember] }:=Heap.get?_push_size _ rfl;refine wpAny_bind (wpAny_isInstance (b:=true) (T:= "AttributeError") ⟨_,ho,rfl⟩ vG ?_);refine wpAny_bind (wpAny_load ho ?_);refine wpAny_pure ?_;refine wpAny_bind (wpAny_rule ?_);refine wpAny_bind (wpAny_typeOf (T:= "AttributeError") ⟨_,ho,rfl⟩ ?_);unfold layMembers;refine wpAny_bind (wpAny_load ho ?_);refine wpAny_update ho ?_;simp only[raiseNew];refine wpAny_bind (wpAny_handled ?_);rw[hh];refine wpAny_bind (wpAny_pure (wpAny_throw ?_));refine k h1.objs.size _ _ _ (Heap.get?_update_self _ ho (Obj.isFreed_of_fields (Obj.data_mapFields rfl _))) (Obj.cls_mapFields ..) fun b o e=> ?_;have hb:b≠h1.objs.size:=fun z=>by
  have h2:h1.objs.size=s.heap.objs.size+1:=by rw[←hs];simp[Heap.push]
  have h3:=Heap.lt_size e;rw[z,h2]at h3;exact absurd h3 (Nat.not_lt.mpr (Nat.le_succ _))
 exact(Heap.get?_update_other _ _ (Ne.symm hb)).trans (Heap.get?_push_of_some _ (by rw[←hs];exact Heap.get?_push_of_some _ e))
theorem zE {a:Addr}{its:Array Value}{n:Nat}{tk:Tok}{Q:Fin->Shared->Prop} (hh:A.handled=none) (hx:s.heap.get? a=some { cls:= .type "list",data:= .seq its n })
  (k:∀e h' tk' o,h'.get? e=some o->o.cls= .type "AttributeError" ->(∀b o,s.heap.get? b=some o->h'.get? b=some o)->E (.ref e) { s with heap:=h',toks:=tk' }) :
  wpAny (model prog w) A (Builtin.«object.__getattribute__» ⟨[.ref a,.str "keys" tk],[]⟩) Q E s:=by
 obtain⟨h,g,d,t,os⟩:=s;have hT:(⟨h,g,d,t,os⟩:Shared).TypeIs (.ref a) "list" :=⟨_,hx,rfl⟩
 have f4:=JK
 repeat (any_goals (first|assumption|wp_step))
 refine wpAny_bind (wpAny_mkStr ?_ (by rw[sizeLine_eq];decide +kernel));exact EB hh fun e h' tk' o e1 e2 e3=>k e h' tk' o e1 e2 e3
theorem BF {a:Addr}{its:Array Value}{n:Nat}{tk:Tok}{R:Result->Shared->Prop} (hh:A.handled=none) (hx:s.heap.get? a=some { cls:= .type "list",data:= .seq its n })
  (k:∀e h' tk' o,h'.get? e=some o->o.cls= .type "AttributeError" ->(∀b o,s.heap.get? b=some o->h'.get? b=some o)->R (.error (.ref e)) { s with heap:=h',toks:=tk' }) :
  codeAny (model prog w) A (.call (.builtin "list.__getattribute__") ⟨[.ref a,.str "keys" tk],[]⟩) R s:=by
 obtain⟨h,g,d,t,os⟩:=s;exact codeAny_call_builtin F.slot_list_getattribute.plain F.entry_list_ga (F.slot_list_getattribute.check _ _ _ _ _ _ _ _ (show (⟨h,g,d,t,os⟩:Shared).TypeIs (.ref a) "list" from⟨_,hx,rfl⟩) (F.args_list_getattribute_2 _ _) (zE hh hx k))
theorem J4 {a:Addr}{its:Array Value}{n:Nat}{Q:Option Value->Shared->Prop} (hh:A.handled=none) (hx:s.heap.get? a=some { cls:= .type "list",data:= .seq its n })
  (k:∀h' tk',(∀b o,s.heap.get? b=some o->h'.get? b=some o)->Q none { s with heap:=h',toks:=tk' }):wpAny (model prog w) A (getAttr? (.ref a) "keys") Q E s:=by
 obtain⟨h,g,d,t,os⟩:=s;have hT:(⟨h,g,d,t,os⟩:Shared).TypeIs (.ref a) "list" :=⟨_,hx,rfl⟩
 have f2:=F.slot_list_getattribute.lookup;have f3:=F.slot_list_getattribute.bind (.ref a);unfold getAttr? getAttrBy?
 repeat (any_goals (first|assumption|wp_step))
 refine BF hh hx fun e h' tk' o e1 e2 e3=> ?_;have hE:(⟨h',g,d,tk',os⟩:Shared).TypeIs (.ref e) "AttributeError" :=⟨_,e1,e2⟩
 show wpAny (model prog w) A (getattributeRaised (Value.ref a) (Value.str (Str.ofString "keys") t) (.type "list") (.ref e) none false false) _ _ (⟨h',g,d,tk',os⟩:Shared);unfold getattributeRaised;refine wpAny_bind (wpAny_isInstance (b:=true) hE vG ?_);show wpAny (model prog w) A (typeLookup (.type "list") "__getattr__" >>= fun x=>hookOrError (Value.ref a) (Value.str (Str.ofString "keys") t) (.ref e) false false x) _ _ (⟨h',g,d,tk',os⟩:Shared);rw[JE];refine wpAny_bind (wpAny_pure ?_);refine wpAny_throw ?_;refine wpAny_bind (wpAny_isInstance (b:=true) hE vG ?_);exact wpAny_pure (k h' tk' e3)
end
end L2
namespace L2
open PySem PySem.W PyProof.Rows
theorem kA:entryFor table "dict.update.loop" =some Builtin.«dict.update.loop»:=entryFor_of_tree (by kernel_rfl)
theorem fC:plainId "dict.update.loop" =true:=by decide +kernel
def A0 {κ:Type}[DecidableEq κ](kvs ps:List (κ×Value)):List (κ×Value):=ps.foldl (fun acc p=>stored acc p.1 p.2) kvs
theorem yP {κ:Type}[DecidableEq κ](kvs:List (κ×Value))(k:κ)(v:Value):(stored kvs k v).length<=kvs.length+1:=by
 unfold stored
 split
 ·rw[List.length_map];exact Nat.le_succ _
 ·rw[List.length_append];exact Nat.le_refl _
section
variable {prog:Program}{w:World}{A:Around}{E:Value->Shared->Prop}{κ:Type} [DecidableEq κ] {knd:KeyKind prog w κ}{I d:Addr}{fp wr:List Addr}{n:Nat}{P:Nat->Value->Prop}{St:Nat->Heap->Prop}{R:Result->Shared->Prop}
def OM (knd:KeyKind prog w κ)(d:Addr)(wr:List Addr)(P:Nat->Value->Prop)(ps:List (κ×Value))(h:Heap):Prop :=
 ∀i v,P i v->∃(q:Addr) (o:Obj) (key:Value) (k:κ) (u:Value) (c:Nat),v= .ref q/\q∉wr/\q≠d/\h.get? q=some o/\o.cls= .type "tuple" /\o.data= .seq #[key,u] c/\knd.is k key=true/\ps[i]? =some (k,u)
theorem ER (W:Walks prog w A.in1 I fp wr n P St)(hdf:d∉fp)(ps:List (κ×Value))(hn:ps.length=n)(hsz:n<=sizeLine) :
  ∀(k i:Nat) (s:Shared) (kvs:List (κ×Value)),n - i=k->i<=n->St i s.heap->kvs.length<=i->s.heap.DictOf knd d kvs->OM knd d wr P ps s.heap →
  (∀h' tk,h'.DictOf knd d (A0 kvs (ps.drop i))->(∀b o,b∉wr->b≠d->s.heap.get? b=some o->h'.get? b=some o)->R (.ok (.ret .none)) { s with heap:=h',toks:=tk }) →
  codeAny (model prog w) A (.builtin "dict.update.loop" ⟨[.ref d,.ref I,rawInt i,.none],[]⟩) R s:=by
 have hdw:d∉wr:=fun h=>hdf (W.sub _ h);intro k
 induction k with
 | zero =>
  intro i s kvs hk hi hst hl hd hrow hR;have hin:i=n:=by lia
  subst hin;refine codeAny_builtin kA ?_;rw[Around.under_plainId fC _];show wpAny _ A.in1 (pyNext (.ref I) >>= _) _ _ s;refine wpAny_bind (W.done s _ _ hst fun h' tk hk'=> ?_);show wpAny _ _ (Builtin.Dict.addKeywords d [] >>= _) _ _ _;refine wpAny_bind (wpAny_pure (wpAny_pure (hR h' tk ?_ fun b o hb _ e=>hk' b o hb e)));rw[List.drop_of_length_le (by lia)];exact hd.at fun o e=>hk' d o hdw e
 | succ k ih =>
  intro i s kvs hk hi hst hl hd hrow hR;have hlt:i<n:=by lia
  refine codeAny_builtin kA ?_;rw[Around.under_plainId fC _];show wpAny _ A.in1 (pyNext (.ref I) >>= _) _ _ s;refine wpAny_bind (W.item i s _ _ hlt hst fun v h' tk hP hst' hk'=> ?_);obtain⟨q,o,key,kk,u,c,rfl,hqw,hqd,ho,hc,hdt,his,hps⟩:=hrow i v hP;have ho':=hk' q o hqw ho;refine wpAny_bind (wpAny_holding (wpAny_bind (wpAny_tryCatch ?_)));unfold Builtin.Dict.pairItems;refine wpAny_bind (wpAny_typeOf (T:= "tuple") ⟨o,ho',hc⟩ ?_);rw[if_pos (by rfl)];refine wpAny_bind (wpAny_seqItems ho' hdt (wpAny_pure ?_));have hd':h'.DictOf knd d kvs:=hd.at fun o e=>hk' d o hdw e;refine wpAny_holding (wpAny_dictSet_pairs his hd' (fun h2 hd2 sb=> ?_) (by lia));have keep:∀b o,b∉wr->b≠d->s.heap.get? b=some o->h2.get? b=some o:=fun b o hb hbd e=>(sb.2 b hbd).trans (hk' b o hb e);refine wpAny_pure ⟨plainId_quiet fC _,ih (i+1) _ (stored kvs kk u) (by lia) hlt (W.frame _ _ _ hst' fun b hb o e=>(sb.2 b (fun z=>hdf (z▸hb))).trans e) (Nat.le_trans (yP ..) (by lia)) hd2 (fun j v hj=> ?_) fun h3 tk3 hd3 hk3=> ?_⟩
  ·obtain⟨q,o,key,kk,u,c,e1,e2,e3,e4,e5⟩:=hrow j v hj;exact⟨q,o,key,kk,u,c,e1,e2,e3,keep q o e2 e3 e4,e5⟩
  ·refine hR h3 tk3 ?_ fun b o hb hbd e=>hk3 b o hb hbd (keep b o hb hbd e);have ed:ps.drop i=(kk,u)::ps.drop (i+1):=by
    have hi2:i<ps.length:=by lia
    rw[List.drop_eq_getElem_cons hi2];have:=(List.getElem?_eq_some_iff.mp hps).2;rw[this]
   rw[ed];exact hd3
end
end L2
namespace L2
open PySem PySem.W PyProof.Rows
section
variable {prog:Program}{w:World}{A:Around}{E:Value->Shared->Prop}{κ:Type} [DecidableEq κ] {knd:KeyKind prog w κ}{s:Shared}{l:Addr}{its:Array Value}{c:Nat}
theorem CM {ps:List (κ×Value)}{Q:Value->Shared->Prop} (hh:A.handled=none) (hl:s.heap.get? l=some { cls:= .type "list",data:= .seq its c }) (hsz:its.size<=sizeLine) (hlen:ps.length=its.size)
  (hrow:∀(i:Nat) (v:Value),its[i]? =some v->∃(q:Addr) (o:Obj) (key:Value) (k:κ) (u:Value) (c:Nat),v= .ref q/\s.heap.get? q=some o/\o.cls= .type "tuple" /\o.data= .seq #[key,u] c/\knd.is k key=true/\ps[i]? =some (k,u))
  (h:∀h' tk,h'.DictOf knd s.heap.objs.size (A0 [] ps)->(∀b o,s.heap.get? b=some o->h'.get? b=some o)->Q (.ref s.heap.objs.size) { s with heap:=h',toks:=tk }) :
  wpAny (model prog w) A (call (.type "dict") [.ref l]) Q E s:=by
 refine callType_codes (Q₁:=fun obj s₁=>obj= .ref s.heap.objs.size/\s₁={ s with heap:=s.heap.push { cls:= .type "dict",data:= .dict #[] } }) F.kt_called_dict (F.kt_typeCall_dict_1 _) F.entry_dict_init (kt_code_dict_new _ ⟨rfl,rfl⟩) ?_;rintro obj s₁ ⟨rfl,rfl⟩;have hnew:(s.heap.push { cls:= .type "dict",data:= .dict #[] }).DictOf knd s.heap.objs.size []:=Heap.DictOf.new s.heap;have hl':(s.heap.push { cls:= .type "dict",data:= .dict #[] }).get? l=some { cls:= .type "list",data:= .seq its c }:=Heap.get?_push_of_some _ hl;refine⟨hnew.typeIs,F.args_dict_init_2 _ _,?_⟩;unfold Builtin.«dict.__init__»;refine wpAny_bind ?_;unfold Builtin.Dict.selfAndRest;refine wpAny_bind (wpAny_notOrdered_dict hnew.typeIs ?_);show wpAny _ _ (pure (s.heap.objs.size,[Value.ref l])) _ _ _;refine wpAny_pure ?_;show wpAny _ _ (Builtin.Dict.updateFrom "dict.__init__" s.heap.objs.size (.ref l) [] .none) _ _ _;unfold Builtin.Dict.updateFrom;refine wpAny_bind (wpAny_typeOf (T:= "list") ⟨_,hl',rfl⟩ ?_);rw[if_pos (by decide)];refine wpAny_bind (J4 hh hl' fun h1 t1 kp1=> ?_);rw[if_pos (show (none:Option Value).isNone=true from rfl)];refine wpAny_bind (wpAny_rule ?_);have hl1:=kp1 _ _ hl';have isl:h1.IsList l its:=⟨_,hl1,rfl,_,rfl⟩
 have lt1:∀b o,s.heap.get? b=some o->b≠h1.objs.size:=fun b o e z=>by
  have:=Heap.lt_size (kp1 b o (Heap.get?_push_of_some _ e));rw[z]at this;exact Nat.lt_irrefl _ this
 have hdI:s.heap.objs.size≠h1.objs.size:=fun z=>by
  have:=Heap.lt_size (kp1 _ _ (Heap.get?_push_size s.heap (o:={ cls:= .type "dict",data:= .dict #[] }) rfl));rw[z]at this;exact Nat.lt_irrefl _ this
 have hdl:∀b o,s.heap.get? b=some o->b≠s.heap.objs.size:=fun b o e z=>by
  have:=Heap.lt_size e;rw[z]at this;exact Nat.lt_irrefl _ this
 refine wpAny_bind (wpAny_pyIter_list isl ?_);refine wpAny_pure ⟨plainId_quiet fC _,?_⟩;have W:=Walks.list (prog:=prog) (w:=w) (A:=A.in1.in1) hh h1.objs.size l (lt1 _ _ hl) its;refine ER (knd:=knd) W (by simp only[List.mem_cons,List.not_mem_nil,or_false,not_or];exact⟨hdI,Ne.symm (hdl _ _ hl)⟩) ps hlen hsz its.size 0 _ [] (Nat.sub_zero _) (Nat.zero_le _) ⟨⟨_,Heap.get?_push_size _ rfl,rfl,rfl⟩,isl.push _⟩ (Nat.le_refl _) ((hnew.at fun o e=>kp1 _ o e).push _) (fun i v hi=> ?_) fun h' tk hd hk=> ?_
 ·obtain⟨q,o,key,k,u,c',e1,e2,e3,e4,e5,e6⟩:=hrow i v hi;refine⟨q,o,key,k,u,c',e1,?_,hdl _ _ e2,Heap.get?_push_of_some _ (kp1 _ _ (Heap.get?_push_of_some _ e2)),e3,e4,e5,e6⟩;simp only[List.mem_cons,List.not_mem_nil,or_false];exact lt1 _ _ e2
 ·refine⟨rfl,h h' tk hd fun b o e=>hk b o ?_ (hdl _ _ e) (Heap.get?_push_of_some _ (kp1 _ _ (Heap.get?_push_of_some _ e)))⟩;simp only[List.mem_cons,List.not_mem_nil,or_false];exact lt1 _ _ e
end
end L2
namespace L2
open PySem PySem.W PyProof.Rows
abbrev uW (H:Hp):List V->List (Key×V)->Prop:=Paired fun v p=>∃q,v= .ref q/\H q=some (.tup [kV p.1,p.2])
section
variable {X:Cx}{pins:List (Addr×Obj)}{σ:St}{H:Hp}{s:Shared}
theorem D8 (I:Inv X pins σ H s){q:Addr}{k:Key}{x:V} (e:H q=some (.tup [kV k,x])):∃(o:Obj) (key u:Value) (n:Nat),s.heap.get? q=some o/\o.cls= .type "tuple" /\o.data= .seq #[key,u] n/\(b8 X.prog X.w).is k key=true/\RelV x u:=by
 obtain⟨_,us,r,o,h1,h2,n,h3⟩:=(show ObjOk X.prog X.w H s.heap q (.tup [kV k,x]) from I.hok q _ e)
 cases r with
 | @cons _ key _ _ r1 r =>
  cases r with
  | @cons _ u _ _ r2 r =>
   cases r;exact⟨o,key,u,n,h1,h2,h3,nN r1,r2⟩
theorem qQ (I:Inv X pins σ H s):∀{vs:List V}{ps:List (Key×V)}{us:List Value},uW H vs ps->Vals vs us →
  ∃rs:List (Key×Value),KV ps rs/\rs.length=us.length/\∀(i:Nat) (v:Value),us[i]? =some v->∃(q:Addr) (o:Obj) (key:Value) (k:Key) (u:Value) (c:Nat),v= .ref q/\s.heap.get? q=some o/\o.cls= .type "tuple" /\o.data= .seq #[key,u] c/\(b8 X.prog X.w).is k key=true/\rs[i]? =some (k,u)
 | _,_,_,.nil,.nil=>⟨[],.nil,rfl,fun i v z=>by simp at z⟩
 | _::_,(k,x)::_,_::us,.cons ⟨q,e,hq⟩ t,.cons r rt=>by
  obtain⟨rs,h1,h2,h3⟩:=qQ I t rt;obtain⟨o,key,u,n,o1,o2,o3,o4,o5⟩:=D8 I hq;subst e;cases r;refine⟨(k,u)::rs,.cons ⟨rfl,o5⟩ h1,by simp[h2],fun i v z=> ?_⟩;cases i with
  | zero=>cases z;exact⟨q,o,key,k,u,n,rfl,o1,o2,o3,o4,rfl⟩
  | succ i =>
   obtain⟨q,o,key,k,u,c,w1⟩:=h3 i v (by simpa using z);exact⟨q,o,key,k,u,c,by simpa using w1⟩
def AU:List V->Hp->VK->Prop:=fun xs H Q=>∃p vs ps,xs=[.ref p]/\Rd H p (.lst vs)/\uW H vs ps/\∀l,H l=none->Q (.ref l) (upd H l (.dK (gG [] ps)))
theorem zS (hc:X.calm=true):cV X (.type "dict") AU:=by
 intro pins s σ H xs us Q I r h;obtain⟨p,vs,ps,rfl,hq,pr,q⟩:=h;obtain⟨u,rfl,rx⟩:=kI r;cases rx;obtain⟨z,its,n,rv,e⟩:=(show ObjOk X.prog X.w H s.heap p (.lst vs) from hq.ok I.hok)
 obtain⟨rs,h1,h2,h3⟩:=qQ I pr rv;have hl:=rv.length;have hlp:=h1.length;refine CM (knd:=b8 X.prog X.w) (ps:=rs) (I.ok.hd hc) e (by rw[List.size_toArray];lia) (by rw[List.size_toArray];exact h2) (fun i v hv=>h3 i v (by simpa using hv)) fun h' tk hd kp=> ?_;have lm:(gG [] ps).length<=sizeLine:=Nat.le_trans (lA ps []) (by simp;lia);have nm:(s.heap.objs.size==sysModules)=false:=by
  have:=I.big;simp only[beq_eq_false_iff_ne];exact fun z=>by rw[z]at this;exact Nat.lt_irrefl _ this
 exact⟨.ref _,_,I.laid (t':=tk) kp (Nat.le_refl _) (CZ lm nm (KV.merge h1 .nil) hd),rfl,q _ (I.hok.fresh (Nat.le_refl _))⟩
end
end L2
namespace L2
open PySem PySem.W PyProof.Rows
section
variable {prog:Program}{w:World}{A:Around}{E:Value->Shared->Prop}{s:Shared}{d it:Addr}{o:Obj}{es:Array DictEntry}{ep i:Nat}{k0 v0:Value}
end
end L2
namespace L2
open PySem PySem.W PyProof.Rows
section
variable {prog:Program}{w:World}{A:Around}{E:Value->Shared->Prop}{s:Shared}{d it:Addr}{o:Obj}{es:Array DictEntry}{ep i:Nat}
end
section
variable {X:Cx}
end
end L2
namespace L2
open PySem PySem.W PyProof.Rows
section
variable (r:Nat->Int)
variable {r}{p:Array Nat}
end
end L2
namespace L2
open PySem PySem.W PyProof.Rows
section
variable {r:Nat->Int}{p:Array Nat}
end
end L2
namespace L2
open PySem PySem.W PyProof.Rows
section
variable {α:Type}{lt:α->α->Bool}{l:List α}{d:α}
end
end L2
namespace L2
open PySem PySem.W PyProof.Rows
section
variable {X:Cx}
end
end L2
namespace L2
open PySem PySem.W PyProof.Rows
section
variable {X:Cx}{pins:List (Addr×Obj)}{σ:St}{H:Hp}{s:Shared}
end
end L2
namespace L2
open PySem PySem.W PyProof.Rows
section
variable {X:Cx}
end
end L2
namespace L2
open PySem PySem.W PyProof.Rows
theorem Paired.snoc {α β:Type}{F:α->β->Prop}:∀{l:List α}{m:List β}{a:α}{b:β},Paired F l m->F a b->Paired F (l++[a]) (m++[b])
 | _,_,_,_,.nil,h=> .cons h .nil
 | _,_,_,_,.cons r t,h=> .cons r (Paired.snoc t h)
theorem Paired.at2 {α β:Type}{F:α->β->Prop}:∀{l:List α}{m:List β}{i:Nat}{a:α}{b:β},Paired F l m->l[i]? =some a->m[i]? =some b->F a b
 | _,_,0,_,_,.cons r _,h1,h2=>by cases h1;cases h2;exact r
 | _,_,i+1,_,_,.cons _ t,h1,h2=>Paired.at2 (i:=i) t (by simpa using h1) (by simpa using h2)
 | _,_,_,_,_,.nil,h1,_=>by simp at h1
theorem kU {α:Type}{J:It}{g:TG}{ti:TT}{te:TE}{σ0:St}{fin:List V->Hp->Prop}{H:Hp} (xs:List α) (c:α->Bool) (P:α->V->Hp->Prop) (hm:∀x y H1 H2,P x y H1->Same H1 H2->P x y H2) (hn:xs.length<=sizeLine)
  (hgo:∀i H1,Same H H1->i<xs.length->J.go i H1)(hst:∀H1,Same H H1->J.stop xs.length H1)
  (hb:∀i x H1,xs[i]? =some x->Same H H1->∀v H',J.yld i H1 v H'->Same H1 H'/\∃σ2:St,σ2.length=σ0.length/\(∀(j:Nat) v,σ0[j]? =some (some v)->σ2[j]? =some (some v))/\(∀R:St->Hp->Prop,R σ2 H'->g v σ0 H' R) ∧
   (∀R:Bool->Hp->Prop,(∀H2,Same H' H2->R (c x) H2)->ti σ2 H' R)/\(c x=true->∀H2,Same H' H2->∀R:VK,(∀y H3,P x y H3->Same H2 H3->R y H3)->te σ2 H2 R))
  (hf:∀ys H1,Same H H1->Paired (fun x y=>P x y H1) (xs.filter c) ys->fin ys H1):gO J g ti te σ0 fin H:=by
 refine⟨fun i m ys H1=>i+m=xs.length/\Same H H1/\Paired (fun x y=>P x y H1) ((xs.take i).filter c) ys,⟨xs.length,by lia,Same.refl _,.nil⟩,?_⟩;rintro i m ys H1 ⟨e1,s1,pr⟩;cases m with
 | zero =>
  have ei:i=xs.length:=by lia
  subst ei;rw[List.take_length]at pr;exact .inl ⟨hst H1 s1,hf ys H1 s1 pr⟩
 | succ m =>
  have hi:i<xs.length:=by lia
  refine .inr ⟨hgo i H1 s1 hi,fun v H' y=> ?_⟩;have ex:xs[i]? =some xs[i]:=List.getElem?_eq_getElem hi;have etake:xs.take (i+1)=xs.take i++[xs[i]]:=by rw[List.take_succ,ex];rfl
  have hlen:ys.length<=i:=by
   rw[←Paired.length pr];exact Nat.le_trans (List.length_filter_le _ _) (by rw[List.length_take];lia)
  obtain⟨s2,σ2,l2,c2,hg,ht,he⟩:=hb i xs[i] H1 ex s1 v H' y;refine hg _ ⟨⟨l2,c2⟩,ht _ fun H2 s3=> ?_⟩;cases hc:c xs[i] with
  | true =>
   show te σ2 H2 _;refine he hc H2 s3 _ fun y H3 py s4=>⟨by lia,m,by lia,by lia,((s1.trans s2).trans s3).trans s4,?_⟩
   rw[etake,List.filter_append,List.filter_cons_of_pos hc];exact Paired.snoc (Paired.imp' (fun a b h=>hm a b _ _ h ((s2.trans s3).trans s4)) pr) py
  | false =>
   show ∃m',_;refine⟨m,by lia,by lia,(s1.trans s2).trans s3,?_⟩;rw[etake,List.filter_append,List.filter_cons_of_neg (by rw[hc];exact Bool.false_ne_true),List.filter_nil,List.append_nil];exact Paired.imp' (fun a b h=>hm a b _ _ h (s2.trans s3)) pr
section
variable {K:PySem.W.Frag}{ti:TT}{te:TE}{σ:St}{ci:List Nat}{rest:St}{fin:List V->Hp->Prop}{H:Hp}{a:Addr}
theorem P2 {n:Nat}(hr:ci.map (fun i=>(σ[i]?).join)=rest):b3 n ci σ=List.replicate n none++rest:=by unfold b3;rw[hr]
theorem sP {α:Type}{vs:List V}{xs:List α} (f1 f2:α->V) (c:α->Bool) (P:α->V->Hp->Prop) (hm:∀x y H1 H2,P x y H1->Same H1 H2->P x y H2) (hn:xs.length<=sizeLine) (hr:ci.map (fun i=>(σ[i]?).join)=rest) (hl:SqL K H a vs)
  (hv:Paired (fun v x=>∃q,v= .ref q/\H q=some (.tup [f1 x,f2 x])) vs xs)
  (ht:∀x H1,x∈xs->Same H H1->∀R:Bool->Hp->Prop,(∀H2,Same H1 H2->R (c x) H2)->ti (some (f1 x)::some (f2 x)::rest) H1 R)
  (he:∀x H1,x∈xs->c x=true->Same H H1->∀R:VK,(∀y H2,P x y H2->Same H1 H2->R y H2)->te (some (f1 x)::some (f2 x)::rest) H1 R)
  (hf:∀ys H1,Same H H1->Paired (fun x y=>P x y H1) (xs.filter c) ys->fin ys H1):gO (Itl K a) (yT K 2 (u2 (c8 0) (u2 (c8 1) D3))) ti te (b3 2 ci σ) fin H:=by
 have e0:b3 2 ci σ=none::none::rest:=P2 hr;rw[e0];have hlen:vs.length=xs.length:=Paired.length hv;refine kU xs c P hm hn (fun i H1 s hi=>⟨vs,vs[i],s.seq hl,List.getElem?_eq_getElem (by lia)⟩) (fun H1 s=>⟨vs,s.seq hl,by lia⟩) (fun i x H1 hx s1 v H' y=> ?_) hf;obtain⟨rfl,e2⟩:=y;have ev:=e2 vs (s1.seq hl);obtain⟨q,rfl,hq⟩:∃q,v= .ref q/\H q=some (.tup [f1 x,f2 x]):=Paired.at2 hv ev hx;have hmem:=List.mem_of_getElem? hx;refine⟨Same.refl _,some (f1 x)::some (f2 x)::rest,rfl,fun j v hv=> ?_,fun R h=>⟨q,[f1 x,f2 x],rfl,.inl (.inl (s1 _ _ hq)),rfl,f1 x,[f2 x],rfl,f2 x,[],rfl,rfl,h⟩,fun R h=>ht x _ hmem s1 R h,fun hc H2 s2 R h=>he x H2 hmem hc (s1.trans s2) R h⟩
 match j,hv with
 | 0,hv=>cases hv
 | 1,hv=>cases hv
 | j+2,hv=>exact hv
end
end L2
namespace L2
open PySem PySem.W PyProof.Rows
section
variable {K:PySem.W.Frag}{ti:TT}{te:TE}{σ:St}{ci:List Nat}{rest:St}{fin:List V->Hp->Prop}{H:Hp}{a:Addr}
theorem LV {kvs:List (Key×V)}{o:Obj} (c:Key×V->Bool) (P:Key×V->V->Hp->Prop) (hm:∀x y H1 H2,P x y H1->Same H1 H2->P x y H2) (hn:kvs.length<=sizeLine) (hr:ci.map (fun i=>(σ[i]?).join)=rest) (h0:H a=some (.frz o (.dK kvs)))
  (ht:∀x H1,x∈kvs->Same H H1->∀R:Bool->Hp->Prop,(∀H2,Same H1 H2->R (c x) H2)->ti (some (kV x.1)::rest) H1 R)
  (he:∀x H1,x∈kvs->c x=true->Same H H1->∀R:VK,(∀y H2,P x y H2->Same H1 H2->R y H2)->te (some (kV x.1)::rest) H1 R)
  (hf:∀ys H1,Same H H1->Paired (fun x y=>P x y H1) (kvs.filter c) ys->fin ys H1):gO (Itk a o kvs) (c8 0) ti te (b3 1 ci σ) fin H:=by
 rw[vH hr];refine kU kvs c P hm hn (fun i H1 s hi=>⟨s _ _ h0,hi⟩) (fun H1 s=>⟨s _ _ h0,Nat.le_refl _⟩) (fun i x H1 hx s1 v H' y=> ?_) hf;obtain⟨rfl,k,u,e2,rfl⟩:=y;rw[hx]at e2;cases e2;have hmem:=List.mem_of_getElem? hx;refine⟨Same.refl _,some (kV k)::rest,rfl,fun j v hv=> ?_,fun R h=>h,fun R h=>ht _ _ hmem s1 R h,fun hc H2 s2 R h=>he _ H2 hmem hc (s1.trans s2) R h⟩;cases j with
 | zero=>cases hv
 | succ j=>exact hv
end
section
variable {σ:St}{H:Hp}{g:TG}{tb:TS}{nx bk ct:St->Hp->Prop}{rt:VK}
theorem FJ {p:Addr}{o:Obj} (kvs:List (Key×V)) (Pv:Nat->St->Hp->Prop) (h0:Pv 0 σ H) (hl:∀i σ H,Pv i σ H->H p=some (.frz o (.dK kvs)))
  (hs:∀i k v σ H,kvs[i]? =some (k,v)->Pv i σ H->g (kV k) σ H fun σ2 H2=>tb ⟨Pv (i+1),rt,nx,Pv (i+1)⟩ σ2 H2)(hd:∀σ H,Pv kvs.length σ H->nx σ H):vJ (Itk p o kvs) g tb ⟨nx,rt,bk,ct⟩ σ H:=by
 refine⟨fun i m σ H=>m=kvs.length - i/\i<=kvs.length/\Pv i σ H,⟨kvs.length,by simp,Nat.zero_le _,h0⟩,?_⟩;rintro i m σ H ⟨rfl,hi,q⟩
 by_cases hlt:i<kvs.length
 ·refine .inr ⟨⟨hl i σ H q,hlt⟩,Pv (i+1),fun σ' H' p'=>⟨kvs.length - (i+1),by lia,rfl,hlt,p'⟩,fun x H' y=> ?_⟩;obtain⟨rfl,k,v,e,rfl⟩:=y;exact hs i k v σ _ e q
 ·have e:i=kvs.length:=by lia
  subst e;exact .inl ⟨⟨hl _ σ H q,Nat.le_refl _⟩,hd σ H q⟩
end
def BB (R:It->Hp->Prop):VK:=fun x H1=>∃a kvs,x= .ref a/\H1 a=some (.dK kvs)/\∀o,R (Itk a o kvs) (upd H1 a (.frz o (.dK kvs)))
def NQ (Q:VK)(y:V):VK:=fun x H2=>∃a o,x= .ref a/\iS H2 a y o/\Q (.bl o.isSome) H2
def xK (Q:VK)(y:V):VK:=fun x H2=>∃a o,x= .ref a/\iS H2 a y o/\Q (.bl (!o.isSome)) H2
section
variable {K:PySem.W.Frag}{H:Hp}{Q:VK}{σ:St}{nx:St->Hp->Prop}{R:It->Hp->Prop}{td ty tx:TE}
theorem AS (h:td σ H (BB R)):C4 td σ H R:=h
theorem vK {p:Addr}{kvs:List (Key×V)} (e:H p=some (.dK kvs)) (h:∀o H',SameBut p H H'->H' p=some (.frz o (.dK kvs))->R (Itk p o kvs) H'):BB R (.ref p) H:=⟨p,kvs,rfl,e,fun o=>h o _ SameBut.upd aR⟩
theorem MN (h:ty σ H fun y H1=>td σ H1 (NQ Q y)):LO ty td σ H Q:=h
theorem BJ (h:ty σ H fun y H1=>td σ H1 (xK Q y)):xL ty td σ H Q:=h
theorem IC {p:Addr}{z:Str}{kvs:List (Key×V)} (e:Rd H p (.dK kvs)) (h:Q (.bl (bH kvs (.inr z)).isSome) H):NQ Q (.str z) (.ref p) H:=⟨p,_,rfl,.inl ⟨kvs,.inr z,e,rfl,rfl⟩,h⟩
theorem yF {p:Addr}{z:Str}{kvs:List (Key×V)} (e:Rd H p (.dK kvs)) (h:Q (.bl (!(bH kvs (.inr z)).isSome)) H):xK Q (.str z) (.ref p) H:=⟨p,_,rfl,.inl ⟨kvs,.inr z,e,rfl,rfl⟩,h⟩
theorem oZ {p:Addr}{v:V}{z:Str}{kvs:List (Key×V)} (e:H p=some (.dK kvs)) (hl:kvs.length<sizeLine) (h:∀H',SameBut p H H'->H' p=some (.dK (cU kvs (.inr z) v))->nx σ H'):GD nx σ (.ref p) v (.str z) H :=
 ⟨p,_,rfl,DPut.k (k:= .inr z) e hl,h _ SameBut.upd aR⟩
theorem v7 {p:Addr}{v:V}{z:Str}{kvs:List (Key×V)} (e:Rd H p (.dK kvs)) (hv:bH kvs (.inr z)=some v) (h:Q v H):GG Q (.ref p) (.str z) H:=⟨p,v,rfl,.inl ⟨kvs,.inr z,e,rfl,hv.symm⟩,h⟩
theorem FL (h:∀p H',H p=none->Same H H'->H' p=some (.dK [])->Q (.ref p) H'):BO σ H Q:=g6 h
theorem EH {p:Addr}{vs:List V}{ps:List (Key×V)} (e:H p=some (.lst vs)) (r:uW H vs ps) (h:∀l H',H l=none->Same H H'->H' l=some (.dK (gG [] ps))->Q (.ref l) H'):AU [.ref p] H Q:=⟨p,vs,ps,rfl,.inl e,r,g6 h⟩
theorem ET {te:TE}{p:Addr}{u:HO} (e:H p=some u) (nf:∀o x,u≠ .frz o x) (h:te σ H fun x=>eS p (Q x)):GO te σ H Q:=⟨p,fun o x z=>nf o x (by rw[e]at z;exact Option.some.inj z),h⟩
theorem FC {ts:TS}{bk ct:St->Hp->Prop}{rt:VK}{p:Addr}{u:HO} (e:H p=some u) (nf:∀o x,u≠ .frz o x) (h:ts ⟨fun σ'=>eS p (nx σ'),fun v=>eS p (rt v),fun σ'=>eS p (bk σ'),fun σ'=>eS p (ct σ')⟩ σ H):GR ts ⟨nx,rt,bk,ct⟩ σ H :=
 ⟨p,fun o x z=>nf o x (by rw[e]at z;exact Option.some.inj z),h⟩
theorem tX {p:Addr}{o:Obj}{u:HO}{R:Hp->Prop} (e:H p=some (.frz o u)) (h:∀H',SameBut p H H'->H' p=some u->R H'):eS p R H:=⟨o,u,e,h _ SameBut.upd aR⟩
theorem BL {H Hf H1 H2:Hp}{p:Addr}{u:HO} (e:H p=some u) (a:SameBut p H Hf) (b:SameBut p Hf H1) (c:SameBut p H1 H2) (e2:H2 p=some u):Same H H2:=fun x o z=>by
 by_cases hx:x=p
 ·subst hx;rw[e]at z;cases z;exact e2
 ·exact c x o (b x o (a x o z hx) hx) hx
end
section
variable {X:Cx}{K:PySem.W.Frag}
theorem rQ {e:Expr}{ta:TE}{f:Str}{pos:Pos} (he:PE X e ta) (hb:attributeBase e f X.env (eval e X.env)=eval e X.env) (hK:X.K=K:=by rfl):PE X (.Attribute e f pos) (EE K ta f):=by
 subst hK;exact eY he hb
end
end L2
namespace L2
open PySem PySem.W PyProof.Rows
section
variable {K:PySem.W.Frag}{ti:TT}{te:TE}{σ:St}{ci:List Nat}{rest:St}{fin:List V->Hp->Prop}{H:Hp}{a:Addr}{α:Type}
theorem g3 {vs:List V}{xs:List α} (F:V->α->Prop) (c:α->Bool) (P:α->V->Hp->Prop) (hm:∀x y H1 H2,P x y H1->Same H1 H2->P x y H2) (hn:xs.length<=sizeLine) (hr:ci.map (fun i=>(σ[i]?).join)=rest) (hl:SqL K H a vs) (hv:Paired F vs xs)
  (ht:∀v x H1,F v x->x∈xs->Same H H1->∀R:Bool->Hp->Prop,(∀H2,Same H1 H2->R (c x) H2)->ti (some v::rest) H1 R)
  (he:∀v x H1,F v x->x∈xs->c x=true->Same H H1->∀R:VK,(∀y H2,P x y H2->Same H1 H2->R y H2)->te (some v::rest) H1 R)
  (hf:∀ys H1,Same H H1->Paired (fun x y=>P x y H1) (xs.filter c) ys->fin ys H1):gO (Itl K a) (c8 0) ti te (b3 1 ci σ) fin H:=by
 rw[vH hr];have hlen:vs.length=xs.length:=Paired.length hv;refine kU xs c P hm hn (fun i H1 s hi=>⟨vs,vs[i],s.seq hl,List.getElem?_eq_getElem (by lia)⟩) (fun H1 s=>⟨vs,s.seq hl,by lia⟩) (fun i x H1 hx s1 v H' y=> ?_) hf;obtain⟨rfl,e2⟩:=y;have ev:=e2 vs (s1.seq hl);have hF:=Paired.at2 hv ev hx;have hmem:=List.mem_of_getElem? hx;refine⟨Same.refl _,some v::rest,rfl,fun j v hv=> ?_,fun R h=>h,fun R h=>ht v x _ hF hmem s1 R h,fun hc H2 s2 R h=>he v x H2 hF hmem hc (s1.trans s2) R h⟩;cases j with
 | zero=>cases hv
 | succ j=>exact hv
end
theorem d8 {α:Type}{f:α->V}:∀{l:List α}{ys:List V},Paired (fun x y=>y=f x) l ys->ys=l.map f
 | _,_,.nil=>rfl
 | _,_,.cons h t=>by rw[h,d8 t];rfl
theorem cR {α:Type}(l:List α):l.filter (fun _=>true)=l:=by simp
end L2
namespace L2
open PySem PySem.W PyProof.Rows
theorem r6 {κ:Type}[DecidableEq κ]:∀{kvs:List (κ×V)}{e:κ×V},(kvs.map (·.1)).Nodup->e∈kvs->bH kvs e.1=some e.2
 | a::l,e,nd,h=>by
  have nd':=List.pairwise_cons.mp nd;rcases List.mem_cons.mp h with rfl|h
  ·exact cQ rfl
  ·rw[cI (nd'.1 e.1 (List.mem_map.mpr ⟨e,h,rfl⟩))];exact r6 nd'.2 h
end L2
namespace L2
open PySem PySem.W PyProof.Rows
section
variable {prog:Program}{w:World}{A:Around}{E:Value->Shared->Prop}{s:Shared}{d:Addr}{κ:Type} [DecidableEq κ] {knd:KeyKind prog w κ}{ps:List (κ×Value)}{ep:Nat}
end
section
variable {X:Cx}
end
end L2
namespace L2
open PySem PySem.W PyProof.Rows
section
variable {X:Cx}
end
end L2
namespace L2
open PySem PySem.W PyProof.Rows
section
variable {X:Cx}{pins:List (Addr×Obj)}{σ:St}{H:Hp}{s:Shared}{h':Heap}
end
section
variable {X:Cx}
end
end L2
namespace L2
open PySem PySem.W PyProof.Rows
def K9 (σ:St)(tv:TE)(rd:V->V->Hp->VK->Prop)(nx:St->Hp->Prop)(x:V):VK:=fun y H2=>∃a v,x= .ref a/\iS H2 a y (some v)/\tv σ H2 fun y2 H3=>rd v y2 H3 fun z H4=>∃H5,DPut H4 a y z H5/\nx σ H5
def LK (σ:St)(p:Addr)(k:V)(nx:St->Hp->Prop):VK:=fun z H4=>∃H5,DPut H4 p k z H5/\nx σ H5
section
variable {K:PySem.W.Frag}{H:Hp}{Q:VK}{σ:St}{nx:St->Hp->Prop}{td ty tv:TE}{rd:V->V->Hp->VK->Prop}{rt:VK}{bk ct:St->Hp->Prop}{R:It->Hp->Prop}
theorem J9 (h:td σ H fun x H1=>ty σ H1 (K9 σ tv rd nx x)):F0 td ty tv rd ⟨nx,rt,bk,ct⟩ σ H:=h
theorem E3 {p:Addr}{z:Str}{kvs:List (Key×V)}{v:V} (e:Rd H p (.dK kvs)) (hv:bH kvs (.inr z)=some v) (h:tv σ H fun y2 H3=>rd v y2 H3 (LK σ p (.str z) nx)):K9 σ tv rd nx (.ref p) (.str z) H:=⟨p,v,rfl,.inl ⟨kvs,.inr z,e,rfl,hv.symm⟩,h⟩
theorem IK {p:Addr}{z:Str}{kvs:List (Key×V)}{v:V} (e:H p=some (.dK kvs)) (hl:kvs.length<sizeLine) (h:∀H',SameBut p H H'->H' p=some (.dK (cU kvs (.inr z) v))->nx σ H'):LK σ p (.str z) nx v H:=⟨_,DPut.k (k:= .inr z) e hl,h _ SameBut.upd aR⟩
end
def cB (ps:List (Str×Int))(z:Str):Int:=((ps.filter fun p=>decide (p.1=z)).map (·.2)).sum
theorem AZ (ps:List (Str×Int))(p:Str×Int)(z:Str):cB (ps++[p]) z=cB ps z+if p.1=z then p.2 else 0:=by
 unfold cB;rw[List.filter_append,List.map_append,List.sum_append]
 congr 1
 by_cases h:p.1=z
 ·rw[if_pos h];simp[h]
 ·rw[if_neg h];simp[h]
end L2
namespace L2
open PySem PySem.W PyProof.Rows
theorem AV {te:TE}{σ:St}{ci:List Nat}{rest:St}{fin:List V->Hp->Prop}{H:Hp}{lo:Int}{n:Nat} (P:Nat->V->Hp->Prop) (hm:∀x y H1 H2,P x y H1->Same H1 H2->P x y H2) (hn:n<=sizeLine) (hr:ci.map (fun i=>(σ[i]?).join)=rest)
  (he:∀(i:Nat) H1,i<n->Same H H1->∀R:VK,(∀y H2,P i y H2->Same H1 H2->R y H2)->te (some (.int (lo+i))::rest) H1 R)
  (hf:∀ys H1,Same H H1->Paired (fun x y=>P x y H1) (List.range n) ys->fin ys H1):gO (Itr lo n) (c8 0) LR te (b3 1 ci σ) fin H:=by
 rw[vH hr];refine kU (List.range n) (fun _=>true) P hm (by rw[List.length_range];exact hn) (fun i H1 s hi=>by rw[List.length_range]at hi;exact hi) (fun H1 s=>by rw[List.length_range];exact Nat.le_refl _) (fun i x H1 hx s1 v H' y=> ?_) (fun ys H1 s1 h=>hf ys H1 s1 (by rw[cR]at h;exact h));obtain⟨rfl,rfl⟩:=y;obtain⟨hi,e⟩:=List.getElem?_eq_some_iff.mp hx;rw[List.length_range]at hi;rw[List.getElem_range]at e;subst e;refine⟨Same.refl _,some (.int (lo+(i:Nat)))::rest,rfl,fun j v hv=> ?_,fun R h=>h,fun R h=>h _ (Same.refl _),fun hc H2 s2 R h=>he i H2 hi (s1.trans s2) R h⟩;cases j with
 | zero=>cases hv
 | succ j=>exact hv
end L2
namespace L2
open PySem PySem.W PyProof.Rows PySem.Calls
section
variable {prog:Program}{w:World}{A:Around}{E:Value->Shared->Prop}{s:Shared}{d v:Addr}{o:Obj}{es:Array DictEntry}{ep:Nat}
end
section
variable {X:Cx}
theorem E4 {K:PySem.W.Frag}(h:X.K=K:=by rfl):IxR X (vU K):=by subst h;exact cM
end
section
variable {K:PySem.W.Frag}{H:Hp}{Q:VK}{σ:St}{td:TE}
end
end L2
namespace L2
open PySem PySem.W PyProof.Rows
def eX (z:Str)(n:Nat):Str:=⟨(List.replicate n z.cps).foldl (·++·) #[]⟩
theorem v8:∀(l:List (Array Nat)) (a:Array Nat),(l.foldl (·++·) a).toList=a.toList++(l.map Array.toList).flatten
 | [],a=>by simp
 | x::l,a=>by rw[List.foldl_cons,v8 l];simp
theorem l9 (z:Str)(n:Nat):(eX z n).cps.toList=(List.replicate n z.cps.toList).flatten:=by
 unfold eX;rw[v8];simp
theorem o8 (c n:Nat):(eX ⟨#[c]⟩ n).cps.toList=List.replicate n c:=by
 rw[l9]
 induction n with
 | zero=>rfl
 | succ n ih=>rw[List.replicate_succ,List.flatten_cons,ih,List.replicate_succ];rfl
theorem l6 (c n:Nat):(eX ⟨#[c]⟩ n).length=n:=by
 show (eX ⟨#[c]⟩ n).cps.size=n;rw[←Array.length_toList,o8,List.length_replicate]
def FU:R2:=fun x y H Q=>∃z n,x= .str z/\y= .int n/\0<=n/\n<=1000/\z.length<=1000/\Q (.str (eX z n.toNat)) H
section
variable {X:Cx}
theorem xU:OpR X (binaryOp .Mult) FU:=by
 intro pins s σ H x y v u Q I rx ry h;obtain⟨z,n,rfl,rfl,h0,h1,h2,q⟩:=h;obtain⟨t,rfl⟩:=rx;obtain⟨t',rfl⟩:=ry;have hl:z.length * n.toNat<=1000 * 1000:=Nat.mul_le_mul h2 (by lia);refine P.mul_str ?_ (fun h3 _=> ?_) (fun _ _=> ?_) ?_
 ·rw[decide_eq_false (by lia),decide_eq_false (by lia)];rfl
 ·have h4:(1000:Int)<=(2^63 - 1)/n:=Int.le_ediv_of_mul_le (by lia) (by lia)
  lia
 ·exact decide_eq_false (by rw[sizeLine_eq];lia)
 ·by_cases h3:n<1
  ·rw[if_pos h3];have e:eX z n.toNat=Str.empty:=by rw[show n.toNat=0 by lia];rfl
   rw[e]at q;exact⟨by decide,⟨.str Str.empty,H,I.tok _,⟨_,rfl⟩,q⟩⟩
  ·rw[if_neg h3]
   by_cases h4:(n==1||z.length==0)=true
   ·rw[if_pos h4];have e:eX z n.toNat=z:=by
     apply x6
     rw[l9];rcases (Bool.or_eq_true _ _).mp h4 with h5|h5
     ·rw[show n.toNat=1 by have:=eq_of_beq h5;lia];simp
     ·have h6:z.cps.toList=[]:=by
       have:z.length=0:=eq_of_beq h5;exact List.length_eq_zero_iff.mp (by rw[Array.length_toList];exact this)
      rw[h6];simp
    rw[e]at q;exact⟨.str z,H,I,⟨_,rfl⟩,q⟩
   ·rw[if_neg h4];exact⟨(by
     show (eX z n.toNat).cps.size<=sizeLine;rw[←Array.length_toList,l9,List.length_flatten,List.map_replicate,List.sum_replicate_nat,Array.length_toList,sizeLine_eq];have hl':n.toNat * z.cps.size<=1000 * 1000:=by rw[Nat.mul_comm];exact hl
     lia),⟨.str (eX z n.toNat),H,I.tok _,⟨_,rfl⟩,q⟩⟩
end
section
variable {X:Cx}{P:Program}{w:World}{K:PySem.W.Frag}{mg:Str->Option Value}{base:Heap}{k':Nat}{o e:Expr}{es:List Expr}{m:Str}{ta:TE}{t:TA}{apos pos:Pos}
end
theorem GX {H:Hp}{Q:VK}{z:Str}{n:Int} (h0:0<=n) (h1:n<=1000) (h2:z.length<=1000) (h:Q (.str (eX z n.toNat)) H):FU (.str z) (.int n) H Q:=⟨z,n,rfl,rfl,h0,h1,h2,h⟩
end L2
namespace L2
open PySem PySem.W PyProof.Rows
theorem Room.units9 {k:Nat}{A:Around} (r:Room k A):A.units+9<cLine:=by have:=r.un;have:cLine=9900:=rfl;lia
def DeepEq (K:PySem.W.Frag)(H:Hp):Nat->V->V->Prop
 | 0,x,y=>x=y/\nJ x=true
 | n+1,x,y=>(x=y/\nJ x=true)∨(∃a b xs ys,x= .ref a/\y= .ref b/\SqL K H a xs/\SqL K H b ys/\Paired (DeepEq K H n) xs ys)∨(∃a b xs ys,x= .ref a/\y= .ref b/\H a=some (.tup xs)/\H b=some (.tup ys)/\Paired (DeepEq K H n) xs ys)
theorem tW {A:Around}{s:Shared}{x:V}{u v:Value} (h:nJ x=true) (ru:RelV x u) (rv:RelV x v):SeqAt.EqAt A s u v true:=by
 have base:qG x=true->SeqAt.EqAt A s u v true:=fun hx=>by
  have:=M0 (A:=A) (s:=s) ru rv hx hx;rw[FF hx]at this;exact this
 cases x<;>first|(cases ru;cases rv;exact SeqAt.EqAt.same _)|exact base h
theorem kP {A:Around}{s:Shared}{F:V->V->Prop} (hF:∀x y u v,F x y->RelV x u->RelV y v->SeqAt.EqAt A s u v true):∀{xs ys:List V}{us ws:List Value},Paired F xs ys->Vals xs us->Vals ys ws->∀j (h1:j<us.length) (h2:j<ws.length),SeqAt.EqAt A s us[j] ws[j] true
 | _,_,_,_,.nil,.nil,.nil,j,h1,_=>absurd h1 (Nat.not_lt_zero _)
 | _,_,_,_,.cons h _,.cons r1 _,.cons r2 _,0,_,_=>hF _ _ _ _ h r1 r2
 | _,_,_,_,.cons _ t,.cons _ t1,.cons _ t2,j+1,h1,h2=>kP hF t t1 t2 j (Nat.lt_of_succ_lt_succ h1) (Nat.lt_of_succ_lt_succ h2)
section
variable {X:Cx}{pins:List (Addr×Obj)}{σ:St}{H:Hp}{s:Shared}
theorem sK (I:Inv X pins σ H s):∀(n:Nat) (A:Around),A.units+n<cLine->∀x y u v,DeepEq X.K H n x y->RelV x u->RelV y v->SeqAt.EqAt A s u v true
 | 0,A,hu,x,y,u,v,h,ru,rv=>by obtain⟨rfl,h⟩:=h;exact tW h ru rv
 | n+1,A,hu,x,y,u,v,h,ru,rv=>by
  rcases h with⟨rfl,h⟩|⟨a,b,xs,ys,rfl,rfl,ha,hb,pr⟩|⟨a,b,xs,ys,rfl,rfl,ha,hb,pr⟩
  ·exact tW h ru rv
  ·cases ru;cases rv
   by_cases hab:a=b
   ·subst hab;exact SeqAt.EqAt.same _
   ·obtain⟨its,r,pl,hz⟩:=I.list ha;obtain⟨its2,r2,pl2,_⟩:=I.list hb;have hl:its.length=its2.length:=by rw[←r.length,←r2.length];exact Paired.length pr
    have:=SeqAt.EqAt.of_refs hab (SeqAt.RcAt.lists (A:=A) (e:=fun _=>true) pl.isList pl2.isList (by simpa using hl) (by lia) fun j h1 h2=>by
     have h1':j<its.length:=by simpa using h1
     have h2':j<its2.length:=by simpa using h2
     have:=kP (A:=A.in1) (sK I n A.in1 (by show A.units+1+n<cLine;lia)) pr r r2 j h1' h2'
     simpa using this)
    rw[o9]at this;exact this
  ·cases ru;cases rv
   by_cases hab:a=b
   ·subst hab;exact SeqAt.EqAt.same _
   ·obtain⟨_,its,r,o1,g1,c1,n1,d1⟩:=(show ObjOk X.prog X.w H s.heap a (.tup xs) from I.hok a _ ha)
    obtain⟨_,its2,r2,o2,g2,c2,n2,d2⟩:=(show ObjOk X.prog X.w H s.heap b (.tup ys) from I.hok b _ hb)
    have hl:its.length=its2.length:=by rw[←r.length,←r2.length];exact Paired.length pr
    have:=SeqAt.EqAt.of_refs hab (SeqAt.RcAt.tuples (A:=A) (e:=fun _=>true) ⟨o1,g1,c1,n1,d1⟩ ⟨o2,g2,c2,n2,d2⟩ (by lia) fun j h1 h2=>by
     have h1':j<its.length:=by simpa using h1
     have h2':j<its2.length:=by simpa using h2
     have:=kP (A:=A.in1) (sK I n A.in1 (by show A.units+1+n<cLine;lia)) pr r r2 j h1' h2'
     simpa using this)
    simpa [o9,hl] using this
end
section
variable {X:Cx}
def DC (K:PySem.W.Frag)(r:Bool):R2:=fun x y H Q=>∃a b xs ys,x= .ref a/\y= .ref b/\H a=some (.tup xs)/\H b=some (.tup ys)/\Paired (DeepEq K H 4) xs ys/\Q (.bl r) H
theorem IW (hu:X.A.units+9<cLine):OpR X (compareOp .NotEq) (DC X.K false):=by
 intro pins s σ H x y v u Q I rx ry h;obtain⟨a,b,xs,ys,rfl,rfl,ha,hb,pr,q⟩:=h;cases rx;cases ry;obtain⟨_,its,r,o1,g1,c1,n1,d1⟩:=(show ObjOk X.prog X.w H s.heap a (.tup xs) from I.hok a _ ha)
 obtain⟨_,its2,r2,o2,g2,c2,n2,d2⟩:=(show ObjOk X.prog X.w H s.heap b (.tup ys) from I.hok b _ hb)
 have hl:its.length=its2.length:=by rw[←r.length,←r2.length];exact Paired.length pr
 refine SeqAt.RcNeAt.tuples (e:=fun _=>true) ⟨o1,g1,c1,n1,d1⟩ ⟨o2,g2,c2,n2,d2⟩ (by lia) (fun j h1 h2=> ?_) X.prog X.w X.xe _ ⟨.bl false,H,I,(by
  have e:((List.range (min its.toArray.size its2.toArray.size)).all (fun _=>true)&&its.toArray.size==its2.toArray.size)=true:=by simp[o9,hl]
  rw[e];rfl),q⟩
 have:=kP (A:=X.A.in1) (sK I 4 X.A.in1 (by show X.A.units+1+4<cLine;lia)) pr r r2 j (by simpa using h1) (by simpa using h2)
 simpa using this
end
section
variable {K:PySem.W.Frag}{H H':Hp}{Q:VK}
theorem FE {a b:Addr}{xs ys:List V}{r:Bool} (ha:H a=some (.tup xs)) (hb:H b=some (.tup ys)) (pr:Paired (DeepEq K H 4) xs ys) (h:Q (.bl r) H):DC K r (.ref a) (.ref b) H Q:=⟨a,b,xs,ys,rfl,rfl,ha,hb,pr,h⟩
theorem DeepEq.self {n:Nat}{x:V} (h:nJ x=true):DeepEq K H n x x:=by cases n with|zero=>exact⟨rfl,h⟩|succ n=>exact .inl ⟨rfl,h⟩
theorem DeepEq.lst {n:Nat}{a b:Addr}{xs ys:List V} (ha:SqL K H a xs) (hb:SqL K H b ys) (pr:Paired (DeepEq K H n) xs ys):DeepEq K H (n+1) (.ref a) (.ref b):= .inr (.inl ⟨a,b,xs,ys,rfl,rfl,ha,hb,pr⟩)
theorem qT {n:Nat}:∀{xs:List V},xs.all nJ=true->Paired (DeepEq K H n) xs xs
 | [],_=> .nil
 | x::xs,h=>by
  rw[List.all_cons,Bool.and_eq_true]at h;exact .cons (DeepEq.self h.1) (qT h.2)
end
section
variable {H:Hp}{Q:VK}{σ:St}{ty tx:TE}
end
end L2
namespace L2
open PySem PySem.Spec PyProof.Rows PySem.W
section
variable {P:Program}{w:World}{A:Around}{E:Value->Shared->Prop}{h:Heap}{gs:Array GenState}{dr:Drawn}{tk:Nat}{os:OsState}
variable {nm qn:Str}{C N:Addr}{bs bm bmB:List Value}{hd:Bool}{sn:List Str}{sub:List Value}{ab:Bool}{col:Option Bool}{dd:Option Addr}{k0 k1 k2 k3 k5:Option Value}{B newId initId:String}
abbrev iG (h:Heap)(C:Addr)(us:List Value):Heap:=(h.push { cls:= .type "tuple",data:= .seq us.toArray }).push { cls:= .ref C,data:= .fields #[.ref h.objs.size,.none,.none,.none,.bool false,.none] }
theorem gI {us:List Value}{b:Addr}{o:Obj} (q:h.get? b=some o):(iG h C us).get? b=some o:=Heap.get?_push_of_some _ (Heap.get?_push_of_some _ q)
theorem uO (Fx:ExcBaseFacts B newId initId bmB)(T:OwnTail h bmB bm){mN:Str->Option Value}{us:List Value}{fi:Addr}{ob:Obj}{Q:Fin->Shared->Prop}
  (hC:h.get? C=some (excClassObj nm qn C N bs bm hd sn sub ab col dd k0 k1 k2 k3 k5 newId))(hn:h.Ns N mN)(hi:mN "__init__" =some (.ref fi))(hf:h.get? fi=some ob)(hfc:ob.cls= .type "function")
  (k:wpAny (model P w) A (call (.ref fi) (.ref (h.objs.size+1)::us)) (fun r s'=>r= .none/\Q (.done (.ret (.ref (h.objs.size+1)))) s') E ⟨iG h C us,gs,dr,tk,os⟩)(hl:us.length<=sizeLine) :
  wpAny (model P w) A (Builtin.«type.__call__» ⟨.ref C::us,[]⟩) Q E ⟨h,gs,dr,tk,os⟩:=by
 repeat (first|with_reducible refine wpAny_loadPart_at hC ?_|with_reducible refine wpAny_madeBy_exc hC ?_|wp_step)
 refine codeAny_call_builtin_code (Code.quiet_builtin _ Fx.quiet) (wpAny_check_new_subT Fx T hC (codeAny_exc_new_subT Fx T hC ?_ hl));show wpAny _ _ _ _ _ _;have c1:(iG h C us).get? C=_:=gI hC;have f1:(iG h C us).get? fi=_:=gI hf;have n1:(iG h C us).Ns N mN:=hn.keeps fun b o q=>gI q;have t1:OwnTail (iG h C us) bmB bm:=T.keeps fun b o q=>gI q;have g1:(iG h C us).get? (h.objs.size+1)=some { cls:= .ref C,data:= .fields #[.ref h.objs.size,.none,.none,.none,.bool false,.none] }:=by heap_get
 have hcc:(Value.ref C::bm).contains (.ref C)=true:=by simp
 unfold isInstance
 repeat (first|with_reducible refine wpAny_loadPart_at g1 ?_|(with_reducible refine wpAny_isSubtype_exc c1 ?_;rw[hcc])|wp_step)
 show wpAny _ _ (typeLookup (.ref C) _) _ _ _;refine wpAny_typeLookup_tail c1 n1 t1 Fx.mroIs Fx.init.lookup ?_;rw[hi];refine wpAny_holding (wpAny_bind ?_);unfold bindSpecial;refine wpAny_bind (wpAny_typeOf (T:= "function") ⟨_,f1,hfc⟩ ?_);rw[if_pos (by decide)];refine wpAny_pure (wpAny_bind (wpAny_mono k (fun r s' ⟨hr,hQ⟩=> ?_) fun _ _ y=>y));subst hr
 wp_walk
 exact hQ
theorem E9 (Fx:ExcBaseFacts B newId initId bmB)(T:OwnTail h bmB bm){mN:Str->Option Value}{us:List Value}{fi:Addr}{ob:Obj}{Q:Value->Shared->Prop}
  (hC:h.get? C=some (excClassObj nm qn C N bs bm hd sn sub ab col dd k0 k1 k2 k3 k5 newId))(hn:h.Ns N mN)(hi:mN "__init__" =some (.ref fi))(hf:h.get? fi=some ob)(hfc:ob.cls= .type "function")
  (k:wpAny (model P w) (A.under (.builtin "type.__call__" ⟨.ref C::us,[]⟩)) (call (.ref fi) (.ref (h.objs.size+1)::us)) (fun r s'=>r= .none/\Q (.ref (h.objs.size+1)) s') E ⟨iG h C us,gs,dr,tk,os⟩)(hl:us.length<=sizeLine) :
  wpAny (model P w) A (call (.ref C) us) Q E ⟨h,gs,dr,tk,os⟩:=by
 have x1:=tc_lookup;have x2:=tc_bind (.ref C);have hT:(⟨h,gs,dr,tk,os⟩:Shared).TypeIs (.ref C) "type" :=⟨_,hC,rfl⟩
 refine wpAny_call (codeAny_of_tree ?_);show wpAny _ _ (callAny (.ref C) _) _ _ _
 repeat (any_goals (first|assumption|with_reducible refine wpAny_loadPart_at hC ?_|wp_step))
 exact⟨rfl,codeAny_call_builtin_at (Code.quiet_builtin _ (by decide +kernel)) entry_typeCall (wpAny_check_type_call_sub hC (uO Fx T hC hn hi hf hfc k hl))⟩
end
end L2
namespace L2
open PySem PySem.Spec PyProof.Rows PySem.W
section
variable {P:Program}{w:World}{A:Around}{E:Value->Shared->Prop}{h:Heap}{g:Array GenState}{d:Drawn}{t:Nat}{os:OsState}{K:Frag}
abbrev nP (h:Heap)(e:Addr):Heap:=(h.push { cls:= .type "dict",data:= .dict #[] }).update e fun o=>{ o with dict:=some h.objs.size }
abbrev iK (w:World)(h:Heap)(e:Addr)(nm:Str)(tk:Tok)(v:Value):Heap:=(nP h e).update h.objs.size (Obj.putName nm (PyData.keyHash w.params nm) (.str nm tk) v)
theorem BX {e C:Addr}{vs:Array Value}{nm:Str}{tk:Tok}{v:Value}{b:Bool}{cd:ClassData}{Q:Fin->Shared->Prop} (X:K.In h) (hc:clsIn K C=some cd) (hdd:cd.hasDict=true) (hx:h.get? e=some { cls:= .ref C,data:= .fields vs })
  (hq:Q (.done (.ret .none)) ⟨iK w h e nm t v,g,d,t+1,os⟩):wpAny (model P w) A (Builtin.ObjectAttr.storeInOwnDict (.ref e) (.ref C) (.str nm tk) nm v b) Q E ⟨h,g,d,t,os⟩:=by
 unfold Builtin.ObjectAttr.storeInOwnDict;have L1:=looks_clsIn (M:=model P w) X hc
 repeat (any_goals (first|assumption|(with_reducible refine wpAny_loadPart_at hx ?_)|(with_reducible refine L1.at ?_)|wp_step))
 have ne:e≠h.objs.size:=Nat.ne_of_lt (Heap.lt_size hx);have hd1:(nP h e).get? h.objs.size=some { cls:= .type "dict",data:= .dict #[] }:=by
  rw[Heap.get?_update_other _ _ ne];exact Heap.get?_push_at rfl rfl
 have hq':Q (.done (.ret .none)) ⟨(nP h e).update h.objs.size (Obj.putName nm (PyData.keyHash w.params nm) (.str nm t) v),g,d,t+1,os⟩:=hq;show wpAny _ _ ask _ _ ⟨nP h e,g,d,t,os⟩;generalize nP h e=h1 at hd1 hq' ⊢;refine wpAny_askSetting ?_
 repeat (any_goals (first|assumption|(with_reducible refine wpAny_loadPart_at hd1 ?_)|(with_reducible refine wpAny_updatePart' hd1 ?_)|wp_step))
end
end L2
namespace L2
open PySem PySem.Spec PyProof.Rows PySem.W Builtin Builtin.ObjectAttr
def u1:List Value->Bool
 | .ref _::r=>u1 r
 | l=>l==bmV
theorem zX (self:Value):refuseLoop self "__setattr__" bmV=pure ():=by kernel_rfl
theorem mK (self:Value):∀{l:List Value},u1 l=true->refuseLoop self "__setattr__" l=pure ()
 | .ref c::r,e=>by rw[refuseLoop_ref];exact mK self (l:=r) e
 | [],e=>by cases e
 | .none::r,e=>by cases e
 | .type n::r,e=>by
  have e:(Value.type n::r)=bmV:=beq_iff_eq.mp e;rw[e];exact zX self
theorem t7:∀{l:List Value},u1 l=true->l.contains (.type "object")=true
 | .ref c::r,e=>by rw[List.contains_cons,t7 (l:=r) e,Bool.or_true]
 | [],e=>by cases e
 | .none::r,e=>by cases e
 | .type n::r,e=>by
  have e:(Value.type n::r)=bmV:=beq_iff_eq.mp e;rw[e];decide
def d4 (K:Frag)(C:Addr):Bool:=(clsIn K C).any fun cd=>u1 cd.mro&&cd.hasDict
section
variable {P:Program}{w:World}{A:Around}{E:Value->Shared->Prop}{h:Heap}{g:Array GenState}{d:Drawn}{t:Nat}{os:OsState}{K:Frag}
theorem HP {e C:Addr}{vs:Array Value}{nm:Str}{tk:Tok}{v:Value}{R:Result->Shared->Prop} (X:K.In h) (hf:d4 K C=true) (hn:findIn K (.ref C) nm=some none) (hx:h.get? e=some { cls:= .ref C,data:= .fields vs })
  (hq:R (.ok (.ret .none)) ⟨iK w h e nm t v,g,d,t+1,os⟩) :
  codeAny (model P w) A (.call (.builtin "object.__setattr__") ⟨[.ref e,.str nm tk,v],[]⟩) R ⟨h,g,d,t,os⟩:=by
 have SF:=PySem.F.store_object;obtain⟨cd,hc,ho⟩:=any_some hf;obtain⟨h1,h2⟩:=(Bool.and_eq_true _ _).mp ho;have hne:cd.mro.isEmpty=false:=by
  cases q:cd.mro with
  | nil=>rw[q]at h1;cases h1
  | cons _ _=>rfl
 have ty:=eV (M:=model P w) hx rfl rfl;have obj:Looks (model P w) h (isInstance (.ref e) (.type "object")) true:=ty.andThen (looks_mroIn X (by unfold mroIn;rw[hc,Option.bind_some,if_neg (by rw[hne];decide),t7 h1]));refine codeAny_call_builtin SF.slot.plain SF.entry (@check_slot (model P w) _ _ ⟨h,g,d,t,os⟩ "object.__setattr__" "object" "__setattr__" (.ref e) [.str nm tk,v] [] _ SF.kind SF.split obj (SF.args (.ref e) (.str nm tk) v) ?_);have mr:Looks (model P w) h (mroOf (.ref C)) cd.mro:=(looks_clsIn X hc).andThen .now;rw[osa_eq,refuse_eq];refine wpAny_bind (wpAny_bind (ty.here (wpAny_bind (mr.here ?_))));rw[mK _ h1];refine wpAny_pure (wpAny_bind (ty.here (wpAny_bind ((looks_findIn X hn).here (wpAny_bind ?_)))));exact wpAny_pure (BX X hc h2 hx hq)
theorem FP {e C:Addr}{vs:Array Value}{nm:Str}{v:Value}{Q:Unit->Shared->Prop} (X:K.In h) (hf:d4 K C=true) (hn:findIn K (.ref C) nm=some none) (hs:findIn K (.ref C) "__setattr__" =some (some (.builtin "object.__setattr__")))
  (hx:h.get? e=some { cls:= .ref C,data:= .fields vs })(hq:Q () ⟨iK w h e nm (t+1) v,g,d,t+2,os⟩):wpAny (model P w) A (setAttr (.ref e) nm v) Q E ⟨h,g,d,t,os⟩ :=
 set_plain (s:=⟨h,g,d,t,os⟩) X (⟨hx,rfl,rfl,trivial⟩:InstAt h e { cls:= .ref C,data:= .fields vs } C none) hs (HP X hf hn hx hq)
end
end L2
namespace L2
open PySem PySem.Spec PyProof.Rows PySem.W Builtin Builtin.ObjectAttr
section
variable {P:Program}{w:World}{A:Around}{E:Value->Shared->Prop}{h:Heap}{g:Array GenState}{d:Drawn}{t:Nat}{os:OsState}{K:Frag}{a C dx:Addr}{o:Obj}{vs:Array Value}{nm:Str}{u:Value}{mA:Str->Option Value}
theorem wY {tk:Tok}{Q:Fin->Shared->Prop} (X:K.In h) (k:dR K C) (hf:d4 K C=true) (hn:findIn K (.ref C) nm=some none) (hx:h.get? a=some o) (hc:o.cls= .ref C) (hd:o.data= .fields vs) (hdx:o.dict=some dx) (hns:h.Ns dx mA) (hm:mA nm=some u) (hq:Q (.done (.ret u)) ⟨h,g,d,t,os⟩) :
  wpAny (model P w) A (Builtin.«object.__getattribute__» ⟨[.ref a,.str nm tk],[]⟩) Q E ⟨h,g,d,t,os⟩:=by
 obtain⟨cd,hcd,ho⟩:=any_some hf;obtain⟨_,hdd⟩:=(Bool.and_eq_true _ _).mp ho;have L3:=looks_clsIn (M:=model P w) X hcd;have L0:=eV (M:=model P w) hx hc hd;have L1:=looks_findIn (M:=model P w) X hn;obtain⟨oc,od,oda,osl⟩:=o
 dsimp only at hc hd hdx
 subst hc hd hdx;have L2:Looks (model P w) h (inDict nm (some dx)) (some u):=by
  intro A' Q' E' s' kp q;show wpAny _ _ (nsGet dx nm) _ _ _;have hns':s'.heap.Ns dx mA:=hns.keeps kp;obtain⟨hh,g',d',t',os'⟩:=s';refine wpAny_nsGet hns' ?_;rw[hm];exact q
 repeat (any_goals (first|assumption|(with_reducible refine L0.at ?_)|(with_reducible refine L1.at ?_)|(with_reducible refine L2.at ?_)|(with_reducible refine L3.at ?_)|(with_reducible refine wpAny_loadPart_at hx ?_)|wp_step))
theorem yK {tk:Tok}{R:Result->Shared->Prop} (X:K.In h) (k:dR K C) (hf:d4 K C=true) (hn:findIn K (.ref C) nm=some none) (hx:h.get? a=some o) (hc:o.cls= .ref C) (hd:o.data= .fields vs) (hdx:o.dict=some dx) (hns:h.Ns dx mA) (hm:mA nm=some u) (hq:R (.ok (.ret u)) ⟨h,g,d,t,os⟩) :
  codeAny (model P w) A (.call (.builtin "BaseException.__getattribute__") ⟨[.ref a,.str nm tk],[]⟩) R ⟨h,g,d,t,os⟩ :=
 codeAny_call_builtin F.excAttr_ValueError.ga.plain F.entry_bexc_ga (mH X k hx hc hd (wY X k hf hn hx hc hd hdx hns hm hq))
theorem EV {tk:Tok}{fill expr:Bool}{Q:Value->Shared->Prop} (hu:∀id,u≠ .builtin id) (X:K.In h) (k:dR K C) (hf:d4 K C=true) (hn:findIn K (.ref C) nm=some none) (hx:h.get? a=some o) (hc:o.cls= .ref C) (hd:o.data= .fields vs) (hdx:o.dict=some dx) (hns:h.Ns dx mA) (hm:mA nm=some u) (hq:Q u ⟨h,g,d,t,os⟩) :
  wpAny (model P w) A (getAttrBy (.ref a) (.str nm tk) fill expr) Q E ⟨h,g,d,t,os⟩:=by
 have y0:=eV (M:=model P w) hx hc hd;have y1:=looks_findIn (M:=model P w) X k.ga;have y2:=looks_findIn (M:=model P w) X k.gg;have y3:=F.excAttr_ValueError.ga.bind (.ref a);have z0:(expr&&onTheHeap (Value.builtin "BaseException.__getattribute__"))=false:=by cases expr<;>rfl
 have z2:(Value.builtin "BaseException.__getattribute__" ==Value.builtin "object.__getattribute__")=false:=by decide +kernel
 have z1:(onTheHeap (Value.ref C)&&Value.builtin "BaseException.__getattribute__" ==Value.builtin "object.__getattribute__")=false:=by rw[z2];rfl
 repeat (any_goals (first|assumption|(with_reducible refine y0.at ?_)|(with_reducible refine y1.at ?_)|(with_reducible refine y2.at ?_)|wp_step))
 refine yK X k hf hn hx hc hd hdx hns hm ?_
 repeat (any_goals (first|assumption|wp_step))
 cases u with
 | builtin id=>exact absurd rfl (hu id)
 | _=>exact wpAny_pure hq
theorem DD {b:Bool}{Q:Value->Shared->Prop} (hu:∀id,u≠ .builtin id) (X:K.In h) (k:dR K C) (hf:d4 K C=true) (hn:findIn K (.ref C) nm=some none) (hx:h.get? a=some o) (hc:o.cls= .ref C) (hd:o.data= .fields vs) (hdx:o.dict=some dx) (hns:h.Ns dx mA) (hm:mA nm=some u) (hq:Q u ⟨h,g,d,t+1,os⟩) :
  wpAny (model P w) A (getAttr (.ref a) nm b) Q E ⟨h,g,d,t,os⟩:=by
 unfold getAttr
 repeat (any_goals (first|assumption|with_reducible apply EV hu X k hf hn hx hc hd hdx hns hm|wp_step))
end
end L2
namespace L2
open PySem PySem.Spec PyProof.Rows PySem.W
section
variable {w:World}{h:Heap}{e C:Addr}{vs:Array Value}{nm:Str}{tk:Tok}{v:Value}
theorem y4 {b:Addr}(hb:b≠e)(hb':b≠h.objs.size){o:Obj}(q:h.get? b=some o):(iK w h e nm tk v).get? b=some o:=by
 rw[Heap.get?_update_other _ _ (Ne.symm hb'),Heap.get?_update_other _ _ (Ne.symm hb)];exact Heap.get?_push_of_some _ q
theorem AE (hx:h.get? e=some { cls:= .ref C,data:= .fields vs }):(iK w h e nm tk v).get? e=some { cls:= .ref C,dict:=some h.objs.size,data:= .fields vs }:=by
 rw[Heap.get?_update_other _ _ (Ne.symm (Nat.ne_of_lt (Heap.lt_size hx)))];exact Heap.get?_update_self _ (Heap.get?_push_of_some _ hx) rfl
theorem CN (hx:h.get? e=some { cls:= .ref C,data:= .fields vs }):(iK w h e nm tk v).Ns1 h.objs.size fun x=>if x=nm then some v else none:=by
 have hd1:(nP h e).get? h.objs.size=some (dictOf [] 0):=by
  rw[Heap.get?_update_other _ _ (Nat.ne_of_lt (Heap.lt_size hx))];exact Heap.get?_push_at rfl rfl
 have hp:=putName_dict nm (PyData.keyHash w.params nm) (.str nm tk) v [] 0;have hg:(iK w h e nm tk v).get? h.objs.size=some (dictOf [⟨PyData.keyHash w.params nm,.str nm tk,v⟩] 1):=by
  rw[Heap.get?_update_self _ hd1 (by rw[hp];rfl),hp];rfl
 refine⟨_,_,_,hg,rfl,fun b hb=> ?_,List.pairwise_singleton _ _,fun x=> ?_⟩
 ·have hb:b=⟨PyData.keyHash w.params nm,.str nm tk,v⟩:=by simpa using hb
  subst hb;exact⟨nm,tk,rfl⟩
 ·unfold nsFind findBy
  by_cases hxn:x=nm
  ·subst hxn;simp[Value.isStr]
  ·simp[Value.isStr,hxn,Ne.symm hxn]
end
abbrev kK (e C:Addr)(vs:Array Value):Heap->Prop:=fun h=>h.get? e=some { cls:= .ref C,data:= .fields vs }
abbrev jV (e C dx:Addr)(vs:Array Value):Heap->Prop:=fun h=>h.get? e=some { cls:= .ref C,dict:=some dx,data:= .fields vs }
section
variable {X:Cx}{pins:List (Addr×Obj)}{σ:St}{H:Hp}{s:Shared}{A:Around}{E:Value->Shared->Prop}{e C:Addr}{vs:Array Value}{nm:Str}{y:V}{u:Value}
theorem HG {Q:Unit->Shared->Prop}(I:Inv X pins σ H s)(he:H e=some (.ext (kK e C vs)))(hf:d4 X.K C=true)(hn:NoAttr X.K C nm)(hs:findIn X.K (.ref C) "__setattr__" =some (some (.builtin "object.__setattr__")))(ry:RelV y u)
  (k:∀dx s',H dx=none->dx≠e->Inv X pins σ (upd (upd H e (.ext (jV e C dx vs))) dx (.xd [(nm,y)])) s'->Q () s'):wpAny (model X.prog X.w) A (setAttr (.ref e) nm u) Q E s:=by
 obtain⟨hx,_,_⟩:=I.hok e _ he;obtain⟨hh,g,d,t,os⟩:=s;have hx:hh.get? e=some { cls:= .ref C,data:= .fields vs }:=hx;have ne:hh.objs.size≠e:=Ne.symm (Nat.ne_of_lt (Heap.lt_size hx));refine FP I.kIn hf hn hs hx (k hh.objs.size _ (I.hok.fresh (Nat.le_refl _)) ne ?_);have hself:(hh.update e fun o=>{ o with dict:=some hh.objs.size }).get? e=some { cls:= .ref C,dict:=some hh.objs.size,data:= .fields vs }:=Heap.get?_update_self _ hx rfl;have I1:=I.write (x:=e) (e:=e) (o:= .ext (jV e C hh.objs.size vs)) (h':=hh.update e fun o=>{ o with dict:=some hh.objs.size }) (t':=t) (by rw[he];trivial) (.inl rfl) (fun b o hb q=>by rw[Heap.get?_update_other _ _ (Ne.symm hb)];exact q) ⟨_,hself⟩
  ⟨hself,⟨_,hself⟩,fun h1 h2 q1 q2=>q2 _ q1⟩
 refine I1.laid (a:=hh.objs.size) (o:= .xd [(nm,y)]) (h':=iK X.w hh e nm (t+1) u) (t':=t+2) (fun b o q=> ?_) (by rw[Heap.size_update];exact Nat.le_refl _) ⟨_,CN hx,fun f=> ?_⟩
 ·by_cases hb:b=e
  ·subst hb;rw[hself]at q;cases q;exact AE hx
  ·rw[Heap.get?_update_other _ _ (Ne.symm hb)]at q;exact y4 hb (Nat.ne_of_lt (Heap.lt_size q)) q
 ·show RelO (List.lookup f [(nm,y)]) (if f=nm then some u else none)
  by_cases hfn:f=nm
  ·rw[if_pos hfn,hfn,List.lookup_cons,beq_self_eq_true];exact ry
  ·rw[if_neg hfn,List.lookup_cons,beq_false_of_ne hfn];exact True.intro
theorem RelV.noB {y:V}{u:Value} (r:RelV y u) (id:String):u≠ .builtin id:=fun z=>by
 subst z;cases y with
 | int i=>obtain⟨_,r⟩:=r;cases r
 | str x=>obtain⟨_,r⟩:=r;cases r
 | byt b=>obtain⟨_,r⟩:=r;cases r
 | flt b=>obtain⟨_,r⟩:=r;cases r
 | _=>cases (show _=_ from r)
theorem JF {b:Bool}{dx:Addr}{fs:List (Str×V)}{Q:Value->Shared->Prop} (I:Inv X pins σ H s) (he:H e=some (.ext (ExcDAt e C dx))) (hd:H dx=some (.xd fs)) (kx:dR X.K C) (hf:d4 X.K C=true) (hn:NoAttr X.K C nm) (l:fs.lookup nm=some y)
  (k:∀u s',Inv X pins σ H s'->RelV y u->Q u s'):wpAny (model X.prog X.w) A (getAttr (.ref e) nm b) Q E s:=by
 obtain⟨⟨ob,vs,hx,x1,x2,x3⟩,_,_⟩:=I.hok e _ he;obtain⟨mA,hns,r⟩:=I.hok dx _ hd;obtain⟨u,hu,ru⟩:=RelO.some_of (v:=y) (o:=mA nm) (by rw[←l];exact r nm);obtain⟨hh,g,d,t,os⟩:=s;exact DD ru.noB I.kIn kx hf hn hx x1 x3 x2 hns.ns hu (k u _ (I.tok _) ru)
end
end L2
namespace L2
open PySem PySem.Spec PyProof.Rows PySem.W
structure mB (K:Frag)(C:Addr):Prop where
 k:dR K C
 fi:d4 K C=true
 sa:findIn K (.ref C) "__setattr__" =some (some (.builtin "object.__setattr__"))
section
variable {X:Cx}{o e value:Expr}{f:Str}{pos pos':Pos}{ta tv:TE}
def GH (K:Frag)(ta tv:TE)(f:Str):TS:=fun D σ H=>tv σ H fun y H1=>ta σ H1 fun x H2=>∃a C vs,x= .ref a/\H2 a=some (.ext (kK a C vs))/\mB K C/\NoAttr K C f ∧
 ∀dx,H2 dx=none->dx≠a->D.nx σ (upd (upd H2 a (.ext (jV a C dx vs))) dx (.xd [(f,y)]))
theorem xX (ha:PE X o ta)(hv:PE X value tv)(hs:swapsWith value (some (.Attribute o f pos')) pos.line X.env=pure false):PS X (.Assign [.Attribute o f pos'] value pos) (GH X.K ta tv f):=by
 intro pins s σ H D I h;refine plainObj_wpAny_Assign_Attribute (thn (hv pins s σ H _ I h) fun u s1 ⟨y,H1,I1,ry,q⟩=>thn (ha pins s1 σ H1 _ I1 q) fun ov s2 ⟨x,H2,I2,rx,q2⟩=> ?_) hs;obtain⟨a,C,vs,ex,ea,c,n,q2⟩:=q2;subst ex;obtain rfl:ov=Value.ref a:=rx;exact HG I2 ea c.fi n c.sa ry fun dx s3 n1 n2 I3=>⟨σ,_,I3,q2 dx n1 n2⟩
def AC (K:Frag)(ta:TE)(f:Str):TE:=fun σ H Q=>ta σ H fun x H1=>∃a C dx fs v,x= .ref a/\H1 a=some (.ext (ExcDAt a C dx))/\H1 dx=some (.xd fs)/\mB K C/\NoAttr K C f/\fs.lookup f=some v/\Q v H1
theorem IN (he:PE X e ta)(hb:attributeBase e f X.env (eval e X.env)=eval e X.env):PE X (.Attribute e f pos) (AC X.K ta f):=by
 intro pins s σ H Q I h;refine xQ hb (thn (he pins s σ H _ I h) fun u s1 ⟨x,H1,I1,rx,q⟩=> ?_);obtain⟨a,C,dx,fs,v,ex,ea,ed,c,n,l,q⟩:=q;subst ex;obtain rfl:u=Value.ref a:=rx;exact JF I1 ea ed c.k c.fi n l fun u' s2 I2 ru=>⟨v,H1,I2,ru,q⟩
theorem JS {K:Frag}{f:Str}{i:Nat}{σ:St}{H:Hp}{Q:VK}{a C dx:Addr}{fs:List (Str×V)}{v:V} (ei:σ[i]? =some (some (.ref a))) (ea:H a=some (.ext (ExcDAt a C dx))) (ed:H dx=some (.xd fs)) (c:mB K C) (n:NoAttr K C f) (l:fs.lookup f=some v) (h:Q v H):AC K (fR i) f σ H Q:=⟨_,ei,a,C,dx,fs,v,rfl,ea,ed,c,n,l,h⟩
theorem xS {K:Frag}{f:Str}{i j:Nat}{D:fG}{σ:St}{H:Hp}{a C:Addr}{vs:Array Value}{y:V} (ei:σ[i]? =some (some (.ref a))) (ej:σ[j]? =some (some y)) (ea:H a=some (.ext (kK a C vs))) (c:mB K C) (n:NoAttr K C f) (h:∀dx,H dx=none->dx≠a->D.nx σ (upd (upd H a (.ext (jV a C dx vs))) dx (.xd [(f,y)]))):GH K (fR i) (fR j) f D σ H:=⟨_,ej,_,ei,a,C,vs,rfl,ea,c,n,h⟩
end
end L2
namespace L2
open PySem PySem.Spec PyProof.Rows PySem.W
def o0 (K:Frag)(C fi:Addr):Bool:=match K.lookup C with
 | some ⟨.type "type",_,.cls cd,sl⟩=>(match cd.mro,sl.toList with
  | .ref C'::bm,[_,_,_,_,some (.builtin n),_]=>C'==C&&(n== "ValueError.__new__" &&(!cd.hasDel&&(tailIn K bmV bm&&(nsOkIn K cd.ns&&(nsIn K cd.ns "__init__" ==some (some (.ref fi))&&typeIn K (.ref fi)==some (.type "function"))))))
  | _,_=>false)
 | _=>false
theorem LX {K:Frag}{h:Heap}{N:Addr}{m:Str->Option Value}{n:Str}{v:Value} (X:K.In h) (G:h.Ns N m) (e:nsIn K N n=some (some v)):m n=some v:=by
 obtain⟨o,es,ep,ho,hd,_,hf⟩:=G;rw[←hf];unfold nsIn at e
 split at e
 ·rename_i q;have z:=X _ _ q;rw[ho]at z;injection z with z;subst z;injection hd with hd1 hd2;subst hd1
  split at e
  ·rename_i en he;injection e with e;injection e with e;subst e;unfold nsFind findBy;rw[←Array.find?_toList,he];rfl
  ·first|cases e|(split at e<;>cases e)
 ·cases e
theorem JX {K:Frag}{h₀:Heap}{C fi:Addr} (X:K.In h₀) (q:o0 K C fi=true) :
  ∃bm N nm q bs hdct sn sub ab col dd k0 k1 k2 k3 k5 mN ob,h₀.get? C=some (excClassObj nm q C N bs bm hdct sn sub ab col dd k0 k1 k2 k3 k5 "ValueError.__new__")/\h₀.Ns N mN/\mN "__init__" =some (.ref fi)/\OwnTail h₀ bmV bm/\h₀.get? fi=some ob/\ob.cls= .type "function" :=by
 unfold o0 at q
 split at q
 ·rename_i dd cd sl ho
  split at q
  ·rename_i C' bm k0 k1 k2 k3 n k5 hm hs;simp only[Bool.and_eq_true,beq_iff_eq,Bool.not_eq_true']at q;obtain⟨rfl,rfl,hdel,ht,hok,hni,hty⟩:=q;obtain⟨nm,bs,mro,ns,qn,hd,sn,sub,ab,col,del⟩:=cd
   dsimp only at hm hdel hok hni
   subst hm hdel;have hsl:sl= #[k0,k1,k2,k3,some (.builtin "ValueError.__new__"),k5]:=by
    obtain⟨l⟩:=sl;simp only at hs;rw[hs]
   subst hsl;have hty:(K.lookup fi).map (·.cls)=some (.type "function"):=hty;obtain⟨ob,ho2,hc2⟩:=Option.map_eq_some_iff.mp hty;have N0:h₀.Ns ns (h₀.nsMap ns):= .of_isNs (isNs_of_in X hok);exact⟨bm,ns,nm,qn,bs,hd,sn,sub,ab,col,dd,k0,k1,k2,k3,k5,_,ob,X _ _ ho,N0,LX X N0 hni,tail_of_in X ht,X _ _ ho2,hc2⟩
  ·cases q
 ·cases q
theorem z4 {M:Model}{A:Around}{E:Value->Shared->Prop}{env:Env}{s:Shared}{x:Sem Value}{Q:Flow->Shared->Prop}{nm q:Str}{C N:Addr}{bs bm:List Value}{hdct:Bool}{sn:List Str}{sub:List Value}{ab:Bool}{col:Option Bool}{dd:Option Addr}{k0 k1 k2 k3 k5:Option Value}{newId:String}
  (hb:bm.contains (.type "BaseException")=true)(hh:A.handled=none)
  (h:wpAny M A x (fun v s₁=>∃e ob vs,v= .ref e/\s₁.heap.get? C=some (excClassObj nm q C N bs bm hdct sn sub ab col dd k0 k1 k2 k3 k5 newId)/\s₁.heap.get? e=some ob/\ob.cls= .ref C/\ob.data= .fields vs/\vs[1]? =some .none/\E (.ref e) s₁) E s):wpAny M A (raiseStmt env (some x) none) Q E s:=by
 have hcB:(Value.ref C::bm).contains (.type "BaseException")=true:=by rw[List.contains_cons,hb,Bool.or_true]
 unfold raiseStmt;refine wpAny_bind (wpAny_mono h (fun v s₁ ⟨e,ob,vs,ev,hC,he,ec,ed,v1,hE⟩=> ?_) fun _ _ x=>x);subst ev;obtain⟨hp,g,d,tk,os⟩:=s₁;obtain⟨oc,od,odt,osl⟩:=ob
 dsimp only at ec ed
 subst ec ed
 repeat (first|with_reducible refine wpAny_loadPart_at he ?_|with_reducible refine wpAny_loadPart_at hC ?_|(with_reducible refine wpAny_isSubtype_exc hC ?_;rw[hcB])|wp_step)
 rw[v1]
 repeat (first|with_reducible exact wpAny_raiseNew_none hh hE|wp_step)
section
variable {P:Program}{w:World}
def lets0 (H:Hp)(c:Addr):Hp:=fun b=>if b=c then none else H b
theorem iX {H:Hp}{c:Addr}:lets0 H c c=none:=by unfold lets0;rw[if_pos rfl]
theorem oY {H:Hp}{c b:Addr} (h:b≠c):lets0 H c b=H b:=by unfold lets0;rw[if_neg h]
theorem iZ {H:Hp}{c b:Addr} (h:H b=none):lets0 H c b=none:=by unfold lets0;split<;>first|rfl|exact h
theorem Inv.lets0 {X:Cx}{pins:List (Addr×Obj)}{σ:St}{H:Hp}{s:Shared}{e:Addr}{φ:Heap->Prop} (I:Inv X pins σ H s) (he:H e=some (.ext φ)):Inv X pins σ (L2.lets0 H e) s:=by
 have out:∀b u,H b=some u->(∀ψ,u≠ .ext ψ)->L2.lets0 H e b=some u:=fun b u q n=>by
  rw[oY];exact q;rintro rfl;rw[he]at q;cases q;exact n _ rfl
 refine⟨I.ok,I.os,I.bare,⟨I.base.keep,I.base.slot,fun b o q n hx=>iZ (I.base.free b o q n hx),I.base.there,fun b xs q=>out _ _ (I.base.tups b xs q) (by intro ψ z;cases z),fun b o u q=> ?_,fun b ps q=> ?_⟩,I.loc,I.cell,iZ I.free,fun x c q=>iZ (I.freeC x c q),fun p hp=> ?_,fun b u q=> ?_,I.len⟩
 ·exact out _ _ (I.base.frzs b o u q) (by intro ψ z;cases z)
 ·obtain⟨m,z⟩:=I.base.tbls b ps q;exact⟨m,out _ _ z (by intro ψ z;cases z)⟩
 ·obtain⟨a1,a2,a3,a4,a5⟩:=I.pin p hp;exact⟨a1,iZ a2,a3,a4,a5⟩
 ·have hb:b≠e:=by rintro rfl;rw[iX]at q;cases q
  rw[oY hb]at q;exact(I.hok b u q).stay (fun _ _ _ z=>z) (fun c z=>out _ _ z (by intro ψ z;cases z)) fun c xs z=>out _ _ z (by intro ψ z;cases z)
end
def x8 (X:Cx)(E:XK):Prop:=∀(pins:List (Addr×Obj)) (σ:St) (H:Hp) (s:Shared) (e C dx:Addr) (vs:Array Value) (a0:Value),Inv X pins σ H s->H e=some (.ext (jV e C dx vs))->X.s₀.heap.get? e=none->vs[0]? =some a0->vs[1]? =some .none->E (.ref C) (some dx) (lets0 H e)->X.xe (.ref e) s
theorem BH {P:Program}{w:World}{K:PySem.W.Frag}{mg:Str->Option Value}{base:Heap}{N:List Str}{qual:Str}{scope:Scope}{f:Addr}{cd:Value}{A:Around}{outer:List Env}{s₀:Shared}{H₀:Hp}{E:XK} :
  x8 (c9 (CXE P w) P w K mg base N qual scope f cd A outer s₀ H₀ E) E:=by
 intro pins σ H s e C dx vs a0 I0 he new v0 v1 q;have I:=I0.lets0 he;obtain⟨go,_,_⟩:=I0.hok e _ he;have go:s.heap.get? e=some { cls:= .ref C,dict:=some dx,data:= .fields vs }:=go;generalize hX:c9 (CXE P w) P w K mg base N qual scope f cd A outer s₀ H₀ E=X at I I0 new ⊢;have there:∀b o,X.s₀.heap.get? b=some o->∃o',s.heap.get? b=some o':=fun b o e=>I.base.there b o e (fun z=>absurd (show b∈([]:List Addr) from by rw[←hX]at z;exact z) (by simp));have hin:∀env∈X.stack,∀b,env.frame=some b->b∈e::frs X.stack:=fun env he b hb=>List.mem_cons_of_mem _ (List.mem_filterMap.mpr ⟨env,he,hb⟩);have hk:(hideAll s.heap (e::frs X.stack)).StaysIn s.heap:=fun b o e=>of_hideAll _ e;have cov:∀b,(lets0 H e b≠none∨∃o,X.s₀.heap.get? b=some o)->b∉frs X.stack->∃o,(hideAll s.heap (e::frs X.stack)).get? b=some o:=fun b hb hs=>by
  have hbe:b≠e:=by
   rintro rfl;rcases hb with hb|⟨o,q⟩
   ·exact hb iX
   ·rw[new]at q;cases q
  have:∃o,s.heap.get? b=some o:=by
   rcases hb with hb|⟨o,q⟩
   ·cases e1:lets0 H e b with
    | none=>exact absurd e1 hb
    | some u=>exact(I.hok b u e1).there
   ·exact there b o q
  obtain⟨o,q⟩:=this;exact⟨o,hideAll_get _ q fun z=>(List.mem_cons.mp z).elim hbe hs⟩
 have ff:=funFrames_hide I.stack hin;have nb:(hideAll s.heap (e::frs X.stack)).get? e=none:=hideAll_none _ (List.mem_cons_self ..);subst hX;show wpAny _ _ (leaving _ _) _ _ _;refine lX (L:=_) (a0:=a0) I.ok.frames ff rfl go hk nb rfl v1 v0 fun h2 hl=> ?_;obtain⟨x1,⟨_,_,x2⟩,x3,x4⟩:=hl;obtain⟨un2,hok2⟩:=y6 (h2:=h2) I rfl x1 hk x4 cov rfl rfl;refine⟨e,.ref C,some dx,a0,lets0 H e,_,rfl,I.os,I.bare,un2,hok2,iX,new,⟨x1,nb,x2,x3⟩,fun b hb hs=>cov b hb fun z=> ?_,q⟩;rcases List.mem_cons.mp (I.stkSub b z) with e1|hb'
 ·rcases hb with hb|⟨o,e2⟩
  ·exact hb (by rw[e1];exact I.free)
  ·have e3:=Nat.lt_of_lt_of_le (Heap.lt_size e2) I.ok.above;rw[e1]at e3;exact Nat.lt_irrefl _ e3
 ·exact hs hb'
theorem sL {P:Program}{w:World}{K:PySem.W.Frag}{mg:Str->Option Value}{base:Heap}{N:List Str}{qual:Str}{scope:Scope}{f:Addr}{cd:Value}{A:Around}{outer:List Env}{s₀:Shared}{H₀:Hp}{E:XK} :
  PassesOwn (model P w) (c9 (CXE P w) P w K mg base N qual scope f cd A outer s₀ H₀ E).A (c9 (CXE P w) P w K mg base N qual scope f cd A outer s₀ H₀ E).env (c9 (CXE P w) P w K mg base N qual scope f cd A outer s₀ H₀ E).xe :=
 fun e s' h=>wpAny_leaving_again (SameStack.refl _) h
theorem FO {X:Cx}{e:Expr}{f:Str}{pos:Pos}{ta:TE} (K:Frag) (hK:X.K=K) (he:PE X e ta) (hb:attributeBase e f X.env (eval e X.env)=eval e X.env):PE X (.Attribute e f pos) (AC K ta f):=by
 subst hK;exact IN he hb
def spX (K:Frag)(C:Addr)(nm:Str):Sp:=fun vs H Q _=>∃e y fv,vs=[.ref e,y]/\H e=some (.ext (kK e C fv))/\mB K C/\NoAttr K C nm/\∀dx,H dx=none->dx≠e->Q .non (upd (upd H e (.ext (jV e C dx fv))) dx (.xd [(nm,y)]))
structure XcE (P:Program)(w:World)(K:PySem.W.Frag)(mg:Str->Option Value)(base:Heap)(x:Str)(C:Addr)(nm:Str):Prop where
 ex:∃f fd ps,mg x=some (.ref C)/\o0 K C f=true/\mB K C/\NoAttr K C nm/\Binds K fd ps []/\bK P w K mg base CX0 1 f fd ps (spX K C nm)
def x5 (C:Addr)(nm:Str)(E:XK)(t:TE):TS:=fun _ σ H=>t σ H fun y H1=>∀dx,H1 dx=none->E (.ref C) (some dx) (upd H1 dx (.xd [(nm,y)]))
theorem tM {C:Addr}{nm:Str}{E:XK}{t:TE}{D:fG}{σ:St}{H:Hp} (h:t σ H fun y H1=>∀dx,H1 dx=none->E (.ref C) (some dx) (upd H1 dx (.xd [(nm,y)]))):x5 C nm E t D σ H:=h
section
variable {X:Cx}{E:XK}{x nm:Str}{C:Addr}{np cpos pos:Pos}{e:Expr}{t:TE}{k':Nat}
theorem tG (F:XcE X.prog X.w X.K X.mg X.base x C nm)(hr:Room k' X.A)(hx:x8 X E)(ha:PE X e t)(hex:X.ex=[])(cm:X.calm=true:=by rfl)(hk:2<=k':=by decide)(hg:Gl X x:=by rfl)(hdb:(x==("__debug__" :Str))=false:=by decide)
  (he:starEach [e] X.env=[(false,eval e X.env)]:=by rfl) :
  PS X (.Raise (some (.Call (.Name x np) [e] [] cpos)) none pos) (x5 C nm E t):=by
 intro pins s σ H D I h;obtain⟨fi,fd,ps,hm,hc,xf,na,hb,G⟩:=F.ex;obtain⟨tl,N,cn,q,bs,hdct,sn,sub,ab,col,dd,k0,k1,k2,k3,k5,mN,fo,hC,hN,hni,T,hf,hfc⟩:=JX I.ok.mod.kin hc;have hbase:tl.contains (.type "BaseException")=true:=T.hasType PySem.F.excBase_ValueError.hasBase;rw[arm_exec_Raise];refine wpAny_bind (wpAny_standAt (z4 (C:=C) (nm:=cn) (q:=q) (N:=N) (bs:=bs) (bm:=tl) (hdct:=hdct) (sn:=sn) (sub:=sub) (ab:=ab) (col:=col) (dd:=dd) (k0:=k0) (k1:=k1) (k2:=k2) (k3:=k3) (k5:=k5) (newId:= "ValueError.__new__") hbase (I.ok.hd cm) ?_));refine wpAny_bind (wpAny_mono (wpAny_Call_ofName (g7 I hg hm ?_ hdb)) (fun v s3 h3=>wpAny_bind (wpAny_standAt (wpAny_pure h3))) fun _ _ z=>z);unfold callWith;rw[he];have one:wpAny (model X.prog X.w) X.A (spliced (backTo cpos [(false,eval e X.env)])) (fun us s1=>∃u y H1,us=[u]/\RelV y u/\Inv X pins σ H1 s1/\∀dx,H1 dx=none->E (.ref C) (some dx) (upd H1 dx (.xd [(nm,y)]))) X.xe s:=by
  show wpAny _ _ (spliced ((false,eval e X.env)::backTo cpos [])) _ _ s;refine Calls.spliced_cons (thn (ha pins s σ H _ I h) fun u s1 ⟨y,H1,I1,ru,q1⟩=> ?_);exact Calls.spliced_nil ⟨u,y,H1,rfl,ru,I1,q1⟩
 refine wpAny_bind (wpAny_holding (Calls.evalArgs_plain (wpAny_mono one (fun us s2 ⟨u,y,H1,eu,ru,I1,q1⟩=>wpAny_bind (wpAny_standAt ?_)) fun _ _ z=>z)));subst eu;have kb:∀b o,X.base.get? b=some o->s2.heap.get? b=some o:=I1.bk;have hC2:=I1.bk _ _ hC;have new0:s2.heap.get? (s2.heap.objs.size+1)=none:=Heap.get?_none_of_le (Nat.le_succ _);have there:∀b o,X.s₀.heap.get? b=some o->∃o',s2.heap.get? b=some o':=fun b o q=>I1.base.there b o q (by rw[hex];simp);have newS:X.s₀.heap.get? (s2.heap.objs.size+1)=none:=by
  cases q:X.s₀.heap.get? (s2.heap.objs.size+1) with
  | none=>rfl
  | some o=>obtain⟨o',q'⟩:=there _ o q;rw[new0]at q';cases q'
 have J:Inv X pins σ (upd H1 (s2.heap.objs.size+1) (.ext (kK (s2.heap.objs.size+1) C #[.ref s2.heap.objs.size,.none,.none,.none,.bool false,.none]))) { s2 with heap:=iG s2.heap C [u] }:=by
  have hg:(iG s2.heap C [u]).get? (s2.heap.objs.size+1)=some { cls:= .ref C,data:= .fields #[.ref s2.heap.objs.size,.none,.none,.none,.bool false,.none] }:=by heap_get
  exact I1.laid (t':=s2.toks) (fun b o q=>gI q) (Nat.le_succ _) ⟨hg,⟨_,hg⟩,fun g1 g2 q1 q2=>q2 _ q1⟩
 obtain⟨hp,g,d,tk,os⟩:=s2;refine wpAny_bind (wpAny_keeperOf_exc hC2 ?_);refine wpAny_bind (E9 PySem.F.excBase_ValueError (T.keeps I1.bk) hC2 (hN.keeps I1.bk) hni (I1.bk _ _ hf) hfc ?_ (by show 1<=sizeLine;decide));have want:spX X.K C nm [.ref (hp.objs.size+1),y] (upd H1 (hp.objs.size+1) (.ext (kK (hp.objs.size+1) C #[.ref hp.objs.size,.none,.none,.none,.bool false,.none]))) (fun v H2=>v= .non/\∃dx,H1 dx=none/\dx≠hp.objs.size+1/\H2=upd (upd (upd H1 (hp.objs.size+1) (.ext (kK (hp.objs.size+1) C #[.ref hp.objs.size,.none,.none,.none,.bool false,.none]))) (hp.objs.size+1) (.ext (jV (hp.objs.size+1) C dx #[.ref hp.objs.size,.none,.none,.none,.bool false,.none]))) dx (.xd [(nm,y)])) E0 :=
  ⟨_,_,_,rfl,aR,xf,na,fun dx n1 n2=>⟨rfl,dx,by rw[aG n2]at n1;exact n1,n2,rfl⟩⟩
 have rr:Vals [V.ref (hp.objs.size+1),y] [Value.ref (hp.objs.size+1),u]:= .cons rfl (.cons ru .nil);have ln:[Value.ref (hp.objs.size+1),u].length=ps.length:=rr.length.symm.trans (G.len _ _ _ _ want);have go:=G.run _ X.stack _ _ ⟨[Value.ref (hp.objs.size+1),u],[]⟩ [Value.ref (hp.objs.size+1),u] _ _ E0 ((hr.mono hk).make C [u] []) (J.env0.make C [u] []) (by have z:=hb _ [Value.ref (hp.objs.size+1),u] J.kIn (by rw[List.append_nil];exact ln);rw[List.append_nil]at z;exact z) rr want;refine wpAny_call (codeAny_mono go fun res s' hq=> ?_)
 match res,hq with
 | .error e,hq=>exact False.elim hq
 | .ok .next,hq=>exact False.elim hq
 | .ok .brk,hq=>exact False.elim hq
 | .ok .cont,hq=>exact False.elim hq
 | .ok (.ret w'),hq =>
  obtain⟨v,H',I3,rv',ev,dx,n1,n2,eH⟩:=J.after hq;subst ev;refine⟨rv',?_⟩;refine wpAny_bind (wpAny_holding (wpAny_point (wpAny_pure ?_)));have hE:H' (hp.objs.size+1)=some (.ext (jV (hp.objs.size+1) C dx #[.ref hp.objs.size,.none,.none,.none,.bool false,.none])):=by
   rw[eH,aG (Ne.symm n2),aR]
  have eL:lets0 H' (hp.objs.size+1)=upd H1 dx (.xd [(nm,y)]):=by
   funext b
   by_cases hb':b=hp.objs.size+1
   ·subst hb';rw[iX,aG (Ne.symm n2)];exact(I1.hok.fresh (Nat.le_succ _)).symm
   ·rw[oY hb',eH]
    by_cases hd':b=dx
    ·subst hd';rw[aR,aR]
    ·rw[aG hd',aG hb',aG hb',aG hd']
  obtain⟨gx,_,_⟩:=I3.hok _ _ hE;exact⟨_,_,_,rfl,I3.bk _ _ hC,gx,rfl,rfl,rfl,hx pins σ H' _ _ C dx _ _ I3 hE newS rfl rfl (by rw[eL];exact q1 dx n1)⟩
end
end L2
namespace L2
def M9 {α:Type}:Nat->(List α->Prop)->Prop
 | 0,p=>p []
 | n+1,p=>∀a,M9 n (fun l=>p (a::l))
theorem aK {α:Type}:∀(n:Nat) (p:List α->Prop),M9 n p->∀us:List α,us.length=n->p us
 | 0,_,h,[],_=>h
 | n+1,_,h,a::us,e=>aK n _ (h a) us (by simpa using e)
 | 0,_,_,_::_,e=>by simp at e
 | _+1,_,_,[],e=>by simp at e
end L2
namespace Prf
open PySem L2
set_option hygiene false
local macro_rules| `(tactic| walk_at"fs")=> `(tactic| exact⟨rfl,rfl,rfl,by decide +kernel,rfl,by decide +kernel,by decide +kernel⟩)
local macro_rules| `(tactic| walk_at"hu")=> `(tactic| (have hu0:=Room.units0 hr;have hu1:=Room.units1 hr;have hu9:=Room.units9 hr))
set_option hygiene true
def top (i:Nat):Stmt:=PySem.Challenge.pw_firstout_k12_houses_refused.main.body.getD i (.Pass ⟨0,0,0,0⟩)
abbrev i9:Stmt:=top 0
abbrev b5:Stmt:=bZ (top 6) 0
theorem sc_Twice___init__:bE ["self","name"] ["self","name"] (aE b5):=by walk_at"fs"
abbrev bV:Stmt:=bZ (top 7) 0
theorem sc_NoRoom___init__:bE ["self","name"] ["self","name"] (aE bV):=by walk_at"fs"
abbrev cZ:Stmt:=top 10
theorem sc_need_turns:bE ["first","last"] ["first","last"] (aE cZ):=by walk_at"fs"
abbrev b4:Stmt:=top 11
theorem sc_need_each_once:bE ["names","seen","name"] ["names"] (aE b4):=by walk_at"fs"
abbrev bX:Stmt:=top 12
theorem sc_rooms_spoken_of:bE ["doors","people","names","door"] ["doors","people"] (aE bX):=by walk_at"fs"
abbrev c3:Stmt:=top 13
theorem sc_need_rooms:bE ["names","sizes","name"] ["names","sizes"] (aE c3):=by walk_at"fs"
abbrev cK:Stmt:=top 14
theorem sc_added_people:bE ["sizes","people","inside","room","number"] ["sizes","people"] (aE cK):=by walk_at"fs"
abbrev c5:Stmt:=top 15
theorem sc_need_space:bE ["sizes","people","inside"] ["sizes","people"] (aE c5):=by walk_at"fs"
abbrev bQ:Stmt:=bZ (top 16) 0
theorem sc_House___init__:bE ["self","rooms","doors","people","last","first","sizes","door"] ["self","rooms","doors","people","last","first"] (aE bQ):=by walk_at"fs"
abbrev dE:Stmt:=bZ (top 16) 1
abbrev dG:Stmt:=bZ (top 16) 2
abbrev cG:Stmt:=bZ (top 16) 3
abbrev dF:Stmt:=bZ (top 16) 4
abbrev dA:Stmt:=bZ (top 16) 5
abbrev dX:Stmt:=bZ (top 16) 6
abbrev cE:Stmt:=bZ (top 16) 7
abbrev d6:Stmt:=bZ (top 16) 8
abbrev dZ:Stmt:=bZ (top 16) 9
abbrev dB:Stmt:=bZ (top 16) 10
abbrev dH:Stmt:=bZ (top 16) 11
abbrev d9:Stmt:=top 18
theorem sc_is_whole:bE ["thing"] ["thing"] (aE d9):=by walk_at"fs"
abbrev eR:Stmt:=top 21
theorem sc_is_name:bE ["thing"] ["thing"] (aE eR):=by walk_at"fs"
abbrev dS:Stmt:=top 22
theorem sc_need_name:bE ["part","thing"] ["part","thing"] (aE dS):=by walk_at"fs"
abbrev cY:Stmt:=top 23
theorem sc_need_whole:bE ["part","thing","least"] ["part","thing","least"] (aE cY):=by walk_at"fs"
abbrev bP:Stmt:=bZ (top 24) 0
theorem sc_Door___init__:bE ["self","name","start","end","wide"] ["self","name","start","end","wide"] (aE bP):=by walk_at"fs"
abbrev eJ:Stmt:=bZ (top 24) 1
abbrev cJ:Stmt:=bZ (top 24) 2
theorem sc_Door_is_exit:bE ["self"] ["self"] (aE cJ):=by walk_at"fs"
abbrev dY:Stmt:=bZ (top 24) 3
abbrev cH:Stmt:=top 26
theorem sc__law_cell_at:bE ["_law_script","_law_k"] ["_law_script","_law_k"] (aE cH):=by walk_at"fs"
abbrev dP:Stmt:=top 27
theorem sc__law_name:bE ["_law_k","_law_cell","_law_some"] ["_law_k","_law_cell"] (aE dP):=by walk_at"fs"
abbrev c6:Stmt:=top 28
theorem sc__law_doors:bE ["_law_rooms","_law_many","_law_cell","_law_doors_here","_law_k","_law_start","_law_end"] ["_law_rooms","_law_many","_law_cell"] (aE c6):=by walk_at"fs"
abbrev cN:Stmt:=top 29
theorem sc__law_strange:bE ["_law_doors_here","_law_cell","_law_at","_law_door","_law_way","_law_start","_law_end","_law_later","_law_name_here"] ["_law_doors_here","_law_cell"] (aE cN):=by walk_at"fs"
abbrev bR:Stmt:=top 30
theorem sc__law_bad_numbers:bE ["_law_rooms","_law_people","_law_cell","_law_at","_law_name_here","_law_holds","_law_way","_law_far"] ["_law_rooms","_law_people","_law_cell"] (aE bR):=by walk_at"fs"
abbrev cX:Stmt:=top 31
theorem sc__law_asked:bE ["_law_rooms","_law_doors_here","_law_people","_law_last","_law_first","_law_kinds","_law_found","e"] ["_law_rooms","_law_doors_here","_law_people","_law_last","_law_first"] (aE cX):=by walk_at"fs"
abbrev eF:Stmt:=top 32
theorem sc__law_due:bE ["_law_kind","_law_name_here"] ["_law_kind","_law_name_here"] (aE eF):=by walk_at"fs"
abbrev iH:Stmt:=top 33
theorem sc_law:bE ["_law_script","_law_cell","_law_rooms","_law_doors_here","_law_people","_law_first","_law_last","_law_wrong","_law_due_here","_law_at","_law_again"] ["_law_script"] (aE iH):=by walk_at"fs"
theorem EF:("abcdefghijklmnopqrstuvwxyz" :Str).length=26:=by rw[bB];rfl
theorem ED:("other" :Str).length=5:=by rw[bB];rfl
theorem E5:("strange" :Str).length=7:=by rw[bB];rfl
theorem DZ:("the first turn is below 0" :Str).length=25:=by rw[bB];rfl
theorem FD:("the last turn is below the first one" :Str).length=36:=by rw[bB];rfl
theorem EZ:("a row of people is below 0" :Str).length=26:=by rw[bB];rfl
theorem EO:("more are in a room than it holds" :Str).length=32:=by rw[bB];rfl
theorem FA:("name" :Str).length=4:=by rw[bB];rfl
theorem FQ:("start" :Str).length=5:=by rw[bB];rfl
theorem D2:("wide" :Str).length=4:=by rw[bB];rfl
theorem yL:("v" :Str).length=1:=by rw[bB];rfl
theorem zT:("room" :Str).length=4:=by rw[bB];rfl
theorem y8:("house" :Str).length=5:=by rw[bB];rfl
theorem yX:("nowhere" :Str).length=7:=by rw[bB];rfl
theorem AF:("twice" :Str).length=5:=by rw[bB];rfl
theorem zJ:("turn" :Str).length=4:=by rw[bB];rfl
theorem yV:(" is no name" :Str).length=11:=by rw[bB];rfl
theorem yM:(" is no whole number from " :Str).length=25:=by rw[bB];rfl
theorem zZ:(" on" :Str).length=3:=by rw[bB];rfl
theorem zL:("end" :Str).length=3:=by rw[bB];rfl
theorem y7:("later" :Str).length=5:=by rw[bB];rfl
theorem zD:("a" :Str).length=1:=by rw[bB];rfl
theorem yY:("z" :Str).length=1:=by rw[bB];rfl
theorem zN:("no" :Str).length=2:=by rw[bB];rfl
theorem zG:("door" :Str).length=4:=by rw[bB];rfl
theorem yH:("unknown" :Str).length=7:=by rw[bB];rfl
structure DCls (K:W.Frag)(C:Addr):Prop where
 ic:ICls K C
 n_first:NoAttr K C "first"
 n_last:NoAttr K C "last"
 n_sizes:NoAttr K C "sizes"
 n_people:NoAttr K C "people"
 n_named_doors:NoAttr K C "named_doors"
 n_name:NoAttr K C "name"
 n_start:NoAttr K C "start"
 n_end:NoAttr K C "end"
 n_wide:NoAttr K C "wide"
set_option genInjectivity false in
set_option genSizeOfSpec false in
structure M (K:W.Frag)(mg:Str->Option Value) where
 yC:Addr
 yD:FuncData
 P7:FunV K "_wall" "_wall" i9 yC yD
 P6:Binds K yD ["k"] []
 jJ:Addr
 jQ:FuncData
 gY:FunV K "need_turns" "need_turns" cZ jJ jQ
 wH:Binds K jQ ["first","last"] []
 fX:Addr
 fU:FuncData
 c7:FunV K "need_each_once" "need_each_once" b4 fX fU
 pK:Binds K fU ["names"] []
 fJ:Addr
 fH:FuncData
 dW:FunV K "rooms_spoken_of" "rooms_spoken_of" bX fJ fH
 nZ:Binds K fH ["doors","people"] []
 jT:Addr
 jM:FuncData
 gW:FunV K "need_rooms" "need_rooms" c3 jT jM
 wF:Binds K jM ["names","sizes"] []
 g9:Addr
 hJ:FuncData
 cW:FunV K "added_people" "added_people" cK g9 hJ
 sS:Binds K hJ ["sizes","people"] []
 jN:Addr
 jP:FuncData
 gS:FunV K "need_space" "need_space" c5 jN jP
 wM:Binds K jP ["sizes","people"] []
 k6:Addr
 kW:FuncData
 i8:FunV K "is_whole" "is_whole" d9 k6 kW
 AI:Binds K kW ["thing"] []
 nF:Addr
 mR:FuncData
 j5:FunV K "is_name" "is_name" eR nF mR
 DH:Binds K mR ["thing"] []
 j7:Addr
 j8:FuncData
 eM:FunV K "need_name" "need_name" dS j7 j8
 xE:Binds K j8 ["part","thing"] []
 jS:Addr
 jI:FuncData
 gX:FunV K "need_whole" "need_whole" cY jS jI
 wD:Binds K jI ["part","thing","least"] []
 iA:Addr
 hU:FuncData
 aQ:FunV K "_law_cell_at" "_law_cell_at" cH iA hU
 sW:Binds K hU ["_law_script","_law_k"] []
 j9:Addr
 j6:FuncData
 eK:FunV K "_law_name" "_law_name" dP j9 j6
 xG:Binds K j6 ["_law_k","_law_cell"] []
 jH:Addr
 jR:FuncData
 gP:FunV K "_law_doors" "_law_doors" c6 jH jR
 wK:Binds K jR ["_law_rooms","_law_many","_law_cell"] []
 iC:Addr
 iD:FuncData
 fE:FunV K "_law_strange" "_law_strange" cN iC iD
 sQ:Binds K iD ["_law_doors_here","_law_cell"] []
 fA:Addr
 fB:FuncData
 dN:FunV K "_law_bad_numbers" "_law_bad_numbers" bR fA fB
 m7:Binds K fB ["_law_rooms","_law_people","_law_cell"] []
 jL:Addr
 jK:FuncData
 gQ:FunV K "_law_asked" "_law_asked" cX jL jK
 wB:Binds K jK ["_law_rooms","_law_doors_here","_law_people","_law_last","_law_first"] []
 kZ:Addr
 kY:FuncData
 i7:FunV K "_law_due" "_law_due" eF kZ kY
 AL:Binds K kY ["_law_kind","_law_name_here"] []
 AH:Addr
 AM:FuncData
 PP:FunV K "law" "law" iH AH AM
 QB:Binds K AM ["_law_script"] []
 fV:Addr
 fT:FuncData
 p0:FunV K "__init__" "Twice.__init__" b5 fV fT
 qC:Binds K fT ["self","name"] []
 fI:Addr
 fK:FuncData
 oH:FunV K "__init__" "NoRoom.__init__" bV fI fK
 oI:Binds K fK ["self","name"] []
 fW:Addr
 eG:FuncData
 pY:FunV K "__init__" "House.__init__" bQ fW eG
 pJ:Binds K eG ["self","rooms","doors","people","last","first"] []
 lD:Addr
 lB:FuncData
 KP:FunV K "rooms" "House.rooms" dE lD lB
 K0:Binds K lB ["self"] []
 lI:Addr
 lL:FuncData
 KN:FunV K "doors" "House.doors" dG lI lL
 KU:Binds K lL ["self"] []
 iU:Addr
 iV:FuncData
 DL:FunV K "need_room" "House.need_room" cG iU iV
 DO:Binds K iV ["self","room"] []
 lG:Addr
 lC:FuncData
 K3:FunV K "holds" "House.holds" dF lG lC
 KM:Binds K lC ["self","room"] []
 lJ:Addr
 lF:FuncData
 KS:FunV K "found" "House.found" dA lJ lF
 KW:Binds K lF ["self","room"] []
 mZ:Addr
 mX:FuncData
 N3:FunV K "into" "House.into" dX mZ mX
 NV:Binds K mX ["self","room"] []
 iT:Addr
 iW:FuncData
 DN:FunV K "from_room" "House.from_room" cE iT iW
 DM:Binds K iW ["self","room"] []
 mQ:Addr
 m8:FuncData
 NX:FunV K "door" "House.door" d6 mQ m8
 NW:Binds K m8 ["self","name"] []
 m9:Addr
 mV:FuncData
 NY:FunV K "lets" "House.lets" dZ m9 mV
 N4:Binds K mV ["self","name","turn"] []
 lM:Addr
 lE:FuncData
 KY:FunV K "total" "House.total" dB lM lE
 KO:Binds K lE ["self"] []
 lH:Addr
 lK:FuncData
 K4:FunV K "pairs" "House.pairs" dH lH lK
 KZ:Binds K lK ["self"] []
 gR:Addr
 dO:FuncData
 rM:FunV K "__init__" "Door.__init__" bP gR dO
 rJ:Binds K dO ["self","name","start","end","wide"] []
 oQ:Addr
 oP:FuncData
 N5:FunV K "lets" "Door.lets" eJ oQ oP
 N6:Binds K oP ["self","turn"] []
 hV:Addr
 iB:FuncData
 sR:FunV K "is_exit" "Door.is_exit" cJ hV iB
 sZ:Binds K iB ["self"] []
 m6:Addr
 nE:FuncData
 NU:FunV K "words" "Door.words" dY m6 nE
 N2:Binds K nE ["self"] []
 P8:mg "_wall" =some (.ref yC)
 wJ:mg "need_turns" =some (.ref jJ)
 pX:mg "need_each_once" =some (.ref fX)
 nY:mg "rooms_spoken_of" =some (.ref fJ)
 wL:mg "need_rooms" =some (.ref jT)
 sU:mg "added_people" =some (.ref g9)
 wC:mg "need_space" =some (.ref jN)
 AN:mg "is_whole" =some (.ref k6)
 DE:mg "is_name" =some (.ref nF)
 xF:mg "need_name" =some (.ref j7)
 wO:mg "need_whole" =some (.ref jS)
 tD:mg "_law_cell_at" =some (.ref iA)
 xD:mg "_law_name" =some (.ref j9)
 wI:mg "_law_doors" =some (.ref jH)
 sX:mg "_law_strange" =some (.ref iC)
 mW:mg "_law_bad_numbers" =some (.ref fA)
 wR:mg "_law_asked" =some (.ref jL)
 AG:mg "_law_due" =some (.ref kZ)
 QA:mg "law" =some (.ref AH)
 AQ:∃ds,Vals [.int 0] ds/\Binds K eG ["self","rooms","doors","people","last","first"] ds
 nG:∃ds,Vals [.int 1] ds/\Binds K dO ["self","name","start","end","wide"] ds
 m5:∃ds,Vals [.non,.int 1] ds/\Binds K dO ["self","name","start","end","wide"] ds
 cO:Addr
 KD:mg "House" =some (.ref cO)
 eZ:Addr
 wN:mg "Door" =some (.ref eZ)
 gU:Addr
 AK:mg "OutError" =some (.ref gU)
 jO:Addr
 FS:mg "NoDoor" =some (.ref jO)
 aT:Addr
 mU:mg "NoHouse" =some (.ref aT)
 aX:Addr
 pV:mg "NoTurn" =some (.ref aX)
 aV:Addr
 sV:mg "Twice" =some (.ref aV)
 aS:Addr
 pM:mg "NoRoom" =some (.ref aS)
 iP:Addr
 DF:mg "Unknown" =some (.ref iP)
 wP:DCls K cO
 FR:Mk K cO fW
 KF:fF K cO "rooms" lD
 KJ:fF K cO "doors" lI
 DG:fF K cO "need_room" iU
 KI:fF K cO "holds" lG
 KG:fF K cO "found" lJ
 KR:fF K cO "into" mZ
 DK:fF K cO "from_room" iT
 KL:fF K cO "door" mQ
 KK:fF K cO "lets" m9
 KH:fF K cO "total" lM
 KC:fF K cO "pairs" lH
 kF:DCls K eZ
 sY:Mk K eZ gR
 NZ:fF K eZ "lets" oQ
 rH:fF K eZ "is_exit" hV
 KQ:fF K eZ "words" m6
 wQ:D9 K aX
 DJ:dR K aX
 uC:D9 K aT
 AO:dR K aT
 FT:o0 K aV fV=true
 pU:mB K aV
 wE:NoAttr K aV "name"
 DI:o0 K aS fI=true
 mT:mB K aS
 uB:NoAttr K aS "name"
 mY:W.exmOne K (.ref aX) (.ref gU)=some true
 oJ:W.exmOne K (.ref aV) (.ref gU)=some true
 mS:W.exmOne K (.ref aS) (.ref gU)=some true
 lP:W.exmOne K (.ref aT) (.ref gU)=some true
 pI:W.kitOne K (.ref aX) (.ref aX)=some true
 rO:W.kitOne K (.ref aX) (.ref aV)=some false
 pR:W.kitOne K (.ref aX) (.ref aS)=some false
 oE:W.kitOne K (.ref aX) (.ref aT)=some false
 pO:W.kitOne K (.ref aX) (.ref jO)=some false
 oB:W.kitOne K (.ref aX) (.ref iP)=some false
 k7:W.kitOne K (.ref aX) (.type "ValueError")=some true
 rN:W.kitOne K (.ref aV) (.ref aX)=some false
 sT:W.kitOne K (.ref aV) (.ref aV)=some true
 rK:W.kitOne K (.ref aV) (.ref aS)=some false
 pL:W.kitOne K (.ref aV) (.ref aT)=some false
 rL:W.kitOne K (.ref aV) (.ref jO)=some false
 pN:W.kitOne K (.ref aV) (.ref iP)=some false
 lQ:W.kitOne K (.ref aV) (.type "ValueError")=some true
 pZ:W.kitOne K (.ref aS) (.ref aX)=some false
 rP:W.kitOne K (.ref aS) (.ref aV)=some false
 pQ:W.kitOne K (.ref aS) (.ref aS)=some true
 nW:W.kitOne K (.ref aS) (.ref aT)=some false
 pS:W.kitOne K (.ref aS) (.ref jO)=some false
 oG:W.kitOne K (.ref aS) (.ref iP)=some false
 kX:W.kitOne K (.ref aS) (.type "ValueError")=some true
 nX:W.kitOne K (.ref aT) (.ref aX)=some false
 pT:W.kitOne K (.ref aT) (.ref aV)=some false
 oF:W.kitOne K (.ref aT) (.ref aS)=some false
 mP:W.kitOne K (.ref aT) (.ref aT)=some true
 oA:W.kitOne K (.ref aT) (.ref jO)=some false
 m3:W.kitOne K (.ref aT) (.ref iP)=some false
 kE:W.kitOne K (.ref aT) (.type "ValueError")=some true
 wG:mg "ValueError" =none
 GW:mg "any" =none
 nQ:mg "range" =none
 NS:mg "dict" =none
 P9:mg "list" =none
 bN:mg "isinstance" =none
 AJ:mg "int" =none
 PM:mg "str" =none
 PN:mg "all" =none
 iI:mg "len" =none
 N1:mg "bool" =none
 g8:∃t:Tok,mg "LONGEST_NAME" =some (.int 8 t)
local macro_rules| `(tactic| walk_at"hp")=> `(tactic| first|assumption|(refine' Same.at ?s ?h;(case s=>assumption);(case h=>walk_at"hp"))|(refine' SqL.of ?h;(case h=>walk_at"hp"))|(refine' SqT.of ?h;(case h=>walk_at"hp"))|(refine' Same.seq ?s ?h;(case s=>assumption);(case h=>walk_at"hp"))|(refine' Same.sqT ?s ?h;(case s=>assumption);(case h=>walk_at"hp")))
local macro_rules| `(tactic| walk_at"sm")=> `(tactic| first|assumption|exact Same.refl _|(refine' Same.snoc ?s ?h;(case s=>assumption);(case h=>walk_at"sm")))
local macro_rules| `(tactic| walk_at"sb")=> `(tactic| first|assumption|exact SameBut.refl|(refine' SameBut.snoc ?s ?h;(case s=>assumption);(case h=>walk_at"sb"))|(refine' SameBut.snocS ?s ?h;(case s=>assumption);(case h=>walk_at"sb")))
local macro_rules| `(tactic| walk_at"lk")=> `(tactic| first|assumption|exact MB|(with_reducible exact G0)|(refine' OG ?d ?h;(case d=>decide +kernel);(case h=>walk_at"lk")))
local macro_rules| `(tactic| walk_at"sz")=> `(tactic| first|with_reducible assumption|lia|omega|(simp only[dQ,sI,EF,ED,E5,DZ,FD,EZ,EO,FA,FQ,D2,yL,zT,y8,yX,AF,zJ,yV,yM,zZ,zL,y7,zD,yY,zN,zG,yH,sizeLine_eq,List.length_cons,List.length_nil,List.length_append,List.length_map];done)|(simp only[dQ,sI,EF,ED,E5,DZ,FD,EZ,EO,FA,FQ,D2,yL,zT,y8,yX,AF,zJ,yV,yM,zZ,zL,y7,zD,yY,zN,zG,yH,sizeLine_eq,List.length_cons,List.length_nil,List.length_append,List.length_map];omega)|(simp only[dQ,sI,EF,ED,E5,DZ,FD,EZ,EO,FA,FQ,D2,yL,zT,y8,yX,AF,zJ,yV,yM,zZ,zL,y7,zD,yY,zN,zG,yH,sizeLine_eq,List.length_cons,List.length_nil,List.length_append,List.length_map]at *;omega))
local macro_rules| `(tactic| walk_at"sd")=> `(tactic| first|with_reducible assumption|lia|omega|decide)
local macro_rules| `(tactic| walk_at"dc")=> `(tactic| first|((with_reducible refine ICls.cl (DCls.ic ?_));assumption)|((with_reducible refine DCls.ic ?_);assumption)|((with_reducible refine DCls.n_first ?_);assumption)|((with_reducible refine DCls.n_last ?_);assumption)|((with_reducible refine DCls.n_sizes ?_);assumption)|((with_reducible refine DCls.n_people ?_);assumption)|((with_reducible refine DCls.n_named_doors ?_);assumption)|((with_reducible refine DCls.n_name ?_);assumption)|((with_reducible refine DCls.n_start ?_);assumption)|((with_reducible refine DCls.n_end ?_);assumption)|((with_reducible refine DCls.n_wide ?_);assumption))
local macro_rules| `(tactic| walk_at"rd1")=> `(tactic| first|(with_reducible first|refine K6 ?_|refine MQ ?_|refine P4 ?_|refine PK ?_|refine ON ?_|refine O0 ?_|refine OA ?_|refine OL ?_|refine OJ ?_|refine O2 ?_|refine OB ?_|refine OD ?_|refine OC ?_|refine OZ ?_|refine rd_v10 ?_|refine rd_v11 ?_|refine rd_v12 ?_|refine IJ ?_|refine MY ?_|refine OP ?_|refine O9 ?_|refine J7 ?_|refine OF ?_|refine MP ?_|refine HL ?_|refine OS ?_|refine L6 ?_|refine O7 ?_|refine CP ?_|refine B1 ?_|refine JO ?_|refine JW ?_|refine rd_s0 ?_|refine O5 ?_|refine OY ?_|refine O8 ?_|refine OH ?_|refine OT ?_|refine O3 ?_|refine PB ?_|refine OQ ?_|refine OX ?_|refine LI ?_|refine rd_s11 ?_|refine rd_s12 ?_|refine MI ?_|refine IS ?_|refine HN ?_|refine rd_retN ?_|refine LH ?_|refine rd_and ?_|refine PH ?_|refine rd_andV ?_|refine rd_orV ?_|refine rd_notV ?_|refine rd_ifE ?_|refine rd_chain ?_|refine rd_un ?_|refine rd_U ?_|refine M1 ?_|refine rd_eqB ?_|refine M2 ?_|refine rd_eqSN ?_|refine rd_eqNS ?_|refine rd_eqNN ?_|refine rd_neI ?_|refine rd_neB ?_|refine rd_neS ?_|refine rd_neNN ?_|refine IT ?_|refine JR ?_|refine rd_isNI ?_|refine rd_isNR ?_|refine HW ?_|refine HF ?_|refine rd_ntNI ?_|refine rd_ntNR ?_|refine IH ?_|refine rd_ntNV ?_|refine LA ?_|refine M4 ?_|refine HQ ?_|refine HH ?_|refine J5 ?_|refine PD ?_|refine O4 ?_|refine rd_bm0 ?_|refine rd_bmS ?_|refine rd_bm0I ?_|refine rd_isiII ?_|refine rd_isiIB ?_|refine rd_isiBB ?_|refine rd_isiBI ?_|refine rd_isiSS ?_|refine rd_isiNS ?_|refine rd_max2 ?_|refine rd_min2 ?_|refine HE ?_|refine rd_intI ?_|refine BC ?_|refine IF ?_|refine MT ?_|refine rd_gsub ?_|refine IV ?_|refine DU ?_|refine MS ?_|refine DV ?_|refine rd_iTup ?_|refine ES ?_|refine rd_iRng2 ?_|refine rd_iStr ?_|refine rd_iStrV ?_|refine rd_break ?_|refine rd_cont ?_|refine rd_aug ?_)|((with_reducible refine' M7 ?s ?_);(case s=>decide))|((with_reducible refine' JQ ?s ?_);(case s=>walk_at"sd");intro h0' h1')|((with_reducible refine' rd_repL ?e ?a ?b ?s ?_);(case e=>walk_at"hp");(case a=>decide);(case b=>decide);(case s=>first|(simp;done)|(simp[sizeLine_eq];done)|walk_at"sz");intro p' H' n' S' e')|((with_reducible refine' LD ?s ?r ?_);(case s=>walk_at"sd");(case r=>walk_at"sd"))|((with_reducible refine' JY ?s ?r ?_);(case s=>walk_at"sd");(case r=>walk_at"sd"))|((with_reducible refine' rd_mulR ?s ?r ?_);(case s=>walk_at"sd");(case r=>walk_at"sd"))|((with_reducible refine' JZ ?s ?_);(case s=>walk_at"sz");intro p' H' n' S' e')|((with_reducible refine' IR ?s ?_);(case s=>walk_at"sz");intro p' H' n' S' e')|((with_reducible refine HV ?_);intro p' H' n' S' e')|((with_reducible refine' JN ?e ?c ?n ?l ?_);(case e=>walk_at"hp");(case c=>walk_at"dc");(case n=>walk_at"dc");(case l=>walk_at"lk"))|((with_reducible refine' EQ ?e ?c ?n ?l ?_);(case e=>walk_at"hp");(case c=>walk_at"dc");(case n=>walk_at"dc");(case l=>kernel_rfl);intro H' B' e')|((with_reducible refine' NK ?e ?l ?F ?_);(case e=>walk_at"hp");(case l=>walk_at"lk");(case F=>assumption))|((with_reducible refine' rd_isiC ?e ?i ?k ?_);(case e=>walk_at"hp");(case i=>walk_at"dc");(case k=>assumption))|((with_reducible refine' rd_ixL ?e ?l ?_);(case e=>walk_at"hp");(case l=>rfl))|((with_reducible refine' rd_ix2i ?e ?s ?r ?_);(case e=>walk_at"hp");(case s=>walk_at"sd");(case r=>walk_at"sd");intro v' hv')|((with_reducible refine' rd_ix3i ?e ?s ?r ?_);(case e=>walk_at"hp");(case s=>walk_at"sd");(case r=>walk_at"sd");intro v' hv')|((with_reducible refine' rd_setLm ?e ?l ?_);(case e=>walk_at"hp");(case l=>rfl);intro H' B' e')|((with_reducible refine' IU ?e ?_);(case e=>walk_at"hp"))|((with_reducible refine' rd_lenS ?e ?_);(case e=>walk_at"sz"))|((with_reducible refine' JC ?e ?_);(case e=>walk_at"sz"))|((with_reducible refine' rd_slS ?e ?_);(case e=>walk_at"sz");intro hl')|((with_reducible refine' rd_slI ?e ?_);(case e=>walk_at"hp");intro p' H' n' S' e')|((with_reducible refine' L7 ?e ?_);(case e=>walk_at"hp");intro p' H' n' S' e')|((with_reducible refine' JD ?e ?f ?s ?_);(case e=>walk_at"hp");(case f=>walk_at"hp");(case s=>walk_at"sz");intro p' H' n' S' e')|((with_reducible refine' rd_listOf ?e ?_);(case e=>walk_at"hp");intro p' H' n' S' e')|((with_reducible refine' ME ?e ?_);(case e=>walk_at"hp"))|((with_reducible refine' tT ?e ?_);(case e=>walk_at"hp"))|((with_reducible refine' BW ?s ?r ?_);(case s=>walk_at"sd");(case r=>walk_at"sd"))|((with_reducible refine' rd_iRng2V ?s ?r ?t ?u ?_);(case s=>walk_at"sd");(case r=>walk_at"sd");(case t=>walk_at"sd");(case u=>walk_at"sd"))|((with_reducible refine' rd_str ?s ?r ?_);(case s=>walk_at"sd");(case r=>walk_at"sd");intro hl')|((with_reducible refine' rd_gtupL ?e ?l ?_);(case e=>walk_at"hp");(case l=>rfl))|((with_reducible refine' IB ?e ?l ?_);(case e=>walk_at"hp");(case l=>rfl))|((with_reducible refine' rd_ifP ?s ?_);(case s=>walk_at"sd"))|((with_reducible refine' LL ?s ?_);(case s=>walk_at"sd"))|((with_reducible refine' rd_ifnP ?s ?_);(case s=>walk_at"sd"))|((with_reducible refine' rd_ifnN ?s ?_);(case s=>walk_at"sd")))
local macro_rules| `(tactic| walk_at"go")=> `(tactic| repeat walk_at"rd1")
local macro_rules| `(tactic| walk_at"gs")=> `(tactic| repeat ((fail_if_success (with_reducible refine FK ?_));walk_at"rd1"))
local macro_rules| `(tactic| walk_at"nn")=> `(tactic| repeat first|exact nn_nil|refine nn_app ?_ ?_|refine nn_cons (by omega) ?_|exact nn_map (fun n=>by omega))
section
variable {P:Program}{w:World}{K:W.Frag}{mg:Str->Option Value}{base:Heap}
def LW:V->Bool
 | .int _=>true
 | _=>false
def pG (K:W.Frag):Sp:=fun vs H Q _=>∃x n,vs=[x]/\BTy K H x n/\Q (.bl (LW x)) H
theorem DT {H:Hp}{Q:VK}{E:XK}{i:Int} (h:Q (.bl true) H):pG K [.int i] H Q E:=⟨_,_,rfl,.int i,h⟩
theorem w5 (m:M K mg):bK P w K mg base CX0 1 m.k6 m.kW ["thing"] (pG K):=by
 refine m.i8.ok sc_is_whole (fun vs H Q E h=> ?_) (fun cdv A outer s H vs Q E hr h=> ?_)
 ·obtain⟨x,n,rfl,b,k⟩:=h;rfl
 ·obtain⟨x,n,rfl,b,k⟩:=h;have nd:=sc_is_whole.nd;walk_at"hu";refine⟨_,(aH (b0 (BG (aW oV rfl m.bN bI (aA (pv 0) (aA (uZ rfl m.AJ vE) aB))) (CI (LN (aW oV rfl m.bN bI (aA (pv 0) (aA (uZ rfl m.N1 JI) aB)))))))),?_⟩;refine bG (σ:=[some (x)]) rfl ?_;refine⟨_,rfl,_,_,_,_,_,rfl,b.ty,rfl,zQ b "int" (.inl rfl),_,rfl,?_⟩;refine r9 (fun h1=>⟨_,rfl,_,_,_,_,_,rfl,b.ty,rfl,zQ b "bool" (.inr (.inl rfl)),_,rfl,?_⟩) (fun h1=> ?_)
  ·cases b<;>first|exact k|exact absurd h1 (by decide)
  ·cases b<;>first|exact k|exact absurd (by decide) h1
theorem w9 (m:M K mg):Fc P w K mg base "is_whole" 1 ["thing"] (pG K):=⟨_,_,m.AN,m.i8.kp,m.AI,w5 m⟩
def nmB:V->Bool
 | .str z=>aZ z
 | _=>false
def rY (K:W.Frag):Sp:=fun vs H Q _=>∃x n,vs=[x]/\BTy K H x n/\(∀z,x= .str z->z.length<=1000)/\∀H',Same H H'->Q (.bl (nmB x)) H'
theorem IQ {H:Hp}{Q:VK}{E:XK}{z:Str} (hz:aZ z=true) (h:∀H',Same H H'->Q (.bl true) H'):rY K [.str z] H Q E :=
 ⟨_,_,rfl,.str z,fun y e=>by cases e;exact Nat.le_trans (C0 hz) (by decide),fun H' s=>by rw[show nmB (.str z)=true from hz];exact h H' s⟩
theorem le1 (a c:Nat):(!decide ([c]<[a]))=decide (a<=c):=by
 have:([c]<[a])↔c<a:=by
  constructor
  ·intro h;cases h with
   | rel h=>exact h
   | cons h=>cases h
  ·exact fun h=> .rel h
 by_cases h:c<a
 ·rw[decide_eq_true (this.mpr h),decide_eq_false (by lia)];rfl
 ·rw[decide_eq_false (fun z=>h (this.mp z)),decide_eq_true (by lia)];rfl
theorem O6:("a" :Str).cps.toList=[97]:=by decide +kernel
theorem O1:("z" :Str).cps.toList=[122]:=by decide +kernel
theorem tF {α:Type}(p:α->Bool)(d:α):∀l:List α,((List.range l.length).map fun i=>p (l.getD i d)).all id=l.all p
 | []=>rfl
 | a::l=>by
  rw[List.length_cons,List.range_succ_eq_map,List.map_cons,List.all_cons,List.map_map,List.all_cons,←tF p d l];rfl
theorem jE {H:Hp}{p:Addr}{o:HO} (h:H p=none):Same H (upd H p o):=fun b u e=>by rw[aG (aL e h)];exact e
theorem zF (m:M K mg):bK P w K mg base CX0 1 m.nF m.mR ["thing"] (rY K):=by
 refine m.j5.ok sc_is_name (fun vs H Q E h=> ?_) (fun cdv A outer s H vs Q E hr h=> ?_)
 ·obtain⟨x,n,rfl,b,hz,k⟩:=h;rfl
 ·obtain⟨x,n,rfl,b,hz,k⟩:=h;have nd:=sc_is_name.nd;walk_at"hu";obtain⟨tok_LONGEST_NAME,g8⟩:=m.g8;refine⟨_,(aC (bS (qZ (iJ (aW oV rfl m.bN bI (aA (pv 0) (aA (uZ rfl m.PM LY) aB))))) (aH (b0 qH)) bF)
   (aH (b0 (BG (u9 GV GV aD (aW BV rfl m.iI fM (aA (pv 0) aB)) (JV rfl g8)) (CI (aW (E7 rfl) rfl m.PN NB (aA (f9 (N:=["sign"]) (nl:=1) (ci:=[]) rfl (blk (s.heap.objs.size+1) rfl rfl rfl (by kernel_rfl)) (ND (pv 0)) (fun _ _ _ _=>(aU (i:=0) (show (["sign"]:List Str).Nodup by decide +kernel) rfl (by walk_at"oi"))) (fun _ _ _ _=>eT) (fun _ _ _ _=>(u9 CY CY bA (pv 0) bA))) aB))))))),?_⟩
  refine bG (σ:=[some (x)]) rfl ?_;refine⟨_,rfl,_,_,_,_,_,rfl,b.ty,rfl,zQ b "str" (.inr (.inr rfl)),_,rfl,?_⟩;refine r9 (fun h1=> ?_) (fun h1=> ?_)
  ·show Q (.bl false) H;cases b<;>first|exact k H (Same.refl H)|exact absurd h1 (by decide)
  ·have hs:∃z,x= .str z:=by
    cases b<;>first|exact⟨_,rfl⟩|exact absurd (by decide) h1
   obtain⟨z,rfl⟩:=hs;have hl:=hz z rfl;have hl':z.length<=sizeLine:=Nat.le_of_lt (BN hl);refine⟨_,rfl,z,rfl,hl',_,_,rfl,rfl,_,rfl,?_⟩;refine r9 (fun h2=>⟨_,_,rfl,rfl,_,rfl,?_⟩) (fun h2=>⟨_,rfl,?_⟩)
   ·refine r9 (fun h3=> ?_) (fun h3=> ?_)
    ·refine⟨_,rfl,z,rfl,?_⟩;refine JB z.cps.size (fun i=> .bl (sgB (z.cps.toList.getD i 0))) hl' (fun H'=>H'=H) rfl (fun _ _=>rfl) (fun i _ hi _=>hi) ?_ ?_ ?_ ?_ ?_
     ·rintro i _ x H' hi rfl ⟨rfl,c,hc,rfl⟩;refine⟨⟨rfl,fun j v hv=> ?_⟩,rfl,?_⟩
      ·match j,hv with
       | 0,hv=>cases hv
       | j+1,hv=>cases hv
      ·have hc':z.cps.toList.getD i 0=c:=by
        rw[List.getD_eq_getElem?_getD,Array.getElem?_toList,hc];rfl
       refine⟨_,rfl,_,_,rfl,rfl,_,rfl,?_⟩;rw[O6,hc'];refine r9 (fun h4=>⟨_,_,rfl,rfl,?_,rfl⟩) (fun h4=>⟨?_,rfl⟩)
       ·have h4':97<=c:=by rw[show (⟨#[c]⟩:Str).cps.toList=[c] from rfl,le1]at h4;exact of_decide_eq_true h4
        rw[O1,show (⟨#[c]⟩:Str).cps.toList=[c] from rfl,le1];unfold sgB;rw[decide_eq_true h4',Bool.true_and]
       ·have h4':¬97<=c:=by rw[show (⟨#[c]⟩:Str).cps.toList=[c] from rfl,le1]at h4;exact fun z=>h4 (decide_eq_true z)
        unfold sgB;rw[decide_eq_false h4',Bool.false_and]
     ·exact fun _ _ _ _ f q=>f _ _ q
     ·rintro σ H Q Q' f ⟨v,e,i,j,e1,e2,k,e3,q⟩;refine⟨v,e,i,j,e1,e2,k,e3,?_⟩;revert q
      split
      ·rintro ⟨i,j,e1,e2,q⟩;exact⟨i,j,e1,e2,f _ _ q⟩
      ·exact fun q=>f _ _ q
     ·exact fun _ _ _ _ _ f q=>f _ _ q
     ·rintro _ rfl p hp;refine⟨p,(List.range z.cps.size).map (fun i=>sgB (z.cps.toList.getD i 0)),rfl,SqL.of ?_,?_⟩
      ·rw[aR,List.map_map];rfl
      ·have e:=tF sgB 0 z.cps.toList;rw[Array.length_toList]at e;rw[e];have e2:nmB (.str z)=z.cps.toList.all sgB:=by
        show aZ z=_;unfold aZ;rw[show decide (1<=(z.length:Int))=true from h2,show decide ((z.length:Int)<=8)=true from h3];rfl
       rw[←e2];exact k _ (jE hp)
    ·have e2:nmB (.str z)=false:=by
      show aZ z=_;unfold aZ;rw[show decide ((z.length:Int)<=8)=false from by simpa using h3];simp
     have:=k H (Same.refl H);rw[e2]at this;exact this
   ·have e2:nmB (.str z)=false:=by
     show aZ z=_;unfold aZ;rw[show decide (1<=(z.length:Int))=false from by simpa using h2];simp
    have:=k H (Same.refl H);rw[e2]at this;exact this
theorem z5 (m:M K mg):Fc P w K mg base "is_name" 1 ["thing"] (rY K):=⟨_,_,m.DE,m.j5.kp,m.DH,zF m⟩
local macro_rules| `(tactic| walk_at"rd1")=> `(tactic| first|(with_reducible refine DT ?_)|((with_reducible refine' IQ ?s ?_);(case s=>assumption);intro H' S'))
def jD (K:W.Frag):Sp:=fun vs H Q _=>∃(part z:Str),vs=[.str part,.str z]/\aZ z=true/\∀H',Same H H'->Q .non H'
theorem wX {H:Hp}{Q:VK}{E:XK}{part z:Str} (hz:aZ z=true) (h:∀H',Same H H'->Q .non H'):jD K [.str part,.str z] H Q E:=⟨_,_,rfl,hz,h⟩
theorem vY (m:M K mg):bK P w K mg base CX0 2 m.j7 m.j8 ["part","thing"] (jD K):=by
 refine m.eM.ok sc_need_name (fun vs H Q E h=> ?_) (fun cdv A outer s H vs Q E hr h=> ?_)
 ·obtain⟨part,z,rfl,hz,k⟩:=h;rfl
 ·obtain⟨part,z,rfl,hz,k⟩:=h;have nd:=sc_need_name.nd;walk_at"hu";have j5:= @z5 P w K mg base m;refine⟨_,(aH (bS (qZ (iJ (b9 j5 hr (aA (pv 1) aB)))) (aH wA) bF)),?_⟩;refine bG (σ:=[some (.str part),some (.str z)]) rfl ?_;walk_at"go";exact k _ (by walk_at"sm")
theorem u7 (m:M K mg):Fc P w K mg base "need_name" 2 ["part","thing"] (jD K):=⟨_,_,m.xF,m.eM.kp,m.xE,vY m⟩
def iQ (K:W.Frag):Sp:=fun vs H Q _=>∃(part:Str) (i l:Int),vs=[.str part,.int i,.int l]/\l<=i/\Q .non H
theorem vF {H:Hp}{Q:VK}{E:XK}{part:Str}{i l:Int} (hz:l<=i) (h:Q .non H):iQ K [.str part,.int i,.int l] H Q E:=⟨_,_,_,rfl,hz,h⟩
theorem uP (m:M K mg):bK P w K mg base CX0 2 m.jS m.jI ["part","thing","least"] (iQ K):=by
 refine m.gX.ok sc_need_whole (fun vs H Q E h=> ?_) (fun cdv A outer s H vs Q E hr h=> ?_)
 ·obtain⟨part,i,l,rfl,hz,k⟩:=h;rfl
 ·obtain⟨part,i,l,rfl,hz,k⟩:=h;have nd:=sc_need_whole.nd;walk_at"hu";have i8:= @w9 P w K mg base m;refine⟨_,(aH (bS (PW.pt (GC (qZ (iJ (b9 i8 hr (aA (pv 1) aB)))) (CW (bU qL (pv 1) (pv 2) (bL _))))) (aH wA) bF)),?_⟩;refine bG (σ:=[some (.str part),some (.int i),some (.int l)]) rfl ?_;walk_at"go";exact k
theorem uL (m:M K mg):Fc P w K mg base "need_whole" 2 ["part","thing","least"] (iQ K):=⟨_,_,m.wO,m.gX.kp,m.wD,uP m⟩
local macro_rules| `(tactic| walk_at"rd1")=> `(tactic| first|((with_reducible refine' wX ?s ?_);(case s=>assumption);intro H' S')|((with_reducible refine' vF ?s ?_);(case s=>walk_at"sd")))
abbrev qU (n s e w:V):List (Str×V):=cD "wide" w (cD "end" e (cD "start" s (cD "name" n [])))
def jZ (e:V):Prop:=e= .non∨∃z,e= .str z/\aZ z=true
def d5 (K:W.Frag):Sp:=fun vs H Q _=>∃(p C dx:Addr) (n s:Str) (e:V) (wd:Int),vs=[.ref p,.str n,.str s,e,.int wd]/\DCls K C/\H p=some (.ins C dx [])/\aZ n=true/\aZ s=true/\jZ e/\0<=wd ∧
 ∀H',SameBut p H H'->H' p=some (.ins C dx (qU (.str n) (.str s) e (.int wd)))->Q .non H'
theorem oK {H:Hp}{Q:VK}{E:XK}{p C dx:Addr}{n s:Str}{e:V}{wd:Int} (dc:DCls K C) (hp:H p=some (.ins C dx [])) (hn:aZ n=true) (hs:aZ s=true) (he:jZ e) (hw:0<=wd)
  (k:∀H',SameBut p H H'->H' p=some (.ins C dx (qU (.str n) (.str s) e (.int wd)))->Q .non H'):d5 K [.ref p,.str n,.str s,e,.int wd] H Q E:=⟨_,_,_,_,_,_,_,rfl,dc,hp,hn,hs,he,hw,k⟩
theorem fQ (m:M K mg):bK P w K mg base CX0 3 m.gR m.dO ["self","name","start","end","wide"] (d5 K):=by
 refine m.rM.ok sc_Door___init__ (fun vs H Q E h=> ?_) (fun cdv A outer s H vs Q E hr h=> ?_)
 ·obtain⟨p,C,dx,n,st,e,wd,rfl,dc,hp,hn,hs,he,hw,k⟩:=h;rfl
 ·obtain⟨p,C,dx,n,st,e,wd,rfl,dc,hp,hn,hs,he,hw,k⟩:=h;have nd:=sc_Door___init__.nd;walk_at"hu";have eM:= @u7 P w K mg base m;have gX:= @uL P w K mg base m;refine⟨_,(aC (dJ (b9 eM hr (aA bA (aA (pv 1) aB))))
   (aC (dJ (b9 eM hr (aA bA (aA (pv 2) aB))))
   (aC (bS (bU JM (pv 3) fO (bL _)) (aH (dJ (b9 eM hr (aA bA (aA (pv 3) aB))))) bF)
   (aC (dJ (b9 gX hr (aA bA (aA (pv 4) (aA aD aB)))))
   (aC (gK (pv 0) (pv 1) rfl)
   (aC (gK (pv 0) (pv 2) rfl)
   (aC (gK (pv 0) (pv 3) rfl)
   (aH (gK (pv 0) (pv 4) rfl))))))))),?_⟩
  refine bG (σ:=[some (.ref p),some (.str n),some (.str st),some (e),some (.int wd)]) rfl ?_;rcases he with rfl|⟨z,rfl,hz⟩
  ·walk_at"go";exact k _ (by walk_at"sb") (by assumption)
  ·walk_at"go";exact k _ (by walk_at"sb") (by assumption)
theorem AW (m:M K mg):Kc P w K mg base "Door" m.eZ 3 [] (d5 K):=⟨_,_,_,_,m.wN,m.sY,.nil,m.rJ,fQ m⟩
theorem DA (m:M K mg):Kc P w K mg base "Door" m.eZ 3 [.int 1] (d5 K):=by
 obtain⟨ds,h1,h2⟩:=m.nG;exact⟨_,_,_,_,m.wN,m.sY,h1,h2,fQ m⟩
theorem BU (m:M K mg):Kc P w K mg base "Door" m.eZ 3 [.non,.int 1] (d5 K):=by
 obtain⟨ds,h1,h2⟩:=m.m5;exact⟨_,_,_,_,m.wN,m.sY,h1,h2,fQ m⟩
theorem E8 {H:Hp}{Q:VK}{E:XK}{C:Addr}{vs dvs:List V}{n s:Str}{e:V}{wd:Int} (ev:vs++dvs=[.str n,.str s,e,.int wd]) (dc:DCls K C) (hn:aZ n=true) (hs:aZ s=true) (he:jZ e) (hw:0<=wd)
  (k:∀p dx H',H p=none->Same H H'->H' p=some (.ins C dx (qU (.str n) (.str s) e (.int wd)))->Q (.ref p) H'):uV C (d5 K) dvs E Q vs H :=
 D7 (fun p dx H0 Q' h k' s0=>by rw[ev];exact oK dc h hn hs he hw k') k
local macro_rules| `(tactic| walk_at"rd1")=> `(tactic| ((with_reducible refine' E8 ?v ?d ?hn ?hs ?he ?hw ?_);(case v=>rfl);(case d=>assumption);(case hn=>assumption);(case hs=>assumption);(case he=>first|assumption|exact .inl rfl|exact .inr ⟨_,rfl,by assumption⟩);(case hw=>walk_at"sd");intro p' dx' H' n' S' e'))
def jB (K:W.Frag):Sp:=fun vs H Q _=>∃(p C dx:Addr) (fs:List (Str×V)) (e:V),vs=[.ref p]/\DCls K C/\H p=some (.ins C dx fs)/\fs.lookup ("end" :Str)=some e/\Q (.bl (decide (e= .non))) H
theorem GZ {H:Hp}{Q:VK}{E:XK}{p C dx:Addr}{fs:List (Str×V)} (hp:H p=some (.ins C dx fs)) (dc:DCls K C) (l:fs.lookup ("end" :Str)=some .non) (k:Q (.bl true) H):jB K [.ref p] H Q E:=⟨_,_,_,_,_,rfl,dc,hp,l,k⟩
theorem KA {H:Hp}{Q:VK}{E:XK}{p C dx:Addr}{fs:List (Str×V)}{z:Str} (hp:H p=some (.ins C dx fs)) (dc:DCls K C) (l:fs.lookup ("end" :Str)=some (.str z)) (k:Q (.bl false) H):jB K [.ref p] H Q E :=
 ⟨_,_,_,_,_,rfl,dc,hp,l,by rw[decide_eq_false (fun z=>by cases z)];exact k⟩
theorem qI (m:M K mg):bK P w K mg base CX0 1 m.hV m.iB ["self"] (jB K):=by
 refine m.sR.ok sc_Door_is_exit (fun vs H Q E h=> ?_) (fun cdv A outer s H vs Q E hr h=> ?_)
 ·obtain⟨p,C,dx,fs,e,rfl,dc,hp,l,k⟩:=h;rfl
 ·obtain⟨p,C,dx,fs,e,rfl,dc,hp,l,k⟩:=h;have nd:=sc_Door_is_exit.nd;walk_at"hu";refine⟨_,(aH (b0 (jA BT (eY (pv 0) rfl) fO (bL _)))),?_⟩;refine bG (σ:=[some (.ref p)]) rfl ?_;walk_at"go";exact k
theorem qM (m:M K mg):Mc P w K mg base m.eZ "is_exit" 1 (jB K):=⟨_,_,_,m.kF.ic.cl,m.rH,m.sZ,qI m⟩
local macro_rules| `(tactic| walk_at"rd1")=> `(tactic| first|((with_reducible refine' GZ ?e ?d ?l ?_);(case e=>walk_at"hp");(case d=>assumption);(case l=>walk_at"lk"))|((with_reducible refine' KA ?e ?d ?l ?_);(case e=>walk_at"hp");(case d=>assumption);(case l=>walk_at"lk")))
local macro_rules| `(tactic| walk_at"rd1")=> `(tactic| ((with_reducible refine' oK ?d ?e ?hn ?hs ?he ?hw ?_);(case d=>assumption);(case e=>walk_at"hp");(case hn=>assumption);(case hs=>assumption);(case he=>assumption);(case hw=>walk_at"sd");intro H' B' e'))
abbrev aM:=Str×Str×V×(Int->Int)
def DY:HO->Prop
 | .lst _=>True
 | .dK _=>True
 | .dT _=>True
 | .tbl _=>True
 | .ins _ _ fs=>fs=[]
 | _=>False
structure dU where
 at':Hp->V->aM->Prop
 same:∀{H H' v d},at' H v d->Same H H'->at' H' v d
 but:∀{H H' v d p o},at' H v d->H p=some o->DY o->SameBut p H H'->at' H' v d
def FW (P:Program)(w:World)(K:W.Frag)(mg:Str->Option Value)(base:Heap)(kL:Option Nat)(p C dx:Addr)(fs:List (Str×V))(fp:List (Addr×HO))(lt:Int->Int):Prop:=∀kl,kL=some kl →
 ∃sp,Mc P w K mg base C "lets" kl sp/\∀(H':Hp) (t:Int) (Q:VK),H' p=some (.ins C dx fs)->(∀x∈fp,H' x.1=some x.2)->0<=t->(∀H'',Same H' H''->Q (.int (lt t)) H'')->sp [.ref p,.int t] H' Q E0
inductive DoorAt (P:Program)(w:World)(K:W.Frag)(mg:Str->Option Value)(base:Heap)(kL:Option Nat)(H:Hp)(v:V)(d:aM):Prop
 | mk (p C dx:Addr) (fs:List (Str×V)) (fp:List (Addr×HO)) (_:v= .ref p) (_:H p=some (.ins C dx fs)) (_:DCls K C) (_:fs.lookup ("name" :Str)=some (.str d.1)) (_:fs.lookup ("start" :Str)=some (.str d.2.1)) (_:fs.lookup ("end" :Str)=some d.2.2.1) (_:fs.lookup ("is_exit" :Str)=none) (_:fs.lookup ("lets" :Str)=none) (_:Mc P w K mg base C "is_exit" 1 (jB K)) (_:∀x∈fp,H x.1=some x.2/\¬DY x.2) (_:FW P w K mg base kL p C dx fs fp d.2.2.2):DoorAt P w K mg base kL H v d
inductive FY (P:Program)(w:World)(K:W.Frag)(mg:Str->Option Value)(base:Heap)(kL:Option Nat)(H:Hp)(v:V)(n st:Str)(e:V)(lt:Int->Int):Prop
 | mk (p C dx:Addr) (fs:List (Str×V)) (fp:List (Addr×HO)) (_:v= .ref p) (_:H p=some (.ins C dx fs)) (_:DCls K C) (_:fs.lookup ("name" :Str)=some (.str n)) (_:fs.lookup ("start" :Str)=some (.str st)) (_:fs.lookup ("end" :Str)=some e) (_:fs.lookup ("is_exit" :Str)=none) (_:fs.lookup ("lets" :Str)=none) (_:Mc P w K mg base C "is_exit" 1 (jB K)) (_:∀x∈fp,H x.1=some x.2/\¬DY x.2) (_:FW P w K mg base kL p C dx fs fp lt):FY P w K mg base kL H v n st e lt
theorem DoorAt.ex {kL:Option Nat}{H:Hp}{v:V}{n st:Str}{e:V}{lt:Int->Int} (h:DoorAt P w K mg base kL H v (n,st,e,lt)):FY P w K mg base kL H v n st e lt:=by
 obtain⟨p,C,dx,fs,fp,h1,h2,h3,h4,h5,h6,h7,h8,h9,h10,h11⟩:=h;exact⟨p,C,dx,fs,fp,h1,h2,h3,h4,h5,h6,h7,h8,h9,h10,h11⟩
def aY (P:Program)(w:World)(K:W.Frag)(mg:Str->Option Value)(base:Heap)(kL:Option Nat):dU where
 at':=DoorAt P w K mg base kL
 same:=fun⟨p,C,dx,fs,fp,e,hp,dc,l1,l2,l3,l4,l5,mc,hf,lt⟩ s=>⟨p,C,dx,fs,fp,e,s _ _ hp,dc,l1,l2,l3,l4,l5,mc,fun x hx=>⟨s _ _ (hf x hx).1,(hf x hx).2⟩,lt⟩
 but:=fun {H H' v d q o} ⟨p,C,dx,fs,fp,e,hp,dc,l1,l2,l3,l4,l5,mc,hf,lt⟩ ho so sb=>⟨p,C,dx,fs,fp,e,sb _ _ hp (fun z=>by
   rw[z,ho]at hp;cases hp;have h:fs=[]:=so;rw[h]at l1;cases l1),dc,l1,l2,l3,l4,l5,mc,fun x hx=>⟨sb _ _ (hf x hx).1 (fun z=>by
   have h:=(hf x hx).1;rw[z,ho]at h;cases h;exact(hf x hx).2 so),(hf x hx).2⟩,lt⟩
local macro_rules| `(tactic| walk_at"rd1")=> `(tactic| first|(with_reducible refine J3 ?_)|(with_reducible refine JL ?_)|(with_reducible refine MN ?_)|(with_reducible refine BJ ?_)|(with_reducible refine AS ?_)|(with_reducible refine rd_iItemsK ?_)|(with_reducible refine rd_iItemsT ?_)|(with_reducible refine rd_dget2 ?_)|((with_reducible refine FL ?_);intro p' H' n' S' e')|((with_reducible refine rd_dnewT ?_);intro p' H' n' S' e'))
theorem jX {H:Hp}{Q:VK}{l:Addr}{xs:List V}{y:V} (e:H l=some (.lst xs)) (hz:xs.length<sizeLine) (h:∀H',SameBut l H H'->H' l=some (.lst (xs++[y]))->Q .non H'):xM (.ref l) [y] H Q :=
 ⟨l,xs,y,rfl,rfl,e,hz,h _ SameBut.upd aR⟩
theorem DW {α:Type}{ss:List α} (nd:ss.Nodup) {i:Nat}{z:α} (hz:ss[i]? =some z):z∉ss.take i:=fun h=>by
 obtain⟨hi,e⟩:=List.getElem?_eq_some_iff.mp hz;obtain⟨j,hj,ej⟩:=List.getElem_of_mem h;rw[List.length_take]at hj;rw[List.getElem_take]at ej;exact(List.pairwise_iff_getElem.mp nd) j i (by lia) hi (by lia) (ej.trans e.symm)
theorem fD {α:Type}{ss:List α}{i:Nat}{z:α} (hz:ss[i]? =some z):ss.take (i+1)=ss.take i++[z]:=by rw[List.take_succ,hz];rfl
def jG (rs:List Str)(d:aM):Prop:=d.2.1∈rs/\(d.2.2.1= .non∨∃z,d.2.2.1= .str z/\z∈rs)
def bT (H:Hp)(v:V)(p:Str×Int):Prop:=∃q,v= .ref q/\H q=some (.tup [.str p.1,.int p.2])
theorem bM {H H':Hp}{vs:List V}{ps:List (Str×Int)} (h:Paired (bT H) vs ps) (s:Same H H'):Paired (bT H') vs ps:=Paired.imp' (fun v z ⟨q,e,h⟩=>⟨q,e,s _ _ h⟩) h
theorem JP {H H':Hp}{a:Addr}{u:HO} (s:Same H H') (r:Rd H a u):Rd H' a u:=r.elim (fun e=> .inl (s _ _ e)) fun⟨o,e⟩=> .inr ⟨o,s _ _ e⟩
theorem FH {H:Hp}{Q:VK}{i j:Int} (h:Q (.int (i+j)) H):LJ (.int i) (.int j) H Q:=by
 first|exact h|exact⟨_,_,rfl,rfl,h⟩|exact .inl ⟨_,_,rfl,rfl,h⟩
theorem vV {H H':Hp}{p c:Addr}{kvs:List (Key×V)}{xs:List V} (h:SqL K H c xs) (hp:H p=some (.dK kvs)) (sb:SameBut p H H'):SqL K H' c xs:=by
 rcases h with (h|⟨o,h⟩)|h
 ·exact .inl (.inl (sb _ _ h fun z=>by rw[z,hp]at h;cases h))
 ·exact .inl (.inr ⟨o,sb _ _ h fun z=>by rw[z,hp]at h;cases h⟩)
 ·exact .inr h
def szK (rz:List (Str×Int)):List (Key×V):=rz.map fun e=>((.inr e.1:Key),V.int e.2)
theorem xY (rz:List (Str×Int)):(szK rz).map (·.1)=(rz.map (·.1)).map (Sum.inr:Str->Key):=by unfold szK;rw[List.map_map,List.map_map];rfl
theorem BK {rs:List Str}(nd:rs.Nodup):(rs.map (Sum.inr:Str->Key)).Nodup:=by
 rw[List.Nodup,List.pairwise_map];exact List.Pairwise.imp (fun h z=>h (Sum.inr.inj z)) nd
theorem o7 {rz:List (Str×Int)}(nd:(rz.map (·.1)).Nodup):((szK rz).map (·.1)).Nodup:=by rw[xY];exact BK nd
theorem xO {rz:List (Str×Int)}(nd:(rz.map (·.1)).Nodup){e:Str×Int}(h:e∈rz):bH (szK rz) (.inr e.1)=some (.int e.2) :=
 r6 (e:=((.inr e.1:Key),V.int e.2)) (o7 nd) (List.mem_map.mpr ⟨e,h,rfl⟩)
theorem EC {rz:List (Str×Int)}(nd:(rz.map (·.1)).Nodup){z:Str}(h:z∈rz.map (·.1)):∃i,(z,i)∈rz/\bH (szK rz) (.inr z)=some (.int i):=by
 obtain⟨e,he,rfl⟩:=List.mem_map.mp h;exact⟨e.2,he,xO nd he⟩
theorem tO {kvs:List (Key×V)}{k:Key} (h:∀e∈kvs,e.1≠k):bH kvs k=none:=by
 induction kvs with
 | nil=>rfl
 | cons a l ih =>
  rw[cI (h a (.head _))];exact ih fun e he=>h e (List.mem_cons_of_mem _ he)
theorem tN:∀(ps kvs:List (Key×V)),(ps.map (·.1)).Nodup->(∀e∈kvs,∀q∈ps,e.1≠q.1)->gG kvs ps=kvs++ps
 | [],kvs,_,_=>(List.append_nil _).symm
 | (k,v)::ps,kvs,nd,h=>by
  have nd':=List.pairwise_cons.mp nd;show gG (cU kvs k v) ps=_;rw[u5 v (tO fun e he=>h e he _ (.head _)),tN ps _ nd'.2,List.append_assoc]
  ·rfl
  ·intro e he q hq;rcases List.mem_append.mp he with he|he
   ·exact h e he q (List.mem_cons_of_mem _ hq)
   ·cases List.mem_singleton.mp he;exact nd'.1 q.1 (List.mem_map.mpr ⟨q,hq,rfl⟩)
theorem FI {rz:List (Str×Int)}(nd:(rz.map (·.1)).Nodup):gG [] (szK rz)=szK rz:=by
 rw[tN _ _ (o7 nd) (fun e he=>absurd he (List.not_mem_nil))];rfl
theorem GN {kvs:List (Key×V)}:∀(o:Obj) (x:HO),HO.dK kvs≠ .frz o x:=fun _ _ z=>by cases z
def vN (rz:List (Str×Int))(ps:List (Str×Int))(kvs:List (Key×V)):Prop:=∀z∈rz.map (·.1),bH kvs (.inr z)=some (.int (cB ps z))
def oU (K:W.Frag):Sp:=fun vs H Q _=>∃(a b:Addr) (rz:List (Str×Int)) (ws:List V) (ps:List (Str×Int)),vs=[.ref a,.ref b]/\H a=some (.dK (szK rz))/\SqL K H b ws/\Paired (bT H) ws ps/\(∀p∈ps,p.1∈rz.map (·.1))/\(rz.map (·.1)).Nodup/\rz.length<=100/\∀p H' kvs,H p=none->Same H H'->H' p=some (.dK kvs)->kvs.map (·.1)=(szK rz).map (·.1)->vN rz ps kvs->Q (.ref p) H'
theorem xV {H:Hp}{Q:VK}{E:XK}{a b:Addr}{rz:List (Str×Int)}{ws:List V}{ps:List (Str×Int)} (ha:H a=some (.dK (szK rz))) (hb:SqL K H b ws) (hw:Paired (bT H) ws ps) (hwr:∀p∈ps,p.1∈rz.map (·.1)) (nd:(rz.map (·.1)).Nodup) (hl:rz.length<=100) (h:∀p H' kvs,H p=none->Same H H'->H' p=some (.dK kvs)->kvs.map (·.1)=(szK rz).map (·.1)->vN rz ps kvs->Q (.ref p) H'):oU K [.ref a,.ref b] H Q E:=⟨_,_,_,_,_,rfl,ha,hb,hw,hwr,nd,hl,h⟩
theorem EJ {kvs:List (Key×V)}{k:Key}{v:V} (h:(bH kvs k).isSome=true):(cU kvs k v).map (·.1)=kvs.map (·.1):=by
 unfold cU;rw[fS,if_pos h,List.map_map]
 apply List.map_congr_left
 intro x _;show (if x.1=k then (x.1,v) else x).1=x.1
 split<;>rfl
theorem rD (m:M K mg):bK P w K mg base CX0 1 m.g9 m.hJ ["sizes","people"] (oU K):=by
 refine m.cW.ok sc_added_people (fun vs H Q E h=> ?_) (fun cdv A outer s H vs Q E hr h=> ?_)
 ·obtain⟨a,b,rz,ws,ps,rfl,ha,hb,hw,hwr,ndz,hlen,k⟩:=h;rfl
 ·obtain⟨a,b,rz,ws,ps,rfl,ha,hb,hw,hwr,ndz,hlen,k⟩:=h;have nd:=sc_added_people.nd;walk_at"hu";refine⟨_,(aC (aO (i:=2) nd rfl (by walk_at"oi") oR)
   (aC (J2 (iO PassesOwn.never rfl (v6 (pv 0)) (aU (i:=3) nd rfl (by walk_at"oi")) (aH (sN hu1 (pv 2) (pv 3) aD rfl))))
   (aC (iO PassesOwn.never rfl (dI (pv 1)) (kD (n:=2) rfl (bW (aU (i:=3) nd rfl (by walk_at"oi")) (bW (aU (i:=4) nd rfl (by walk_at"oi")) fZ))) (aH (IX hu1 (pv 2) (pv 3) (pv 4) M8 (fun _ _ _=>rfl))))
   (aH (b0 (pv 2)))))),?_⟩
  refine bG (σ:=[some (.ref a),some (.ref b),none,none,none]) rfl ?_;walk_at"go";rename_i p H1 n1 S1 e1;have hap:a≠p:=fun z=>by rw[z,n1]at ha;cases ha
  have ha1:=S1 _ _ ha;have hl2:(szK rz).length=rz.length:=by unfold szK;rw[List.length_map]
  refine FC ha1 GN ?_;walk_at"go";refine vK ha1 fun o H2 B2 e2=> ?_;have ep2:H2 p=some (.dK []):=B2 _ _ e1 (Ne.symm hap);have hwl:ws.length=ps.length:=Paired.length hw;refine FJ (szK rz) (fun i σ' H'=>SameBut p H2 H'/\H' p=some (.dK ((rz.take i).map fun e=>((.inr e.1:Key),V.int 0)))/\∃x,σ'=[some (.ref a),some (.ref b),some (.ref p),x,none]) ⟨SameBut.refl,ep2,_,rfl⟩ (fun i σ' H' q=>q.1 _ _ e2 hap) ?_ ?_
  ·rintro i kk v _ H' hx ⟨sb,ek,y,rfl⟩;unfold szK at hx;rw[List.getElem?_map]at hx;obtain⟨⟨z,sz⟩,hz,ez⟩:=Option.map_eq_some_iff.mp hx;cases ez;have hi:i<rz.length:=(List.getElem?_eq_some_iff.mp hz).1;have hnone:bH ((rz.take i).map fun e=>((.inr e.1:Key),V.int 0)) (.inr z)=none:=tO fun e he=>by
    obtain⟨d,hd,rfl⟩:=List.mem_map.mp he;intro zz;have hn:z∉(rz.map (·.1)).take i:=DW ndz (by rw[List.getElem?_map,hz];rfl)
    apply hn
    rw[←List.map_take];exact List.mem_map.mpr ⟨d,hd,Sum.inr.inj zz⟩
   show (_:TG) (.str z) _ _ _;walk_at"go";refine oZ ek (by rw[sizeLine_eq,List.length_map,List.length_take];lia) fun H9 B9 e9=> ?_;refine⟨by walk_at"sb",?_,_,rfl⟩;rw[e9,u5 _ hnone,fD hz,List.map_append];rfl
  ·rintro _ H' ⟨sb,ek,y,rfl⟩;rw[hl2,List.take_length]at ek;refine tX (sb _ _ e2 hap) fun H3 B3 e3=> ?_;have ep3:=B3 _ _ ek (Ne.symm hap);have sH:Same H H3:=fun x u hx=>by
    by_cases ex:x=a
    ·subst ex;rw[ha]at hx;cases hx;exact e3
    ·have hxp:x≠p:=fun z=>by rw[z,n1]at hx;cases hx
     exact B3 _ _ (sb _ _ (B2 _ _ (S1 _ _ hx) ex) hxp) ex
   have hb3:=sH.seq hb;have hw3:=bM hw sH;have hnb:∀{H':Hp}{v:V}{r:Str×Int},SameBut p H3 H'->bT H3 v r->bT H' v r:=fun sb ⟨q,e,hq⟩=>⟨q,e,sb _ _ hq fun z=>by rw[z,ep3]at hq;cases hq⟩
   walk_at"go";refine kC ws (fun i σ' H'=>SameBut p H3 H'/\(∃kvs,H' p=some (.dK kvs)/\kvs.map (·.1)=(szK rz).map (·.1)/\vN rz (ps.take i) kvs)/\∃x y,σ'=[some (.ref a),some (.ref b),some (.ref p),x,y]) ⟨SameBut.refl,⟨_,ep3,?_,?_⟩,_,_,rfl⟩ (fun i σ' H' _ q=>vV hb3 ep3 q.1) ?_ ?_
   ·unfold szK;rw[List.map_map,List.map_map];rfl
   ·intro z hz;obtain⟨e,he,rfl⟩:=List.mem_map.mp hz;exact r6 (e:=((.inr e.1:Key),V.int 0)) (by rw[show (rz.map fun e=>((.inr e.1:Key),V.int 0)).map (·.1)=(szK rz).map (·.1) from by unfold szK;rw[List.map_map,List.map_map];rfl];exact o7 ndz) (List.mem_map.mpr ⟨e,he,rfl⟩)
   ·rintro i x _ H' hx ⟨sb',⟨kvs,ek',hkk,hin⟩,x1,x2,rfl⟩;have hi:i<ws.length:=(List.getElem?_eq_some_iff.mp hx).1;obtain⟨⟨z,nn⟩,hpx⟩:∃d,ps[i]? =some d:=⟨_,List.getElem?_eq_getElem (by lia)⟩
    obtain⟨q,rfl,hq⟩:=Paired.at2 hw3 hx hpx;have hq':H' q=some (.tup [.str z,.int nn]):=sb' _ _ hq fun zz=>by rw[zz,ep3]at hq;cases hq
    have hzr:z∈rz.map (·.1):=hwr _ (List.mem_of_getElem? hpx);have hkl:kvs.length=rz.length:=by rw[←List.length_map (f:=fun e:Key×V=>e.1),hkk,List.length_map,hl2]
    walk_at"go";refine J9 ?_;walk_at"go";refine E3 (.inl ek') (hin z hzr) ?_;walk_at"go";refine FH ?_;refine IK ek' (by rw[sizeLine_eq];lia) fun H9 B9 e9=> ?_;refine⟨by walk_at"sb",⟨_,e9,?_,fun y hy=> ?_⟩,_,_,rfl⟩
    ·rw[EJ (by rw[hin z hzr];rfl)];exact hkk
    ·rw[v4,fD hpx,AZ]
     by_cases e:(Sum.inr y:Key)= .inr z
     ·cases e;rw[if_pos rfl,if_pos rfl]
     ·rw[if_neg e,if_neg (fun zz=>e (by rw[show z=y from zz])),Int.add_zero];exact hin y hy
   ·rintro _ H' ⟨sb',⟨kvs,ek',hkk,hin⟩,x1,x2,rfl⟩;rw[hwl,List.take_length]at hin;walk_at"go";exact k _ _ _ n1 (SameBut.same n1 (fun x u hx=>sH x u hx) sb') ek' hkk hin
theorem jU (m:M K mg):Fc P w K mg base "added_people" 1 ["sizes","people"] (oU K):=⟨_,_,m.sU,m.cW.kp,m.sS,rD m⟩
def gL (rz ps:List (Str×Int)):Prop:=(∀p∈ps,0<=p.2)/\∀e∈rz,cB ps e.1<=e.2
def RoomsAt (H:Hp)(vs:List V)(rz:List (Str×Int)):Prop:=Paired (bT H) vs rz
theorem RoomsAt.sm {H H':Hp}{vs:List V}{rs:List (Str×Int)} (h:RoomsAt H vs rs) (s:Same H H'):RoomsAt H' vs rs:=Paired.imp' (fun v z ⟨q,e,h⟩=>⟨q,e,s _ _ h⟩) h
theorem oM {H:Hp}:∀{vs:List V}{rs:List (Str×Int)},RoomsAt H vs rs->uW H vs (szK rs)
 | _,_,.nil=> .nil
 | _,_,.cons h t=> .cons h (oM t)
theorem b6 {D:dU}{H H':Hp}{us:List V}{ds:List aM} (h:Paired (D.at' H) us ds) (s:Same H H'):Paired (D.at' H') us ds:=Paired.imp' (fun v d h=>D.same h s) h
abbrev ID (f l:Int)(qs qp qd:Addr):List (Str×V):=cD "named_doors" (.ref qd) (cD "people" (.ref qp) (cD "sizes" (.ref qs) (cD "last" (.int l) (cD "first" (.int f) []))))
theorem xP {H H':Hp}{p c C dx:Addr}{fs:List (Str×V)}{xs:List V} (h:SqL K H c xs) (hp:H p=some (.ins C dx fs)) (sb:SameBut p H H'):SqL K H' c xs:=by
 rcases h with (h|⟨o,h⟩)|h
 ·exact .inl (.inl (sb _ _ h fun z=>by rw[z,hp]at h;cases h))
 ·exact .inl (.inr ⟨o,sb _ _ h fun z=>by rw[z,hp]at h;cases h⟩)
 ·exact .inr h
theorem qW {α β:Type}{F:α->β->Prop}:∀{l:List α}{m:List β}{x:α},Paired F l m->x∈l->∃y∈m,F x y
 | _,_,_,.cons r t,h=>by
  rcases List.mem_cons.mp h with rfl|h
  ·exact⟨_,.head _,r⟩
  ·obtain⟨y,hy,f⟩:=qW t h;exact⟨y,List.mem_cons_of_mem _ hy,f⟩
 | _,_,_,.nil,h=>nomatch h
theorem nV (m:M K mg):bK P w K mg base CX0 1 m.fV m.fT ["self","name"] (spX K m.aV "name"):=by
 refine m.p0.ok sc_Twice___init__ (fun vs H Q E h=> ?_) (fun cdv A outer s H vs Q E hr h=> ?_)
 ·obtain⟨e,y,fv,rfl,he,xf,na,k⟩:=h;rfl
 ·obtain⟨e,y,fv,rfl,he,xf,na,k⟩:=h;have nd:=sc_Twice___init__.nd;walk_at"hu";refine⟨_,(aH (xX (pv 0) (pv 1) rfl)),?_⟩;refine bG (σ:=[some (.ref e),some (y)]) rfl ?_;refine xS rfl rfl he xf na fun dx n1 n2=> ?_;exact k dx n1 n2
theorem EU (m:M K mg):XcE P w K mg base "Twice" m.aV "name" :=⟨_,_,_,m.sV,m.FT,m.pU,m.wE,m.qC,nV m⟩
theorem lU (m:M K mg):bK P w K mg base CX0 1 m.fI m.fK ["self","name"] (spX K m.aS "name"):=by
 refine m.oH.ok sc_NoRoom___init__ (fun vs H Q E h=> ?_) (fun cdv A outer s H vs Q E hr h=> ?_)
 ·obtain⟨e,y,fv,rfl,he,xf,na,k⟩:=h;rfl
 ·obtain⟨e,y,fv,rfl,he,xf,na,k⟩:=h;have nd:=sc_NoRoom___init__.nd;walk_at"hu";refine⟨_,(aH (xX (pv 0) (pv 1) rfl)),?_⟩;refine bG (σ:=[some (.ref e),some (y)]) rfl ?_;refine xS rfl rfl he xf na fun dx n1 n2=> ?_;exact k dx n1 n2
theorem C2 (m:M K mg):XcE P w K mg base "NoRoom" m.aS "name" :=⟨_,_,_,m.pM,m.DI,m.mT,m.uB,m.oI,lU m⟩
def Refd (C:Addr)(z:Str)(H:Hp)(E:XK):Prop:=∀H' dx,Same H H'->H' dx=some (.xd [("name",.str z)])->E (.ref C) (some dx) H'
theorem Refd.sm {C:Addr}{z:Str}{H H1:Hp}{E:XK} (x:Refd C z H E) (s:Same H H1):Refd C z H1 E:=fun H2 dx s2 e=>x H2 dx (s.trans s2) e
theorem Refd.go {C:Addr}{z:Str}{H H1:Hp}{E:XK} (x:Refd C z H E) (s:Same H H1) (dx:Addr) (n:H1 dx=none):E (.ref C) (some dx) (upd H1 dx (.xd [("name",.str z)])):=x _ _ (s.trans fun b o e=>by rw[aG (aL e n)];exact e) aR
def Ref0 (C:Addr)(H:Hp)(E:XK):Prop:=∀H',Same H H'->E (.ref C) none H'
theorem Ref0.sm {C:Addr}{H H1:Hp}{E:XK} (x:Ref0 C H E) (s:Same H H1):Ref0 C H1 E:=fun H2 s2=>x H2 (s.trans s2)
theorem j4 {C:Addr}{H H1:Hp}{E:XK}{x:Str} (k:Ref0 C H E) (s:Same H H1):[V.str x].length<=sizeLine/\E (.ref C) none H1:=⟨by rw[sizeLine_eq];show 1<=_;lia,k _ s⟩
local macro_rules| `(tactic| walk_at"rd1")=> `(tactic| (with_reducible refine FB ?_))
def l8 (C:Addr):Sp:=fun vs H Q E=>∃(f l:Int),vs=[.int f,.int l]/\(0<=f->f<=l->Q .non H)/\(f<0∨l<f->Ref0 C H E)
theorem E6 {C:Addr}{H:Hp}{Q:VK}{E:XK}{f l:Int} (h0:0<=f->f<=l->Q .non H) (h1:f<0∨l<f->Ref0 C H E):l8 C [.int f,.int l] H Q E:=⟨_,_,rfl,h0,h1⟩
theorem uR (m:M K mg):bK P w K mg base (CXE P w) 3 m.jJ m.jQ ["first","last"] (l8 m.aX):=by
 refine m.gY.okE sc_need_turns (fun vs H Q E h=> ?_) (fun cdv A outer s H vs Q E hr h=> ?_)
 ·obtain⟨f,l,rfl,h0,h1⟩:=h;rfl
 ·obtain⟨f,l,rfl,h0,h1⟩:=h;have nd:=sc_need_turns.nd;walk_at"hu";refine⟨_,(aC (bS (bU qL (pv 0) aD (bL _)) (aH (kH m.pV m.wQ rE (aA bA aB))) bF)
   (aH (bS (bU qL (pv 1) (pv 0) (bL _)) (aH (kH m.pV m.wQ rE (aA bA aB))) bF))),?_⟩
  refine bG (σ:=[some (.int f),some (.int l)]) rfl ?_;walk_at"gs";refine eI (fun σ' G=>H=G/\0<=f/\σ'=[some (.int f),some (.int l)]) ?_ ?_
  rotate_left
  ·intro nx' hnx;walk_at"go";refine c4 (fun hc=> ?_) (fun hc=> ?_)
   ·walk_at"go";exact j4 (h1 (.inl hc)) (Same.refl _)
   ·walk_at"go";exact hnx _ _ ⟨rfl,by lia,rfl⟩
  rintro _ _ ⟨rfl,hf,rfl⟩;walk_at"go";refine c4 (fun hc=> ?_) (fun hc=> ?_)
  ·walk_at"go";exact j4 (h1 (.inr hc)) (Same.refl _)
  ·walk_at"go";exact h0 hf (by lia)
theorem uE (m:M K mg):FcE P w K mg base "need_turns" 3 ["first","last"] (l8 m.aX):=⟨_,_,m.wJ,m.gY.kp,m.wH,uR m⟩
def Dup (ss:List Str)(z:Str):Prop:=∃i,ss[i]? =some z/\z∈ss.take i/\(ss.take i).Nodup
def o6 (K:W.Frag)(C:Addr):Sp:=fun vs H Q E=>∃(a:Addr) (ss:List Str),vs=[.ref a]/\SqL K H a (ss.map V.str)/\ss.length<=100/\(ss.Nodup->∀H',Same H H'->Q .non H')/\∀z,Dup ss z->Refd C z H E
theorem xI {C:Addr}{H:Hp}{Q:VK}{E:XK}{a:Addr}{ss:List Str} (hS:SqL K H a (ss.map V.str)) (hl:ss.length<=100) (h:ss.Nodup->∀H',Same H H'->Q .non H') (hd:∀z,Dup ss z->Refd C z H E):o6 K C [.ref a] H Q E:=⟨_,_,rfl,hS,hl,h,hd⟩
theorem zP {ss:List Str}{i:Nat}{z:Str} (hz:ss[i]? =some z) (nd:(ss.take i).Nodup) (hn:z∉ss.take i):(ss.take (i+1)).Nodup:=by
 rw[fD hz,List.nodup_append];refine⟨nd,List.pairwise_singleton _ _,fun a ha b hb e=> ?_⟩;cases List.mem_singleton.mp hb;rw[e]at ha;exact hn ha
theorem nR (m:M K mg):bK P w K mg base (CXE P w) 4 m.fX m.fU ["names"] (o6 K m.aV):=by
 refine m.c7.okE sc_need_each_once (fun vs H Q E h=> ?_) (fun cdv A outer s H vs Q E hr h=> ?_)
 ·obtain⟨a,ss,rfl,hS,hlen,h0,hd⟩:=h;rfl
 ·obtain⟨a,ss,rfl,hS,hlen,h0,hd⟩:=h;have nd:=sc_need_each_once.nd;walk_at"hu";have X_Twice:=EU (P:=P) (w:=w) (base:=base) m;refine⟨_,(aC (aO (i:=1) nd rfl (by walk_at"oi") oR)
   (aH (iO sL rfl (dI (pv 0)) (aU (i:=2) nd rfl (by walk_at"oi")) (aC (bS (CO (LM hu1 (pv 2) (pv 1)) (by with_unfolding_all rfl)) (aH (tG X_Twice hr BH (pv 2) rfl)) bF)
   (aH (sN hu1 (pv 1) (pv 2) qH rfl)))))),?_⟩
  refine bG (σ:=[some (.ref a),none,none]) rfl ?_;walk_at"go";rename_i p H1 n1 S1 e1;refine kC (ss.map V.str) (fun i σ' H'=>SameBut p H1 H'/\(ss.take i).Nodup/\∃kvs,H' p=some (.dK kvs)/\kvs.length<=i/\(∀z,(bH kvs (.inr z)).isSome=true↔z∈ss.take i)/\∃x,σ'=[some (.ref a),some (.ref p),x]) ⟨SameBut.refl,.nil,[],e1,Nat.le_refl _,(fun z=>⟨fun h=>(by cases h),fun h=>nomatch h⟩),_,rfl⟩ (fun i σ' H' _ q=>(SameBut.same n1 S1 q.1).seq hS) ?_ ?_
  ·rintro i x _ H' hx ⟨sb,ndi,kvs,ek,hk,hin,y,rfl⟩;rw[List.getElem?_map]at hx;obtain⟨z,hz,rfl⟩:=Option.map_eq_some_iff.mp hx;have hi:i<ss.length:=(List.getElem?_eq_some_iff.mp hz).1;walk_at"go";refine IC (.inl ek) ?_
   by_cases hm:z∈ss.take i
   ·rw[(hin z).mpr hm];walk_at"go";refine tM ?_;walk_at"go";exact(hd z ⟨i,hz,hm,ndi⟩).go (SameBut.same n1 S1 sb)
   ·have hno:(bH kvs (.inr z)).isSome=false:=by
     cases e:(bH kvs (.inr z)).isSome with
     | false=>rfl
     | true=>exact absurd ((hin z).mp e) hm
    rw[hno];walk_at"go";refine oZ ek (by rw[sizeLine_eq];omega) fun H9 B9 e9=> ?_;refine⟨by walk_at"sb",zP hz ndi hm,_,e9,Nat.le_trans (fN _ _ _) (by omega),fun y=> ?_,_,rfl⟩;rw[v4,fD hz,List.mem_append]
    by_cases e:(Sum.inr y:Key)= .inr z
    ·cases e;rw[if_pos rfl];exact⟨fun _=> .inr (.head _),fun _=>rfl⟩
    ·rw[if_neg e,hin y];exact⟨.inl,fun h=>h.elim id fun h=>absurd (by rw[List.mem_singleton.mp h]) e⟩
  ·rintro _ H' ⟨sb,ndi,kvs,ek,hk,hin,y,rfl⟩;rw[List.length_map,List.take_length]at ndi;exact h0 ndi _ (SameBut.same n1 S1 sb)
theorem nU (m:M K mg):FcE P w K mg base "need_each_once" 4 ["names"] (o6 K m.aV):=⟨_,_,m.pX,m.c7.kp,m.pK,nR m⟩
def zM:V->List Str
 | .str z=>[z]
 | _=>[]
def iY (d:aM):List Str:=d.2.1::zM d.2.2.1
def dD (ds:List aM)(ps:List (Str×Int)):List Str:=(ds.map iY).flatten++ps.map (·.1)
def gH (d:aM):Prop:=d.2.2.1= .non∨∃z,d.2.2.1= .str z
def kJ (K:W.Frag)(D:dU):Sp:=fun vs H Q _=>∃(a b:Addr) (us:List V) (ds:List aM) (ws:List V) (ps:List (Str×Int)),vs=[.ref a,.ref b]/\SqL K H a us/\Paired (D.at' H) us ds/\(∀d∈ds,gH d)/\ds.length<=20/\SqL K H b ws/\Paired (bT H) ws ps/\ps.length<=40/\∀p H',Same H H'->H' p=some (.lst ((dD ds ps).map V.str))->Q (.ref p) H'
theorem CA {D:dU}{H:Hp}{Q:VK}{E:XK}{a b:Addr}{us:List V}{ds:List aM}{ws:List V}{ps:List (Str×Int)} (hS:SqL K H a us) (hd:Paired (D.at' H) us ds) (hr:∀d∈ds,gH d) (hl:ds.length<=20) (hb:SqL K H b ws) (hw:Paired (bT H) ws ps) (hwl:ps.length<=40) (h:∀p H',Same H H'->H' p=some (.lst ((dD ds ps).map V.str))->Q (.ref p) H'):kJ K D [.ref a,.ref b] H Q E:=⟨_,_,_,_,_,_,rfl,hS,hd,hr,hl,hb,hw,hwl,h⟩
theorem oT:∀ds:List aM,((ds.map iY).flatten).length<=2 * ds.length
 | []=>Nat.le_refl _
 | d::ds=>by
  have:=oT ds;have h1:(iY d).length<=2:=by
   unfold iY zM
   split<;>simp
  rw[List.map_cons,List.flatten_cons,List.length_append,List.length_cons]
  lia
theorem lW (m:M K mg):bK P w K mg base CX0 2 m.fJ m.fH ["doors","people"] (kJ K (aY P w K mg base none)):=by
 refine m.dW.ok sc_rooms_spoken_of (fun vs H Q E h=> ?_) (fun cdv A outer s H vs Q E hr h=> ?_)
 ·obtain⟨a,b,us,ds,ws,ps,rfl,hS,hd,hr',hlen,hb,hw,hwl,k⟩:=h;rfl
 ·obtain⟨a,b,us,ds,ws,ps,rfl,hS,hd,hr',hlen,hb,hw,hwl,k⟩:=h;have nd:=sc_rooms_spoken_of.nd;walk_at"hu";refine⟨_,(aC (aO (i:=2) nd rfl (by walk_at"oi") (b1 aB))
   (aC (iO PassesOwn.never rfl (dI (pv 0)) (aU (i:=3) nd rfl (by walk_at"oi")) (aC (dJ (yI PySem.F.plainAttrs_list PySem.F.slot_list_append PySem.F.type_list_append j0 (pv 2) (aA (eY (pv 3) rfl) aB)))
   (aH (bS (qZ (iJ (MZ 1 hr (pv 3)))) (aH (dJ (yI PySem.F.plainAttrs_list PySem.F.slot_list_append PySem.F.type_list_append j0 (pv 2) (aA (eY (pv 3) rfl) aB)))) bF))))
   (aH (b0 (aF cT (pv 2) (f9 (N:=["room","number"]) (nl:=2) (ci:=[]) rfl (blk (s.heap.objs.size+1) rfl rfl rfl (by kernel_rfl)) (dI (pv 1)) (fun _ _ _ _=>(rS (K:=K) (n:=2) rfl (bW (aU (i:=0) (show (["room","number"]:List Str).Nodup by decide +kernel) rfl (by walk_at"oi")) (bW (aU (i:=1) (show (["room","number"]:List Str).Nodup by decide +kernel) rfl (by walk_at"oi")) fZ)))) (fun _ _ _ _=>eT) (fun _ _ _ _=>(pv 0)))))))),?_⟩
  refine bG (σ:=[some (.ref a),some (.ref b),none,none]) rfl ?_;have hul:us.length=ds.length:=Paired.length hd;walk_at"go";rename_i p H1 n1 S1 e1;refine kC us (fun i σ' H'=>SameBut p H1 H'/\H' p=some (.lst ((((ds.take i).map iY).flatten).map V.str))/\∃x,σ'=[some (.ref a),some (.ref b),some (.ref p),x]) ⟨SameBut.refl,e1,_,rfl⟩ (fun i σ' H' _ q=>(SameBut.same n1 S1 q.1).seq hS) ?_ ?_
  ·rintro i x _ H' hx ⟨sb,es,y,rfl⟩;have hi:i<us.length:=(List.getElem?_eq_some_iff.mp hx).1;obtain⟨d,hdx⟩:∃d,ds[i]? =some d:=⟨_,List.getElem?_eq_getElem (by lia)⟩
   have hsl:=oT (ds.take i);rw[List.length_take]at hsl;have hnext:((ds.take (i+1)).map iY).flatten=((ds.take i).map iY).flatten++iY d:=by rw[fD hdx,List.map_append,List.flatten_append];simp
   obtain⟨n,st,e,lt⟩:=d;obtain⟨q,C9,dx,fs,fp,rfl,hq,dcC,l1,l2,l3,l4,l5,mcE,hfp,hlt⟩:=DoorAt.ex (Paired.at2 hd hx hdx);have r2:=hr' _ (List.mem_of_getElem? hdx);have hqp:q≠p:=fun z=>by rw[z,n1]at hq;cases hq
   have hq':H' q=some (.ins C9 dx fs):=sb _ _ (S1 _ _ hq) hqp;rcases r2 with r2|⟨z,r2⟩
   ·have r2:e= .non:=r2;subst r2;walk_at"go";refine jX es (by rw[sizeLine_eq,List.length_map];lia) fun H8 B8 e8=> ?_;have hq8:=B8 _ _ hq' hqp;walk_at"go";exact⟨by walk_at"sb",by rw[e8,hnext,List.map_append];rfl,_,rfl⟩
   ·have r2:e= .str z:=r2;subst r2;walk_at"go";refine jX es (by rw[sizeLine_eq,List.length_map];lia) fun H8 B8 e8=> ?_;have hq8:=B8 _ _ hq' hqp;walk_at"go";refine jX e8 (by rw[sizeLine_eq,List.length_append,List.length_map];show _+1<_;lia) fun H9 B9 e9=> ?_;walk_at"go";exact⟨by walk_at"sb",by rw[e9,hnext,List.map_append,List.append_assoc];rfl,_,rfl⟩
  ·rintro _ H' ⟨sb,es,y,rfl⟩;have sH:Same H H':=SameBut.same n1 S1 sb;have hb':=sH.seq hb;rw[hul,List.take_length]at es;have hsl:=oT ds;walk_at"go";refine sP (α:=Str×Int) (xs:=ps) (vs:=ws) (fun p=> .str p.1) (fun p=> .int p.2) (fun _=>true) (fun p y _=>y= .str p.1) (fun _ _ _ _ h _=>h) (by rw[sizeLine_eq];lia) (rest:=[]) (by rfl) hb' (bM hw sH) (fun x H1 hx s1 R hR=>hR _ (Same.refl _)) (fun x H1 hx _ s1 R hR=> ?_) ?_
   ·walk_at"go";exact hR _ _ rfl (Same.refl _)
   intro ys H2 s2 hys;rw[cR]at hys;obtain rfl:=d8 hys;walk_at"go";rename_i q3 H3 n3 S3 e3 q4 H4 n4 S4 e4;refine k _ _ (by walk_at"sm") ?_;rw[e4];unfold dD;rw[List.map_append,List.map_map];rfl
theorem lT (m:M K mg):Fc P w K mg base "rooms_spoken_of" 2 ["doors","people"] (kJ K (aY P w K mg base none)):=⟨_,_,m.nY,m.dW.kp,m.nZ,lW m⟩
def l7 (K:W.Frag)(C:Addr):Sp:=fun vs H Q E=>∃(a b:Addr) (ss:List Str) (kvs:List (Key×V)),vs=[.ref a,.ref b]/\SqL K H a (ss.map V.str)/\Rd H b (.dK kvs)/\((∀z∈ss,(bH kvs (.inr z)).isSome=true)->∀H',Same H H'->Q .non H')/\∀i z,ss[i]? =some z->(bH kvs (.inr z)).isSome=false->(∀y∈ss.take i,(bH kvs (.inr y)).isSome=true)->Refd C z H E
theorem EL {C:Addr}{H:Hp}{Q:VK}{E:XK}{a b:Addr}{ss:List Str}{kvs:List (Key×V)} (hS:SqL K H a (ss.map V.str)) (hb:Rd H b (.dK kvs)) (h:(∀z∈ss,(bH kvs (.inr z)).isSome=true)->∀H',Same H H'->Q .non H') (hd:∀i z,ss[i]? =some z->(bH kvs (.inr z)).isSome=false->(∀y∈ss.take i,(bH kvs (.inr y)).isSome=true)->Refd C z H E):l7 K C [.ref a,.ref b] H Q E:=⟨_,_,_,_,rfl,hS,hb,h,hd⟩
theorem uK (m:M K mg):bK P w K mg base (CXE P w) 4 m.jT m.jM ["names","sizes"] (l7 K m.aS):=by
 refine m.gW.okE sc_need_rooms (fun vs H Q E h=> ?_) (fun cdv A outer s H vs Q E hr h=> ?_)
 ·obtain⟨a,b,ss,kvs,rfl,hS,hb,h0,hd⟩:=h;rfl
 ·obtain⟨a,b,ss,kvs,rfl,hS,hb,h0,hd⟩:=h;have nd:=sc_need_rooms.nd;walk_at"hu";have X_NoRoom:=C2 (P:=P) (w:=w) (base:=base) m;refine⟨_,(aH (iO sL rfl (dI (pv 0)) (aU (i:=2) nd rfl (by walk_at"oi")) (aH (bS (CO (C8 hu1 (pv 2) (pv 1)) (by with_unfolding_all rfl)) (aH (tG X_NoRoom hr BH (pv 2) rfl)) bF)))),?_⟩;refine bG (σ:=[some (.ref a),some (.ref b),none]) rfl ?_;walk_at"go";refine kC (ss.map V.str) (fun i σ' H'=>Same H H'/\(∀y∈ss.take i,(bH kvs (.inr y)).isSome=true)/\∃x,σ'=[some (.ref a),some (.ref b),x]) ⟨Same.refl _,(fun _ z=>nomatch z),_,rfl⟩ (fun i σ' H' _ q=>q.1.seq hS) ?_ ?_
  ·rintro i x _ H' hx ⟨s1,hy,y,rfl⟩;rw[List.getElem?_map]at hx;obtain⟨z,hz,rfl⟩:=Option.map_eq_some_iff.mp hx;walk_at"go";refine yF (JP s1 hb) ?_;cases hm:(bH kvs (.inr z)).isSome with
   | true =>
    walk_at"go";refine⟨s1,fun y' hy'=> ?_,_,rfl⟩;rw[fD hz]at hy';rcases List.mem_append.mp hy' with h|h
    ·exact hy y' h
    ·cases List.mem_singleton.mp h;exact hm
   | false =>
    walk_at"go";refine tM ?_;walk_at"go";exact(hd i z hz hm hy).go s1
  ·rintro _ H' ⟨s1,hy,y,rfl⟩;rw[List.length_map,List.take_length]at hy;exact h0 hy _ s1
theorem uJ (m:M K mg):FcE P w K mg base "need_rooms" 4 ["names","sizes"] (l7 K m.aS):=⟨_,_,m.wL,m.gW.kp,m.wF,uK m⟩
def lY (K:W.Frag)(C:Addr):Sp:=fun vs H Q E=>∃(a b:Addr) (rz:List (Str×Int)) (ws:List V) (ps:List (Str×Int)),vs=[.ref a,.ref b]/\H a=some (.dK (szK rz))/\SqL K H b ws/\Paired (bT H) ws ps/\(∀p∈ps,p.1∈rz.map (·.1))/\(rz.map (·.1)).Nodup/\rz.length<=100/\ps.length<=100/\(gL rz ps->∀H',Same H H'->Q .non H')/\(¬gL rz ps->Ref0 C H E)
theorem D4 {C:Addr}{H:Hp}{Q:VK}{E:XK}{a b:Addr}{rz:List (Str×Int)}{ws:List V}{ps:List (Str×Int)} (ha:H a=some (.dK (szK rz))) (hb:SqL K H b ws) (hw:Paired (bT H) ws ps) (hwr:∀p∈ps,p.1∈rz.map (·.1)) (nd:(rz.map (·.1)).Nodup) (hl:rz.length<=100) (hpl:ps.length<=100) (h:gL rz ps->∀H',Same H H'->Q .non H') (hn:¬gL rz ps->Ref0 C H E):lY K C [.ref a,.ref b] H Q E:=⟨_,_,_,_,_,rfl,ha,hb,hw,hwr,nd,hl,hpl,h,hn⟩
theorem tK {α:Type}{g:α->Bool}:∀{l:List α}{ys:List V},Paired (fun x y=>y=V.bl (g x)) l ys->ys=(l.map g).map V.bl
 | _,_,.nil=>rfl
 | _,_,.cons h t=>by rw[h,tK t];rfl
theorem any_map {α:Type}(g:α->Bool)(l:List α):(l.map g).any id=l.any g:=by induction l with|nil=>rfl|cons a l ih=>rw[List.map_cons,List.any_cons,List.any_cons,ih];rfl
theorem uH (m:M K mg):bK P w K mg base (CXE P w) 3 m.jN m.jP ["sizes","people"] (lY K m.aT):=by
 refine m.gS.okE sc_need_space (fun vs H Q E h=> ?_) (fun cdv A outer s H vs Q E hr h=> ?_)
 ·obtain⟨a,b,rz,ws,ps,rfl,ha,hb,hw,hwr,ndz,hlen,hpl,k,kn⟩:=h;rfl
 ·obtain⟨a,b,rz,ws,ps,rfl,ha,hb,hw,hwr,ndz,hlen,hpl,k,kn⟩:=h;have nd:=sc_need_space.nd;walk_at"hu";have cW:= @jU P w K mg base m;refine⟨_,(aC (bS (iJ (aW (tR rfl) rfl m.GW BQ (aA (f9 (N:=["room","number"]) (nl:=2) (ci:=[]) rfl (blk (s.heap.objs.size+1) rfl rfl rfl (by kernel_rfl)) (dI (pv 1)) (fun _ _ _ _=>(rS (K:=K) (n:=2) rfl (bW (aU (i:=0) (show (["room","number"]:List Str).Nodup by decide +kernel) rfl (by walk_at"oi")) (bW (aU (i:=1) (show (["room","number"]:List Str).Nodup by decide +kernel) rfl (by walk_at"oi")) fZ)))) (fun _ _ _ _=>eT) (fun _ _ _ _=>(jA qL (pv 1) aD (bL _)))) aB))) (aH (kH m.mU m.uC rE (aA bA aB))) bF)
   (aC (aO (i:=2) nd rfl (by walk_at"oi") (b9 cW hr (aA (pv 0) (aA (pv 1) aB))))
   (aH (bS (iJ (aW (tR rfl) rfl m.GW BQ (aA (HI (f9 (N:=["room","inside","sizes"]) (nl:=1) (ci:=[2,0]) rfl (blk (s.heap.objs.size+1) rfl rfl rfl (by kernel_rfl)) (v6 (pv 0)) (fun _ _ _ _=>(aU (i:=0) (show (["room","inside","sizes"]:List Str).Nodup by decide +kernel) rfl (by walk_at"oi"))) (fun _ _ _ _=>eT) (fun _ _ _ _=>(jA GE (xN hu1 (pv 1) (pv 0) (fun _ _=>rfl)) (xN hu1 (pv 2) (pv 0) (fun _ _=>rfl)) (bL _))))) aB))) (aH (kH m.mU m.uC rE (aA bA aB))) bF)))),?_⟩
  refine bG (σ:=[some (.ref a),some (.ref b),none]) rfl ?_;walk_at"gs";refine eI (fun σ' G=>Same H G/\(∀p∈ps,0<=p.2)/\σ'=[some (.ref a),some (.ref b),none]) ?_ ?_
  rotate_left
  ·intro nx' hnx;walk_at"go";refine sP (α:=Str×Int) (xs:=ps) (vs:=ws) (fun p=> .str p.1) (fun p=> .int p.2) (fun _=>true) (fun p y _=>y= .bl (decide (p.2<0))) (fun _ _ _ _ h _=>h) (by rw[sizeLine_eq];lia) (rest:=[]) (by rfl) hb hw (fun x H1 hx s1 R hR=>hR _ (Same.refl _)) (fun x H1 hx _ s1 R hR=> ?_) ?_
   ·walk_at"go";exact hR _ _ rfl (Same.refl _)
   intro ys H2 s2 hys;rw[cR]at hys;obtain rfl:=tK (g:=fun p:Str×Int=>decide (p.2<0)) hys;walk_at"go";rename_i q H3 n3 S3 e3;refine CU (SqL.of e3) ?_;rw[any_map];have sA:Same H H3:=s2.trans S3;cases hany:ps.any fun p=>decide (p.2<0) with
   | true =>
    walk_at"go";obtain⟨p,hp,hp0⟩:=List.any_eq_true.mp hany;exact j4 (kn fun hf=>by have:=hf.1 p hp;have:=of_decide_eq_true hp0;lia) sA
   | false =>
    walk_at"go";refine hnx _ _ ⟨sA,fun p hp=> ?_,rfl⟩;have:=(List.any_eq_false.mp hany) p hp;have:¬p.2<0:=fun z=>this (decide_eq_true z)
    lia
  rintro _ H3 ⟨sA,hp0,rfl⟩;walk_at"go";refine xV (sA _ _ ha) (sA.seq hb) (bM hw sA) hwr ndz hlen fun p H4 kvs n4 S4 e4 hkk hv=> ?_;have ha4:=S4 _ _ (sA _ _ ha);walk_at"go";refine ET ha4 GN ?_;walk_at"go";refine vK ha4 fun o H5 B5 e5=> ?_;have hpa:p≠a:=fun z=>by rw[z,sA _ _ ha]at n4;cases n4
  have ep5:=B5 _ _ e4 hpa;refine LV (fun _=>true) (fun x y _=>∀e∈rz,x=((.inr e.1:Key),V.int e.2)->y= .bl (decide (cB ps e.1>e.2))) (fun _ _ _ _ h _=>h) (by rw[sizeLine_eq];unfold szK;rw[List.length_map];lia) (rest:=[some (.ref p),some (.ref a)]) (by rfl) e5 (fun x H6 hx s6 R hR=>hR _ (Same.refl _)) ?_ ?_
  ·rintro x H6 hx - s6 R hR;obtain⟨e,he,rfl⟩:=List.mem_map.mp hx;show (_:TE) (some (V.str e.1)::[some (.ref p),some (.ref a)]) H6 R;walk_at"go";refine v7 (.inl (s6 _ _ ep5)) (hv e.1 (List.mem_map.mpr ⟨e,he,rfl⟩)) ?_;walk_at"go";refine v7 (.inr ⟨o,s6 _ _ e5⟩) (xO ndz he) ?_;walk_at"go";refine hR _ _ (fun e' he' q=> ?_) (Same.refl _);have q1:e.1=e'.1:=Sum.inr.inj (Prod.mk.inj q).1;have q2:e.2=e'.2:=V.int.inj (Prod.mk.inj q).2;rw[q1,q2]
  intro ys H6 s6 hys;rw[cR]at hys;have hyb:ys=(rz.map fun e=>decide (cB ps e.1>e.2)).map V.bl:=by
   have key:∀(l:List (Str×Int)) (ys:List V),(∀e∈l,e∈rz)->Paired (fun x y=>∀e∈rz,x=((.inr e.1:Key),V.int e.2)->y= .bl (decide (cB ps e.1>e.2))) (l.map fun e=>((.inr e.1:Key),V.int e.2)) ys->ys=(l.map fun e=>decide (cB ps e.1>e.2)).map V.bl:=fun l=>by
    induction l with
    | nil=>intro ys _ h;cases h;rfl
    | cons e l ih =>
     intro ys hl h;cases h with
     | cons h t=>rw[h e (hl e (.head _)) rfl,ih _ (fun e' he'=>hl e' (List.mem_cons_of_mem _ he')) t];rfl
   exact key rz ys (fun _ h=>h) hys
  subst hyb;walk_at"go";rename_i q7 H7 n7 S7 e7;refine tX (S7 _ _ (s6 _ _ e5)) fun H8 B8 e8=> ?_;have hq7:q7≠a:=fun z=>by rw[z,s6 _ _ e5]at n7;cases n7
  have e78:=B8 _ _ e7 hq7;have s08:Same H H8:=BL (ha) (fun x u hx hxa=>B5 _ _ (S4 _ _ (sA _ _ hx)) hxa) (Same.but (s6.trans S7)) B8 e8;walk_at"go";refine CU (SqL.of e78) ?_;rw[any_map];cases hany:rz.any fun e=>decide (cB ps e.1>e.2) with
  | true =>
   walk_at"go";obtain⟨e,he,he0⟩:=List.any_eq_true.mp hany;exact j4 (kn fun hf=>by have:=hf.2 e he;have:=of_decide_eq_true he0;lia) s08
  | false =>
   walk_at"go";refine k ⟨hp0,fun e he=> ?_⟩ _ s08;have:=(List.any_eq_false.mp hany) e he;have:¬cB ps e.1>e.2:=fun z=>this (decide_eq_true z)
   lia
theorem uF (m:M K mg):FcE P w K mg base "need_space" 3 ["sizes","people"] (lY K m.aT):=⟨_,_,m.wC,m.gS.kp,m.wM,uH m⟩
def Odd (rs ss:List Str)(z:Str):Prop:=∃i,ss[i]? =some z/\z∉rs/\∀y∈ss.take i,y∈rs
structure HX (NT TW NR NH p:Addr)(f l:Int)(rz ps:List (Str×Int))(ds:List aM)(H:Hp)(Q:VK)(E:XK):Prop where
 tn:f<0∨l<f->Ref0 NT H E
 dr:0<=f->f<=l->∀z,Dup (rz.map (·.1)) z->Refd TW z H E
 dd:0<=f->f<=l->(rz.map (·.1)).Nodup->∀z,Dup (ds.map (·.1)) z->Refd TW z H E
 st:0<=f->f<=l->(rz.map (·.1)).Nodup->(ds.map (·.1)).Nodup->∀z,Odd (rz.map (·.1)) (dD ds ps) z->Refd NR z H E
 sp:0<=f->f<=l->(rz.map (·.1)).Nodup->(ds.map (·.1)).Nodup->(∀z∈dD ds ps,z∈rz.map (·.1))->¬gL rz ps->Ref0 NH H E
 ok:0<=f->f<=l->(rz.map (·.1)).Nodup->(ds.map (·.1)).Nodup->(∀z∈dD ds ps,z∈rz.map (·.1))->gL rz ps->∀H',SameBut p H H'->Q .non H'
def jY (K:W.Frag)(D:dU)(NT TW NR NH:Addr):Sp:=fun vs H Q E=>∃(p C dx a b c:Addr) (ws us cs:List V) (rz ps:List (Str×Int)) (ds:List aM) (f l:Int),vs=[.ref p,.ref a,.ref b,.ref c,.int l,.int f]/\DCls K C/\H p=some (.ins C dx [])/\H a=some (.lst ws)/\RoomsAt H ws rz/\SqL K H b us/\Paired (D.at' H) us ds/\SqL K H c cs/\Paired (bT H) cs ps/\(∀d∈ds,gH d)/\rz.length<=20/\ds.length<=20/\ps.length<=40/\HX NT TW NR NH p f l rz ps ds H Q E
theorem EN {D:dU}{NT TW NR NH:Addr}{H:Hp}{Q:VK}{E:XK}{p C dx a b c:Addr}{ws us cs:List V}{rz ps:List (Str×Int)}{ds:List aM}{f l:Int} (dc:DCls K C) (hp:H p=some (.ins C dx [])) (ha:H a=some (.lst ws)) (hr:RoomsAt H ws rz) (hb:SqL K H b us) (hd:Paired (D.at' H) us ds) (hc:SqL K H c cs) (hcp:Paired (bT H) cs ps) (hes:∀d∈ds,gH d) (lr:rz.length<=20) (ld:ds.length<=20) (lp:ps.length<=40) (k:HX NT TW NR NH p f l rz ps ds H Q E):jY K D NT TW NR NH [.ref p,.ref a,.ref b,.ref c,.int l,.int f] H Q E:=⟨_,_,_,_,_,_,_,_,_,_,_,_,_,_,rfl,dc,hp,ha,hr,hb,hd,hc,hcp,hes,lr,ld,lp,k⟩
theorem nS (m:M K mg):bK P w K mg base (CXE P w) 6 m.fW m.eG ["self","rooms","doors","people","last","first"] (jY K (aY P w K mg base none) m.aX m.aV m.aS m.aT):=by
 refine m.pY.okE sc_House___init__ (fun vs H Q E h=> ?_) (fun cdv A outer s H vs Q E hr h=> ?_)
 ·obtain⟨p,C,dx,a,b,c,ws,us,cs,rz,ps,ds,f,l,rfl,dc,hp,ha,hra,hb,hd,hc,hcp,hes,lr,ld,lp,k⟩:=h;rfl
 ·obtain⟨p,C,dx,a,b,c,ws,us,cs,rz,ps,ds,f,l,rfl,dc,hp,ha,hra,hb,hd,hc,hcp,hes,lr,ld,lp,k⟩:=h;have nd:=sc_House___init__.nd;walk_at"hu";have cW:= @jU P w K mg base m;have c7:= @nU P w K mg base m;have gW:= @uJ P w K mg base m;have gS:= @uF P w K mg base m;have gY:= @uE P w K mg base m;have dW:= @lT P w K mg base m;refine⟨_,(aC (dJ (qJ gY hr qN (aA (pv 5) (aA (pv 4) aB))))
   (aC (dJ (qJ c7 hr qN (aA (f9 (N:=["name","size"]) (nl:=2) (ci:=[]) rfl (blk (s.heap.objs.size+1) rfl rfl rfl (by kernel_rfl)) (dI (pv 1)) (fun _ _ _ _=>(rS (K:=K) (n:=2) rfl (bW (aU (i:=0) (show (["name","size"]:List Str).Nodup by decide +kernel) rfl (by walk_at"oi")) (bW (aU (i:=1) (show (["name","size"]:List Str).Nodup by decide +kernel) rfl (by walk_at"oi")) fZ)))) (fun _ _ _ _=>eT) (fun _ _ _ _=>(pv 0))) aB)))
   (aC (dJ (qJ c7 hr qN (aA (f9 (N:=["door"]) (nl:=1) (ci:=[]) rfl (blk (s.heap.objs.size+1) rfl rfl rfl (by kernel_rfl)) (dI (pv 2)) (fun _ _ _ _=>(aU (i:=0) (show (["door"]:List Str).Nodup by decide +kernel) rfl (by walk_at"oi"))) (fun _ _ _ _=>eT) (fun _ _ _ _=>(rQ (K:=K) (pv 0) rfl))) aB)))
   (aC (aO (i:=6) nd rfl (by walk_at"oi") (lZ (zS rfl) rfl m.NS KB (aA (pv 1) aB)))
   (aC (dJ (qJ gW hr qN (aA (b9 dW hr (aA (pv 2) (aA (pv 3) aB))) (aA (pv 6) aB))))
   (aC (dJ (qJ gS hr qN (aA (pv 6) (aA (pv 3) aB))))
   (aC (gK (pv 0) (pv 5) rfl)
   (aC (gK (pv 0) (pv 4) rfl)
   (aC (gK (pv 0) (pv 6) rfl)
   (aC (gK (pv 0) (b9 cW hr (aA (pv 6) (aA (pv 3) aB))) rfl)
   (aC (gK (pv 0) oR rfl)
   (aH (iO sL rfl (dI (pv 2)) (aU (i:=7) nd rfl (by walk_at"oi")) (aH (sN hu1 (eY (pv 0) rfl) (eY (pv 7) rfl) (pv 7) rfl))))))))))))))),?_⟩
  refine bG (σ:=[some (.ref p),some (.ref a),some (.ref b),some (.ref c),some (.int l),some (.int f),none,none]) rfl ?_;have hul:us.length=ds.length:=Paired.length hd;have hwl:ws.length=rz.length:=Paired.length hra;walk_at"go";refine E6 (fun h0 h1=> ?_) k.tn;walk_at"go";refine sP (α:=Str×Int) (xs:=rz) (vs:=ws) (fun e=> .str e.1) (fun e=> .int e.2) (fun _=>true) (fun z y _=>y= .str z.1) (fun _ _ _ _ h _=>h) (by rw[sizeLine_eq];lia) (rest:=[]) (by rfl) (SqL.of ha) hra (fun x H1 hx s1 R hR=>hR _ (Same.refl _)) (fun x H1 hx _ s1 R hR=> ?_) ?_
  ·walk_at"go";exact hR _ _ rfl (Same.refl _)
  intro ys H1 s1 hys;rw[cR]at hys;obtain rfl:=d8 hys;walk_at"go";rename_i q1 H2 n2 S2 e2;refine xI (ss:=rz.map (·.1)) (SqL.of (by rw[e2,List.map_map];rfl)) (by rw[List.length_map];lia) (fun nr H3 S3=> ?_) fun z hz=>(k.dr h0 h1 z hz).sm (s1.trans S2);have sA:Same H H3:=(s1.trans S2).trans S3;walk_at"go";refine g3 (α:=aM) (xs:=ds) (vs:=us) ((aY P w K mg base none).at' H3) (fun _=>true) (fun d y _=>y= .str d.1) (fun _ _ _ _ h _=>h) (by rw[sizeLine_eq];lia) (rest:=[]) (by rfl) (sA.seq hb) (b6 hd sA) (fun v x H1 _ hx s1 R hR=>hR _ (Same.refl _)) ?_ ?_
  ·rintro v ⟨n,st,e,lt⟩ H4 hv hm - s4 R hR;obtain⟨q,C9,dx',fs,fp,rfl,hq,dcC,l1,l2,l3,l4,l5,mcE,hfp,hlt⟩:=DoorAt.ex hv;have hq':=s4 _ _ hq;walk_at"go";exact hR _ _ rfl (Same.refl _)
  intro ys H4 s4 hys;rw[cR]at hys;obtain rfl:=d8 hys;walk_at"go";rename_i q5 H5 n5 S5 e5;refine xI (ss:=ds.map (·.1)) (SqL.of (by rw[e5,List.map_map];rfl)) (by rw[List.length_map];lia) (fun nd' H6 S6=> ?_) fun z hz=>(k.dd h0 h1 nr z hz).sm ((sA.trans s4).trans S5);have sB:Same H H6:=((sA.trans s4).trans S5).trans S6;walk_at"go";refine EH (sB _ _ ha) (oM (hra.sm sB)) fun qs H7 n7 S7 e7=> ?_;rw[FI nr]at e7;have sC:Same H H7:=sB.trans S7;walk_at"go";refine CA (sC.seq hb) (b6 hd sC) hes ld (sC.seq hc) (bM hcp sC) lp fun q8 H8 S8 e8=> ?_;have isz:∀z,(bH (szK rz) (.inr z)).isSome=true↔z∈rz.map (·.1):=fun z=>by
   constructor
   ·intro h;obtain⟨v,hv⟩:=Option.isSome_iff_exists.mp h;have:=IE hv;rw[xY]at this;obtain⟨y,hy,e⟩:=List.mem_map.mp this;cases e;exact hy
   ·intro h;obtain⟨i,_,e⟩:=EC nr h;rw[e];rfl
  walk_at"go";refine EL (SqL.of e8) (.inl (S8 _ _ e7)) (fun hall H9 S9=> ?_) fun i z hz hno hbef=> ?_
  rotate_left
  ·refine(k.st h0 h1 nr nd' z ⟨i,hz,fun hm=> ?_,fun y hy=>(isz y).mp (hbef y hy)⟩).sm (sC.trans S8);rw[(isz z).mpr hm]at hno;cases hno
  have hsp:∀z∈dD ds ps,z∈rz.map (·.1):=fun z hz=>(isz z).mp (hall z hz);have hpr:∀p∈ps,p.1∈rz.map (·.1):=fun p hp=>hsp _ (List.mem_append_right _ (List.mem_map.mpr ⟨p,hp,rfl⟩));have sD:Same H7 H9:=S8.trans S9;walk_at"go";refine D4 (sD _ _ e7) ((sC.trans sD).seq hc) (bM hcp (sC.trans sD)) hpr nr (by lia) (by lia) (fun hf H10 S10=> ?_) fun hf=>(k.sp h0 h1 nr nd' hsp hf).sm (sC.trans sD);have sE:Same H H10:=(sC.trans sD).trans S10;have es:H10 qs=some (.dK (szK rz)):=S10 _ _ (sD _ _ e7);have hp10:=sE _ _ hp;have hqp:qs≠p:=fun z=>by rw[z,hp10]at es;cases es
  walk_at"go";rename_i H11 B11 e11 H12 B12 e12 H13 B13 e13;have sb13:SameBut p H10 H13:=by walk_at"sb"
  have es13:=sb13 _ _ es hqp;have hc13:SqL K H13 c cs:=xP (sE.seq hc) hp10 sb13;have hcp13:Paired (bT H13) cs ps:=Paired.imp' (fun v r ⟨q,e,hq⟩=>⟨q,e,sb13 _ _ (sE _ _ hq) fun z=>by rw[z,hp]at hq;cases hq⟩) hcp;refine xV es13 hc13 hcp13 hpr nr (by lia) fun qp H14 kvs n14 S14 e14 hkk hv14=> ?_;have hp14:=S14 _ _ e13;walk_at"go";rename_i H15 B15 e15 qd H16 n16 S16 e16 H17 B17 e17;have hqd:qd≠p:=fun z=>by rw[z,e15]at n16;cases n16
  have sb17:SameBut p H10 H17:=((((sb13.trans S14.but).trans B15).trans S16.but).trans B17)
  have ed17:=B17 _ _ e16 hqd;have fresh:∀x u,H10 x=some u->x≠p->x≠qd:=fun x u hx hxp z=>by
   have h15:H15 x=some u:=B15 _ _ (S14 _ _ (sb13 _ _ hx hxp)) hxp;rw[z,n16]at h15;cases h15
  have hb17:SqL K H17 b us:=xP (sE.seq hb) hp10 sb17;have hd17:Paired ((aY P w K mg base none).at' H17) us ds:=Paired.imp' (fun v d h=>(aY P w K mg base none).but ((aY P w K mg base none).same h sE) hp10 rfl sb17) hd;have ddq:∀{H':Hp}{v:V}{d:aM},SameBut qd H17 H'->(aY P w K mg base none).at' H17 v d->(aY P w K mg base none).at' H' v d:=fun sb h=>(aY P w K mg base none).but h ed17 trivial sb;refine tT hb17 ?_;refine kC us (fun i σ' H'=>SameBut qd H17 H'/\(∃nk,H' qd=some (.dK nk)/\nk.length<=i)/\∃x,σ'=[some (.ref p),some (.ref a),some (.ref b),some (.ref c),some (.int l),some (.int f),some (.ref qs),x]) ⟨SameBut.refl,⟨[],ed17,Nat.le_refl _⟩,_,rfl⟩ (fun i σ' H' _ q=>vV hb17 ed17 q.1) ?_ ?_
  ·rintro i x _ H' hx ⟨sb,⟨nk,ek,hk⟩,y,rfl⟩;have hi:i<us.length:=(List.getElem?_eq_some_iff.mp hx).1;obtain⟨d,hdx⟩:∃d,ds[i]? =some d:=⟨_,List.getElem?_eq_getElem (by lia)⟩
   have hD:=Paired.at2 hd17 hx hdx;obtain⟨n,st,e,lt⟩:=d;have hD':=ddq sb hD;obtain⟨q,C9,dx',fs,fp,rfl,hq',dcC,l1,l2,l3,l4,l5,mcE,hfp,hlt⟩:=DoorAt.ex hD';have hpp:H' p=some (.ins C dx (ID f l qs qp qd)):=sb _ _ e17 (Ne.symm hqd);walk_at"go";refine oZ ek (by rw[sizeLine_eq];lia) fun H9' B9' e9'=> ?_;exact⟨by walk_at"sb",⟨_,e9',Nat.le_trans (fN _ _ _) (by lia)⟩,_,rfl⟩
  ·rintro _ H' ⟨sb,_,y,rfl⟩;exact k.ok h0 h1 nr nd' hsp hf _ fun x u hx hxp=>sb _ _ (sb17 _ _ (sE _ _ hx) hxp) (fresh x u (sE _ _ hx) hxp)
theorem zI (m:M K mg):KcE P w K mg base "House" m.cO 6 [] (jY K (aY P w K mg base none) m.aX m.aV m.aS m.aT):=⟨_,_,_,_,m.KD,m.FR,.nil,m.pJ,nS m⟩
local macro_rules| `(tactic| walk_at"rd1")=> `(tactic| first|(with_reducible refine rd_vals ?_)|(with_reducible refine rd_v13 ?_)|(with_reducible refine rd_s13 ?_)|(with_reducible refine rd_v14 ?_)|(with_reducible refine rd_s14 ?_)|(with_reducible refine rd_v15 ?_)|(with_reducible refine rd_s15 ?_)|(with_reducible refine rd_v16 ?_)|(with_reducible refine rd_s16 ?_)|(with_reducible refine rd_v17 ?_)|(with_reducible refine rd_s17 ?_)|(with_reducible refine rd_v18 ?_)|(with_reducible refine rd_s18 ?_)|(with_reducible refine rd_iEnum ?_)|((with_reducible refine' rd_iEnumV ?e ?_);(case e=>walk_at"hp"))|((with_reducible refine' GX ?a ?b ?c ?_);(case a=>walk_at"sd");(case b=>walk_at"sd");(case c=>walk_at"sz")))
def cC (ns:List Int)(k:Int):Int:=ns.getD k.toNat 0
def sO (K:W.Frag):Sp:=fun vs H Q _=>∃(a:Addr) (ns:List Int) (k:Int),vs=[.ref a,.int k]/\SqL K H a (ns.map V.int)/\0<=k/\Q (.int (cC ns k)) H
theorem LE {H:Hp}{Q:VK}{E:XK}{a:Addr}{ns:List Int}{i:Int} (hS:SqL K H a (ns.map V.int)) (hi:0<=i) (h:Q (.int (cC ns i)) H):sO K [.ref a,.int i] H Q E:=⟨_,_,_,rfl,hS,hi,h⟩
theorem qP (m:M K mg):bK P w K mg base CX0 1 m.iA m.hU ["_law_script","_law_k"] (sO K):=by
 refine m.aQ.ok sc__law_cell_at (fun vs H Q E h=> ?_) (fun cdv A outer s H vs Q E hr h=> ?_)
 ·obtain⟨a,ns,i,rfl,hS,hi,k⟩:=h;rfl
 ·obtain⟨a,ns,i,rfl,hS,hi,k⟩:=h;have nd:=sc__law_cell_at.nd;walk_at"hu";refine⟨_,(aC (bS (bU qL (pv 1) (aW dM rfl m.iI fM (aA (pv 0) aB)) (bL _)) (aH (b0 (b2 cM (pv 0) (pv 1) (fun _ _=>rfl)))) bF)
   (aH (b0 aD))),?_⟩
  refine bG (σ:=[some (.ref a),some (.int i)]) rfl ?_;walk_at"go";rw[List.length_map];refine c4 (fun h1=> ?_) (fun h1=> ?_)
  ·have hlt:i.toNat<ns.length:=by lia
   have e:=nM (xs:=ns.map V.int) (j:=i.toNat) (v:= .int (cC ns i)) (by
    rw[List.getElem?_map,List.getElem?_eq_getElem hlt];unfold cC;rw[List.getD_eq_getElem?_getD,List.getElem?_eq_getElem hlt];rfl)
   rw[show ((i.toNat:Nat):Int)=i by lia]at e;exact⟨_,rfl,_,rfl,a,_,i,_,rfl,rfl,hS,e,k⟩
  ·have e:cC ns i=0:=by
    unfold cC;rw[List.getD_eq_getElem?_getD,List.getElem?_eq_none (by lia)];rfl
   rw[e]at k;exact k
theorem qF (m:M K mg):Fc P w K mg base "_law_cell_at" 1 ["_law_script","_law_k"] (sO K):=⟨_,_,m.tD,m.aQ.kp,m.sW,qP m⟩
local macro_rules| `(tactic| walk_at"rd1")=> `(tactic| first|(with_reducible refine r_lwhole ?_)|((with_reducible refine' LE ?e ?s ?_);(case e=>walk_at"hp");(case s=>walk_at"sd"))|((with_reducible refine r_drawn ?_);intro n' h0' h1'))
theorem BD {x:Str}{b n:Nat} (hx:x.cps.toList=List.range' b n) {i:Int} (h0:0<=i) (h1:i<n):atI x.cps.toList i=some (b+i.toNat):=by
 have e:=nM (xs:=x.cps.toList) (j:=i.toNat) (v:=b+i.toNat) (by rw[hx,List.getElem?_range' (by lia)];simp);rw[show ((i.toNat:Nat):Int)=i by lia]at e;exact e
theorem xR {x:Str}{b n:Nat} (hx:x.cps.toList=List.range' b n) (hl:gM x=true) {i:Nat} (h1:i<n):gM ⟨#[b+i]⟩=true:=by
 refine FN hl ?_;rw[hx,List.mem_range'_1]
 lia
theorem kQ {α β γ:Type}{F:α->γ->Prop} (g:β->γ):∀{l:List β}{m:List α},Paired (fun x y=>F y (g x)) l m->Paired F m (l.map g)
 | _,_,.nil=> .nil
 | _,_,.cons r t=> .cons r (kQ g t)
theorem gJ {H:Hp}{Q:VK}{p:Addr}{xs:List V}{j:Nat}{v:V} (e:SqL K H p xs) (hx:xs[j]? =some v) (h:Q v H):vU K (.ref p) (.int (j:Int)) H Q:=⟨p,xs,_,v,rfl,rfl,e,nM hx,h⟩
theorem kR {H:Hp}{ws:List V}{rz:List (Str×Int)} (hr:Paired (bT H) ws rz) {v:V} (hv:v∈ws):∃z i q,v= .ref q/\H q=some (.tup [.str z,.int i])/\(z,i)∈rz:=by
 obtain⟨e,he,q,rfl,hq⟩:=qW hr hv;exact⟨e.1,e.2,q,rfl,hq,he⟩
theorem nI {H:Hp}{p dx:Addr}{n st:Str}{e:V}{wd:Int} (m:M K mg) (h:H p=some (.ins m.eZ dx (qU (.str n) (.str st) e (.int wd)))):(aY P w K mg base none).at' H (.ref p) (n,st,e,fun _=>wd) :=
 ⟨p,_,dx,_,[],rfl,h,m.kF,by walk_at"lk",by walk_at"lk",by walk_at"lk",by walk_at"lk",by walk_at"lk",qM m,(fun _ z=>nomatch z),fun kl hk=>by
  cases hk⟩
theorem kO:("abcdefghijklmnopqrstuvwxyz" :Str).cps.toList=List.range' 97 26:=by decide +kernel
theorem xT:gM "abcdefghijklmnopqrstuvwxyz" =true:=by decide +kernel
theorem HY:("abcdefghijklmnopqrstuvwxyz" :Str).length=26:=by rw[bB];decide
theorem uY:("v" :Str)=⟨#[118]⟩:=by apply x6;decide +kernel
theorem tL (n:Nat):gM (eX ("v" :Str) n)=true:=by
 unfold gM;rw[uY,o8,List.all_eq_true];intro c hc;rw[List.eq_of_mem_replicate hc];decide
def nmF (k c:Int):Str:=if c%2=0 then ⟨#[97+(k * 7%26).toNat]⟩++eX ("v" :Str) (c/2%8).toNat else eX ("v" :Str) (c/2%8).toNat++⟨#[97+(25 - k).toNat]⟩
theorem vS {k c:Int}(h0:0<=k)(h1:k<26):aZ (nmF k c)=true:=by
 have hl:(eX ("v" :Str) (c/2%8).toNat).length=(c/2%8).toNat:=by rw[uY,l6]
 unfold nmF
 by_cases h:c%2=0
 ·rw[if_pos h];have h1':(⟨#[97+(k * 7%26).toNat]⟩:Str).length=1:=rfl;refine vM ?_ ?_ (vC (xR kO xT (by lia)) (tL _))
  ·rw[dQ];lia
  ·rw[dQ];lia
 ·rw[if_neg h];have h1':(⟨#[97+(25 - k).toNat]⟩:Str).length=1:=rfl;refine vM ?_ ?_ (vC (tL _) (xR kO xT (by lia)))
  ·rw[dQ];lia
  ·rw[dQ];lia
theorem HZ {k j c:Int}(h0:0<=k)(h1:k<26)(h2:0<=j)(h3:j<26)(h:nmF k c=nmF j c):k=j:=by
 have h':=congrArg (fun z:Str=>z.cps.toList) h;unfold nmF at h'
 by_cases hc:c%2=0
 ·rw[if_pos hc,if_pos hc]at h';simp only[iE]at h';have:=List.append_cancel_right h';have:97+(k * 7%26).toNat=97+(j * 7%26).toNat:=by simpa using this
  omega
 ·rw[if_neg hc,if_neg hc]at h';simp only[iE]at h';have:=List.append_cancel_left h';have:97+(25 - k).toNat=97+(25 - j).toNat:=by simpa using this
  lia
theorem u6 (b c:Int)(n:Nat)(h0:0<=b)(h1:b+n<=26):((List.range n).map fun i:Nat=>nmF ((i:Int)+b) c).Nodup:=by
 rw[List.Nodup,List.pairwise_map];refine List.Pairwise.imp_of_mem ?_ (List.nodup_range (n:=n));intro i j hi hj hne z;have hi':=List.mem_range.mp hi;have hj':=List.mem_range.mp hj;have:=HZ (by lia) (by lia) (by lia) (by lia) z
 lia
def oS:Sp:=fun vs H Q _=>∃(k c:Int),vs=[.int k,.int c]/\0<=k/\k<26/\Q (.str (nmF k c)) H
theorem HJ {H:Hp}{Q:VK}{E:XK}{k c:Int} (h0:0<=k) (h1:k<26) (h:Q (.str (nmF k c)) H):oS [.int k,.int c] H Q E:=⟨_,_,rfl,h0,h1,h⟩
theorem vL (m:M K mg):bK P w K mg base CX0 1 m.j9 m.j6 ["_law_k","_law_cell"] (oS):=by
 refine m.eK.ok sc__law_name (fun vs H Q E h=> ?_) (fun cdv A outer s H vs Q E hr h=> ?_)
 ·obtain⟨j,c,rfl,h0,h1,k⟩:=h;rfl
 ·obtain⟨j,c,rfl,h0,h1,k⟩:=h;have nd:=sc__law_name.nd;walk_at"hu";refine⟨_,(aC (aO (i:=2) nd rfl (by walk_at"oi") bA)
   (aC (bS (bU eQ (aF bD (pv 1) aD) aD (bL _)) (aH (b0 (aF xW (b2 CS (pv 2) (aF bD (aF CH (pv 0) aD) aD) (fun _ _=>rfl)) (aF xU bA (aF bD (aF cF (pv 1) aD) aD))))) bF)
   (aH (b0 (aF xW (aF xU bA (aF bD (aF cF (pv 1) aD) aD)) (b2 CS (pv 2) (aF mG aD (pv 0)) (fun _ _=>rfl))))))),?_⟩
  refine bG (σ:=[some (.int j),some (.int c),none]) rfl ?_;have hla:=HY;have hlm:("v" :Str).length=1:=by rw[bB];rfl
  have hsl:(eX ("v" :Str) (c/2%8).toNat).length=(c/2%8).toNat:=by rw[uY,l6]
  unfold nmF at k;walk_at"go";refine c4 (fun hc=> ?_) (fun hc=> ?_)
  ·rw[if_pos hc]at k;walk_at"go";refine⟨_,_,_,rfl,rfl,(by walk_at"sz"),BD kO (by omega) (by omega),?_⟩;have h1':(⟨#[97+(j * 7%26).toNat]⟩:Str).length=1:=rfl;walk_at"go";exact k
  ·rw[if_neg hc]at k;walk_at"go";refine⟨_,_,_,rfl,rfl,(by walk_at"sz"),BD kO (by omega) (by omega),?_⟩;have h1':(⟨#[97+(25 - j).toNat]⟩:Str).length=1:=rfl;walk_at"go";exact k
theorem mO (m:M K mg):Fc P w K mg base "_law_name" 1 ["_law_k","_law_cell"] (oS):=⟨_,_,m.xD,m.eK.kp,m.xG,vL m⟩
def nv (z:Str):Nat:=(z.cps.toList.filter fun c=>c !=118).length
theorem CJ (a b:Str):nv (a++b)=nv a+nv b:=by unfold nv;rw[iE,List.filter_append,List.length_append]
theorem CC (n:Nat):nv (eX ("v" :Str) n)=0:=by
 unfold nv;rw[uY,o8,List.length_eq_zero_iff,List.filter_eq_nil_iff];intro c hc;rw[List.eq_of_mem_replicate hc];decide
theorem CB (c:Nat):nv ⟨#[c]⟩<=1:=by
 unfold nv;exact Nat.le_trans (List.length_filter_le _ _) (Nat.le_refl _)
theorem OW (k c:Int):nv (nmF k c)<=1:=by
 unfold nmF
 split
 ·rw[CJ,CC];exact CB _
 ·rw[CJ,CC,Nat.zero_add];exact CB _
theorem LQ {z:Str}(h:1<nv z)(k c:Int):z≠nmF k c:=fun e=>by
 have:=OW k c;rw[←e]at this
 lia
local macro_rules| `(tactic| walk_at"rd1")=> `(tactic| ((with_reducible refine' HJ ?a ?b ?_);(case a=>walk_at"sd");(case b=>walk_at"sd")))
def NmD (d:aM):Prop:=aZ d.1=true/\aZ d.2.1=true/\jZ d.2.2.1
def mE (K:W.Frag)(D:dU):Sp:=fun vs H Q _=>∃(a:Addr) (mn c:Int) (ws:List V) (rz:List (Str×Int)),vs=[.ref a,.int mn,.int c]/\H a=some (.lst ws)/\RoomsAt H ws rz/\0<rz.length/\(∀e∈rz,aZ e.1=true)/\0<=mn/\mn<=5/\∀p us ds H',Same H H'->H' p=some (.lst us)->Paired (D.at' H') us ds->(ds.length:Int)=mn->(ds.map (·.1)).Nodup->(∀d∈ds,jG (rz.map (·.1)) d)->(∀d∈ds,NmD d)->Q (.ref p) H'
theorem EY {D:dU}{H:Hp}{Q:VK}{E:XK}{a:Addr}{mn c:Int}{ws:List V}{rz:List (Str×Int)} (ha:H a=some (.lst ws)) (hw:RoomsAt H ws rz) (h0:0<rz.length) (hok:∀e∈rz,aZ e.1=true) (hm0:0<=mn) (hm1:mn<=5) (k:∀p us ds H',Same H H'->H' p=some (.lst us)->Paired (D.at' H') us ds->(ds.length:Int)=mn->(ds.map (·.1)).Nodup->(∀d∈ds,jG (rz.map (·.1)) d)->(∀d∈ds,NmD d)->Q (.ref p) H'):mE K D [.ref a,.int mn,.int c] H Q E:=⟨_,_,_,_,_,rfl,ha,hw,h0,hok,hm0,hm1,k⟩
theorem uQ (m:M K mg):bK P w K mg base CX0 6 m.jH m.jR ["_law_rooms","_law_many","_law_cell"] (mE K (aY P w K mg base none)):=by
 refine m.gP.ok sc__law_doors (fun vs H Q E h=> ?_) (fun cdv A outer s H vs Q E hr h=> ?_)
 ·obtain⟨a,mn,c,ws,rz,rfl,ha,hra,hr0,hok,hm0,hm1,k⟩:=h;rfl
 ·obtain⟨a,mn,c,ws,rz,rfl,ha,hra,hr0,hok,hm0,hm1,k⟩:=h;have nd:=sc__law_doors.nd;walk_at"hu";have eK:= @mO P w K mg base m;have K_Door_0:= @AW P w K mg base m;have w_dc_Door:=m.kF;refine⟨_,(aC (aO (i:=3) nd rfl (by walk_at"oi") (b1 aB))
   (aC (iO PassesOwn.never rfl (jW rfl m.nQ (aA (pv 1) aB)) (aU (i:=4) nd rfl (by walk_at"oi")) (aC (aO (i:=5) nd rfl (by walk_at"oi") (b2 iL (b2 cM (pv 0) (aF bD (aF cF (pv 2) (aF cS (pv 4) aD)) (aW dM rfl m.iI fM (aA (pv 0) aB))) (fun _ _=>rfl)) aD (fun _ _=>rfl)))
   (aC (aO (i:=6) nd rfl (by walk_at"oi") (b2 cM (b1 (aA fO (aA (b2 iL (b2 cM (pv 0) (aF bD (aF cF (pv 2) (aF cS (pv 4) aD)) (aW dM rfl m.iI fM (aA (pv 0) aB))) (fun _ _=>rfl)) aD (fun _ _=>rfl)) aB))) (aF bD (aF cF (pv 2) (aF cS (pv 4) aD)) aD) (fun _ _=>rfl)))
   (aH (dJ (yI PySem.F.plainAttrs_list PySem.F.slot_list_append PySem.F.type_list_append j0 (pv 3) (aA (u3 K_Door_0 hr (aA (b9 eK hr (aA (aF cS (pv 4) (aF CH aD (aF bD (pv 2) aD))) (aA (pv 2) aB))) (aA (pv 5) (aA (pv 6) (aA (pv 4) aB))))) aB)))))))
   (aH (b0 (pv 3))))),?_⟩
  refine bG (σ:=[some (.ref a),some (.int mn),some (.int c),none,none,none,none]) rfl ?_;have hwl:ws.length=rz.length:=Paired.length hra;walk_at"go";rename_i p H3 n3 S3 ep;refine xH (fun i σ' H'=>SameBut p H3 H'/\(∃us ds,H' p=some (.lst us)/\Paired ((aY P w K mg base none).at' H') us ds/\(∀d∈ds,jG (rz.map (·.1)) d)/\(∀d∈ds,NmD d)/\ds.map (·.1)=(List.range i).map (fun k:Nat=>nmF ((k:Int)+9 * (c%2)) c))/\∃x y z,σ'=[some (.ref a),some (.int mn),some (.int c),some (.ref p),x,y,z]) ⟨SameBut.refl,⟨[],[],ep,.nil,(fun _ z=>nomatch z),(fun _ z=>nomatch z),rfl⟩,_,_,_,rfl⟩ ?_ ?_
  ·rintro i _ H' hi ⟨sb,⟨us,ds,eu,hud,hds,hnmd,hnm⟩,x1,x2,x3,rfl⟩;have hi5:i<5:=by lia
   have hul:us.length=i:=by
    have h5:ds.length=i:=by rw[←List.length_map (f:=fun d:aM=>d.1),hnm,List.length_map,List.length_range]
    rw[Paired.length hud];exact h5
   have s2':Same H H':=SameBut.same n3 S3 sb;have eW':=s2' _ _ ha;have hra':=hra.sm s2';walk_at"go";rename_i ha0 ha1;refine mI (SqL.of eW') ha0 ha1 fun v1 hv1=> ?_;obtain⟨z1,j1,q1,rfl,hq1,hz1⟩:=kR hra' hv1;have hm1':z1∈rz.map (·.1):=List.mem_map.mpr ⟨_,hz1,rfl⟩;have hb1:aZ z1=true:=hok _ hz1;walk_at"go";refine⟨q1,_,0,_,rfl,rfl,SqT.of hq1,rfl,?_⟩;walk_at"go";rename_i hc0 hc1;refine mI (SqL.of eW') hc0 hc1 fun v2 hv2=> ?_;obtain⟨z2,j2,q2,rfl,hq2,hz2⟩:=kR hra' hv2;have hm2':z2∈rz.map (·.1):=List.mem_map.mpr ⟨_,hz2,rfl⟩;have hb2:aZ z2=true:=hok _ hz2;walk_at"go";refine⟨q2,_,0,_,rfl,rfl,SqT.of hq2,rfl,?_⟩;walk_at"go";rename_i pE H4 n4 S4 eE;refine mI (SqL.of eE) (by lia) (by show _<(2:Int);lia) fun v hv=> ?_;have hve:jZ v/\(v= .non∨∃z,v= .str z/\z∈rz.map (·.1)):=by
    simp only[List.mem_cons,List.not_mem_nil,or_false]at hv;rcases hv with rfl|rfl
    ·exact⟨.inl rfl,.inl rfl⟩
    ·exact⟨.inr ⟨_,rfl,hb2⟩,.inr ⟨_,rfl,hm2'⟩⟩
   obtain⟨hve,hvi⟩:=hve;have hb0:aZ (nmF (0+(i:Int)+9 * (c%2)) c)=true:=vS (by lia) (by lia);walk_at"go";rename_i q5 dx5 H5 n5 S5 e5;have eu5:H5 p=some (.lst us):=S5 _ _ (S4 _ _ eu);refine jX eu5 (by rw[sizeLine_eq];lia) fun H6 B6 e6=> ?_;have hq5:q5≠p:=fun z=>by rw[z,S4 _ _ eu]at n5;cases n5
   refine⟨(sb.trans (S4.trans S5).but).trans B6,⟨us++[.ref q5],ds++[(nmF (0+(i:Int)+9 * (c%2)) c,z1,v,fun _=>0+(i:Int))],e6,?_,?_,?_,?_⟩,_,_,_,rfl⟩
   ·refine L2.Paired.snoc (Paired.imp' (fun w' d h=>(aY P w K mg base none).but ((aY P w K mg base none).same h (S4.trans S5)) eu5 trivial B6) hud) ?_;exact nI (P:=P) (w:=w) (base:=base) m (B6 _ _ e5 hq5)
   ·intro d hd;rcases List.mem_append.mp hd with hd|hd
    ·exact hds d hd
    ·cases List.mem_singleton.mp hd;exact⟨hm1',hvi⟩
   ·intro d hd;rcases List.mem_append.mp hd with hd|hd
    ·exact hnmd d hd
    ·cases List.mem_singleton.mp hd;exact⟨hb0,hb1,hve⟩
   ·rw[List.map_append,hnm,List.range_succ,List.map_append,Int.zero_add];rfl
  ·rintro _ H' ⟨sb,⟨us,ds,eu,hud,hds,hnmd,hnm⟩,x1,x2,x3,rfl⟩;have hdl:ds.length=mn.toNat:=by rw[←List.length_map (f:=fun d:aM=>d.1),hnm,List.length_map,List.length_range]
   walk_at"go";refine k _ _ _ _ (SameBut.same n3 S3 sb) eu hud (by lia) ?_ hds hnmd;rw[hnm];exact u6 _ _ _ (by lia) (by lia)
theorem uM (m:M K mg):Fc P w K mg base "_law_doors" 6 ["_law_rooms","_law_many","_law_cell"] (mE K (aY P w K mg base none)):=⟨_,_,m.wI,m.gP.kp,m.wK,uQ m⟩
def iR (ds:List aM):List Str:=(ds.map iY).flatten
def sJ (K:W.Frag)(D:dU):Sp:=fun vs H Q _=>∃(a:Addr) (c:Int) (us:List V) (ds:List aM) (rs:List Str),vs=[.ref a,.int c]/\H a=some (.lst us)/\Paired (D.at' H) us ds/\0<ds.length/\ds.length<=5/\(∀d∈ds,jG rs d)/\(∀d∈ds,NmD d)/\("strange" :Str)∉rs/\("other" :Str)∉rs/\∀q p r z us' ds' H',Same H H'->H' q=some (.tup [.ref p,.ref r])->H' r=some (.tup [.str "room",.str z])->H' p=some (.lst us')->Paired (D.at' H') us' ds'->ds'.map (·.1)=ds.map (·.1)->(∀d∈ds',gH d)->(∀d∈ds',aZ d.1=true)->Odd rs (iR ds') z->Q (.ref q) H'
theorem NE {D:dU}{H:Hp}{Q:VK}{E:XK}{a:Addr}{c:Int}{us:List V}{ds:List aM}{rs:List Str} (ha:H a=some (.lst us)) (hd:Paired (D.at' H) us ds) (h0:0<ds.length) (h5:ds.length<=5) (hin:∀d∈ds,jG rs d) (hnm:∀d∈ds,NmD d) (n1:("strange" :Str)∉rs) (n2:("other" :Str)∉rs) (k:∀q p r z us' ds' H',Same H H'->H' q=some (.tup [.ref p,.ref r])->H' r=some (.tup [.str "room",.str z])->H' p=some (.lst us')->Paired (D.at' H') us' ds'->ds'.map (·.1)=ds.map (·.1)->(∀d∈ds',gH d)->(∀d∈ds',aZ d.1=true)->Odd rs (iR ds') z->Q (.ref q) H'):sJ K D [.ref a,.int c] H Q E:=⟨_,_,_,_,_,rfl,ha,hd,h0,h5,hin,hnm,n1,n2,k⟩
theorem CV {H:Hp}{Q:VK}{p:Addr}{x y:V}{c:Prop} [Decidable c] (e:SqL K H p [x,y]) (h:∀v,(c/\v=y)∨(¬c/\v=x)->Q v H):vU K (.ref p) (.int (if decide c=true then 1 else 0)) H Q:=by
 by_cases hc:c
 ·rw[decide_eq_true hc,if_pos rfl];exact gJ (j:=1) e rfl (h _ (.inl ⟨hc,rfl⟩))
 ·rw[decide_eq_false hc,if_neg Bool.false_ne_true];exact gJ (j:=0) e rfl (h _ (.inr ⟨hc,rfl⟩))
theorem mJ (xs:List V)(k:Nat)(hk:k<=xs.length):g4 xs (some (k:Int)) none=xs.drop k:=by
 unfold g4;rw[HT.sIx_none,HT.sIx_nat,Nat.min_eq_left hk];exact List.take_of_length_le (by rw[List.length_drop];lia)
theorem mM (xs:List V)(k:Nat)(hk:k<=xs.length):g4 xs none (some (k:Int))=xs.take k:=by
 unfold g4;rw[HT.sIx_none,HT.sIx_nat,Nat.min_eq_left hk,List.drop_zero,Nat.sub_zero]
theorem Paired.drop' {α β:Type}{F:α->β->Prop}:∀{l:List α}{m:List β},Paired F l m->∀k,Paired F (l.drop k) (m.drop k)
 | _,_,h,0=>h
 | _,_,.nil,k+1=> .nil
 | _,_,.cons h t,k+1=>Paired.drop' t k
theorem Paired.take' {α β:Type}{F:α->β->Prop}:∀{l:List α}{m:List β},Paired F l m->∀k,Paired F (l.take k) (m.take k)
 | _,_,_,0=> .nil
 | _,_,.nil,k+1=> .nil
 | _,_,.cons h t,k+1=> .cons h (Paired.take' t k)
theorem bO {α β:Type}{F:α->β->Prop}:∀{l l2:List α}{m m2:List β},Paired F l m->Paired F l2 m2->Paired F (l++l2) (m++m2)
 | _,_,_,_,.nil,h=>h
 | _,_,_,_,.cons r t,h=> .cons r (bO t h)
theorem u8 {rs pre post:List Str}{z:Str} (h:∀y∈pre,y∈rs) (hz:z∉rs):Odd rs (pre++z::post) z:=by
 refine⟨pre.length,by rw[List.getElem?_append_right (Nat.le_refl _),Nat.sub_self];rfl,hz,fun y hy=>h y ?_⟩;rw[List.take_left']at hy
 ·exact hy
 ·rfl
theorem rX {rs:List Str}:∀{ds:List aM},(∀d∈ds,jG rs d)->∀z∈iR ds,z∈rs
 | [],_,_,h=>nomatch h
 | d::ds,hin,z,h=>by
  unfold iR at h;rw[List.map_cons,List.flatten_cons]at h;rcases List.mem_append.mp h with h|h
  ·obtain⟨h1,h2⟩:=hin d (.head _);rcases List.mem_cons.mp h with rfl|h
   ·exact h1
   ·rcases h2 with h2|⟨y,h2,h3⟩
    ·rw[h2]at h;exact nomatch h
    ·rw[h2]at h;cases List.mem_singleton.mp h;exact h3
  ·exact rX (fun d' hd'=>hin d' (List.mem_cons_of_mem _ hd')) z h
theorem rA (m:M K mg):bK P w K mg base CX0 7 m.iC m.iD ["_law_doors_here","_law_cell"] (sJ K (aY P w K mg base none)):=by
 refine m.fE.ok sc__law_strange (fun vs H Q E h=> ?_) (fun cdv A outer s H vs Q E hr h=> ?_)
 ·obtain⟨a,c,us,ds,rs,rfl,ha,hud,h0,h5,hin,hnm,n1,n2,k⟩:=h;rfl
 ·obtain⟨a,c,us,ds,rs,rfl,ha,hud,h0,h5,hin,hnm,n1,n2,k⟩:=h;have nd:=sc__law_strange.nd;walk_at"hu";have K_Door_1:= @DA P w K mg base m;have w_dc_Door:=m.kF;refine⟨_,(aC (aO (i:=2) nd rfl (by walk_at"oi") (aF bD (pv 1) (aW dM rfl m.iI fM (aA (pv 0) aB))))
   (aC (aO (i:=3) nd rfl (by walk_at"oi") (b2 cM (pv 0) (pv 2) (fun _ _=>rfl)))
   (aC (aO (i:=4) nd rfl (by walk_at"oi") (aF bD (aF cF (pv 1) aD) aD))
   (aC (aO (i:=5) nd rfl (by walk_at"oi") (b2 cM (b1 (aA (eY (pv 3) rfl) (aA bA aB))) (lZ tJ rfl m.AJ vE (aA (jA eQ (aF bD (pv 4) aD) aD (bL _)) aB)) (fun _ _=>rfl)))
   (aC (aO (i:=6) nd rfl (by walk_at"oi") (b2 cM (b1 (aA (eY (pv 3) rfl) (aA bA aB))) (lZ tJ rfl m.AJ vE (aA (jA GE (pv 4) aD (bL _)) aB)) (fun _ _=>rfl)))
   (aC (kG (i:=7) nd rfl (by walk_at"oi") (N:=["_law_one"]) (nl:=1) (ci:=[]) rfl (blk (s.heap.objs.size+1) rfl rfl rfl (by kernel_rfl)) (dI (eU fY (pv 0) (gD (aF cS (pv 2) aD)) gE)) (fun _ _ _ _=>(aU (i:=0) (show (["_law_one"]:List Str).Nodup by decide +kernel) rfl (by walk_at"oi"))) (fun _ _ _ _=>eT) (fun _ _ _ _=>(pv 0)))
   (aC (bS (bU eQ (pv 4) aD (bL _)) (aH (kG (i:=7) nd rfl (by walk_at"oi") (N:=["_law_one"]) (nl:=1) (ci:=[]) rfl (blk (s.heap.objs.size+1) rfl rfl rfl (by kernel_rfl)) (dI (pv 7)) (fun _ _ _ _=>(aU (i:=0) (show (["_law_one"]:List Str).Nodup by decide +kernel) rfl (by walk_at"oi"))) (fun _ _ _ _=>eT) (fun _ _ _ _=>(u3 K_Door_1 hr (aA (rQ (K:=K) (pv 0) rfl) (aA bA (aA (rQ (K:=K) (pv 0) rfl) aB))))))) bF)
   (aC (aO (i:=8) nd rfl (by walk_at"oi") bA)
   (aC (bS (bU eQ (aF bD (pv 4) aD) aD (bL _)) (aH (aO (i:=8) nd rfl (by walk_at"oi") bA)) bF)
   (aH (b0 (bJ (aA (aF cT (aF cT (eU fY (pv 0) gE (gD (pv 2))) (b1 (aA (u3 K_Door_1 hr (aA (eY (pv 3) rfl) (aA (pv 5) (aA (pv 6) aB)))) aB))) (pv 7)) (aA (bJ (aA bA (aA (pv 8) aB))) aB)))))))))))))),?_⟩
  refine bG (σ:=[some (.ref a),some (.int c),none,none,none,none,none,none,none]) rfl ?_;have hul:us.length=ds.length:=Paired.length hud;walk_at"go";rename_i hm0 hm1;generalize hcj:c%(us.length:Int)=t at hm0 hm1;obtain⟨j,rfl⟩:=Int.eq_ofNat_of_zero_le hm0;have hj:j<us.length:=by omega
  obtain⟨u,hu⟩:∃u,us[j]? =some u:=⟨_,List.getElem?_eq_getElem hj⟩
  obtain⟨⟨n,st,e,lt⟩,hdj⟩:∃d,ds[j]? =some d:=⟨_,List.getElem?_eq_getElem (by omega)⟩
  have hmem:(n,st,e,lt)∈ds:=List.mem_of_getElem? hdj;obtain⟨q,C9,dx,fs,fp,rfl,hq,dcC,l1,l2,l3,l4,l5,mcE,hfp,hlt⟩:=DoorAt.ex (Paired.at2 hud hu hdj);obtain⟨hb0,hb1,hb2⟩:=hnm _ hmem;have hb0:aZ n=true:=hb0;have hb1:aZ st=true:=hb1;have hb2:jZ e:=hb2;refine gJ (SqL.of ha) hu ?_;walk_at"gs";generalize hwy:c/8%4=wy;have hw0:0<=wy:=by omega
  have hw4:wy<4:=by omega
  clear hwy;walk_at"gs";rename_i p1 H1 n1' S1 e1;refine CV (SqL.of e1) fun v hv=> ?_;obtain⟨S,rfl,hS⟩:∃S:Str,v= .str S/\((wy%2=0/\S= "strange")∨(¬wy%2=0/\S=st)):=by
   rcases hv with⟨h,rfl⟩|⟨h,rfl⟩
   ·exact⟨_,rfl,.inl ⟨h,rfl⟩⟩
   ·exact⟨_,rfl,.inr ⟨h,rfl⟩⟩
  have hq1:=S1 _ _ hq;walk_at"gs";rename_i p2 H2 n2' S2 e2;refine CV (SqL.of e2) fun Z hv=> ?_;have hZ:(¬0<wy/\Z=e)∨(0<wy/\Z= .str "other"):=hv.symm;have s2:Same H H2:=S1.trans S2;clear hq1;have hq2:=s2 _ _ hq;have ha2:=s2 _ _ ha;have hud2:=b6 hud s2;walk_at"gs";rename_i p3 H3 n3 S3 e3;rw[show ((j:Int)+1)=((j+1:Nat):Int) by omega,mJ _ _ (by omega)]at e3;have hud3:Paired ((aY P w K mg base none).at' H3) (us.drop (j+1)) (ds.drop (j+1)):=Paired.drop' (b6 hud2 S3) (j+1);refine g3 (α:=aM) (xs:=ds.drop (j+1)) (vs:=us.drop (j+1)) ((aY P w K mg base none).at' H3) (fun _=>true) (fun d y G=>(aY P w K mg base none).at' G y d) (fun _ _ _ _ h s=>(aY P w K mg base none).same h s) (by rw[sizeLine_eq,List.length_drop];omega) (rest:=[]) (by rfl) (SqL.of e3) hud3 (fun v x H1 _ hx s1 R hR=>hR _ (Same.refl _)) ?_ ?_
  ·rintro v d H4 hv hm - s4 R hR;walk_at"go";exact hR _ _ ((aY P w K mg base none).same hv s4) (Same.refl _)
  intro ys H4 s4 hys;rw[cR]at hys;have hys:Paired ((aY P w K mg base none).at' H4) ys (ds.drop (j+1)):=by
   have:=kQ (F:=(aY P w K mg base none).at' H4) (fun d:aM=>d) hys
   rwa [List.map_id']at this
  have hyl:ys.length<=5:=by rw[Paired.length hys,List.length_drop];omega
  walk_at"gs";rename_i p5 H5 n5 S5 e5;have s05:Same H H5:=(s2.trans S3).trans (s4.trans S5);refine eI (fun σ' G=>Same H5 G/\∃pl ul dl,G pl=some (.lst ul)/\Paired ((aY P w K mg base none).at' G) ul dl/\dl.map (·.1)=(ds.drop (j+1)).map (·.1)/\(∀d∈dl,gH d)/\σ'=[some (.ref a),some (.int c),some (.int j),some (.ref q),some (.int wy),some (.str S),some Z,some (.ref pl),none]) ?_ ?_
  rotate_left
  ·intro nx' hnx;walk_at"go";refine c4 (fun hc=> ?_) (fun hc=> ?_)
   ·walk_at"go";refine g3 (α:=aM) (xs:=ds.drop (j+1)) (vs:=ys) ((aY P w K mg base none).at' H5) (fun _=>true) (fun d y G=>(aY P w K mg base none).at' G y (d.1,"later",d.2.2.1,fun _=>1)) (fun _ _ _ _ h s=>(aY P w K mg base none).same h s) (by rw[sizeLine_eq,List.length_drop];omega) (rest:=[]) (by rfl) (SqL.of e5) (b6 hys S5) (fun v x H1 _ hx s1 R hR=>hR _ (Same.refl _)) ?_ ?_
    ·rintro v ⟨n',st',e',lt'⟩ H6 hv hm - s6 R hR;obtain⟨q6,C6,dx6,fs6,fp6,rfl,hq6,dc6,k1,k2,k3,k4,k5,mc6,hf6,hl6⟩:=DoorAt.ex hv;have hq6:=s6 _ _ hq6;obtain⟨g0,g1,g2⟩:=hnm _ (List.mem_of_mem_drop hm);have g0:aZ n'=true:=g0;have g2:jZ e':=g2;have g1:aZ ("later" :Str)=true:=by decide +kernel
     walk_at"go";rename_i q7 dx7 H7 n7 S7 e7;exact hR _ _ (nI (P:=P) (w:=w) (base:=base) m e7) S7
    intro zs H6 s6 hzs;rw[cR]at hzs;have hzs:=kQ (F:=(aY P w K mg base none).at' H6) (fun d:aM=>((d.1,("later" :Str),d.2.2.1,fun _=>(1:Int)):aM)) hzs;walk_at"go";rename_i p7 H7 n7 S7 e7;refine hnx _ _ ⟨s6.trans S7,_,_,_,e7,b6 hzs S7,by rw[List.map_map];rfl,fun d hd=> ?_,rfl⟩;obtain⟨d0,hd0,rfl⟩:=List.mem_map.mp hd;exact((hin _ (List.mem_of_mem_drop hd0)).2).imp id fun⟨z,h,_⟩=>⟨z,h⟩
   ·walk_at"go";exact hnx _ _ ⟨Same.refl _,_,_,_,e5,b6 hys S5,rfl,fun d hd=>((hin _ (List.mem_of_mem_drop hd)).2).imp id fun⟨z,h,_⟩=>⟨z,h⟩,rfl⟩
  rintro _ H6 ⟨s6,pl,ul,dl,el,hul6,hdn,hde,rfl⟩;have s06:Same H H6:=s05.trans s6;have hq6:=s06 _ _ hq;have ha6:=s06 _ _ ha;have hul5:ul.length<=5:=by
   have h1:dl.length=(ds.drop (j+1)).length:=by rw[←List.length_map (f:=fun d:aM=>d.1),hdn,List.length_map]
   rw[Paired.length hul6,h1,List.length_drop];omega
  walk_at"gs";refine eI (fun σ' G=>H6=G/\∃N:Str,((wy%2=0/\N= "strange")∨(¬wy%2=0/\N= "other"))/\σ'=[some (.ref a),some (.int c),some (.int j),some (.ref q),some (.int wy),some (.str S),some Z,some (.ref pl),some (.str N)]) ?_ ?_
  rotate_left
  ·intro nx' hnx;walk_at"go";refine c4 (fun hc=> ?_) (fun hc=> ?_)
   ·walk_at"go";exact hnx _ _ ⟨rfl,_,.inl ⟨hc,rfl⟩,rfl⟩
   ·walk_at"go";exact hnx _ _ ⟨rfl,_,.inr ⟨hc,rfl⟩,rfl⟩
  rintro _ _ ⟨rfl,N,hN,rfl⟩;have hbS:aZ S=true:=by
   rcases hS with⟨_,rfl⟩|⟨_,rfl⟩
   ·decide +kernel
   ·exact hb1
  have hbZ:jZ Z:=by
   rcases hZ with⟨_,rfl⟩|⟨_,rfl⟩
   ·exact hb2
   ·exact .inr ⟨_,rfl,by decide +kernel⟩
  have hlt:(us.take j).length<=5:=by rw[List.length_take];omega
  walk_at"go";rename_i p7 H7 n7 S7 e7 q8 dx8 H8 n8 S8 e8 p9 H9 n9 S9 e9;rw[mM _ _ (by omega)]at e7;have e79:=S9 _ _ (S8 _ _ e7);have s69:Same H6 H9:=(S7.trans S8).trans S9;have el9:=s69 _ _ el;walk_at"go";rename_i pA HA nA SA eA pB HB nB SB eB pC HC nC SC eC pD HD nD SD eD;have sAD:Same H9 HD:=((SA.trans SB).trans SC).trans SD;have s0D:Same H HD:=(s06.trans s69).trans sAD;have hcut:ds=ds.take j++(n,st,e,lt)::ds.drop (j+1):=by
   obtain⟨hjl,hje⟩:=List.getElem?_eq_some_iff.mp hdj;rw[←hje,←List.drop_eq_getElem_cons hjl,List.take_append_drop]
  obtain⟨hi1,hi2⟩:=hin _ hmem;have hi1:st∈rs:=hi1;have hnames:(ds.take j++[((n,S,Z,fun _=>(1:Int)):aM)]++dl).map (·.1)=ds.map (·.1):=by
   rw[List.map_append,List.map_append,hdn]
   conv=>rhs;rw[hcut]
   rw[List.map_append,List.map_cons,List.append_assoc];rfl
  refine k pD pB pC N _ (ds.take j++[((n,S,Z,fun _=>(1:Int)):aM)]++dl) HD s0D eD (SD _ _ eC) (SD _ _ (SC _ _ eB)) ?_ hnames ?_ ?_ ?_
  ·refine bO (bO ?_ (.cons ?_ .nil)) (b6 hul6 (s69.trans sAD))
   ·exact b6 (Paired.take' hud j) s0D
   ·exact nI (P:=P) (w:=w) (base:=base) m (sAD _ _ (S9 _ _ e8))
  ·intro d hd;rcases List.mem_append.mp hd with hd|hd
   ·rcases List.mem_append.mp hd with hd|hd
    ·exact((hin _ (List.mem_of_mem_take hd)).2).imp id fun⟨z,h,_⟩=>⟨z,h⟩
    ·cases List.mem_singleton.mp hd;rcases hZ with⟨_,rfl⟩|⟨_,rfl⟩
     ·exact hi2.imp id fun⟨z,h,_⟩=>⟨z,h⟩
     ·exact .inr ⟨_,rfl⟩
   ·exact hde d hd
  ·intro d hd;have:d.1∈ds.map (·.1):=by rw[←hnames];exact List.mem_map.mpr ⟨d,hd,rfl⟩
   obtain⟨d0,hd0,e0⟩:=List.mem_map.mp this;rw[←e0];exact(hnm d0 hd0).1
  ·have hpre:∀y∈iR (ds.take j),y∈rs:=rX fun d hd=>hin d (List.mem_of_mem_take hd);have hsay:iR (ds.take j++[((n,S,Z,fun _=>(1:Int)):aM)]++dl)=iR (ds.take j)++S::(zM Z++iR dl):=by
    unfold iR;rw[List.map_append,List.map_append,List.flatten_append,List.flatten_append,List.append_assoc];show _++((S::zM Z)++[]++_)=_;rw[List.append_nil];rfl
   rw[hsay];rcases hN with⟨hc,rfl⟩|⟨hc,rfl⟩
   ·obtain⟨_,rfl⟩:=hS.resolve_right fun z=>z.1 hc;exact u8 hpre n1
   ·obtain⟨_,rfl⟩:=hS.resolve_left fun z=>hc z.1;obtain⟨_,rfl⟩:=hZ.resolve_left fun z=>z.1 (by omega);have h2:=u8 (rs:=rs) (pre:=iR (ds.take j)++[S]) (post:=iR dl) (fun y hy=>(List.mem_append.mp hy).elim (hpre y) fun h=>by cases List.mem_singleton.mp h;exact hi1) n2;rw[List.append_assoc]at h2;exact h2
theorem qS (m:M K mg):Fc P w K mg base "_law_strange" 7 ["_law_doors_here","_law_cell"] (sJ K (aY P w K mg base none)):=⟨_,_,m.sX,m.fE.kp,m.sQ,rA m⟩
theorem kS (a b:List (Str×Int))(z:Str):cB (a++b) z=cB a z+cB b z:=by unfold cB;rw[List.filter_append,List.map_append,List.sum_append]
theorem nL {ps:List (Str×Int)}(h:∀p∈ps,0<=p.2)(z:Str):0<=cB ps z:=by
 induction ps with
 | nil=>exact Int.le_refl _
 | cons p ps ih =>
  have h1:=ih fun q hq=>h q (List.mem_cons_of_mem _ hq);have h2:=h p (.head _);unfold cB at h1 ⊢
  by_cases e:p.1=z
  ·rw[List.filter_cons_of_pos (by simpa using e),List.map_cons,List.sum_cons];lia
  ·rw[List.filter_cons_of_neg (by simpa using e)];exact h1
theorem pF (z:Str)(i:Int):cB [(z,i)] z=i:=by
 unfold cB;rw[List.filter_cons_of_pos (by simp)];show i+0=i
 lia
theorem PV {rz ps pre:List (Str×Int)}{z:Str}{i j:Int} (hz:(z,j)∈rz) (hi:j<i):¬gL rz (pre++(z,i)::ps):=fun hf=>by
 have h1:=hf.2 _ hz;have hn:∀p∈pre,0<=p.2:=fun p hp=>hf.1 p (List.mem_append_left _ hp);have hn2:∀p∈ps,0<=p.2:=fun p hp=>hf.1 p (List.mem_append_right _ (List.mem_cons_of_mem _ hp));have e:cB (pre++(z,i)::ps) z=cB pre z+(i+cB ps z):=by
  rw[show pre++(z,i)::ps=pre++([(z,i)]++ps) from rfl,kS,kS,pF]
 have h2:=nL hn z;have h3:=nL hn2 z;have h1:cB (pre++(z,i)::ps) z<=j:=h1
 lia
theorem qX (xs:List V)(k:Nat):g4 xs none (some (k:Int))=xs.take k:=by
 by_cases h:k<=xs.length
 ·exact mM xs k h
 ·unfold g4;rw[HT.sIx_none,HT.sIx_nat,Nat.min_eq_right (by lia),List.drop_zero,Nat.sub_zero,List.take_length,List.take_of_length_le (by lia)]
theorem q9 (xs:List V)(k:Nat):g4 xs (some (k:Int)) none=xs.drop k:=by
 by_cases h:k<=xs.length
 ·exact mJ xs k h
 ·unfold g4;rw[HT.sIx_none,HT.sIx_nat,Nat.min_eq_right (by lia),List.drop_length,List.drop_of_length_le (by lia),List.take_nil]
def sF (K:W.Frag):Sp:=fun vs H Q _=>∃(a b:Addr) (c:Int) (ws cs:List V) (rz ps:List (Str×Int)),vs=[.ref a,.ref b,.int c]/\H a=some (.lst ws)/\RoomsAt H ws rz/\H b=some (.lst cs)/\Paired (bT H) cs ps/\0<rz.length/\rz.length<=5/\ps.length<=5/\(∀e∈rz,0<=e.2)/\(∀p∈ps,p.1∈rz.map (·.1))/\∀q a' b' ws' cs' rz' ps' H',Same H H'->H' q=some (.tup [.ref a',.ref b'])->H' a'=some (.lst ws')->H' b'=some (.lst cs')->RoomsAt H' ws' rz'->Paired (bT H') cs' ps'->rz'.map (·.1)=rz.map (·.1)->(∀p∈ps',p.1∈rz.map (·.1))->ps'.length<=7->¬gL rz' ps'->Q (.ref q) H'
theorem LP {H:Hp}{Q:VK}{E:XK}{a b:Addr}{c:Int}{ws cs:List V}{rz ps:List (Str×Int)} (ha:H a=some (.lst ws)) (hr:RoomsAt H ws rz) (hb:H b=some (.lst cs)) (hp:Paired (bT H) cs ps) (h0:0<rz.length) (h5:rz.length<=5) (hp5:ps.length<=5) (hnn:∀e∈rz,0<=e.2) (hpr:∀p∈ps,p.1∈rz.map (·.1)) (k:∀q a' b' ws' cs' rz' ps' H',Same H H'->H' q=some (.tup [.ref a',.ref b'])->H' a'=some (.lst ws')->H' b'=some (.lst cs')->RoomsAt H' ws' rz'->Paired (bT H') cs' ps'->rz'.map (·.1)=rz.map (·.1)->(∀p∈ps',p.1∈rz.map (·.1))->ps'.length<=7->¬gL rz' ps'->Q (.ref q) H'):sF K [.ref a,.ref b,.int c] H Q E:=⟨_,_,_,_,_,_,_,rfl,ha,hr,hb,hp,h0,h5,hp5,hnn,hpr,k⟩
theorem lN (m:M K mg):bK P w K mg base CX0 2 m.fA m.fB ["_law_rooms","_law_people","_law_cell"] (sF K):=by
 refine m.dN.ok sc__law_bad_numbers (fun vs H Q E h=> ?_) (fun cdv A outer s H vs Q E hr h=> ?_)
 ·obtain⟨a,b,c,ws,cs,rz,ps,rfl,ha,hra,hb,hcp,h0,h5,hp5,hnn,hpr,k⟩:=h;rfl
 ·obtain⟨a,b,c,ws,cs,rz,ps,rfl,ha,hra,hb,hcp,h0,h5,hp5,hnn,hpr,k⟩:=h;have nd:=sc__law_bad_numbers.nd;walk_at"hu";refine⟨_,(aC (aO (i:=3) nd rfl (by walk_at"oi") (aF bD (pv 2) (aW dM rfl m.iI fM (aA (pv 0) aB))))
   (aC (q0 (b2 cM (pv 0) (pv 3) (fun _ _=>rfl)) (kD (n:=2) rfl (bW (aU (i:=4) nd rfl (by walk_at"oi")) (bW (aU (i:=5) nd rfl (by walk_at"oi")) fZ))))
   (aC (aO (i:=6) nd rfl (by walk_at"oi") (aF bD (aF cF (pv 2) aD) aD))
   (aC (aO (i:=7) nd rfl (by walk_at"oi") (aF cS aD (aF bD (aF cF (pv 2) aD) (xJ 100000000000 (by decide) ⟨by decide,by decide,by decide⟩))))
   (aC (bS (bU eQ (pv 6) aD (bL _)) (aH (b0 (bJ (aA (aF cT (aF cT (eU fY (pv 0) gE (gD (pv 3))) (b1 (aA (bJ (aA (pv 4) (aA (aF mG aD (pv 7)) aB))) aB))) (eU fY (pv 0) (gD (aF cS (pv 3) aD)) gE)) (aA (pv 1) aB))))) bF)
   (aC (bS (bU eQ (pv 6) aD (bL _)) (aH (b0 (bJ (aA (pv 0) (aA (aF cT (aF cT (eU fY (pv 1) gE (gD aD)) (b1 (aA (bJ (aA (pv 4) (aA (aF mG aD (pv 7)) aB))) aB))) (eU fY (pv 1) (gD aD) gE)) aB))))) bF)
   (aC (bS (bU eQ (pv 6) aD (bL _)) (aH (b0 (bJ (aA (pv 0) (aA (aF cT (pv 1) (b1 (aA (bJ (aA (pv 4) (aA (pv 5) aB))) (aA (bJ (aA (pv 4) (aA (pv 7) aB))) aB)))) aB))))) bF)
   (aH (b0 (bJ (aA (pv 0) (aA (aF cT (b1 (aA (bJ (aA (pv 4) (aA (aF cS (pv 5) (pv 7)) aB))) aB)) (pv 1)) aB)))))))))))),?_⟩
  refine bG (σ:=[some (.ref a),some (.ref b),some (.int c),none,none,none,none,none]) rfl ?_;have hwl:ws.length=rz.length:=Paired.length hra;have hcl:cs.length=ps.length:=Paired.length hcp;walk_at"gs";rename_i hm0 hm1;generalize hcj:c%(ws.length:Int)=t at hm0 hm1;obtain⟨j,rfl⟩:=Int.eq_ofNat_of_zero_le hm0;have hj:j<ws.length:=by omega
  obtain⟨u,hu⟩:∃u,ws[j]? =some u:=⟨_,List.getElem?_eq_getElem hj⟩
  obtain⟨⟨z,hd⟩,hdj⟩:∃d,rz[j]? =some d:=⟨_,List.getElem?_eq_getElem (by omega)⟩
  have hmem:(z,hd)∈rz:=List.mem_of_getElem? hdj;have hzr:z∈rz.map (·.1):=List.mem_map.mpr ⟨_,hmem,rfl⟩;obtain⟨q,rfl,hq⟩:=Paired.at2 hra hu hdj;have hcut:rz=rz.take j++(z,hd)::rz.drop (j+1):=by
   obtain⟨hjl,hje⟩:=List.getElem?_eq_some_iff.mp hdj;rw[←hje,←List.drop_eq_getElem_cons hjl,List.take_append_drop]
  refine gJ (SqL.of ha) hu ?_;walk_at"gs";generalize hfar:1+c/32%100000000000=fr;have hf1:1<=fr:=by omega
  clear hfar;have hjt:((j:Int)+1)=((j+1:Nat):Int):=by omega
  have lt1:(ws.take j).length<=5:=by rw[List.length_take];omega
  have lt2:(ws.drop (j+1)).length<=5:=by rw[List.length_drop];omega
  walk_at"go";refine c4 (fun hc=> ?_) (fun hc=> ?_)
  ·walk_at"go";rename_i p1 H1 n1 S1 e1 q2 H2 n2 S2 e2 p3 H3 n3 S3 e3;rw[mM _ _ (by omega)]at e1;have e13:=S3 _ _ (S2 _ _ e1);have s03:Same H H3:=(S1.trans S2).trans S3;walk_at"go";rename_i p4 H4 n4 S4 e4 p5 H5 n5 S5 e5;have s04:=s03.trans S4;rw[hjt,mJ _ _ (by omega)]at e5;walk_at"go";rename_i p6 H6 n6 S6 e6 p7 H7 n7 S7 e7;have s47:Same H4 H7:=(S5.trans S6).trans S7;have s07:Same H H7:=s04.trans s47;have s27:Same H2 H7:=(S3.trans S4).trans s47;refine k p7 p6 b _ _ (rz.take j++[(z,0 - fr)]++rz.drop (j+1)) ps H7 s07 e7 (S7 _ _ e6) (s07 _ _ hb) ?_ (bM hcp s07) ?_ hpr (by omega) fun hf=> ?_
   ·refine bO (bO (Paired.take' (bM hra s07) j) (.cons ⟨q2,rfl,s27 _ _ e2⟩ .nil)) (Paired.drop' (bM hra s07) (j+1))
   ·conv=>rhs;rw[hcut]
    rw[List.map_append,List.map_append,List.map_append,List.map_cons,List.append_assoc];rfl
   ·have h1:=hf.2 (z,0 - fr) (List.mem_append_left _ (List.mem_append_right _ (.head _)));have h2:=nL hf.1 z;have h1:cB ps z<=0 - fr:=h1;omega
  ·walk_at"go";refine c4 (fun hc1=> ?_) (fun hc1=> ?_)
   ·walk_at"go";rename_i p1 H1 n1 S1 e1 q2 H2 n2 S2 e2 p3 H3 n3 S3 e3;rw[show (1:Int)=((1:Nat):Int) from rfl,qX]at e1;have lt3:(cs.take 1).length<=5:=by rw[List.length_take];omega
    have lt4:(cs.drop 1).length<=5:=by rw[List.length_drop];omega
    have e13:=S3 _ _ (S2 _ _ e1);walk_at"go";rename_i p4 H4 n4 S4 e4 p5 H5 n5 S5 e5;rw[show (1:Int)=((1:Nat):Int) from rfl,q9]at e5;walk_at"go";rename_i p6 H6 n6 S6 e6 p7 H7 n7 S7 e7;have s37:Same H3 H7:=(S4.trans S5).trans (S6.trans S7);have s27:Same H2 H7:=S3.trans s37;have s07:Same H H7:=(S1.trans S2).trans s27;refine k p7 a p6 _ _ rz (ps.take 1++[(z,0 - fr)]++ps.drop 1) H7 s07 e7 (s07 _ _ ha) (S7 _ _ e6) (bM hra s07) ?_ rfl (fun p hp=> ?_) (by rw[List.length_append,List.length_append,List.length_take,List.length_drop];show _+1+_<=7;omega) fun hf=> ?_
    ·exact bO (bO (Paired.take' (bM hcp s07) 1) (.cons ⟨q2,rfl,s27 _ _ e2⟩ .nil)) (Paired.drop' (bM hcp s07) 1)
    ·rcases List.mem_append.mp hp with hp|hp
     ·rcases List.mem_append.mp hp with hp|hp
      ·exact hpr p (List.mem_of_mem_take hp)
      ·cases List.mem_singleton.mp hp;exact hzr
     ·exact hpr p (List.mem_of_mem_drop hp)
    ·have h1:=hf.1 (z,0 - fr) (List.mem_append_left _ (List.mem_append_right _ (.head _)));have h1:0<=0 - fr:=h1;omega
   ·walk_at"go";refine c4 (fun hc2=> ?_) (fun hc2=> ?_)
    ·walk_at"go";rename_i q1 H1 n1 S1 e1 q2 H2 n2 S2 e2 p3 H3 n3 S3 e3 p4 H4 n4 S4 e4 p5 H5 n5 S5 e5;have s05:Same H H5:=(((S1.trans S2).trans S3).trans S4).trans S5;have s15:Same H1 H5:=((S2.trans S3).trans S4).trans S5;have s25:Same H2 H5:=(S3.trans S4).trans S5;refine k p5 a p4 _ _ rz (ps++[(z,hd),(z,fr)]) H5 s05 e5 (s05 _ _ ha) (S5 _ _ e4) (bM hra s05) ?_ rfl (fun p hp=> ?_) (by rw[List.length_append];show ps.length+2<=7;omega) fun hf=> ?_
     ·exact bO (bM hcp s05) (.cons ⟨q1,rfl,s15 _ _ e1⟩ (.cons ⟨q2,rfl,s25 _ _ e2⟩ .nil))
     ·rcases List.mem_append.mp hp with hp|hp
      ·exact hpr p hp
      ·rcases List.mem_cons.mp hp with rfl|hp
       ·exact hzr
       ·cases List.mem_singleton.mp hp;exact hzr
     ·have h1:=hf.2 _ hmem;have h2:cB (ps++[(z,hd),(z,fr)]) z=cB ps z+(hd+fr):=by
       rw[kS,show [(z,hd),(z,fr)]=[(z,hd)]++[(z,fr)] from rfl,kS,pF,pF]
      have h3:=nL (ps:=ps) (fun p hp=>hf.1 p (List.mem_append_left _ hp)) z;have h1:cB (ps++[(z,hd),(z,fr)]) z<=hd:=h1;omega
    ·walk_at"go";rename_i q1 H1 n1 S1 e1 p3 H3 n3 S3 e3 p4 H4 n4 S4 e4 p5 H5 n5 S5 e5;have s05:Same H H5:=((S1.trans S3).trans S4).trans S5;have s15:Same H1 H5:=(S3.trans S4).trans S5;refine k p5 a p4 _ _ rz ([(z,hd+fr)]++ps) H5 s05 e5 (s05 _ _ ha) (S5 _ _ e4) (bM hra s05) ?_ rfl (fun p hp=> ?_) (by rw[List.length_append];show 1+ps.length<=7;omega) (PV (pre:=[]) hmem (by omega))
     ·exact bO (.cons ⟨q1,rfl,s15 _ _ e1⟩ .nil) (bM hcp s05)
     ·rcases List.mem_append.mp hp with hp|hp
      ·cases List.mem_singleton.mp hp;exact hzr
      ·exact hpr p hp
theorem lO (m:M K mg):Fc P w K mg base "_law_bad_numbers" 2 ["_law_rooms","_law_people","_law_cell"] (sF K):=⟨_,_,m.mW,m.dN.kp,m.m7,lN m⟩
inductive Rs where
 | turn
 | twice (z:Str)
 | room (z:Str)
 | house
 | good
def NF:Rs->List Bool
 | .turn=>[true,false,false,false,false,false,true]
 | .twice _=>[false,true,false,false,false,false,true]
 | .room _=>[false,false,true,false,false,false,true]
 | .house=>[false,false,false,true,false,false,true]
 | .good=>[]
def mF:Rs->V
 | .twice z=> .str z
 | .room z=> .str z
 | _=> .non
def uX:Rs->V
 | .turn=> .str "turn"
 | .twice _=> .str "twice"
 | .room _=> .str "room"
 | .house=> .str "house"
 | .good=> .non
inductive Vd (f l:Int)(rz ps:List (Str×Int))(ds:List aM):Rs->Prop
 | turn (_:f<0∨l<f):Vd f l rz ps ds .turn
 | dr {z:Str} (_:0<=f) (_:f<=l) (_:Dup (rz.map (·.1)) z):Vd f l rz ps ds (.twice z)
 | dd {z:Str} (_:0<=f) (_:f<=l) (_:(rz.map (·.1)).Nodup) (_:Dup (ds.map (·.1)) z):Vd f l rz ps ds (.twice z)
 | st {z:Str} (_:0<=f) (_:f<=l) (_:(rz.map (·.1)).Nodup) (_:(ds.map (·.1)).Nodup) (_:Odd (rz.map (·.1)) (dD ds ps) z):Vd f l rz ps ds (.room z)
 | sp (_:0<=f) (_:f<=l) (_:(rz.map (·.1)).Nodup) (_:(ds.map (·.1)).Nodup) (_:∀z∈dD ds ps,z∈rz.map (·.1)) (_:¬gL rz ps):Vd f l rz ps ds .house
 | ok (_:0<=f) (_:f<=l) (_:(rz.map (·.1)).Nodup) (_:(ds.map (·.1)).Nodup) (_:∀z∈dD ds ps,z∈rz.map (·.1)) (_:gL rz ps):Vd f l rz ps ds .good
theorem mL {ss:List Str}{z:Str}{i j:Nat} (hz:ss[i]? =some z) (hm:z∈ss.take i) (hj:i<j):¬(ss.take j).Nodup:=fun nd=>by
 obtain⟨hl,he⟩:=List.getElem?_eq_some_iff.mp hz;obtain⟨k,hk,ek⟩:=List.getElem_of_mem hm;rw[List.length_take]at hk;rw[List.getElem_take]at ek;have h1:k<(ss.take j).length:=by rw[List.length_take];lia
 have h2:i<(ss.take j).length:=by rw[List.length_take];lia
 have:=(List.pairwise_iff_getElem.mp nd) k i h1 h2 (by lia);rw[List.getElem_take,List.getElem_take]at this;exact this (ek.trans he.symm)
theorem bY {ss:List Str}{z:Str} (h:Dup ss z):¬ss.Nodup:=by
 obtain⟨i,hz,hm,_⟩:=h;have:=mL hz hm (List.getElem?_eq_some_iff.mp hz).1
 rwa [List.take_length]at this
theorem v9 {ss:List Str}{z y:Str} (h:Dup ss z) (g:Dup ss y):z=y:=by
 obtain⟨i,hz,hm,hn⟩:=h;obtain⟨j,gz,gm,gn⟩:=g;rcases Nat.lt_trichotomy i j with hij|hij|hij
 ·exact absurd gn (mL hz hm hij)
 ·subst hij;rw[hz]at gz;exact Option.some.inj gz
 ·exact absurd hn (mL gz gm hij)
theorem oN {ss:List Str}{z:Str}{i j:Nat} (hz:ss[i]? =some z) (hj:i<j):z∈ss.take j:=by
 have:(ss.take j)[i]? =some z:=by rw[List.getElem?_take,if_pos hj];exact hz
 exact List.mem_of_getElem? this
theorem EI {rs ss:List Str}{z y:Str} (h:Odd rs ss z) (g:Odd rs ss y):z=y:=by
 obtain⟨i,hz,hn,hb⟩:=h;obtain⟨j,gz,gn,gb⟩:=g;rcases Nat.lt_trichotomy i j with hij|hij|hij
 ·exact absurd (gb z (oN hz hij)) hn
 ·subst hij;rw[hz]at gz;exact Option.some.inj gz
 ·exact absurd (hb y (oN gz hij)) gn
theorem nO {rs ss:List Str}{z:Str} (h:Odd rs ss z):¬∀y∈ss,y∈rs:=fun k=>by
 obtain⟨i,hz,hn,_⟩:=h;exact hn (k z (List.mem_of_getElem? hz))
structure WX (NT TW NR NH p:Addr)(r:Rs)(H:Hp)(Q:VK)(E:XK):Prop where
 tn:r= .turn->Ref0 NT H E
 tw:∀z,r= .twice z->Refd TW z H E
 nr:∀z,r= .room z->Refd NR z H E
 nh:r= .house->Ref0 NH H E
 ok:r= .good->∀H',SameBut p H H'->Q .non H'
theorem N7 {NT TW NR NH p:Addr}{f l:Int}{rz ps:List (Str×Int)}{ds:List aM}{r:Rs}{H:Hp}{Q:VK}{E:XK} (v:Vd f l rz ps ds r) (x:WX NT TW NR NH p r H Q E):HX NT TW NR NH p f l rz ps ds H Q E:=by
 cases v with
 | turn h=>exact⟨fun _=>x.tn rfl,fun h0 h1=>by lia,fun h0 h1=>by lia,fun h0 h1=>by lia,fun h0 h1=>by lia,fun h0 h1=>by lia⟩
 | dr h0 h1 hd=>exact⟨fun h=>by lia,fun _ _ z hz=>by rw[←v9 hd hz];exact x.tw _ rfl,fun _ _ nr=>absurd nr (bY hd),fun _ _ nr=>absurd nr (bY hd),fun _ _ nr=>absurd nr (bY hd),fun _ _ nr=>absurd nr (bY hd)⟩
 | dd h0 h1 nr hd=>exact⟨fun h=>by lia,fun _ _ z hz=>absurd nr (bY hz),fun _ _ _ z hz=>by rw[←v9 hd hz];exact x.tw _ rfl,fun _ _ _ nd=>absurd nd (bY hd),fun _ _ _ nd=>absurd nd (bY hd),fun _ _ _ nd=>absurd nd (bY hd)⟩
 | st h0 h1 nr nd ho=>exact⟨fun h=>by lia,fun _ _ z hz=>absurd nr (bY hz),fun _ _ _ z hz=>absurd nd (bY hz),fun _ _ _ _ z hz=>by rw[←EI ho hz];exact x.nr _ rfl,fun _ _ _ _ h=>absurd h (nO ho),fun _ _ _ _ h=>absurd h (nO ho)⟩
 | sp h0 h1 nr nd ha hf=>exact⟨fun h=>by lia,fun _ _ z hz=>absurd nr (bY hz),fun _ _ _ z hz=>absurd nd (bY hz),fun _ _ _ _ z hz=>absurd ha (nO hz),fun _ _ _ _ _ _=>x.nh rfl,fun _ _ _ _ _ h=>absurd h hf⟩
 | ok h0 h1 nr nd ha hf=>exact⟨fun h=>by lia,fun _ _ z hz=>absurd nr (bY hz),fun _ _ _ z hz=>absurd nd (bY hz),fun _ _ _ _ z hz=>absurd ha (nO hz),fun _ _ _ _ _ h=>absurd hf h,fun _ _ _ _ _ _=>x.ok rfl⟩
theorem MV {C NT TW NR NH:Addr}{D:dU}{H:Hp}{Q:VK}{E:XK}{dvs vs:List V}{a b c:Addr}{ws us cs:List V}{rz ps:List (Str×Int)}{ds:List aM}{f l:Int}{r:Rs} (ev:vs++dvs=[.ref a,.ref b,.ref c,.int l,.int f]) (dc:DCls K C) (ha:H a=some (.lst ws)) (hr:RoomsAt H ws rz) (hb:H b=some (.lst us)) (hd:Paired (D.at' H) us ds) (hc:H c=some (.lst cs)) (hcp:Paired (bT H) cs ps) (hes:∀d∈ds,gH d) (lr:rz.length<=20) (ld:ds.length<=20) (lp:ps.length<=40) (v:Vd f l rz ps ds r)
  (tn:r= .turn->Ref0 NT H E)(tw:∀z,r= .twice z->Refd TW z H E)(nr:∀z,r= .room z->Refd NR z H E)(nh:r= .house->Ref0 NH H E)(ok:r= .good->∀p H',Same H H'->Q (.ref p) H'):uV C (jY K D NT TW NR NH) dvs E Q vs H:=by
 intro x dx nx nd0 ne;have s0:Same H (upd (upd H dx (.own x)) x (.ins C dx [])):=fun b o e=>by
  rw[aG (aL e nx),aG (aL e nd0)];exact e
 rw[ev];refine EN dc aR (s0 _ _ ha) (hr.sm s0) (SqL.of (s0 _ _ hb)) (b6 hd s0) (SqL.of (s0 _ _ hc)) (bM hcp s0) hes lr ld lp (N7 v ⟨fun h=>(tn h).sm s0,fun z h=>(tw z h).sm s0,fun z h=>(nr z h).sm s0,fun h=>(nh h).sm s0,fun h H' sb=>⟨rfl,ok h x H' fun b o q=>sb b o (s0 b o q) (aL q nx)⟩⟩)
theorem MU {tc:XK->TE}{R:XK}{D:fG}{σ:St}{H:Hp} (h:tc R σ H fun _ H1=>D.nx σ H1):txE tc R D σ H:=h
local macro_rules| `(tactic| walk_at"rd1")=> `(tactic| first|(with_reducible refine MU ?_)|((with_reducible refine' JS ?s ?e ?d ?c ?n ?l ?_);(case s=>rfl);(case e=>walk_at"hp");(case d=>walk_at"hp");(case c=>assumption);(case n=>assumption);(case l=>rfl))|((with_reducible refine' J8 ?e ?k ?i ?_);(case e=>walk_at"hp");(case k=>assumption);(case i=>assumption))|((with_reducible refine' E1 ?e ?k ?i ?_);(case e=>walk_at"hp");(case k=>assumption);(case i=>assumption))|((with_reducible refine' MJ ?e ?k ?i ?_);(case e=>walk_at"hp");(case k=>assumption);(case i=>assumption))|((with_reducible refine' IG ?e ?k ?i ?_);(case e=>walk_at"hp");(case k=>assumption);(case i=>assumption)))
def PairR (H:Hp)(t:Addr)(r:Rs):Prop:=∃kk,H t=some (.tup [.ref kk,mF r])/\H kk=some (.lst ((NF r).map V.bl))
def mD (K:W.Frag)(D:dU):Sp:=fun vs H Q _=>∃(a b c:Addr) (l f:Int) (ws us cs:List V) (rz ps:List (Str×Int)) (ds:List aM) (r:Rs),vs=[.ref a,.ref b,.ref c,.int l,.int f]/\H a=some (.lst ws)/\RoomsAt H ws rz/\H b=some (.lst us)/\Paired (D.at' H) us ds/\H c=some (.lst cs)/\Paired (bT H) cs ps/\(∀d∈ds,gH d)/\rz.length<=20/\ds.length<=20/\ps.length<=40/\Vd f l rz ps ds r/\∀t H',Same H H'->PairR H' t r->Q (.ref t) H'
theorem D1 {D:dU}{H:Hp}{Q:VK}{E:XK}{a b c:Addr}{l f:Int}{ws us cs:List V}{rz ps:List (Str×Int)}{ds:List aM}{r:Rs} (ha:H a=some (.lst ws)) (hr:RoomsAt H ws rz) (hb:H b=some (.lst us)) (hd:Paired (D.at' H) us ds) (hc:H c=some (.lst cs)) (hcp:Paired (bT H) cs ps) (hes:∀d∈ds,gH d) (lr:rz.length<=20) (ld:ds.length<=20) (lp:ps.length<=40) (v:Vd f l rz ps ds r) (k:∀t H',Same H H'->PairR H' t r->Q (.ref t) H'):mD K D [.ref a,.ref b,.ref c,.int l,.int f] H Q E:=⟨_,_,_,_,_,_,_,_,_,_,_,_,rfl,ha,hr,hb,hd,hc,hcp,hes,lr,ld,lp,v,k⟩
theorem uD (m:M K mg):bK P w K mg base CX0 9 m.jL m.jK ["_law_rooms","_law_doors_here","_law_people","_law_last","_law_first"] (mD K (aY P w K mg base none)):=by
 refine m.gQ.ok sc__law_asked (fun vs H Q E h=> ?_) (fun cdv A outer s H vs Q E hr h=> ?_)
 ·obtain⟨a,b,c,l,f,ws,us,cs,rz,ps,ds,r,rfl,ha,hra,hb,hud,hc,hcp,hes,lr,ld,lp,v,k⟩:=h;rfl
 ·obtain⟨a,b,c,l,f,ws,us,cs,rz,ps,ds,r,rfl,ha,hra,hb,hud,hc,hcp,hes,lr,ld,lp,v,k⟩:=h;have nd:=sc__law_asked.nd;walk_at"hu";have K_House_0:= @zI P w K mg base m;have w_dc_House:=m.wP;refine⟨_,(aC (aO (i:=5) nd rfl (by walk_at"oi") (b1 aB))
   (aC (aO (i:=6) nd rfl (by walk_at"oi") fO)
   (aC (IY (i:=7) nd rfl rfl rfl rfl m.AK (OU (MR K_House_0 hr (aA (pv 0) (aA (pv 1) (aA (pv 2) (aA (pv 3) (aA (pv 4) aB))))))) (fun ea=>(aC (aO (i:=5) nd rfl (by walk_at"oi") (b1 (aA (aW (d7 K rfl) rfl m.bN bI (aA (pv 7) (aA (iN rfl m.pV) aB))) (aA (aW (d7 K rfl) rfl m.bN bI (aA (pv 7) (aA (iN rfl m.sV) aB))) (aA (aW (d7 K rfl) rfl m.bN bI (aA (pv 7) (aA (iN rfl m.pM) aB))) (aA (aW (d7 K rfl) rfl m.bN bI (aA (pv 7) (aA (iN rfl m.mU) aB))) aB))))))
   (aC (aO (i:=5) nd rfl (by walk_at"oi") (aF cT (pv 5) (b1 (aA (aW (d7 K rfl) rfl m.bN bI (aA (pv 7) (aA (iN rfl m.FS) aB))) (aA (aW (d7 K rfl) rfl m.bN bI (aA (pv 7) (aA (iN rfl m.DF) aB))) (aA (aW (yW K rfl) rfl m.bN bI (aA (pv 7) (aA (uZ rfl m.wG uG) aB))) aB))))))
   (aH (bS (PW.pt (GC (iJ (aW (d7 K rfl) rfl m.bN bI (aA (pv 7) (aA (iN rfl m.sV) aB)))) (CW (iJ (aW (d7 K rfl) rfl m.bN bI (aA (pv 7) (aA (iN rfl m.pM) aB))))))) (aH (aO (i:=6) nd rfl (by walk_at"oi") (FO K rfl (pv 7) rfl))) bF))))))
   (aH (b0 (bJ (aA (pv 5) (aA (pv 6) aB)))))))),?_⟩
  refine bG (σ:=[some (.ref a),some (.ref b),some (.ref c),some (.int l),some (.int f),none,none,none]) rfl ?_;walk_at"go";rename_i pk H1 n1 S1 ek;generalize hR:F8 _ _ _ _ _ _=R;have hNoTurn:r= .turn->Ref0 m.aX H1 R:=by
   subst hR;rintro rfl H2 s2;refine⟨m.aX,rfl,m.mY,fun ea hn=> ?_⟩;have e0:(upd H2 ea (.ext (eO ea m.aX))) ea=some (.ext (eO ea m.aX)):=aR;have xk:=m.DJ;have i0:=m.pI;have i1:=m.rO;have i2:=m.pR;have i3:=m.oE;have i4:=m.pO;have i5:=m.oB;have i6:=m.k7;show (_:TS) _ _ (upd H2 ea (.ext (eO ea m.aX)));generalize hG:upd H2 ea (.ext (eO ea m.aX))=G at e0;have sG:Same H2 G:=by rw[←hG];exact jE hn
   dsimp only[List.set]
   walk_at"go";rename_i p3 H3 n3 S3 e3 p4 H4 n4 S4 e4 p5 H5 n5 S5 e5
   dsimp only[List.set]
   walk_at"go";rename_i t6 H6 n6 S6 e6;exact k _ _ (((S1.trans s2).trans sG).trans ((S3.trans S4).trans (S5.trans S6))) ⟨p5,e6,S6 _ _ e5⟩
  have hNoHouse:r= .house->Ref0 m.aT H1 R:=by
   subst hR;rintro rfl H2 s2;refine⟨m.aT,rfl,m.lP,fun ea hn=> ?_⟩;have e0:(upd H2 ea (.ext (eO ea m.aT))) ea=some (.ext (eO ea m.aT)):=aR;have xk:=m.AO;have i0:=m.nX;have i1:=m.pT;have i2:=m.oF;have i3:=m.mP;have i4:=m.oA;have i5:=m.m3;have i6:=m.kE;show (_:TS) _ _ (upd H2 ea (.ext (eO ea m.aT)));generalize hG:upd H2 ea (.ext (eO ea m.aT))=G at e0;have sG:Same H2 G:=by rw[←hG];exact jE hn
   dsimp only[List.set]
   walk_at"go";rename_i p3 H3 n3 S3 e3 p4 H4 n4 S4 e4 p5 H5 n5 S5 e5
   dsimp only[List.set]
   walk_at"go";rename_i t6 H6 n6 S6 e6;exact k _ _ (((S1.trans s2).trans sG).trans ((S3.trans S4).trans (S5.trans S6))) ⟨p5,e6,S6 _ _ e5⟩
  have hTwice:∀z,r= .twice z->Refd m.aV z H1 R:=by
   subst hR;rintro z rfl H2 dx2 s2 ed;refine⟨m.aV,rfl,m.oJ,fun ea hn=> ?_⟩;have e0:(upd H2 ea (.ext (ExcDAt ea m.aV dx2))) ea=some (.ext (ExcDAt ea m.aV dx2)):=aR;have ed0:(upd H2 ea (.ext (ExcDAt ea m.aV dx2))) dx2=some (.xd [("name",.str z)]):=by rw[aG (aL ed hn)];exact ed
   have xf:=m.pU;have xk:=m.pU.k;have xn:=m.wE;have i0:=m.rN;have i1:=m.sT;have i2:=m.rK;have i3:=m.pL;have i4:=m.rL;have i5:=m.pN;have i6:=m.lQ;show (_:TS) _ _ (upd H2 ea (.ext (ExcDAt ea m.aV dx2)));generalize hG:upd H2 ea (.ext (ExcDAt ea m.aV dx2))=G at e0 ed0;have sG:Same H2 G:=by rw[←hG];exact jE hn
   dsimp only[List.set]
   walk_at"go";rename_i p3 H3 n3 S3 e3 p4 H4 n4 S4 e4 p5 H5 n5 S5 e5
   dsimp only[List.set]
   walk_at"go";rename_i t6 H6 n6 S6 e6;exact k _ _ (((S1.trans s2).trans sG).trans ((S3.trans S4).trans (S5.trans S6))) ⟨p5,e6,S6 _ _ e5⟩
  have hNoRoom:∀z,r= .room z->Refd m.aS z H1 R:=by
   subst hR;rintro z rfl H2 dx2 s2 ed;refine⟨m.aS,rfl,m.mS,fun ea hn=> ?_⟩;have e0:(upd H2 ea (.ext (ExcDAt ea m.aS dx2))) ea=some (.ext (ExcDAt ea m.aS dx2)):=aR;have ed0:(upd H2 ea (.ext (ExcDAt ea m.aS dx2))) dx2=some (.xd [("name",.str z)]):=by rw[aG (aL ed hn)];exact ed
   have xf:=m.mT;have xk:=m.mT.k;have xn:=m.uB;have i0:=m.pZ;have i1:=m.rP;have i2:=m.pQ;have i3:=m.nW;have i4:=m.pS;have i5:=m.oG;have i6:=m.kX;show (_:TS) _ _ (upd H2 ea (.ext (ExcDAt ea m.aS dx2)));generalize hG:upd H2 ea (.ext (ExcDAt ea m.aS dx2))=G at e0 ed0;have sG:Same H2 G:=by rw[←hG];exact jE hn
   dsimp only[List.set]
   walk_at"go";rename_i p3 H3 n3 S3 e3 p4 H4 n4 S4 e4 p5 H5 n5 S5 e5
   dsimp only[List.set]
   walk_at"go";rename_i t6 H6 n6 S6 e6;exact k _ _ (((S1.trans s2).trans sG).trans ((S3.trans S4).trans (S5.trans S6))) ⟨p5,e6,S6 _ _ e5⟩
  clear hR;walk_at"go";refine MV rfl (by assumption) (S1 _ _ ha) (hra.sm S1) (S1 _ _ hb) (b6 hud S1) (S1 _ _ hc) (bM hcp S1) hes lr ld lp v hNoTurn hTwice hNoRoom hNoHouse fun hr p H2 S2=> ?_;subst hr;have ek2:=S2 _ _ ek;walk_at"go";rename_i t3 H3 n3 S3 e3;exact k _ _ ((S1.trans S2).trans S3) ⟨pk,e3,S3 _ _ ek2⟩
theorem uS (m:M K mg):Fc P w K mg base "_law_asked" 9 ["_law_rooms","_law_doors_here","_law_people","_law_last","_law_first"] (mD K (aY P w K mg base none)):=⟨_,_,m.wR,m.gQ.kp,m.wB,uD m⟩
def rT (K:W.Frag):Sp:=fun vs H Q _=>∃(r:Rs),vs=[uX r,mF r]/\∀t H',Same H H'->PairR H' t r->Q (.ref t) H'
theorem NG {H:Hp}{Q:VK}{E:XK}{x y:V} (r:Rs) (hx:x=uX r) (hy:y=mF r) (k:∀t H',Same H H'->PairR H' t r->Q (.ref t) H'):rT K [x,y] H Q E:=⟨r,by rw[hx,hy],k⟩
theorem xB (m:M K mg):bK P w K mg base CX0 2 m.kZ m.kY ["_law_kind","_law_name_here"] (rT K):=by
 refine m.i7.ok sc__law_due (fun vs H Q E h=> ?_) (fun cdv A outer s H vs Q E hr h=> ?_)
 ·obtain⟨r,rfl,k⟩:=h;rfl
 ·obtain⟨r,rfl,k⟩:=h;have nd:=sc__law_due.nd;walk_at"hu";refine⟨_,(aC (bS (bU BT (pv 0) fO (bL _)) (aH (b0 (bJ (aA (b1 aB) (aA fO aB))))) bF)
   (aH (b0 (bJ (aA (aF cT (f9 (N:=["_law_one","_law_kind"]) (nl:=1) (ci:=[0]) rfl (blk (s.heap.objs.size+1) rfl rfl rfl (by kernel_rfl)) (dI (b1 (aA bA (aA bA (aA bA (aA bA (aA bA (aA bA aB)))))))) (fun _ _ _ _=>(aU (i:=0) (show (["_law_one","_law_kind"]:List Str).Nodup by decide +kernel) rfl (by walk_at"oi"))) (fun _ _ _ _=>eT) (fun _ _ _ _=>(jA eQ (pv 1) (pv 0) (bL _)))) (b1 (aA qH aB))) (aA (pv 1) aB)))))),?_⟩
  refine bG (σ:=[some (uX r),some (mF r)]) rfl ?_;cases r with
  | good =>
   show (_:TS) _ [some .non,some .non] H;walk_at"go";rename_i p1 H1 n1 S1 e1 t2 H2 n2 S2 e2;exact k _ _ (S1.trans S2) ⟨p1,e2,S2 _ _ e1⟩
  | turn =>
   show (_:TS) _ [some (.str "turn"),some .non] H;walk_at"go";rename_i p1 H1 n1 S1 e1;refine g3 (α:=Str) (xs:=["turn","twice","room","house","door","unknown"]) (fun v z=>v= .str z) (fun _=>true) (fun z y _=>y= .bl (decide (("turn" :Str)=z))) (fun _ _ _ _ h _=>h) (by rw[sizeLine_eq];show 6<=_;lia) (rest:=[some (.str "turn")]) (by rfl) (SqL.of e1) (.cons rfl (.cons rfl (.cons rfl (.cons rfl (.cons rfl (.cons rfl .nil)))))) (fun v x H1 _ hx s1 R hR=>hR _ (Same.refl _)) ?_ ?_
   ·rintro v z H2 hv hm - s2 R hR;have hv:v= .str z:=hv;subst hv;walk_at"go";exact hR _ _ rfl (Same.refl _)
   intro ys H2 s2 hys;rw[cR]at hys;have ey:ys=(["turn","twice","room","house","door","unknown"]:List Str).map fun z=>V.bl (decide (("turn" :Str)=z)):=d8 hys;have ey:ys=[V.bl true,V.bl false,V.bl false,V.bl false,V.bl false,V.bl false]:=by rw[ey];decide +kernel
   subst ey;walk_at"go";rename_i p3 H3 n3 S3 e3 p4 H4 n4 S4 e4 p5 H5 n5 S5 e5 t6 H6 n6 S6 e6;exact k _ _ ((S1.trans s2).trans ((S3.trans S4).trans (S5.trans S6))) ⟨p5,e6,S6 _ _ e5⟩
  | house =>
   show (_:TS) _ [some (.str "house"),some .non] H;walk_at"go";rename_i p1 H1 n1 S1 e1;refine g3 (α:=Str) (xs:=["turn","twice","room","house","door","unknown"]) (fun v z=>v= .str z) (fun _=>true) (fun z y _=>y= .bl (decide (("house" :Str)=z))) (fun _ _ _ _ h _=>h) (by rw[sizeLine_eq];show 6<=_;lia) (rest:=[some (.str "house")]) (by rfl) (SqL.of e1) (.cons rfl (.cons rfl (.cons rfl (.cons rfl (.cons rfl (.cons rfl .nil)))))) (fun v x H1 _ hx s1 R hR=>hR _ (Same.refl _)) ?_ ?_
   ·rintro v z H2 hv hm - s2 R hR;have hv:v= .str z:=hv;subst hv;walk_at"go";exact hR _ _ rfl (Same.refl _)
   intro ys H2 s2 hys;rw[cR]at hys;have ey:ys=(["turn","twice","room","house","door","unknown"]:List Str).map fun z=>V.bl (decide (("house" :Str)=z)):=d8 hys;have ey:ys=[V.bl false,V.bl false,V.bl false,V.bl true,V.bl false,V.bl false]:=by rw[ey];decide +kernel
   subst ey;walk_at"go";rename_i p3 H3 n3 S3 e3 p4 H4 n4 S4 e4 p5 H5 n5 S5 e5 t6 H6 n6 S6 e6;exact k _ _ ((S1.trans s2).trans ((S3.trans S4).trans (S5.trans S6))) ⟨p5,e6,S6 _ _ e5⟩
  | twice z =>
   show (_:TS) _ [some (.str "twice"),some (.str z)] H;walk_at"go";rename_i p1 H1 n1 S1 e1;refine g3 (α:=Str) (xs:=["turn","twice","room","house","door","unknown"]) (fun v z=>v= .str z) (fun _=>true) (fun z y _=>y= .bl (decide (("twice" :Str)=z))) (fun _ _ _ _ h _=>h) (by rw[sizeLine_eq];show 6<=_;lia) (rest:=[some (.str "twice")]) (by rfl) (SqL.of e1) (.cons rfl (.cons rfl (.cons rfl (.cons rfl (.cons rfl (.cons rfl .nil)))))) (fun v x H1 _ hx s1 R hR=>hR _ (Same.refl _)) ?_ ?_
   ·rintro v z H2 hv hm - s2 R hR;have hv:v= .str z:=hv;subst hv;walk_at"go";exact hR _ _ rfl (Same.refl _)
   intro ys H2 s2 hys;rw[cR]at hys;have ey:ys=(["turn","twice","room","house","door","unknown"]:List Str).map fun z=>V.bl (decide (("twice" :Str)=z)):=d8 hys;have ey:ys=[V.bl false,V.bl true,V.bl false,V.bl false,V.bl false,V.bl false]:=by rw[ey];decide +kernel
   subst ey;walk_at"go";rename_i p3 H3 n3 S3 e3 p4 H4 n4 S4 e4 p5 H5 n5 S5 e5 t6 H6 n6 S6 e6;exact k _ _ ((S1.trans s2).trans ((S3.trans S4).trans (S5.trans S6))) ⟨p5,e6,S6 _ _ e5⟩
  | room z =>
   show (_:TS) _ [some (.str "room"),some (.str z)] H;walk_at"go";rename_i p1 H1 n1 S1 e1;refine g3 (α:=Str) (xs:=["turn","twice","room","house","door","unknown"]) (fun v z=>v= .str z) (fun _=>true) (fun z y _=>y= .bl (decide (("room" :Str)=z))) (fun _ _ _ _ h _=>h) (by rw[sizeLine_eq];show 6<=_;lia) (rest:=[some (.str "room")]) (by rfl) (SqL.of e1) (.cons rfl (.cons rfl (.cons rfl (.cons rfl (.cons rfl (.cons rfl .nil)))))) (fun v x H1 _ hx s1 R hR=>hR _ (Same.refl _)) ?_ ?_
   ·rintro v z H2 hv hm - s2 R hR;have hv:v= .str z:=hv;subst hv;walk_at"go";exact hR _ _ rfl (Same.refl _)
   intro ys H2 s2 hys;rw[cR]at hys;have ey:ys=(["turn","twice","room","house","door","unknown"]:List Str).map fun z=>V.bl (decide (("room" :Str)=z)):=d8 hys;have ey:ys=[V.bl false,V.bl false,V.bl true,V.bl false,V.bl false,V.bl false]:=by rw[ey];decide +kernel
   subst ey;walk_at"go";rename_i p3 H3 n3 S3 e3 p4 H4 n4 S4 e4 p5 H5 n5 S5 e5 t6 H6 n6 S6 e6;exact k _ _ ((S1.trans s2).trans ((S3.trans S4).trans (S5.trans S6))) ⟨p5,e6,S6 _ _ e5⟩
theorem xC (m:M K mg):Fc P w K mg base "_law_due" 2 ["_law_kind","_law_name_here"] (rT K):=⟨_,_,m.AG,m.i7.kp,m.AL,xB m⟩
theorem zU {X:Cx}(K:W.Frag)(h:X.K=K):cV X (.builtin "len") (z8 K):=by
 subst h;exact dM
theorem BR {H:Hp}{rs:List Str}:∀{l:List Nat}{ys:List V},Paired (fun _ y=>∃z,bT H y (z,0)/\z∈rs) l ys->∃ps:List (Str×Int),Paired (bT H) ys ps/\(∀p∈ps,p.2=0/\p.1∈rs)/\ps.length=l.length
 | _,_,.nil=>⟨[],.nil,(fun _ h=>nomatch h),rfl⟩
 | _,_,.cons ⟨z,h1,h2⟩ t=>by
  obtain⟨ps,a1,a2,a3⟩:=BR t;refine⟨(z,0)::ps,.cons h1 a1,fun p hp=> ?_,by rw[List.length_cons,a3];rfl⟩;rcases List.mem_cons.mp hp with rfl|hp
  ·exact⟨rfl,h2⟩
  ·exact a2 p hp
theorem BY {ps:List (Str×Int)}(h:∀p∈ps,p.2=0)(z:Str):cB ps z=0:=by
 induction ps with
 | nil=>rfl
 | cons p ps ih =>
  have h1:=ih fun q hq=>h q (List.mem_cons_of_mem _ hq);have h2:=h p (.head _);unfold cB at h1 ⊢
  by_cases e:p.1=z
  ·rw[List.filter_cons_of_pos (by simpa using e),List.map_cons,List.sum_cons,h1,h2];rfl
  ·rw[List.filter_cons_of_neg (by simpa using e)];exact h1
theorem CF {rz ps:List (Str×Int)}(h:∀p∈ps,p.2=0)(hr:∀e∈rz,0<=e.2):gL rz ps:=⟨fun p hp=>by rw[h p hp];exact Int.le_refl _,fun e he=>by rw[BY h];exact hr e he⟩
def RoomL (H:Hp)(a:Addr)(rz:List (Str×Int)):Prop:=∃ws,H a=some (.lst ws)/\RoomsAt H ws rz
def DoorL (D:dU)(H:Hp)(a:Addr)(ds:List aM):Prop:=∃us,H a=some (.lst us)/\Paired (D.at' H) us ds
def PplL (H:Hp)(a:Addr)(ps:List (Str×Int)):Prop:=∃cs,H a=some (.lst cs)/\Paired (bT H) cs ps
theorem RoomL.sm {H H':Hp}{a:Addr}{rz:List (Str×Int)} (x:RoomL H a rz) (s:Same H H'):RoomL H' a rz:=let ⟨ws,h1,h2⟩:=x;⟨ws,s _ _ h1,h2.sm s⟩
theorem DoorL.sm {D:dU}{H H':Hp}{a:Addr}{ds:List aM} (x:DoorL D H a ds) (s:Same H H'):DoorL D H' a ds:=let ⟨ws,h1,h2⟩:=x;⟨ws,s _ _ h1,b6 h2 s⟩
theorem PplL.sm {H H':Hp}{a:Addr}{ps:List (Str×Int)} (x:PplL H a ps) (s:Same H H'):PplL H' a ps:=let ⟨ws,h1,h2⟩:=x;⟨ws,s _ _ h1,bM h2 s⟩
def Cur (D:dU)(a:Addr)(c0 wr:Int)(F:Int->Int->List (Str×Int)->List (Str×Int)->List aM->Rs->Prop)(σ':St)(G:Hp):Prop:=∃ar ad ap q f l rz ps ds r x9,RoomL G ar rz/\DoorL D G ad ds/\PplL G ap ps/\G q=some (.tup [uX r,mF r])/\F f l rz ps ds r/\σ'=[some (.ref a),some (.int c0),some (.ref ar),some (.ref ad),some (.ref ap),some (.int f),some (.int l),some (.int wr),some (.ref q),x9,none]
structure Fb (rs:List Str)(f l:Int)(rz:List (Str×Int)):Prop where
 nm:rz.map (·.1)=rs
 l0:0<rs.length
 l5:rs.length<=5
 nd:rs.Nodup
 ok:∀z∈rs,aZ z=true
 o1:("nowhere" :Str)∉rs
 o2:("strange" :Str)∉rs
 o3:("other" :Str)∉rs
 f0:0<=f
 f1:f<=l
theorem Fb.to {rs:List Str}{f l:Int}{rz rz':List (Str×Int)} (x:Fb rs f l rz) (h:rz'.map (·.1)=rs):Fb rs f l rz':=⟨h,x.l0,x.l5,x.nd,x.ok,x.o1,x.o2,x.o3,x.f0,x.f1⟩
theorem Fb.len {rs:List Str}{f l:Int}{rz:List (Str×Int)} (x:Fb rs f l rz):0<rz.length/\rz.length<=5:=by
 have h0:=x.l0;have h5:=x.l5;rw[←x.nm,List.length_map]at h0 h5;exact⟨h0,h5⟩
structure Db (rs:List Str)(ds:List aM):Prop where
 nd:(ds.map (·.1)).Nodup
 l0:0<ds.length
 l5:ds.length<=5
 hin:∀d∈ds,jG rs d
 nm:∀d∈ds,NmD d
structure De (ds:List aM):Prop where
 nd:(ds.map (·.1)).Nodup
 l0:0<ds.length
 l5:ds.length<=5
 es:∀d∈ds,gH d
 nm:∀d∈ds,aZ d.1=true
def yN (r:Rs)(rz ps:List (Str×Int)):Prop:=(gL rz ps/\r= .good)∨(¬gL rz ps/\r= .house)
def M6 (rs:List Str)(r:Rs)(rz ps:List (Str×Int)):Prop:=((∀p∈ps,p.1∈rs)/\yN r rz ps)∨∃z,Odd rs (ps.map (·.1)) z/\r= .room z
def rV (rs:List Str)(r:Rs)(rz ps:List (Str×Int))(ds:List aM):Prop:=((∀z∈dD ds ps,z∈rs)/\yN r rz ps)∨∃z,Odd rs (dD ds ps) z/\r= .room z
def MO (rs:List Str)(r:Rs)(rz ps:List (Str×Int))(ds:List aM):Prop:=((ds.map (·.1)).Nodup/\rV rs r rz ps ds)∨∃z,Dup (ds.map (·.1)) z/\r= .twice z
def FZ (r:Rs)(rz ps:List (Str×Int))(ds:List aM):Prop:=((rz.map (·.1)).Nodup/\MO (rz.map (·.1)) r rz ps ds)∨∃z,Dup (rz.map (·.1)) z/\r= .twice z
def F1 (rs:List Str):Int->Int->List (Str×Int)->List (Str×Int)->List aM->Rs->Prop:=fun f l rz ps ds r=>Fb rs f l rz/\Db rs ds/\ps.length<=7/\(∀p∈ps,p.1∈rs)/\yN r rz ps
def F2 (rs:List Str):Int->Int->List (Str×Int)->List (Str×Int)->List aM->Rs->Prop:=fun f l rz ps ds r=>Fb rs f l rz/\Db rs ds/\ps.length<=9/\M6 rs r rz ps
def F3 (rs:List Str):Int->Int->List (Str×Int)->List (Str×Int)->List aM->Rs->Prop:=fun f l rz ps ds r=>Fb rs f l rz/\De ds/\ps.length<=9/\rV rs r rz ps ds
def F4 (rs:List Str):Int->Int->List (Str×Int)->List (Str×Int)->List aM->Rs->Prop:=fun f l rz ps ds r=>Fb rs f l rz/\ds.length<=6/\(∀d∈ds,gH d)/\ps.length<=9/\MO rs r rz ps ds
def F5:Int->Int->List (Str×Int)->List (Str×Int)->List aM->Rs->Prop:=fun f l rz ps ds r=>0<=f/\f<=l/\rz.length<=6/\ds.length<=6/\(∀d∈ds,gH d)/\ps.length<=9/\FZ r rz ps ds
def F6:Int->Int->List (Str×Int)->List (Str×Int)->List aM->Rs->Prop:=fun f l rz ps ds r=>rz.length<=6/\ds.length<=6/\(∀d∈ds,gH d)/\ps.length<=9/\Vd f l rz ps ds r
theorem CG {rs pre post:List Str}{z:Str} (h:∀y∈pre,y∈rs) (g:Odd rs post z):Odd rs (pre++post) z:=by
 obtain⟨i,hz,hn,hb⟩:=g;refine⟨pre.length+i,by rw[List.getElem?_append_right (by lia),Nat.add_sub_cancel_left];exact hz,hn,fun y hy=> ?_⟩;rw[List.take_length_add_append]at hy;exact(List.mem_append.mp hy).elim (h y) (hb y)
theorem D5 {rs pre post:List Str}{z:Str} (g:Odd rs pre z):Odd rs (pre++post) z:=by
 obtain⟨i,hz,hn,hb⟩:=g;have hi:=(List.getElem?_eq_some_iff.mp hz).1;refine⟨i,by rw[List.getElem?_append_left hi];exact hz,hn,fun y hy=>hb y ?_⟩
 rwa [List.take_append_of_le_length (by lia)]at hy
theorem z9 {rs:List Str}{r:Rs}{rz ps:List (Str×Int)}{ds:List aM} (h:∀z∈iR ds,z∈rs) (v:M6 rs r rz ps):rV rs r rz ps ds:=by
 rcases v with⟨h1,h2⟩|⟨z,h1,h2⟩
 ·refine .inl ⟨fun z hz=> ?_,h2⟩;rcases List.mem_append.mp hz with hz|hz
  ·exact h z hz
  ·obtain⟨p,hp,rfl⟩:=List.mem_map.mp hz;exact h1 p hp
 ·exact .inr ⟨z,CG h h1,h2⟩
theorem vB {ss:List Str}{z:Str} (nd:ss.Nodup) (hz:z∈ss):Dup (ss++[z]) z:=by
 refine⟨ss.length,by rw[List.getElem?_append_right (Nat.le_refl _),Nat.sub_self];rfl,?_,?_⟩<;>rw[List.take_left' rfl]
 ·exact hz
 ·exact nd
theorem N8 {f l:Int}{rz ps:List (Str×Int)}{ds:List aM}{r:Rs} (h0:0<=f) (h1:f<=l) (v:FZ r rz ps ds):Vd f l rz ps ds r:=by
 rcases v with⟨nr,v⟩|⟨z,hz,rfl⟩
 ·rcases v with⟨nd,v⟩|⟨z,hz,rfl⟩
  ·rcases v with⟨ha,v⟩|⟨z,hz,rfl⟩
   ·rcases v with⟨hf,rfl⟩|⟨hf,rfl⟩
    ·exact .ok h0 h1 nr nd ha hf
    ·exact .sp h0 h1 nr nd ha hf
   ·exact .st h0 h1 nr nd hz
  ·exact .dd h0 h1 nr hz
 ·exact .dr h0 h1 hz
theorem yQ (bs:List Bool):(bs.map V.bl).all nJ=true:=by
 rw[List.all_eq_true];intro v hv;obtain⟨b,_,rfl⟩:=List.mem_map.mp hv;rfl
theorem PairR.sm {H H':Hp}{t:Addr}{r:Rs} (x:PairR H t r) (s:Same H H'):PairR H' t r:=let ⟨kk,h1,h2⟩:=x;⟨kk,s _ _ h1,s _ _ h2⟩
theorem PairR.deep {H:Hp}{t t2:Addr}{r:Rs} (x:PairR H t r) (y:PairR H t2 r):∃us vs,H t=some (.tup us)/\H t2=some (.tup vs)/\Paired (DeepEq K H 4) us vs:=by
 obtain⟨kk,h1,h2⟩:=x;obtain⟨k2,g1,g2⟩:=y;refine⟨_,_,h1,g1,.cons (DeepEq.lst (SqL.of h2) (SqL.of g2) (qT (yQ _))) (.cons (DeepEq.self ?_) .nil)⟩;cases r<;>rfl
def qR (K:W.Frag):Sp:=fun vs H Q _=>∃(a:Addr) (ns:List Int),vs=[.ref a]/\SqL K H a (ns.map V.int)/\ns.length<=63/\∀H',Q (.bl true) H'
theorem NN (m:M K mg):bK P w K mg base CX0 20 m.AH m.AM ["_law_script"] (qR K):=by
 refine m.PP.ok sc_law (fun vs H Q E h=> ?_) (fun cdv A outer s H vs Q E hr h=> ?_)
 ·obtain⟨a,ns,rfl,hS,hlen,k⟩:=h;rfl
 ·obtain⟨a,ns,rfl,hS,hlen,k⟩:=h;have nd:=sc_law.nd;walk_at"hu";have gQ:= @uS P w K mg base m;have dN:= @lO P w K mg base m;have aQ:= @qF P w K mg base m;have gP:= @uM P w K mg base m;have i7:= @xC P w K mg base m;have eK:= @mO P w K mg base m;have fE:= @qS P w K mg base m;have K_Door_2:= @BU P w K mg base m;have w_dc_House:=m.wP;have w_dc_Door:=m.kF;refine⟨_,(aC (aO (i:=1) nd rfl (by walk_at"oi") (b9 aQ hr (aA (pv 0) (aA aD aB))))
   (aC (aO (i:=2) nd rfl (by walk_at"oi") (f9 (N:=["_law_k","_law_cell","_law_script"]) (nl:=1) (ci:=[1,0]) rfl (blk (s.heap.objs.size+1) rfl rfl rfl (by kernel_rfl)) (jW rfl m.nQ (aA (aF cS aD (aF bD (aF cF (pv 1) aD) aD)) aB)) (fun _ _ _ _=>(aU (i:=0) (show (["_law_k","_law_cell","_law_script"]:List Str).Nodup by decide +kernel) rfl (by walk_at"oi"))) (fun _ _ _ _=>eT) (fun _ _ _ _=>(bJ (aA (b9 eK hr (aA (pv 0) (aA (pv 1) aB))) (aA (aF cS aD (aF bD (aF cF (b9 aQ hr (aA (pv 2) (aA aD aB))) (aF cS (pv 0) aD)) aD)) aB))))))
   (aC (aO (i:=3) nd rfl (by walk_at"oi") (b9 gP hr (aA (pv 2) (aA (aF cS aD (aF bD (b9 aQ hr (aA (pv 0) (aA aD aB))) aD)) (aA (aF cF (b9 aQ hr (aA (pv 0) (aA aD aB))) aD) aB)))))
   (aC (kG (i:=4) nd rfl (by walk_at"oi") (N:=["_law_k","_law_rooms"]) (nl:=1) (ci:=[2]) rfl (blk (s.heap.objs.size+1) rfl rfl rfl (by kernel_rfl)) (jW rfl m.nQ (aA (aF bD (b9 aQ hr (aA (pv 0) (aA aD aB))) aD) aB)) (fun _ _ _ _=>(aU (i:=0) (show (["_law_k","_law_rooms"]:List Str).Nodup by decide +kernel) rfl (by walk_at"oi"))) (fun _ _ _ _=>eT) (fun _ _ _ _=>(bJ (aA (b2 (II (K:=K)) (b2 (E4 (K:=K)) (pv 1) (aF bD (pv 0) (aW (zU K rfl) rfl m.iI fM (aA (pv 1) aB))) (fun _ _=>rfl)) aD (fun _ _=>rfl)) (aA aD aB)))))
   (aC (aO (i:=5) nd rfl (by walk_at"oi") (aF bD (b9 aQ hr (aA (pv 0) (aA aD aB))) (xJ 100000000000 (by decide) ⟨by decide,by decide,by decide⟩)))
   (aC (aO (i:=6) nd rfl (by walk_at"oi") (aF cS (pv 5) (aF bD (b9 aQ hr (aA (pv 0) (aA aD aB))) aD)))
   (aC (aO (i:=7) nd rfl (by walk_at"oi") (aF bD (b9 aQ hr (aA (pv 0) (aA aD aB))) aD))
   (aC (aO (i:=8) nd rfl (by walk_at"oi") (bJ (aA fO (aA fO aB))))
   (aC (bS (bU eQ (aF bD (pv 7) aD) aD (bL _)) (aC (q0 (b9 dN hr (aA (pv 2) (aA (pv 4) (aA (b9 aQ hr (aA (pv 0) (aA aD aB))) aB)))) (kD (n:=2) rfl (bW (aU (i:=2) nd rfl (by walk_at"oi")) (bW (aU (i:=4) nd rfl (by walk_at"oi")) fZ))))
   (aH (aO (i:=8) nd rfl (by walk_at"oi") (bJ (aA bA (aA fO aB)))))) bF)
   (aC (bS (bU eQ (aF bD (aF cF (pv 7) aD) aD) aD (bL _)) (aC (aO (i:=9) nd rfl (by walk_at"oi") (aF bD (b9 aQ hr (aA (pv 0) (aA aD aB))) (aF cS (aW dM rfl m.iI fM (aA (pv 4) aB)) aD)))
   (aC (aO (i:=4) nd rfl (by walk_at"oi") (aF cT (aF cT (aF cT (eU fY (pv 4) gE (gD (pv 9))) (b1 (aA (bJ (aA bA (aA aD aB))) aB))) (eU fY (pv 4) (gD (pv 9)) gE)) (b1 (aA (bJ (aA bA (aA aD aB))) aB))))
   (aH (aO (i:=8) nd rfl (by walk_at"oi") (bJ (aA bA (aA bA aB))))))) bF)
   (aC (bS (bU eQ (aF bD (aF cF (pv 7) aD) aD) aD (bL _)) (aH (q0 (b9 fE hr (aA (pv 3) (aA (b9 aQ hr (aA (pv 0) (aA aD aB))) aB))) (kD (n:=2) rfl (bW (aU (i:=3) nd rfl (by walk_at"oi")) (bW (aU (i:=8) nd rfl (by walk_at"oi")) fZ))))) bF)
   (aC (bS (bU eQ (aF bD (aF cF (pv 7) aD) aD) aD (bL _)) (aC (aO (i:=9) nd rfl (by walk_at"oi") (aF bD (b9 aQ hr (aA (pv 0) (aA aD aB))) (aW dM rfl m.iI fM (aA (pv 3) aB))))
   (aC (aO (i:=3) nd rfl (by walk_at"oi") (aF cT (pv 3) (b1 (aA (u3 K_Door_2 hr (aA (eY (b2 cM (pv 3) (pv 9) (fun _ _=>rfl)) rfl) (aA (b2 iL (b2 cM (pv 2) aD (fun _ _=>rfl)) aD (fun _ _=>rfl)) aB))) aB))))
   (aH (aO (i:=8) nd rfl (by walk_at"oi") (bJ (aA bA (aA (eY (b2 cM (pv 3) (pv 9) (fun _ _=>rfl)) rfl) aB))))))) bF)
   (aC (bS (bU eQ (aF bD (aF cF (pv 7) aD) aD) aD (bL _)) (aC (aO (i:=9) nd rfl (by walk_at"oi") (aF bD (b9 aQ hr (aA (pv 0) (aA aD aB))) (aW dM rfl m.iI fM (aA (pv 2) aB))))
   (aC (aO (i:=2) nd rfl (by walk_at"oi") (aF cT (pv 2) (b1 (aA (bJ (aA (b2 iL (b2 cM (pv 2) (pv 9) (fun _ _=>rfl)) aD (fun _ _=>rfl)) (aA aD aB))) aB))))
   (aH (aO (i:=8) nd rfl (by walk_at"oi") (bJ (aA bA (aA (b2 iL (b2 cM (pv 2) (pv 9) (fun _ _=>rfl)) aD (fun _ _=>rfl)) aB))))))) bF)
   (aC (bS (bU eQ (aF cF (pv 7) aD) aD (bL _)) (aC (q0 (b2 cM (b1 (aA (bJ (aA (aF mG (aF mG aD aD) (pv 5)) (aA (pv 6) aB))) (aA (bJ (aA (aF cS (aF cS (pv 6) aD) (pv 5)) (aA (pv 6) aB))) aB))) (aF bD (b9 aQ hr (aA (pv 0) (aA aD aB))) aD) (fun _ _=>rfl)) (kD (n:=2) rfl (bW (aU (i:=5) nd rfl (by walk_at"oi")) (bW (aU (i:=6) nd rfl (by walk_at"oi")) fZ))))
   (aH (aO (i:=8) nd rfl (by walk_at"oi") (bJ (aA bA (aA fO aB)))))) bF)
   (aC (iO PassesOwn.never rfl (jW rfl m.nQ (aA aD aB)) (aU (i:=10) nd rfl (by walk_at"oi")) (aH (bS (bU (IW hu9) (b9 gQ hr (aA (pv 2) (aA (pv 3) (aA (pv 4) (aA (pv 6) (aA (pv 5) aB)))))) (b9 i7 hr (aA (b2 iL (pv 8) aD (fun _ _=>rfl)) (aA (b2 iL (pv 8) aD (fun _ _=>rfl)) aB))) (bL _)) (aH (b0 qH)) bF)))
   (aH (b0 qH))))))))))))))))),?_⟩
  refine bG (σ:=[some (.ref a),none,none,none,none,none,none,none,none,none,none]) rfl ?_;walk_at"gs";generalize hc0:cC ns 0=c0;refine AV (fun i y H=>bT H y (nmF (i:Int) c0,1+cC ns 1/((i:Int)+1)%9)) (fun _ _ _ _ ⟨q,e,h⟩ s=>⟨q,e,s _ _ h⟩) (by rw[sizeLine_eq];lia) (rest:=[some (.int c0),some (.ref a)]) (by rfl) ?_ ?_
  ·intro i H1 hi s1 R hR;have hS1:SqL K H1 a (ns.map V.int):=s1.seq hS;walk_at"go";rename_i q2 H2 n2 S2 e2;refine hR _ _ ⟨q2,rfl,?_⟩ S2;rw[e2,Int.zero_add]
  intro ws H1 s1 hws;generalize hne:(2+c0/16%4).toNat=n at hws;have hn0:0<n:=by lia
  have hn5:n<=5:=by lia
  have hra:RoomsAt H1 ws ((List.range n).map fun i:Nat=>(nmF (i:Int) c0,1+cC ns 1/((i:Int)+1)%9)):=kQ (fun i:Nat=>(nmF (i:Int) c0,1+cC ns 1/((i:Int)+1)%9)) hws;generalize hrz:((List.range n).map fun i:Nat=>(nmF (i:Int) c0,1+cC ns 1/((i:Int)+1)%9))=rz at hra;have hrn:rz.map (·.1)=(List.range n).map fun i:Nat=>nmF ((i:Int)+0) c0:=by rw[←hrz,List.map_map];refine List.map_congr_left fun i _=> ?_;show nmF (i:Int) c0=_;rw[Int.add_zero]
  have hrl:rz.length=n:=by rw[←hrz,List.length_map,List.length_range]
  have hwl:ws.length=n:=by rw[Paired.length hra,hrl]
  have hrs:∀z∈rz.map (·.1),∃k:Int,0<=k/\k<26/\z=nmF k c0:=fun z hz=>by
   rw[hrn]at hz;obtain⟨i,hi,rfl⟩:=List.mem_map.mp hz;have hi':=List.mem_range.mp hi;exact⟨_,by lia,by lia,rfl⟩
  have hnn:∀e∈rz,0<=e.2:=fun e he=>by
   rw[←hrz]at he;obtain⟨i,_,rfl⟩:=List.mem_map.mp he;show 0<=1+cC ns 1/((i:Int)+1)%9
   lia
  have hno:∀z:Str,1<nv z->z∉rz.map (·.1):=fun z hz hm=>by
   obtain⟨k,_,_,e⟩:=hrs z hm;exact LQ hz k c0 e
  have fb:∀f l:Int,0<=f->f<=l->Fb (rz.map (·.1)) f l rz:=fun f l h0 h1=>⟨rfl,by rw[List.length_map];lia,by rw[List.length_map];lia,by rw[hrn];exact u6 0 c0 n (by lia) (by lia),fun z hz=>by obtain⟨k,h0,h1,rfl⟩:=hrs z hz;exact vS h0 h1,hno _ (by decide +kernel),hno _ (by decide +kernel),hno _ (by decide +kernel),h0,h1⟩
  generalize hrsd:rz.map (·.1)=rs at fb hno hrs hrn;walk_at"gs";rename_i pW H2 n2 S2 eW;have s02:Same H H2:=s1.trans S2;have hS2:SqL K H2 a (ns.map V.int):=s02.seq hS;have hra2:=hra.sm S2;walk_at"gs";refine EY (rz:=rz) eW hra2 (by lia) (fun e he=>by obtain⟨k,h0,h1,e1⟩:=hrs e.1 (by rw[←hrsd];exact List.mem_map.mpr ⟨e,he,rfl⟩);rw[e1];exact vS h0 h1) (by lia) (by lia) fun pD us ds H3 S3 eD hud hdl hdn hdi hdm=> ?_;rw[hrsd]at hdi;have db:Db rs ds:=⟨hdn,by lia,by lia,hdi,hdm⟩
  have s03:Same H H3:=s02.trans S3;have hS3:SqL K H3 a (ns.map V.int):=s03.seq hS;have eW3:=S3 _ _ eW;have hra3:=hra2.sm S3;walk_at"gs";refine AV (fun _ y H=>∃z,bT H y (z,0)/\z∈rs) (fun _ _ _ _ ⟨z,⟨q,e,h⟩,hz⟩ s=>⟨z,⟨q,e,s _ _ h⟩,hz⟩) (by rw[sizeLine_eq];lia) (rest:=[some (.ref pW)]) (by rfl) ?_ ?_
  ·intro i H4 hi s4 R hR;have eW4:=s4 _ _ eW3;have hra4:=hra3.sm s4;have hw0:0<ws.length:=by lia
   walk_at"go";rename_i ha0 ha1;refine mI (SqL.of eW4) ha0 ha1 fun v1 hv1=> ?_;obtain⟨z1,j1,q1,rfl,hq1,hz1⟩:=kR hra4 hv1;walk_at"go";refine⟨q1,_,0,_,rfl,rfl,SqT.of hq1,rfl,?_⟩;walk_at"go";rename_i q5 H5 n5 S5 e5;exact hR _ _ ⟨z1,⟨q5,rfl,e5⟩,by rw[←hrsd];exact List.mem_map.mpr ⟨_,hz1,rfl⟩⟩ S5
  intro cs H4 s4 hcs;obtain⟨ps,hcp,hpz,hpl⟩:=BR hcs;rw[List.length_range]at hpl;walk_at"gs";rename_i pP H5 n5 S5 eP q6 H6 n6 S6 e6;have s36:Same H3 H6:=(s4.trans S5).trans S6;have s06:Same H H6:=s03.trans s36;have f0:0<=cC ns 4%100000000000:=by lia
  have f1:cC ns 4%100000000000<=cC ns 4%100000000000+cC ns 4%21:=by lia
  have hpl5:ps.length<=5:=by lia
  have roomL:RoomL H6 pW rz:=⟨ws,s36 _ _ eW3,hra3.sm s36⟩
  have doorL:DoorL (aY P w K mg base none) H6 pD ds:=⟨us,s36 _ _ eD,b6 hud s36⟩
  have pplL:PplL H6 pP ps:=⟨cs,S6 _ _ eP,bM (bM hcp S5) S6⟩
  have hpr:∀p∈ps,p.1∈rs:=fun p hp=>(hpz p hp).2;have hz0:∀p∈ps,p.2=0:=fun p hp=>(hpz p hp).1;have fb0:=fb _ _ f0 f1;generalize cC ns 4%100000000000+cC ns 4%21=l0 at fb0 f1;generalize cC ns 4%100000000000=f00 at fb0 f1 f0;generalize cC ns 5%64=wr;clear hra hra2 hra3 hws hcs hcp hpz hud hdl hdn hdi hdm eD eW eW3 eP S5 S6 n5 n6 n2 S2 S3 hS2 hS3 fb hno hrs hrn hrz hwl s4 s1 s02 s03 s36;refine eI (fun σ' G=>Same H6 G/\Cur (aY P w K mg base none) a c0 wr (F1 rs) σ' G) ?_ ?_
  rotate_left
  ·intro nx' hnx;walk_at"go";refine c4 (fun hc=> ?_) (fun hc=> ?_)
   ·obtain⟨ws1,e1,h1⟩:=id roomL;obtain⟨cs1,e2,h2⟩:=id pplL;walk_at"go";refine LP e1 h1 e2 h2 (by lia) (by lia) (by lia) hnn (by rw[hrsd];exact hpr) fun q7 ar ap ws' cs' rz' ps' G S eq ea eb hr' hp' hnm' hpr' hpl' hnf=> ?_;walk_at"go";rename_i q8 G8 n8 S8 e8;rw[hrsd]at hpr';exact hnx _ _ ⟨S.trans S8,ar,pD,ap,q8,_,_,rz',ps',ds,.house,_,⟨_,S8 _ _ ea,hr'.sm S8⟩,doorL.sm (S.trans S8),⟨_,S8 _ _ eb,bM hp' S8⟩,e8,⟨fb0.to (hnm'.trans hrsd),db,hpl',hpr',.inr ⟨hnf,rfl⟩⟩,rfl⟩
   ·walk_at"go";exact hnx _ _ ⟨Same.refl _,pW,pD,pP,q6,_,_,rz,ps,ds,.good,_,roomL,doorL,pplL,e6,⟨fb0,db,by lia,hpr,.inl ⟨CF hz0 hnn,rfl⟩⟩,rfl⟩
  clear hrsd hpr hz0 hnn fb0 db roomL doorL pplL;rintro _ G1 ⟨sG1,ar,ad,ap,q,f,l,rz1,ps1,ds1,r,x9,hRo,hDo,hPp,hq,⟨fb,db,hpl,hpr,hsp⟩,rfl⟩;have s0G:Same H G1:=s06.trans sG1;clear sG1 s06 e6;have hSG:SqL K G1 a (ns.map V.int):=s0G.seq hS;refine eI (fun σ' G=>Same G1 G/\Cur (aY P w K mg base none) a c0 wr (F2 rs) σ' G) ?_ ?_
  rotate_left
  ·intro nx' hnx;walk_at"go";refine c4 (fun hc=> ?_) (fun hc=> ?_)
   ·obtain⟨cs1,e2,h2⟩:=id hPp;have hcl:cs1.length=ps1.length:=Paired.length h2;walk_at"go";rename_i h0' h1' p1 A1 n1 S1 e1 q2 A2 n2 S2 e2' p3 A3 n3 S3 e3;generalize cC ns 7%((cs1.length:Int)+1)=t at h0' h1' e1;obtain⟨j,rfl⟩:=Int.eq_ofNat_of_zero_le h0';rw[qX]at e1;have l1:(cs1.take j).length<=7:=by rw[List.length_take];lia
    have l2:(cs1.drop j).length<=7:=by rw[List.length_drop];lia
    have e13:=S3 _ _ (S2 _ _ e1);walk_at"go";rename_i p4 A4 n4 S4 e4 p5 A5 n5 S5 e5;rw[q9]at e5;walk_at"go";rename_i p6 A6 n6 S6 e6 q7 A7 n7 S7 e7 p8 A8 n8 S8 e8 p9 A9 n9 S9 e9 qA AA nA SA eA;have s9A:Same A9 AA:=SA;have s7A:Same A7 AA:=(S8.trans S9).trans SA;have s2A:Same A2 AA:=((S3.trans S4).trans (S5.trans S6)).trans (S7.trans s7A);have s0A:Same G1 AA:=(S1.trans S2).trans s2A;refine hnx _ _ ⟨s0A,ar,ad,p9,qA,f,l,rz1,ps1.take j++[((("nowhere" :Str),(0:Int)):Str×Int)]++ps1.drop j++[((("no" :Str),(0:Int)):Str×Int)],ds1,.room "nowhere",_,hRo.sm s0A,hDo.sm s0A,⟨_,SA _ _ e9,?_⟩,eA,⟨fb,db,?_,.inr ⟨"nowhere",?_,rfl⟩⟩,rfl⟩
    ·exact bO (bO (bO (Paired.take' (bM h2 s0A) j) (.cons ⟨q2,rfl,s2A _ _ e2'⟩ .nil)) (Paired.drop' (bM h2 s0A) j)) (.cons ⟨q7,rfl,s7A _ _ e7⟩ .nil)
    ·rw[List.length_append,List.length_append,List.length_append,List.length_take,List.length_drop];show _+1+_+1<=9
     lia
    ·rw[List.map_append,List.map_append,List.map_append,List.append_assoc,List.append_assoc];exact u8 (fun y hy=>by obtain⟨p,hp,rfl⟩:=List.mem_map.mp hy;exact hpr p (List.mem_of_mem_take hp)) fb.o1
   ·walk_at"go";exact hnx _ _ ⟨Same.refl _,ar,ad,ap,q,f,l,rz1,ps1,ds1,r,_,hRo,hDo,hPp,hq,⟨fb,db,by lia,.inl ⟨hpr,hsp⟩⟩,rfl⟩
  clear hRo hDo hPp hq fb db hpl hpr hsp;rintro _ G2 ⟨sG2,ar,ad,ap,q,f,l,rz1,ps1,ds1,r,x9,hRo,hDo,hPp,hq,⟨fb,db,hpl,hpv⟩,rfl⟩;have s0G:=s0G.trans sG2;clear sG2 hSG;have hSG:SqL K G2 a (ns.map V.int):=s0G.seq hS;refine eI (fun σ' G=>Same G2 G/\Cur (aY P w K mg base none) a c0 wr (F3 rs) σ' G) ?_ ?_
  rotate_left
  ·intro nx' hnx;walk_at"go";refine c4 (fun hc=> ?_) (fun hc=> ?_)
   ·obtain⟨us1,e1,h1⟩:=id hDo;walk_at"go";refine NE (rs:=rs) e1 h1 db.l0 db.l5 db.hin db.nm fb.o2 fb.o3 fun q7 p7 r7 z us' ds' G S eq er ep hud' hnm' hes' hnb' hodd=> ?_;walk_at"go";have hl':ds'.length=ds1.length:=by rw[←List.length_map (f:=fun d:aM=>d.1),hnm',List.length_map]
    have dl0:=db.l0;have dl5:=db.l5;exact hnx _ _ ⟨S,ar,p7,ap,r7,f,l,rz1,ps1,ds',.room z,_,hRo.sm S,⟨_,ep,hud'⟩,hPp.sm S,er,⟨fb,⟨by rw[hnm'];exact db.nd,by lia,by lia,hes',hnb'⟩,hpl,.inr ⟨z,D5 hodd,rfl⟩⟩,rfl⟩
   ·walk_at"go";exact hnx _ _ ⟨Same.refl _,ar,ad,ap,q,f,l,rz1,ps1,ds1,r,_,hRo,hDo,hPp,hq,⟨fb,⟨db.nd,db.l0,db.l5,fun d hd=>((db.hin d hd).2).imp id fun⟨z,h,_⟩=>⟨z,h⟩,fun d hd=>(db.nm d hd).1⟩,hpl,z9 (rX db.hin) hpv⟩,rfl⟩
  clear hRo hDo hPp hq fb db hpl hpv;rintro _ G3 ⟨sG3,ar,ad,ap,q,f,l,rz1,ps1,ds1,r,x9,hRo,hDo,hPp,hq,⟨fb,de,hpl,hpv⟩,rfl⟩;have s0G:=s0G.trans sG3;clear sG3 hSG;have hSG:SqL K G3 a (ns.map V.int):=s0G.seq hS;refine eI (fun σ' G=>Same G3 G/\Cur (aY P w K mg base none) a c0 wr (F4 rs) σ' G) ?_ ?_
  rotate_left
  ·intro nx' hnx;have dl0:=de.l0;have dl5:=de.l5;obtain⟨us1,e1,h1⟩:=id hDo;obtain⟨ws1,e2,h2⟩:=id hRo;have hul:us1.length=ds1.length:=Paired.length h1;have hwl1:ws1.length=rz1.length:=Paired.length h2;have hrl1:=fb.len;walk_at"go";refine c4 (fun hc=> ?_) (fun hc=> ?_)
   ·have hu0:0<us1.length:=by lia
    walk_at"go";rename_i h0' h1';generalize cC ns 9%(us1.length:Int)=t at h0' h1';obtain⟨j,rfl⟩:=Int.eq_ofNat_of_zero_le h0';obtain⟨u,hu⟩:∃u,us1[j]? =some u:=⟨_,List.getElem?_eq_getElem (by lia)⟩
    obtain⟨⟨n7,st7,e7,lt7⟩,hdj⟩:∃d,ds1[j]? =some d:=⟨_,List.getElem?_eq_getElem (by lia)⟩
    obtain⟨q7,C7,dx7,fs7,fp7,rfl,hq7,dc7,l1,l2,l3,l4,l5,mc7,hfp7,hlt7⟩:=DoorAt.ex (Paired.at2 h1 hu hdj);have hb7:aZ n7=true:=de.nm _ (List.mem_of_getElem? hdj);refine gJ (SqL.of e1) hu ?_;walk_at"go";obtain⟨v1,hv1⟩:∃v,ws1[0]? =some v:=⟨_,List.getElem?_eq_getElem (by lia)⟩
    obtain⟨z1,j1,q1,rfl,hq1,hz1⟩:=kR h2 (List.mem_of_getElem? hv1);have hb1:aZ z1=true:=fb.ok _ (by rw[←fb.nm];exact List.mem_map.mpr ⟨_,hz1,rfl⟩);refine gJ (j:=0) (SqL.of e2) hv1 ?_;walk_at"go";refine⟨q1,_,0,_,rfl,rfl,SqT.of hq1,rfl,?_⟩;walk_at"go";rename_i q8 dx8 A8 n8 S8 e8 p9 A9 n9 S9 e9 pA AA nA SA eA;refine gJ (xs:=us1++[.ref q8]) (SqL.of eA) (show _=some (.ref q7) by rw[List.getElem?_append_left (by lia)];exact hu) ?_;have hq7A:=SA _ _ (S9 _ _ (S8 _ _ hq7));walk_at"go";rename_i qB AB nB SB eB;have s0B:Same G3 AB:=(S8.trans S9).trans (SA.trans SB);refine hnx _ _ ⟨s0B,ar,pA,ap,qB,f,l,rz1,ps1,ds1++[((n7,z1,.non,fun _=>(1:Int)):aM)],.twice n7,_,hRo.sm s0B,⟨_,SB _ _ eA,?_⟩,hPp.sm s0B,eB,⟨fb,by rw[List.length_append];show _+1<=6;lia,fun d hd=> ?_,hpl,.inr ⟨n7,?_,rfl⟩⟩,rfl⟩
    ·exact bO (b6 h1 s0B) (.cons (nI (P:=P) (w:=w) (base:=base) m (SB _ _ (SA _ _ (S9 _ _ e8)))) .nil)
    ·rcases List.mem_append.mp hd with hd|hd
     ·exact de.es d hd
     ·cases List.mem_singleton.mp hd;exact .inl rfl
    ·rw[List.map_append];exact vB de.nd (List.mem_map.mpr ⟨_,List.mem_of_getElem? hdj,rfl⟩)
   ·walk_at"go";exact hnx _ _ ⟨Same.refl _,ar,ad,ap,q,f,l,rz1,ps1,ds1,r,_,hRo,hDo,hPp,hq,⟨fb,by lia,de.es,hpl,.inl ⟨de.nd,hpv⟩⟩,rfl⟩
  clear hRo hDo hPp hq fb de hpl hpv;rintro _ G4 ⟨sG4,ar,ad,ap,q,f,l,rz1,ps1,ds1,r,x9,hRo,hDo,hPp,hq,⟨fb,hdl,hes,hpl,hpv⟩,rfl⟩;have s0G:=s0G.trans sG4;clear sG4 hSG;have hSG:SqL K G4 a (ns.map V.int):=s0G.seq hS;refine eI (fun σ' G=>Same G4 G/\Cur (aY P w K mg base none) a c0 wr F5 σ' G) ?_ ?_
  rotate_left
  ·intro nx' hnx;obtain⟨ws1,e2,h2⟩:=id hRo;have hwl1:ws1.length=rz1.length:=Paired.length h2;have hrl1:=fb.len;walk_at"go";refine c4 (fun hc=> ?_) (fun hc=> ?_)
   ·have hu0:0<ws1.length:=by lia
    walk_at"go";rename_i h0' h1';generalize cC ns 10%(ws1.length:Int)=t at h0' h1';obtain⟨j,rfl⟩:=Int.eq_ofNat_of_zero_le h0';obtain⟨u,hu⟩:∃u,ws1[j]? =some u:=⟨_,List.getElem?_eq_getElem (by lia)⟩
    obtain⟨⟨z1,j1⟩,hdj⟩:∃d,rz1[j]? =some d:=⟨_,List.getElem?_eq_getElem (by lia)⟩
    obtain⟨q1,rfl,hq1⟩:=Paired.at2 h2 hu hdj;refine gJ (SqL.of e2) hu ?_;walk_at"go";refine⟨q1,_,0,_,rfl,rfl,SqT.of hq1,rfl,?_⟩;walk_at"go";rename_i q8 A8 n8 S8 e8 p9 A9 n9 S9 e9 pA AA nA SA eA;refine gJ (xs:=ws1++[.ref q8]) (SqL.of eA) (show _=some (.ref q1) by rw[List.getElem?_append_left (by lia)];exact hu) ?_;have hq1A:=SA _ _ (S9 _ _ (S8 _ _ hq1));walk_at"go";refine⟨q1,_,0,_,rfl,rfl,SqT.of hq1A,rfl,?_⟩;walk_at"go";rename_i qB AB nB SB eB;have s0B:Same G4 AB:=(S8.trans S9).trans (SA.trans SB);refine hnx _ _ ⟨s0B,pA,ad,ap,qB,f,l,rz1++[(z1,4)],ps1,ds1,.twice z1,_,⟨_,SB _ _ eA,?_⟩,hDo.sm s0B,hPp.sm s0B,eB,⟨fb.f0,fb.f1,by rw[List.length_append];show _+1<=6;lia,hdl,hes,hpl,.inr ⟨z1,?_,rfl⟩⟩,rfl⟩
    ·exact bO (bM h2 s0B) (.cons ⟨q8,rfl,SB _ _ (SA _ _ (S9 _ _ e8))⟩ .nil)
    ·rw[List.map_append,fb.nm];refine vB fb.nd ?_;show z1∈rs;rw[←fb.nm];exact List.mem_map.mpr ⟨_,List.mem_of_getElem? hdj,rfl⟩
   ·walk_at"go";exact hnx _ _ ⟨Same.refl _,ar,ad,ap,q,f,l,rz1,ps1,ds1,r,_,hRo,hDo,hPp,hq,⟨fb.f0,fb.f1,by lia,hdl,hes,hpl,.inl ⟨by rw[fb.nm];exact fb.nd,by rw[fb.nm];exact hpv⟩⟩,rfl⟩
  clear hRo hDo hPp hq fb hdl hes hpl hpv;rintro _ G5 ⟨sG5,ar,ad,ap,q,f,l,rz1,ps1,ds1,r,x9,hRo,hDo,hPp,hq,⟨g0,g1,hrl,hdl,hes,hpl,hpv⟩,rfl⟩;have s0G:=s0G.trans sG5;clear sG5 hSG;have hSG:SqL K G5 a (ns.map V.int):=s0G.seq hS;refine eI (fun σ' G=>Same G5 G/\Cur (aY P w K mg base none) a c0 wr F6 σ' G) ?_ ?_
  rotate_left
  ·intro nx' hnx;walk_at"go";refine c4 (fun hc=> ?_) (fun hc=> ?_)
   ·walk_at"go";rename_i q1 A1 n1 S1 e1 q2 A2 n2 S2 e2 p3 A3 n3 S3 e3;have s03:Same G5 A3:=(S1.trans S2).trans S3;have e13:=S3 _ _ (S2 _ _ e1);have e23:=S3 _ _ e2;refine mI (SqL.of e3) (by lia) (by show _<(2:Int);lia) fun v hv=> ?_;simp only[List.mem_cons,List.not_mem_nil,or_false]at hv;rcases hv with rfl|rfl
    ·walk_at"go";rename_i q7 A7 n7 S7 e7;have s07:=s03.trans S7;exact hnx _ _ ⟨s07,ar,ad,ap,q7,_,_,rz1,ps1,ds1,.turn,_,hRo.sm s07,hDo.sm s07,hPp.sm s07,e7,⟨hrl,hdl,hes,hpl,.turn (.inl (by lia))⟩,rfl⟩
    ·walk_at"go";rename_i q7 A7 n7 S7 e7;have s07:=s03.trans S7;exact hnx _ _ ⟨s07,ar,ad,ap,q7,_,_,rz1,ps1,ds1,.turn,_,hRo.sm s07,hDo.sm s07,hPp.sm s07,e7,⟨hrl,hdl,hes,hpl,.turn (.inr (by lia))⟩,rfl⟩
   ·walk_at"go";exact hnx _ _ ⟨Same.refl _,ar,ad,ap,q,f,l,rz1,ps1,ds1,r,_,hRo,hDo,hPp,hq,⟨hrl,hdl,hes,hpl,N8 g0 g1 hpv⟩,rfl⟩
  clear hRo hDo hPp hq g0 g1 hrl hdl hes hpl hpv;rintro _ G6 ⟨sG6,ar,ad,ap,q,f,l,rz1,ps1,ds1,r,x9,⟨ws1,e1,h1⟩,⟨us1,e2,h2⟩,⟨cs1,e3,h3⟩,hq,⟨hrl,hdl,hes,hpl,hv⟩,rfl⟩;walk_at"go";refine DQ (fun σ=>∃x,σ=[some (.ref a),some (.int c0),some (.ref ar),some (.ref ad),some (.ref ap),some (.int f),some (.int l),some (.int wr),some (.ref q),x9,x]) ⟨_,rfl⟩ ?_ ?_
  ·rintro j _ G7 hj s7 ⟨y1,rfl⟩;have hq7:=s7 _ _ hq;walk_at"go";refine D1 (s7 _ _ e1) (h1.sm s7) (s7 _ _ e2) (b6 h2 s7) (s7 _ _ e3) (bM h3 s7) hes (by lia) (by lia) (by lia) hv fun t8 G8 S8 p8=> ?_;have hq8:=S8 _ _ hq7;walk_at"go";refine⟨q,_,0,_,rfl,rfl,SqT.of hq8,rfl,?_⟩;walk_at"go";refine⟨q,_,1,_,rfl,rfl,SqT.of hq8,rfl,?_⟩;walk_at"go";refine NG r rfl rfl fun t9 G9 S9 p9=> ?_;obtain⟨us9,vs9,d1,d2,d3⟩:=(p8.sm S9).deep (K:=K) p9;walk_at"go";refine FE d1 d2 d3 ?_;walk_at"go";exact⟨(s7.trans S8).trans S9,_,rfl⟩
  ·rintro _ G7 s7 ⟨y1,rfl⟩;walk_at"go";exact k _
end
theorem all_mk {l:W.OpenLaw}{w:World}{K:W.Frag}{h:Heap}{mg:Str->Option Value}{fa:Addr} (X:K.In h) (G:h.Ns mainGlobals mg) (hfa:mg "law" =some (.ref fa))
  {zaa zab zac zad zae zaf zag zah zai zaj zak zal zam zan zao zap zaq zar zas zat zau zav zaw zax zay zaz zba zbb zbc zbd zbe zbf zbg zbh zbi zbj zbk zbl zbm zbn zbo zbp zbq zbr zbs zbt:Addr}
  {zbu zbv:Option Addr}{zbw:Array (Option Value)}{zbx zby zbz zca zcb zcc:Value}
  {zcd zce:Option Addr}{zcf:Array (Option Value)}{zcg zch zci zcj zck zcl:Value}
  {zcm zcn:Option Addr}{zco:Array (Option Value)}{zcp zcq zcr zcs zct zcu:Value}
  {zcv zcw:Option Addr}{zcx:Array (Option Value)}{zcy zcz zda zdb zdc zdd:Value}
  {zde zdf:Option Addr}{zdg:Array (Option Value)}{zdh zdi zdj zdk zdl zdm:Value}
  {zdn zdo:Option Addr}{zdp:Array (Option Value)}{zdq zdr zds zdt zdu zdv:Value}
  {zdw zdx:Option Addr}{zdy:Array (Option Value)}{zdz zea zeb zec zed zee:Value}
  {zef zeg:Option Addr}{zeh:Array (Option Value)}{zei zej zek zel zem zen:Value}
  {zeo zep:Option Addr}{zeq:Array (Option Value)}{zer zes zet zeu zev zew:Value}
  {zex zey:Option Addr}{zez:Array (Option Value)}{zfa zfb zfc zfd zfe zff:Value}
  {zfg zfh:Option Addr}{zfi:Array (Option Value)}{zfj zfk zfl zfm zfn zfo:Value}
  {zfp zfq:Option Addr}{zfr:Array (Option Value)}{zfs zft zfu zfv zfw zfx:Value}
  {zfy zfz:Option Addr}{zga:Array (Option Value)}{zgb zgc zgd zge zgf zgg:Value}
  {zgh zgi:Option Addr}{zgj:Array (Option Value)}{zgk zgl zgm zgn zgo zgp:Value}
  {zgq zgr:Option Addr}{zgs:Array (Option Value)}{zgt zgu zgv zgw zgx zgy:Value}
  {zgz zha:Option Addr}{zhb:Array (Option Value)}{zhc zhd zhe zhf zhg zhh:Value}
  {zhi zhj:Option Addr}{zhk:Array (Option Value)}{zhl zhm zhn zho zhp zhq:Value}
  {zhr zhs:Option Addr}{zht:Array (Option Value)}{zhu zhv zhw zhx zhy zhz:Value}
  {zia zib:Option Addr}{zic:Array (Option Value)}{zid zie zif zig zih zii:Value}
  {zij zik:Option Addr}{zil:Array (Option Value)}{zim zin zio ziq zir zis:Value}
  {zit ziu:Option Addr}{ziv:Array (Option Value)}{ziw zix ziy ziz zja zjb:Value}
  {zjc zjd:Option Addr}{zje:Array (Option Value)}{zjf zjg zjh zji zjj zjk:Value}
  {zjl:Addr}
  {zjm:Tok}
  {zjn:Value}{zjo:Option Addr}{zjp:Nat}{zjq:Array (Option Value)}
  {zjr zjs:Option Addr}{zjt:Array (Option Value)}{zju zjv zjw zjx zjy zjz:Value}
  {zka zkb:Option Addr}{zkc:Array (Option Value)}{zkd zke zkf zkg zkh zki:Value}
  {zkj zkk:Option Addr}{zkl:Array (Option Value)}{zkm zkn zko zkp zkq zkr:Value}
  {zks zkt:Option Addr}{zku:Array (Option Value)}{zkv zkw zkx zky zkz zla:Value}
  {zlb zlc:Option Addr}{zld:Array (Option Value)}{zle zlf zlg zlh zli zlj:Value}
  {zlk zll:Option Addr}{zlm:Array (Option Value)}{zln zlo zlp zlq zlr zls:Value}
  {zlt zlu:Option Addr}{zlv:Array (Option Value)}{zlw zlx zly zlz zma zmb:Value}
  {zmc zmd:Option Addr}{zme:Array (Option Value)}{zmf zmg zmh zmi zmj zmk:Value}
  {zml zmm:Option Addr}{zmn:Array (Option Value)}{zmo zmp zmq zmr zms zmt:Value}
  {zmu zmv:Option Addr}{zmw:Array (Option Value)}{zmx zmy zmz zna znb znc:Value}
  {znd zne:Option Addr}{znf:Array (Option Value)}{zng znh zni znj znk znl:Value}
  {znm znn:Option Addr}{zno:Array (Option Value)}{znp znq znr zns znt znu:Value}
  {znv:Addr}
  {znw:Tok}
  {znx:Value}{zny:Option Addr}{znz:Nat}{zoa:Array (Option Value)}
  {zob zoc:Option Addr}{zod:Array (Option Value)}{zoe zof zog zoh zoi zoj:Value}
  {zok zol:Option Addr}{zom:Array (Option Value)}{zon zoo zop zoq zor zos:Value}
  {zot zou:Option Addr}{zov:Array (Option Value)}{zow zox zoy zoz zpa zpb:Value}
  {zpc:ClassData}
  {zpd:ClassData}
  {zpe:ClassData}
  {zpf:ClassData}
  {zpg:ClassData}
  {zph:ClassData}
  {zpi:ClassData}
  {zpj:ClassData}
  {zpk:ClassData}
  {zpl:ClassData}
  {zpm:ClassData}
  {zpn:ClassData}
  {zpo:ClassData}
  {zpp:ClassData}
  {zpq:ClassData}
  {zpr:ClassData}
  {zps:ClassData}
  {zpt:ClassData}
  {zpu:ClassData}
  {zpv:ClassData}
  {zpw:ClassData}
  {zpx:ClassData}
  {zpy:ClassData}
  {zpz:ClassData}
  {zqa:ClassData}
  {zqb:ClassData}
  {zqc:ClassData}
  {zqd:ClassData}
  {zqe:Tok}
  (zqf:W.nsIn K mainGlobals "_wall" =some (some (.ref zaa)))
  (zqg:W.nsIn K mainGlobals "need_turns" =some (some (.ref zab)))
  (zqh:W.nsIn K mainGlobals "need_each_once" =some (some (.ref zac)))
  (zqi:W.nsIn K mainGlobals "rooms_spoken_of" =some (some (.ref zad)))
  (zqj:W.nsIn K mainGlobals "need_rooms" =some (some (.ref zae)))
  (zqk:W.nsIn K mainGlobals "added_people" =some (some (.ref zaf)))
  (zql:W.nsIn K mainGlobals "need_space" =some (some (.ref zag)))
  (zqm:W.nsIn K mainGlobals "is_whole" =some (some (.ref zah)))
  (zqn:W.nsIn K mainGlobals "is_name" =some (some (.ref zai)))
  (zqo:W.nsIn K mainGlobals "need_name" =some (some (.ref zaj)))
  (zqp:W.nsIn K mainGlobals "need_whole" =some (some (.ref zak)))
  (zqq:W.nsIn K mainGlobals "_law_cell_at" =some (some (.ref zal)))
  (zqr:W.nsIn K mainGlobals "_law_name" =some (some (.ref zam)))
  (zqs:W.nsIn K mainGlobals "_law_doors" =some (some (.ref zan)))
  (zqt:W.nsIn K mainGlobals "_law_strange" =some (some (.ref zao)))
  (zqu:W.nsIn K mainGlobals "_law_bad_numbers" =some (some (.ref zap)))
  (zqv:W.nsIn K mainGlobals "_law_asked" =some (some (.ref zaq)))
  (zqw:W.nsIn K mainGlobals "_law_due" =some (some (.ref zar)))
  (zqx:W.nsIn K mainGlobals "law" =some (some (.ref zas)))
  (zqy:W.nsIn K mainGlobals "House" =some (some (.ref zat)))
  (zqz:W.nsIn K mainGlobals "Door" =some (some (.ref zau)))
  (zra:W.nsIn K mainGlobals "OutError" =some (some (.ref zav)))
  (zrb:W.nsIn K mainGlobals "NoDoor" =some (some (.ref zaw)))
  (zrc:W.nsIn K mainGlobals "NoHouse" =some (some (.ref zax)))
  (zrd:W.nsIn K mainGlobals "NoTurn" =some (some (.ref zay)))
  (zre:W.nsIn K mainGlobals "Twice" =some (some (.ref zaz)))
  (zrf:W.nsIn K mainGlobals "NoRoom" =some (some (.ref zba)))
  (zrg:W.nsIn K mainGlobals "Unknown" =some (some (.ref zbb)))
  (zrh:W.findIn K (.ref zaz) "__init__" =some (some (.ref zbc)))
  (zri:W.findIn K (.ref zba) "__init__" =some (some (.ref zbd)))
  (zrj:W.findIn K (.ref zat) "__init__" =some (some (.ref zbe)))
  (zrk:W.findIn K (.ref zat) "rooms" =some (some (.ref zbf)))
  (zrl:W.findIn K (.ref zat) "doors" =some (some (.ref zbg)))
  (zrm:W.findIn K (.ref zat) "need_room" =some (some (.ref zbh)))
  (zrn:W.findIn K (.ref zat) "holds" =some (some (.ref zbi)))
  (zro:W.findIn K (.ref zat) "found" =some (some (.ref zbj)))
  (zrp:W.findIn K (.ref zat) "into" =some (some (.ref zbk)))
  (zrq:W.findIn K (.ref zat) "from_room" =some (some (.ref zbl)))
  (zrr:W.findIn K (.ref zat) "door" =some (some (.ref zbm)))
  (zrs:W.findIn K (.ref zat) "lets" =some (some (.ref zbn)))
  (zrt:W.findIn K (.ref zat) "total" =some (some (.ref zbo)))
  (zru:W.findIn K (.ref zat) "pairs" =some (some (.ref zbp)))
  (zrv:W.findIn K (.ref zau) "__init__" =some (some (.ref zbq)))
  (zrw:W.findIn K (.ref zau) "lets" =some (some (.ref zbr)))
  (zrx:W.findIn K (.ref zau) "is_exit" =some (some (.ref zbs)))
  (zry:W.findIn K (.ref zau) "words" =some (some (.ref zbt)))
  (zrz:K.lookup zaa=some ⟨zbx,zbu,.func (W.fnOf "_wall" "_wall" (aJ i9) (aI i9) (aE i9) .none zby zbz zca zbv zcb zcc),zbw⟩)
  (zsa:W.codeIn K zcb "_wall" =true)
  (zsb:W.keepIn K (.ref zaa)=true)
  (zsc:K.lookup zab=some ⟨zcg,zcd,.func (W.fnOf "need_turns" "need_turns" (aJ cZ) (aI cZ) (aE cZ) .none zch zci zcj zce zck zcl),zcf⟩)
  (zsd:W.codeIn K zck "need_turns" =true)
  (zse:W.keepIn K (.ref zab)=true)
  (zsf:K.lookup zac=some ⟨zcp,zcm,.func (W.fnOf "need_each_once" "need_each_once" (aJ b4) (aI b4) (aE b4) .none zcq zcr zcs zcn zct zcu),zco⟩)
  (zsg:W.codeIn K zct "need_each_once" =true)
  (zsh:W.keepIn K (.ref zac)=true)
  (zsi:K.lookup zad=some ⟨zcy,zcv,.func (W.fnOf "rooms_spoken_of" "rooms_spoken_of" (aJ bX) (aI bX) (aE bX) .none zcz zda zdb zcw zdc zdd),zcx⟩)
  (zsj:W.codeIn K zdc "rooms_spoken_of" =true)
  (zsk:W.keepIn K (.ref zad)=true)
  (zsl:K.lookup zae=some ⟨zdh,zde,.func (W.fnOf "need_rooms" "need_rooms" (aJ c3) (aI c3) (aE c3) .none zdi zdj zdk zdf zdl zdm),zdg⟩)
  (zsm:W.codeIn K zdl "need_rooms" =true)
  (zsn:W.keepIn K (.ref zae)=true)
  (zso:K.lookup zaf=some ⟨zdq,zdn,.func (W.fnOf "added_people" "added_people" (aJ cK) (aI cK) (aE cK) .none zdr zds zdt zdo zdu zdv),zdp⟩)
  (zsp:W.codeIn K zdu "added_people" =true)
  (zsq:W.keepIn K (.ref zaf)=true)
  (zsr:K.lookup zag=some ⟨zdz,zdw,.func (W.fnOf "need_space" "need_space" (aJ c5) (aI c5) (aE c5) .none zea zeb zec zdx zed zee),zdy⟩)
  (zss:W.codeIn K zed "need_space" =true)
  (zst:W.keepIn K (.ref zag)=true)
  (zsu:K.lookup zah=some ⟨zei,zef,.func (W.fnOf "is_whole" "is_whole" (aJ d9) (aI d9) (aE d9) .none zej zek zel zeg zem zen),zeh⟩)
  (zsv:W.codeIn K zem "is_whole" =true)
  (zsw:W.keepIn K (.ref zah)=true)
  (zsx:K.lookup zai=some ⟨zer,zeo,.func (W.fnOf "is_name" "is_name" (aJ eR) (aI eR) (aE eR) .none zes zet zeu zep zev zew),zeq⟩)
  (zsy:W.codeIn K zev "is_name" =true)
  (zsz:W.keepIn K (.ref zai)=true)
  (zta:K.lookup zaj=some ⟨zfa,zex,.func (W.fnOf "need_name" "need_name" (aJ dS) (aI dS) (aE dS) .none zfb zfc zfd zey zfe zff),zez⟩)
  (ztb:W.codeIn K zfe "need_name" =true)
  (ztc:W.keepIn K (.ref zaj)=true)
  (ztd:K.lookup zak=some ⟨zfj,zfg,.func (W.fnOf "need_whole" "need_whole" (aJ cY) (aI cY) (aE cY) .none zfk zfl zfm zfh zfn zfo),zfi⟩)
  (zte:W.codeIn K zfn "need_whole" =true)
  (ztf:W.keepIn K (.ref zak)=true)
  (ztg:K.lookup zal=some ⟨zfs,zfp,.func (W.fnOf "_law_cell_at" "_law_cell_at" (aJ cH) (aI cH) (aE cH) .none zft zfu zfv zfq zfw zfx),zfr⟩)
  (zth:W.codeIn K zfw "_law_cell_at" =true)
  (zti:W.keepIn K (.ref zal)=true)
  (ztj:K.lookup zam=some ⟨zgb,zfy,.func (W.fnOf "_law_name" "_law_name" (aJ dP) (aI dP) (aE dP) .none zgc zgd zge zfz zgf zgg),zga⟩)
  (ztk:W.codeIn K zgf "_law_name" =true)
  (ztl:W.keepIn K (.ref zam)=true)
  (ztm:K.lookup zan=some ⟨zgk,zgh,.func (W.fnOf "_law_doors" "_law_doors" (aJ c6) (aI c6) (aE c6) .none zgl zgm zgn zgi zgo zgp),zgj⟩)
  (ztn:W.codeIn K zgo "_law_doors" =true)
  (zto:W.keepIn K (.ref zan)=true)
  (ztp:K.lookup zao=some ⟨zgt,zgq,.func (W.fnOf "_law_strange" "_law_strange" (aJ cN) (aI cN) (aE cN) .none zgu zgv zgw zgr zgx zgy),zgs⟩)
  (ztq:W.codeIn K zgx "_law_strange" =true)
  (ztr:W.keepIn K (.ref zao)=true)
  (zts:K.lookup zap=some ⟨zhc,zgz,.func (W.fnOf "_law_bad_numbers" "_law_bad_numbers" (aJ bR) (aI bR) (aE bR) .none zhd zhe zhf zha zhg zhh),zhb⟩)
  (ztt:W.codeIn K zhg "_law_bad_numbers" =true)
  (ztu:W.keepIn K (.ref zap)=true)
  (ztv:K.lookup zaq=some ⟨zhl,zhi,.func (W.fnOf "_law_asked" "_law_asked" (aJ cX) (aI cX) (aE cX) .none zhm zhn zho zhj zhp zhq),zhk⟩)
  (ztw:W.codeIn K zhp "_law_asked" =true)
  (ztx:W.keepIn K (.ref zaq)=true)
  (zty:K.lookup zar=some ⟨zhu,zhr,.func (W.fnOf "_law_due" "_law_due" (aJ eF) (aI eF) (aE eF) .none zhv zhw zhx zhs zhy zhz),zht⟩)
  (ztz:W.codeIn K zhy "_law_due" =true)
  (zua:W.keepIn K (.ref zar)=true)
  (zub:K.lookup zas=some ⟨zid,zia,.func (W.fnOf "law" "law" (aJ iH) (aI iH) (aE iH) .none zie zif zig zib zih zii),zic⟩)
  (zuc:W.codeIn K zih "law" =true)
  (zud:W.keepIn K (.ref zas)=true)
  (zue:K.lookup zbc=some ⟨zim,zij,.func (W.fnOf "__init__" "Twice.__init__" (aJ b5) (aI b5) (aE b5) .none zin zio ziq zik zir zis),zil⟩)
  (zuf:W.codeIn K zir "Twice.__init__" =true)
  (zug:W.keepIn K (.ref zbc)=true)
  (zuh:K.lookup zbd=some ⟨ziw,zit,.func (W.fnOf "__init__" "NoRoom.__init__" (aJ bV) (aI bV) (aE bV) .none zix ziy ziz ziu zja zjb),ziv⟩)
  (zui:W.codeIn K zja "NoRoom.__init__" =true)
  (zuj:W.keepIn K (.ref zbd)=true)
  (zuk:K.lookup zbe=some ⟨zjf,zjc,.func (W.fnOf "__init__" "House.__init__" (aJ bQ) (aI bQ) (aE bQ) (.ref zjl) zjg zjh zji zjd zjj zjk),zje⟩)
  (zul:W.codeIn K zjj "House.__init__" =true)
  (zum:W.keepIn K (.ref zbe)=true)
  (zun:K.lookup zjl=some ⟨zjn,zjo,.seq #[.int 0 zjm] zjp,zjq⟩)
  (zuo:K.lookup zbf=some ⟨zju,zjr,.func (W.fnOf "rooms" "House.rooms" (aJ dE) (aI dE) (aE dE) .none zjv zjw zjx zjs zjy zjz),zjt⟩)
  (zup:W.codeIn K zjy "House.rooms" =true)
  (zuq:W.keepIn K (.ref zbf)=true)
  (zur:K.lookup zbg=some ⟨zkd,zka,.func (W.fnOf "doors" "House.doors" (aJ dG) (aI dG) (aE dG) .none zke zkf zkg zkb zkh zki),zkc⟩)
  (zus:W.codeIn K zkh "House.doors" =true)
  (zut:W.keepIn K (.ref zbg)=true)
  (zuu:K.lookup zbh=some ⟨zkm,zkj,.func (W.fnOf "need_room" "House.need_room" (aJ cG) (aI cG) (aE cG) .none zkn zko zkp zkk zkq zkr),zkl⟩)
  (zuv:W.codeIn K zkq "House.need_room" =true)
  (zuw:W.keepIn K (.ref zbh)=true)
  (zux:K.lookup zbi=some ⟨zkv,zks,.func (W.fnOf "holds" "House.holds" (aJ dF) (aI dF) (aE dF) .none zkw zkx zky zkt zkz zla),zku⟩)
  (zuy:W.codeIn K zkz "House.holds" =true)
  (zuz:W.keepIn K (.ref zbi)=true)
  (zva:K.lookup zbj=some ⟨zle,zlb,.func (W.fnOf "found" "House.found" (aJ dA) (aI dA) (aE dA) .none zlf zlg zlh zlc zli zlj),zld⟩)
  (zvb:W.codeIn K zli "House.found" =true)
  (zvc:W.keepIn K (.ref zbj)=true)
  (zvd:K.lookup zbk=some ⟨zln,zlk,.func (W.fnOf "into" "House.into" (aJ dX) (aI dX) (aE dX) .none zlo zlp zlq zll zlr zls),zlm⟩)
  (zve:W.codeIn K zlr "House.into" =true)
  (zvf:W.keepIn K (.ref zbk)=true)
  (zvg:K.lookup zbl=some ⟨zlw,zlt,.func (W.fnOf "from_room" "House.from_room" (aJ cE) (aI cE) (aE cE) .none zlx zly zlz zlu zma zmb),zlv⟩)
  (zvh:W.codeIn K zma "House.from_room" =true)
  (zvi:W.keepIn K (.ref zbl)=true)
  (zvj:K.lookup zbm=some ⟨zmf,zmc,.func (W.fnOf "door" "House.door" (aJ d6) (aI d6) (aE d6) .none zmg zmh zmi zmd zmj zmk),zme⟩)
  (zvk:W.codeIn K zmj "House.door" =true)
  (zvl:W.keepIn K (.ref zbm)=true)
  (zvm:K.lookup zbn=some ⟨zmo,zml,.func (W.fnOf "lets" "House.lets" (aJ dZ) (aI dZ) (aE dZ) .none zmp zmq zmr zmm zms zmt),zmn⟩)
  (zvn:W.codeIn K zms "House.lets" =true)
  (zvo:W.keepIn K (.ref zbn)=true)
  (zvp:K.lookup zbo=some ⟨zmx,zmu,.func (W.fnOf "total" "House.total" (aJ dB) (aI dB) (aE dB) .none zmy zmz zna zmv znb znc),zmw⟩)
  (zvq:W.codeIn K znb "House.total" =true)
  (zvr:W.keepIn K (.ref zbo)=true)
  (zvs:K.lookup zbp=some ⟨zng,znd,.func (W.fnOf "pairs" "House.pairs" (aJ dH) (aI dH) (aE dH) .none znh zni znj zne znk znl),znf⟩)
  (zvt:W.codeIn K znk "House.pairs" =true)
  (zvu:W.keepIn K (.ref zbp)=true)
  (zvv:K.lookup zbq=some ⟨znp,znm,.func (W.fnOf "__init__" "Door.__init__" (aJ bP) (aI bP) (aE bP) (.ref znv) znq znr zns znn znt znu),zno⟩)
  (zvw:W.codeIn K znt "Door.__init__" =true)
  (zvx:W.keepIn K (.ref zbq)=true)
  (zvy:K.lookup znv=some ⟨znx,zny,.seq #[.none,.int 1 znw] znz,zoa⟩)
  (zvz:K.lookup zbr=some ⟨zoe,zob,.func (W.fnOf "lets" "Door.lets" (aJ eJ) (aI eJ) (aE eJ) .none zof zog zoh zoc zoi zoj),zod⟩)
  (zwa:W.codeIn K zoi "Door.lets" =true)
  (zwb:W.keepIn K (.ref zbr)=true)
  (zwc:K.lookup zbs=some ⟨zon,zok,.func (W.fnOf "is_exit" "Door.is_exit" (aJ cJ) (aI cJ) (aE cJ) .none zoo zop zoq zol zor zos),zom⟩)
  (zwd:W.codeIn K zor "Door.is_exit" =true)
  (zwe:W.keepIn K (.ref zbs)=true)
  (zwf:K.lookup zbt=some ⟨zow,zot,.func (W.fnOf "words" "Door.words" (aJ dY) (aI dY) (aE dY) .none zox zoy zoz zou zpa zpb),zov⟩)
  (zwg:W.codeIn K zpa "Door.words" =true)
  (zwh:W.keepIn K (.ref zbt)=true)
  (zwi:W.plainGet K zat Str.empty=true)
  (zwj:W.hasDictIn K zat=true)
  (zwk:W.plainOver K zat=true)
  (zwl:W.findIn K (.ref zat) "__setattr__" =some (some (.builtin "object.__setattr__")))
  (zwm:W.makesIn K zat=true)
  (zwn:W.keepIn K (.ref zat)=true)
  (zwo:W.findIn K (.ref zat) "__class__" =some (some (.builtin "object.__class__")))
  (zwp:W.mroIn K zat (.type "object")=some true)
  (zwq:W.findIn K (.ref zat) "first" =some none)
  (zwr:W.findIn K (.ref zat) "last" =some none)
  (zws:W.findIn K (.ref zat) "sizes" =some none)
  (zwt:W.findIn K (.ref zat) "people" =some none)
  (zwu:W.findIn K (.ref zat) "named_doors" =some none)
  (zwv:W.findIn K (.ref zat) "name" =some none)
  (zww:W.findIn K (.ref zat) "start" =some none)
  (zwx:W.findIn K (.ref zat) "end" =some none)
  (zwy:W.findIn K (.ref zat) "wide" =some none)
  (zwz:W.findIn K (.ref zat) "__init__" =some (some (.ref zbe)))
  (zxa:W.isFn K (.ref zbe)=true)
  (zxb:W.findIn K (.ref zat) "rooms" =some (some (.ref zbf)))
  (zxc:W.isFn K (.ref zbf)=true)
  (zxd:W.findIn K (.ref zat) "doors" =some (some (.ref zbg)))
  (zxe:W.isFn K (.ref zbg)=true)
  (zxf:W.findIn K (.ref zat) "need_room" =some (some (.ref zbh)))
  (zxg:W.isFn K (.ref zbh)=true)
  (zxh:W.findIn K (.ref zat) "holds" =some (some (.ref zbi)))
  (zxi:W.isFn K (.ref zbi)=true)
  (zxj:W.findIn K (.ref zat) "found" =some (some (.ref zbj)))
  (zxk:W.isFn K (.ref zbj)=true)
  (zxl:W.findIn K (.ref zat) "into" =some (some (.ref zbk)))
  (zxm:W.isFn K (.ref zbk)=true)
  (zxn:W.findIn K (.ref zat) "from_room" =some (some (.ref zbl)))
  (zxo:W.isFn K (.ref zbl)=true)
  (zxp:W.findIn K (.ref zat) "door" =some (some (.ref zbm)))
  (zxq:W.isFn K (.ref zbm)=true)
  (zxr:W.findIn K (.ref zat) "lets" =some (some (.ref zbn)))
  (zxs:W.isFn K (.ref zbn)=true)
  (zxt:W.findIn K (.ref zat) "total" =some (some (.ref zbo)))
  (zxu:W.isFn K (.ref zbo)=true)
  (zxv:W.findIn K (.ref zat) "pairs" =some (some (.ref zbp)))
  (zxw:W.isFn K (.ref zbp)=true)
  (zxx:W.plainGet K zau Str.empty=true)
  (zxy:W.hasDictIn K zau=true)
  (zxz:W.plainOver K zau=true)
  (zya:W.findIn K (.ref zau) "__setattr__" =some (some (.builtin "object.__setattr__")))
  (zyb:W.makesIn K zau=true)
  (zyc:W.keepIn K (.ref zau)=true)
  (zyd:W.findIn K (.ref zau) "__class__" =some (some (.builtin "object.__class__")))
  (zye:W.mroIn K zau (.type "object")=some true)
  (zyf:W.findIn K (.ref zau) "first" =some none)
  (zyg:W.findIn K (.ref zau) "last" =some none)
  (zyh:W.findIn K (.ref zau) "sizes" =some none)
  (zyi:W.findIn K (.ref zau) "people" =some none)
  (zyj:W.findIn K (.ref zau) "named_doors" =some none)
  (zyk:W.findIn K (.ref zau) "name" =some none)
  (zyl:W.findIn K (.ref zau) "start" =some none)
  (zym:W.findIn K (.ref zau) "end" =some none)
  (zyn:W.findIn K (.ref zau) "wide" =some none)
  (zyo:W.findIn K (.ref zau) "__init__" =some (some (.ref zbq)))
  (zyp:W.isFn K (.ref zbq)=true)
  (zyq:W.findIn K (.ref zau) "lets" =some (some (.ref zbr)))
  (zyr:W.isFn K (.ref zbr)=true)
  (zys:W.findIn K (.ref zau) "is_exit" =some (some (.ref zbs)))
  (zyt:W.isFn K (.ref zbs)=true)
  (zyu:W.findIn K (.ref zau) "words" =some (some (.ref zbt)))
  (zyv:W.isFn K (.ref zbt)=true)
  (zyw:W.specialIn K (.builtin "object.__class__") "__get__" =some (some (.builtin "getset_descriptor.__get__")))
  (zyx:W.takesIn K (.builtin "object.__class__")=some true)
  (zyy:W.excIn K zay bmV "ValueError.__new__" =true)
  (zyz:W.findIn K (.ref zay) "__getattribute__" =some (some (.builtin "BaseException.__getattribute__")))
  (zza:W.findIn K (.ref zay) "__getattr__" =some none)
  (zzb:W.findIn K (.ref zay) "__class__" =some (some (.builtin "object.__class__")))
  (zzc:W.subIn K (.ref zay) (.type "object")=some true)
  (zzd:W.subIn K (.ref zay) (.type "BaseException")=some true)
  (zze:W.clsIn K zay=some zpc)
  (zzf:W.excIn K zax bmV "ValueError.__new__" =true)
  (zzg:W.findIn K (.ref zax) "__getattribute__" =some (some (.builtin "BaseException.__getattribute__")))
  (zzh:W.findIn K (.ref zax) "__getattr__" =some none)
  (zzi:W.findIn K (.ref zax) "__class__" =some (some (.builtin "object.__class__")))
  (zzj:W.subIn K (.ref zax) (.type "object")=some true)
  (zzk:W.subIn K (.ref zax) (.type "BaseException")=some true)
  (zzl:W.clsIn K zax=some zpd)
  (zzm:o0 K zaz zbc=true)
  (zzn:W.findIn K (.ref zaz) "__getattribute__" =some (some (.builtin "BaseException.__getattribute__")))
  (zzo:W.findIn K (.ref zaz) "__getattr__" =some none)
  (zzp:W.findIn K (.ref zaz) "__class__" =some (some (.builtin "object.__class__")))
  (zzq:W.subIn K (.ref zaz) (.type "object")=some true)
  (zzr:W.subIn K (.ref zaz) (.type "BaseException")=some true)
  (zzs:W.clsIn K zaz=some zpe)
  (zzt:d4 K zaz=true)
  (zzu:W.findIn K (.ref zaz) "__setattr__" =some (some (.builtin "object.__setattr__")))
  (zzv:W.findIn K (.ref zaz) "name" =some none)
  (zzw:o0 K zba zbd=true)
  (zzx:W.findIn K (.ref zba) "__getattribute__" =some (some (.builtin "BaseException.__getattribute__")))
  (zzy:W.findIn K (.ref zba) "__getattr__" =some none)
  (zzz:W.findIn K (.ref zba) "__class__" =some (some (.builtin "object.__class__")))
  (zbaa:W.subIn K (.ref zba) (.type "object")=some true)
  (zbab:W.subIn K (.ref zba) (.type "BaseException")=some true)
  (zbac:W.clsIn K zba=some zpf)
  (zbad:d4 K zba=true)
  (zbae:W.findIn K (.ref zba) "__setattr__" =some (some (.builtin "object.__setattr__")))
  (zbaf:W.findIn K (.ref zba) "name" =some none)
  (zbag:W.clsIn K zav=some zpg)
  (zbah:W.typeIn K (.ref zav)=some (.type "type"))
  (zbai:W.subIn K (.ref zav) (.type "BaseException")=some true)
  (zbaj:W.subIn K (.ref zay) (.ref zav)=some true)
  (zbak:W.clsIn K zav=some zph)
  (zbal:W.typeIn K (.ref zav)=some (.type "type"))
  (zbam:W.subIn K (.ref zav) (.type "BaseException")=some true)
  (zban:W.subIn K (.ref zaz) (.ref zav)=some true)
  (zbao:W.clsIn K zav=some zpi)
  (zbap:W.typeIn K (.ref zav)=some (.type "type"))
  (zbaq:W.subIn K (.ref zav) (.type "BaseException")=some true)
  (zbar:W.subIn K (.ref zba) (.ref zav)=some true)
  (zbas:W.clsIn K zav=some zpj)
  (zbat:W.typeIn K (.ref zav)=some (.type "type"))
  (zbau:W.subIn K (.ref zav) (.type "BaseException")=some true)
  (zbav:W.subIn K (.ref zax) (.ref zav)=some true)
  (zbaw:W.clsIn K zaz=some zpk)
  (zbax:W.typeIn K (.ref zaz)=some (.type "type"))
  (zbay:W.subIn K (.ref zay) (.ref zaz)=some false)
  (zbaz:(Value.ref zay==Value.ref zaz)=false)
  (zbba:W.clsIn K zba=some zpl)
  (zbbb:W.typeIn K (.ref zba)=some (.type "type"))
  (zbbc:W.subIn K (.ref zay) (.ref zba)=some false)
  (zbbd:(Value.ref zay==Value.ref zba)=false)
  (zbbe:W.clsIn K zax=some zpm)
  (zbbf:W.typeIn K (.ref zax)=some (.type "type"))
  (zbbg:W.subIn K (.ref zay) (.ref zax)=some false)
  (zbbh:(Value.ref zay==Value.ref zax)=false)
  (zbbi:W.clsIn K zaw=some zpn)
  (zbbj:W.typeIn K (.ref zaw)=some (.type "type"))
  (zbbk:W.subIn K (.ref zay) (.ref zaw)=some false)
  (zbbl:(Value.ref zay==Value.ref zaw)=false)
  (zbbm:W.clsIn K zbb=some zpo)
  (zbbn:W.typeIn K (.ref zbb)=some (.type "type"))
  (zbbo:W.subIn K (.ref zay) (.ref zbb)=some false)
  (zbbp:(Value.ref zay==Value.ref zbb)=false)
  (zbbq:W.subIn K (.ref zay) (.type "ValueError")=some true)
  (zbbr:W.clsIn K zay=some zpp)
  (zbbs:W.typeIn K (.ref zay)=some (.type "type"))
  (zbbt:W.subIn K (.ref zaz) (.ref zay)=some false)
  (zbbu:(Value.ref zaz==Value.ref zay)=false)
  (zbbv:W.clsIn K zba=some zpq)
  (zbbw:W.typeIn K (.ref zba)=some (.type "type"))
  (zbbx:W.subIn K (.ref zaz) (.ref zba)=some false)
  (zbby:(Value.ref zaz==Value.ref zba)=false)
  (zbbz:W.clsIn K zax=some zpr)
  (zbca:W.typeIn K (.ref zax)=some (.type "type"))
  (zbcb:W.subIn K (.ref zaz) (.ref zax)=some false)
  (zbcc:(Value.ref zaz==Value.ref zax)=false)
  (zbcd:W.clsIn K zaw=some zps)
  (zbce:W.typeIn K (.ref zaw)=some (.type "type"))
  (zbcf:W.subIn K (.ref zaz) (.ref zaw)=some false)
  (zbcg:(Value.ref zaz==Value.ref zaw)=false)
  (zbch:W.clsIn K zbb=some zpt)
  (zbci:W.typeIn K (.ref zbb)=some (.type "type"))
  (zbcj:W.subIn K (.ref zaz) (.ref zbb)=some false)
  (zbck:(Value.ref zaz==Value.ref zbb)=false)
  (zbcl:W.subIn K (.ref zaz) (.type "ValueError")=some true)
  (zbcm:W.clsIn K zay=some zpu)
  (zbcn:W.typeIn K (.ref zay)=some (.type "type"))
  (zbco:W.subIn K (.ref zba) (.ref zay)=some false)
  (zbcp:(Value.ref zba==Value.ref zay)=false)
  (zbcq:W.clsIn K zaz=some zpv)
  (zbcr:W.typeIn K (.ref zaz)=some (.type "type"))
  (zbcs:W.subIn K (.ref zba) (.ref zaz)=some false)
  (zbct:(Value.ref zba==Value.ref zaz)=false)
  (zbcu:W.clsIn K zax=some zpw)
  (zbcv:W.typeIn K (.ref zax)=some (.type "type"))
  (zbcw:W.subIn K (.ref zba) (.ref zax)=some false)
  (zbcx:(Value.ref zba==Value.ref zax)=false)
  (zbcy:W.clsIn K zaw=some zpx)
  (zbcz:W.typeIn K (.ref zaw)=some (.type "type"))
  (zbda:W.subIn K (.ref zba) (.ref zaw)=some false)
  (zbdb:(Value.ref zba==Value.ref zaw)=false)
  (zbdc:W.clsIn K zbb=some zpy)
  (zbdd:W.typeIn K (.ref zbb)=some (.type "type"))
  (zbde:W.subIn K (.ref zba) (.ref zbb)=some false)
  (zbdf:(Value.ref zba==Value.ref zbb)=false)
  (zbdg:W.subIn K (.ref zba) (.type "ValueError")=some true)
  (zbdh:W.clsIn K zay=some zpz)
  (zbdi:W.typeIn K (.ref zay)=some (.type "type"))
  (zbdj:W.subIn K (.ref zax) (.ref zay)=some false)
  (zbdk:(Value.ref zax==Value.ref zay)=false)
  (zbdl:W.clsIn K zaz=some zqa)
  (zbdm:W.typeIn K (.ref zaz)=some (.type "type"))
  (zbdn:W.subIn K (.ref zax) (.ref zaz)=some false)
  (zbdo:(Value.ref zax==Value.ref zaz)=false)
  (zbdp:W.clsIn K zba=some zqb)
  (zbdq:W.typeIn K (.ref zba)=some (.type "type"))
  (zbdr:W.subIn K (.ref zax) (.ref zba)=some false)
  (zbds:(Value.ref zax==Value.ref zba)=false)
  (zbdt:W.clsIn K zaw=some zqc)
  (zbdu:W.typeIn K (.ref zaw)=some (.type "type"))
  (zbdv:W.subIn K (.ref zax) (.ref zaw)=some false)
  (zbdw:(Value.ref zax==Value.ref zaw)=false)
  (zbdx:W.clsIn K zbb=some zqd)
  (zbdy:W.typeIn K (.ref zbb)=some (.type "type"))
  (zbdz:W.subIn K (.ref zax) (.ref zbb)=some false)
  (zbea:(Value.ref zax==Value.ref zbb)=false)
  (zbeb:W.subIn K (.ref zax) (.type "ValueError")=some true)
  (zbec:W.nsIn K mainGlobals "ValueError" =some none)
  (zbed:W.nsIn K mainGlobals "any" =some none)
  (zbee:W.nsIn K mainGlobals "range" =some none)
  (zbef:W.nsIn K mainGlobals "dict" =some none)
  (zbeg:W.nsIn K mainGlobals "list" =some none)
  (zbeh:W.nsIn K mainGlobals "isinstance" =some none)
  (zbei:W.nsIn K mainGlobals "int" =some none)
  (zbej:W.nsIn K mainGlobals "str" =some none)
  (zbek:W.nsIn K mainGlobals "all" =some none)
  (zbel:W.nsIn K mainGlobals "len" =some none)
  (zbem:W.nsIn K mainGlobals "bool" =some none)
  (zben:W.nsIn K mainGlobals "LONGEST_NAME" =some (some (.int 8 zqe))) :
  ∃fd:FuncData,(∀(s:Shared) (v:Value),BindsTo s fd ⟨[v],[]⟩ [("_law_script",v)])/\∀base:Heap,K.In base->base.Ns mainGlobals mg->bK l.prog w K mg base CX0 20 fa fd ["_law_script"] (qR K):=by
 have e:=hfa.symm.trans (W.mg_of X G zqx);cases e;have zbeo:=aN (st:=i9) zrz zsa zsb;have zbep:=aP (K:=K) (x:= "_wall") (qual:= "_wall") (st:=i9) (kV:=zby) (doc:=zbz) (pm:=zca) (an:=zbv) (cdv:=zcb) (ct:=zcc) (ps:=["k"])<|aK 1 _ fun _=>rfl
 have zbeq:=aN (st:=cZ) zsc zsd zse;have zber:=aP (K:=K) (x:= "need_turns") (qual:= "need_turns") (st:=cZ) (kV:=zch) (doc:=zci) (pm:=zcj) (an:=zce) (cdv:=zck) (ct:=zcl) (ps:=["first","last"])<|aK 2 _ fun _ _=>rfl
 have zbes:=aN (st:=b4) zsf zsg zsh;have zbet:=aP (K:=K) (x:= "need_each_once") (qual:= "need_each_once") (st:=b4) (kV:=zcq) (doc:=zcr) (pm:=zcs) (an:=zcn) (cdv:=zct) (ct:=zcu) (ps:=["names"])<|aK 1 _ fun _=>rfl
 have zbeu:=aN (st:=bX) zsi zsj zsk;have zbev:=aP (K:=K) (x:= "rooms_spoken_of") (qual:= "rooms_spoken_of") (st:=bX) (kV:=zcz) (doc:=zda) (pm:=zdb) (an:=zcw) (cdv:=zdc) (ct:=zdd) (ps:=["doors","people"])<|aK 2 _ fun _ _=>rfl
 have zbew:=aN (st:=c3) zsl zsm zsn;have zbex:=aP (K:=K) (x:= "need_rooms") (qual:= "need_rooms") (st:=c3) (kV:=zdi) (doc:=zdj) (pm:=zdk) (an:=zdf) (cdv:=zdl) (ct:=zdm) (ps:=["names","sizes"])<|aK 2 _ fun _ _=>rfl
 have zbey:=aN (st:=cK) zso zsp zsq;have zbez:=aP (K:=K) (x:= "added_people") (qual:= "added_people") (st:=cK) (kV:=zdr) (doc:=zds) (pm:=zdt) (an:=zdo) (cdv:=zdu) (ct:=zdv) (ps:=["sizes","people"])<|aK 2 _ fun _ _=>rfl
 have zbfa:=aN (st:=c5) zsr zss zst;have zbfb:=aP (K:=K) (x:= "need_space") (qual:= "need_space") (st:=c5) (kV:=zea) (doc:=zeb) (pm:=zec) (an:=zdx) (cdv:=zed) (ct:=zee) (ps:=["sizes","people"])<|aK 2 _ fun _ _=>rfl
 have zbfc:=aN (st:=d9) zsu zsv zsw;have zbfd:=aP (K:=K) (x:= "is_whole") (qual:= "is_whole") (st:=d9) (kV:=zej) (doc:=zek) (pm:=zel) (an:=zeg) (cdv:=zem) (ct:=zen) (ps:=["thing"])<|aK 1 _ fun _=>rfl
 have zbfe:=aN (st:=eR) zsx zsy zsz;have zbff:=aP (K:=K) (x:= "is_name") (qual:= "is_name") (st:=eR) (kV:=zes) (doc:=zet) (pm:=zeu) (an:=zep) (cdv:=zev) (ct:=zew) (ps:=["thing"])<|aK 1 _ fun _=>rfl
 have zbfg:=aN (st:=dS) zta ztb ztc;have zbfh:=aP (K:=K) (x:= "need_name") (qual:= "need_name") (st:=dS) (kV:=zfb) (doc:=zfc) (pm:=zfd) (an:=zey) (cdv:=zfe) (ct:=zff) (ps:=["part","thing"])<|aK 2 _ fun _ _=>rfl
 have zbfi:=aN (st:=cY) ztd zte ztf;have zbfj:=aP (K:=K) (x:= "need_whole") (qual:= "need_whole") (st:=cY) (kV:=zfk) (doc:=zfl) (pm:=zfm) (an:=zfh) (cdv:=zfn) (ct:=zfo) (ps:=["part","thing","least"])<|aK 3 _ fun _ _ _=>rfl
 have zbfk:=aN (st:=cH) ztg zth zti;have zbfl:=aP (K:=K) (x:= "_law_cell_at") (qual:= "_law_cell_at") (st:=cH) (kV:=zft) (doc:=zfu) (pm:=zfv) (an:=zfq) (cdv:=zfw) (ct:=zfx) (ps:=["_law_script","_law_k"])<|aK 2 _ fun _ _=>rfl
 have zbfm:=aN (st:=dP) ztj ztk ztl;have zbfn:=aP (K:=K) (x:= "_law_name") (qual:= "_law_name") (st:=dP) (kV:=zgc) (doc:=zgd) (pm:=zge) (an:=zfz) (cdv:=zgf) (ct:=zgg) (ps:=["_law_k","_law_cell"])<|aK 2 _ fun _ _=>rfl
 have zbfo:=aN (st:=c6) ztm ztn zto;have zbfp:=aP (K:=K) (x:= "_law_doors") (qual:= "_law_doors") (st:=c6) (kV:=zgl) (doc:=zgm) (pm:=zgn) (an:=zgi) (cdv:=zgo) (ct:=zgp) (ps:=["_law_rooms","_law_many","_law_cell"])<|aK 3 _ fun _ _ _=>rfl
 have zbfq:=aN (st:=cN) ztp ztq ztr;have zbfr:=aP (K:=K) (x:= "_law_strange") (qual:= "_law_strange") (st:=cN) (kV:=zgu) (doc:=zgv) (pm:=zgw) (an:=zgr) (cdv:=zgx) (ct:=zgy) (ps:=["_law_doors_here","_law_cell"])<|aK 2 _ fun _ _=>rfl
 have zbfs:=aN (st:=bR) zts ztt ztu;have zbft:=aP (K:=K) (x:= "_law_bad_numbers") (qual:= "_law_bad_numbers") (st:=bR) (kV:=zhd) (doc:=zhe) (pm:=zhf) (an:=zha) (cdv:=zhg) (ct:=zhh) (ps:=["_law_rooms","_law_people","_law_cell"])<|aK 3 _ fun _ _ _=>rfl
 have zbfu:=aN (st:=cX) ztv ztw ztx;have zbfv:=aP (K:=K) (x:= "_law_asked") (qual:= "_law_asked") (st:=cX) (kV:=zhm) (doc:=zhn) (pm:=zho) (an:=zhj) (cdv:=zhp) (ct:=zhq) (ps:=["_law_rooms","_law_doors_here","_law_people","_law_last","_law_first"])<|aK 5 _ fun _ _ _ _ _=>rfl
 have zbfw:=aN (st:=eF) zty ztz zua;have zbfx:=aP (K:=K) (x:= "_law_due") (qual:= "_law_due") (st:=eF) (kV:=zhv) (doc:=zhw) (pm:=zhx) (an:=zhs) (cdv:=zhy) (ct:=zhz) (ps:=["_law_kind","_law_name_here"])<|aK 2 _ fun _ _=>rfl
 have zbfy:=aN (st:=iH) zub zuc zud;have zbfz:=aP (K:=K) (x:= "law") (qual:= "law") (st:=iH) (kV:=zie) (doc:=zif) (pm:=zig) (an:=zib) (cdv:=zih) (ct:=zii) (ps:=["_law_script"])<|aK 1 _ fun _=>rfl
 have zbga:=aN (st:=b5) zue zuf zug;have zbgb:=aP (K:=K) (x:= "__init__") (qual:= "Twice.__init__") (st:=b5) (kV:=zin) (doc:=zio) (pm:=ziq) (an:=zik) (cdv:=zir) (ct:=zis) (ps:=["self","name"])<|aK 2 _ fun _ _=>rfl
 have zbgc:=aN (st:=bV) zuh zui zuj;have zbgd:=aP (K:=K) (x:= "__init__") (qual:= "NoRoom.__init__") (st:=bV) (kV:=zix) (doc:=ziy) (pm:=ziz) (an:=ziu) (cdv:=zja) (ct:=zjb) (ps:=["self","name"])<|aK 2 _ fun _ _=>rfl
 have zbge:=aN (st:=bQ) zuk zul zum;have zbgf:=kB 6 (K:=K) (x:= "__init__") (qual:= "House.__init__") (st:=bQ) (kV:=zjg) (doc:=zjh) (pm:=zji) (an:=zjd) (cdv:=zjj) (ct:=zjk) (ps:=["self","rooms","doors","people","last","first"]) (ds:=[]) zun<|aK 6 _ fun _ _ _ _ _ _=>⟨_,rfl,rfl⟩
 have zbgg:=kB 5 (K:=K) (x:= "__init__") (qual:= "House.__init__") (st:=bQ) (kV:=zjg) (doc:=zjh) (pm:=zji) (an:=zjd) (cdv:=zjj) (ct:=zjk) (ps:=["self","rooms","doors","people","last","first"]) (ds:=[.int 0 zjm]) zun<|aK 5 _ fun _ _ _ _ _=>⟨_,rfl,rfl⟩
 have zbgh:=aN (st:=dE) zuo zup zuq;have zbgi:=aP (K:=K) (x:= "rooms") (qual:= "House.rooms") (st:=dE) (kV:=zjv) (doc:=zjw) (pm:=zjx) (an:=zjs) (cdv:=zjy) (ct:=zjz) (ps:=["self"])<|aK 1 _ fun _=>rfl
 have zbgj:=aN (st:=dG) zur zus zut;have zbgk:=aP (K:=K) (x:= "doors") (qual:= "House.doors") (st:=dG) (kV:=zke) (doc:=zkf) (pm:=zkg) (an:=zkb) (cdv:=zkh) (ct:=zki) (ps:=["self"])<|aK 1 _ fun _=>rfl
 have zbgl:=aN (st:=cG) zuu zuv zuw;have zbgm:=aP (K:=K) (x:= "need_room") (qual:= "House.need_room") (st:=cG) (kV:=zkn) (doc:=zko) (pm:=zkp) (an:=zkk) (cdv:=zkq) (ct:=zkr) (ps:=["self","room"])<|aK 2 _ fun _ _=>rfl
 have zbgn:=aN (st:=dF) zux zuy zuz;have zbgo:=aP (K:=K) (x:= "holds") (qual:= "House.holds") (st:=dF) (kV:=zkw) (doc:=zkx) (pm:=zky) (an:=zkt) (cdv:=zkz) (ct:=zla) (ps:=["self","room"])<|aK 2 _ fun _ _=>rfl
 have zbgp:=aN (st:=dA) zva zvb zvc;have zbgq:=aP (K:=K) (x:= "found") (qual:= "House.found") (st:=dA) (kV:=zlf) (doc:=zlg) (pm:=zlh) (an:=zlc) (cdv:=zli) (ct:=zlj) (ps:=["self","room"])<|aK 2 _ fun _ _=>rfl
 have zbgr:=aN (st:=dX) zvd zve zvf;have zbgs:=aP (K:=K) (x:= "into") (qual:= "House.into") (st:=dX) (kV:=zlo) (doc:=zlp) (pm:=zlq) (an:=zll) (cdv:=zlr) (ct:=zls) (ps:=["self","room"])<|aK 2 _ fun _ _=>rfl
 have zbgt:=aN (st:=cE) zvg zvh zvi;have zbgu:=aP (K:=K) (x:= "from_room") (qual:= "House.from_room") (st:=cE) (kV:=zlx) (doc:=zly) (pm:=zlz) (an:=zlu) (cdv:=zma) (ct:=zmb) (ps:=["self","room"])<|aK 2 _ fun _ _=>rfl
 have zbgv:=aN (st:=d6) zvj zvk zvl;have zbgw:=aP (K:=K) (x:= "door") (qual:= "House.door") (st:=d6) (kV:=zmg) (doc:=zmh) (pm:=zmi) (an:=zmd) (cdv:=zmj) (ct:=zmk) (ps:=["self","name"])<|aK 2 _ fun _ _=>rfl
 have zbgx:=aN (st:=dZ) zvm zvn zvo;have zbgy:=aP (K:=K) (x:= "lets") (qual:= "House.lets") (st:=dZ) (kV:=zmp) (doc:=zmq) (pm:=zmr) (an:=zmm) (cdv:=zms) (ct:=zmt) (ps:=["self","name","turn"])<|aK 3 _ fun _ _ _=>rfl
 have zbgz:=aN (st:=dB) zvp zvq zvr;have zbha:=aP (K:=K) (x:= "total") (qual:= "House.total") (st:=dB) (kV:=zmy) (doc:=zmz) (pm:=zna) (an:=zmv) (cdv:=znb) (ct:=znc) (ps:=["self"])<|aK 1 _ fun _=>rfl
 have zbhb:=aN (st:=dH) zvs zvt zvu;have zbhc:=aP (K:=K) (x:= "pairs") (qual:= "House.pairs") (st:=dH) (kV:=znh) (doc:=zni) (pm:=znj) (an:=zne) (cdv:=znk) (ct:=znl) (ps:=["self"])<|aK 1 _ fun _=>rfl
 have zbhd:=aN (st:=bP) zvv zvw zvx;have zbhe:=kB 5 (K:=K) (x:= "__init__") (qual:= "Door.__init__") (st:=bP) (kV:=znq) (doc:=znr) (pm:=zns) (an:=znn) (cdv:=znt) (ct:=znu) (ps:=["self","name","start","end","wide"]) (ds:=[]) zvy<|aK 5 _ fun _ _ _ _ _=>⟨_,rfl,rfl⟩
 have zbhf:=kB 4 (K:=K) (x:= "__init__") (qual:= "Door.__init__") (st:=bP) (kV:=znq) (doc:=znr) (pm:=zns) (an:=znn) (cdv:=znt) (ct:=znu) (ps:=["self","name","start","end","wide"]) (ds:=[.int 1 znw]) zvy<|aK 4 _ fun _ _ _ _=>⟨_,rfl,rfl⟩
 have zbhg:=kB 3 (K:=K) (x:= "__init__") (qual:= "Door.__init__") (st:=bP) (kV:=znq) (doc:=znr) (pm:=zns) (an:=znn) (cdv:=znt) (ct:=znu) (ps:=["self","name","start","end","wide"]) (ds:=[.none,.int 1 znw]) zvy<|aK 3 _ fun _ _ _=>⟨_,rfl,rfl⟩
 have zbhh:=aN (st:=eJ) zvz zwa zwb;have zbhi:=aP (K:=K) (x:= "lets") (qual:= "Door.lets") (st:=eJ) (kV:=zof) (doc:=zog) (pm:=zoh) (an:=zoc) (cdv:=zoi) (ct:=zoj) (ps:=["self","turn"])<|aK 2 _ fun _ _=>rfl
 have zbhj:=aN (st:=cJ) zwc zwd zwe;have zbhk:=aP (K:=K) (x:= "is_exit") (qual:= "Door.is_exit") (st:=cJ) (kV:=zoo) (doc:=zop) (pm:=zoq) (an:=zol) (cdv:=zor) (ct:=zos) (ps:=["self"])<|aK 1 _ fun _=>rfl
 have zbhl:=aN (st:=dY) zwf zwg zwh;have zbhm:=aP (K:=K) (x:= "words") (qual:= "Door.words") (st:=dY) (kV:=zox) (doc:=zoy) (pm:=zoz) (an:=zou) (cdv:=zpa) (ct:=zpb) (ps:=["self"])<|aK 1 _ fun _=>rfl
 have zbhn:ICls K zat:=⟨⟨zwi,zwj,zwk,zwl⟩,zwo,zyw,zyx,zwp⟩
 have zbho:ICls K zau:=⟨⟨zxx,zxy,zxz,zya⟩,zyd,zyw,zyx,zye⟩
 exact⟨W.fnOf "law" "law" (aJ iH) (aI iH) (aE iH) .none zie zif zig zib zih zii,fun s v=> .of_eq rfl,fun base _ _=>NN ⟨zaa,_,zbeo,zbep,
  zab,_,zbeq,zber,
  zac,_,zbes,zbet,
  zad,_,zbeu,zbev,
  zae,_,zbew,zbex,
  zaf,_,zbey,zbez,
  zag,_,zbfa,zbfb,
  zah,_,zbfc,zbfd,
  zai,_,zbfe,zbff,
  zaj,_,zbfg,zbfh,
  zak,_,zbfi,zbfj,
  zal,_,zbfk,zbfl,
  zam,_,zbfm,zbfn,
  zan,_,zbfo,zbfp,
  zao,_,zbfq,zbfr,
  zap,_,zbfs,zbft,
  zaq,_,zbfu,zbfv,
  zar,_,zbfw,zbfx,
  fa,_,zbfy,zbfz,
  zbc,_,zbga,zbgb,
  zbd,_,zbgc,zbgd,
  zbe,_,zbge,zbgf,
  zbf,_,zbgh,zbgi,
  zbg,_,zbgj,zbgk,
  zbh,_,zbgl,zbgm,
  zbi,_,zbgn,zbgo,
  zbj,_,zbgp,zbgq,
  zbk,_,zbgr,zbgs,
  zbl,_,zbgt,zbgu,
  zbm,_,zbgv,zbgw,
  zbn,_,zbgx,zbgy,
  zbo,_,zbgz,zbha,
  zbp,_,zbhb,zbhc,
  zbq,_,zbhd,zbhe,
  zbr,_,zbhh,zbhi,
  zbs,_,zbhj,zbhk,
  zbt,_,zbhl,zbhm,
  W.mg_of X G zqf,
  W.mg_of X G zqg,
  W.mg_of X G zqh,
  W.mg_of X G zqi,
  W.mg_of X G zqj,
  W.mg_of X G zqk,
  W.mg_of X G zql,
  W.mg_of X G zqm,
  W.mg_of X G zqn,
  W.mg_of X G zqo,
  W.mg_of X G zqp,
  W.mg_of X G zqq,
  W.mg_of X G zqr,
  W.mg_of X G zqs,
  W.mg_of X G zqt,
  W.mg_of X G zqu,
  W.mg_of X G zqv,
  W.mg_of X G zqw,
  W.mg_of X G zqx,
  ⟨_,.cons ⟨_,rfl⟩ (.nil),zbgg⟩,
  ⟨_,.cons ⟨_,rfl⟩ (.nil),zbhf⟩,
  ⟨_,.cons rfl (.cons ⟨_,rfl⟩ (.nil)),zbhg⟩,
  zat,W.mg_of X G zqy,
  zau,W.mg_of X G zqz,
  zav,W.mg_of X G zra,
  zaw,W.mg_of X G zrb,
  zax,W.mg_of X G zrc,
  zay,W.mg_of X G zrd,
  zaz,W.mg_of X G zre,
  zba,W.mg_of X G zrf,
  zbb,W.mg_of X G zrg,
  ⟨zbhn,zwq,zwr,zws,zwt,zwu,zwv,zww,zwx,zwy⟩,
  ⟨zwm,zwz,zxa,zwn⟩,
  ⟨zxb,zxc,zuq⟩,
  ⟨zxd,zxe,zut⟩,
  ⟨zxf,zxg,zuw⟩,
  ⟨zxh,zxi,zuz⟩,
  ⟨zxj,zxk,zvc⟩,
  ⟨zxl,zxm,zvf⟩,
  ⟨zxn,zxo,zvi⟩,
  ⟨zxp,zxq,zvl⟩,
  ⟨zxr,zxs,zvo⟩,
  ⟨zxt,zxu,zvr⟩,
  ⟨zxv,zxw,zvu⟩,
  ⟨zbho,zyf,zyg,zyh,zyi,zyj,zyk,zyl,zym,zyn⟩,
  ⟨zyb,zyo,zyp,zyc⟩,
  ⟨zyq,zyr,zwb⟩,
  ⟨zys,zyt,zwe⟩,
  ⟨zyu,zyv,zwh⟩,
  zyy,⟨zyz,zza,zzb,zzc,zzd,_,zze⟩,
  zzf,⟨zzg,zzh,zzi,zzj,zzk,_,zzl⟩,
  zzm,⟨⟨zzn,zzo,zzp,zzq,zzr,_,zzs⟩,zzt,zzu⟩,zzv,
  zzw,⟨⟨zzx,zzy,zzz,zbaa,zbab,_,zbac⟩,zbad,zbae⟩,zbaf,
  rB zbag zbah zbai zbaj,
  rB zbak zbal zbam zban,
  rB zbao zbap zbaq zbar,
  rB zbas zbat zbau zbav,
  kM,
  b7 zbaz zbaw zbax zbay,
  b7 zbbd zbba zbbb zbbc,
  b7 zbbh zbbe zbbf zbbg,
  b7 zbbl zbbi zbbj zbbk,
  b7 zbbp zbbm zbbn zbbo,
  qO dL zbbq,
  b7 zbbu zbbr zbbs zbbt,
  kM,
  b7 zbby zbbv zbbw zbbx,
  b7 zbcc zbbz zbca zbcb,
  b7 zbcg zbcd zbce zbcf,
  b7 zbck zbch zbci zbcj,
  qO dL zbcl,
  b7 zbcp zbcm zbcn zbco,
  b7 zbct zbcq zbcr zbcs,
  kM,
  b7 zbcx zbcu zbcv zbcw,
  b7 zbdb zbcy zbcz zbda,
  b7 zbdf zbdc zbdd zbde,
  qO dL zbdg,
  b7 zbdk zbdh zbdi zbdj,
  b7 zbdo zbdl zbdm zbdn,
  b7 zbds zbdp zbdq zbdr,
  kM,
  b7 zbdw zbdt zbdu zbdv,
  b7 zbea zbdx zbdy zbdz,
  qO dL zbeb,
  W.mg_none_of X G zbec,
  W.mg_none_of X G zbed,
  W.mg_none_of X G zbee,
  W.mg_none_of X G zbef,
  W.mg_none_of X G zbeg,
  W.mg_none_of X G zbeh,
  W.mg_none_of X G zbei,
  W.mg_none_of X G zbej,
  W.mg_none_of X G zbek,
  W.mg_none_of X G zbel,
  W.mg_none_of X G zbem,
  ⟨zqe,W.mg_of X G zben⟩⟩⟩
theorem walk {l:W.OpenLaw}{q:Program}{loose:List Str}{XP:(Str->Option Value)->Heap->Prop}{YP:World->Heap->Prop}{d:DefRec}{K:Params->W.Frag} (hn:l.most=some 63) (hdf:d.params.defaults=[])
  (hY:∀(w:World) (h:Heap),YP w h->(K w.params).In h)
  (F:∀(w:World) (mg:Str->Option Value) (fa:Addr) (h:Heap),(K w.params).In h->h.Ns mainGlobals mg->mg d.name=some (.ref fa) →
   ∃fd:FuncData,(∀(s:Shared) (u:Value),BindsTo s fd ⟨[u],[]⟩ [("_law_script",u)])/\∀base:Heap,(K w.params).In base->base.Ns mainGlobals mg->bK l.prog w (K w.params) mg base CX0 20 fa fd ["_law_script"] (qR (K w.params))) :
  W.WalkO q loose XP YP l.row.toRowW d [] (fun f vs=>PySem.call f vs) :=
 L2.walk_of (n:=63) (k:=20) (x:= "_law_script") (CX:=fun _=>CX0) (sp:=fun w=>qR (K w.params)) hn (by decide) hdf ⟨rfl,by decide,by decide⟩ hY F (fun _ _ a ns hl _ hS=>⟨a,ns,rfl,hS,hl,fun _=>rfl⟩) fun _ _ _ _ _ z=>z
end Prf
open PySem PySem.W PyProof.Rows
set_option maxRecDepth 100000 in
set_option maxHeartbeats 0 in
theorem PySem.Challenge.cw_firstout_k12_houses_refused_holds : PySem.Challenge.rw_firstout_k12_houses_refused.Holds := by
 w_on;o_law;k_head;(case hw=>w_witness2)
 k_fill
 refine Prf.walk (l:=PySem.Challenge.rw_firstout_k12_houses_refused) rfl rfl (fun w h Y=>PySem.W.kIn_of Y) ?F
 case F =>
  intro w mg fa h KX G hmg;refine' Prf.all_mk KX G hmg ?zqf ?zqg ?zqh ?zqi ?zqj ?zqk ?zql ?zqm ?zqn ?zqo ?zqp ?zqq ?zqr ?zqs ?zqt ?zqu ?zqv ?zqw ?zqx ?zqy ?zqz ?zra ?zrb ?zrc ?zrd ?zre ?zrf ?zrg ?zrh ?zri ?zrj ?zrk ?zrl ?zrm ?zrn ?zro ?zrp ?zrq ?zrr ?zrs ?zrt ?zru ?zrv ?zrw ?zrx ?zry ?zrz ?zsa ?zsb ?zsc ?zsd ?zse ?zsf ?zsg ?zsh ?zsi ?zsj ?zsk ?zsl ?zsm ?zsn ?zso ?zsp ?zsq ?zsr ?zss ?zst ?zsu ?zsv ?zsw ?zsx ?zsy ?zsz ?zta ?ztb ?ztc ?ztd ?zte ?ztf ?ztg ?zth ?zti ?ztj ?ztk ?ztl ?ztm ?ztn ?zto ?ztp ?ztq ?ztr ?zts ?ztt ?ztu ?ztv ?ztw ?ztx ?zty ?ztz ?zua ?zub ?zuc ?zud ?zue ?zuf ?zug ?zuh ?zui ?zuj ?zuk ?zul ?zum ?zun ?zuo ?zup ?zuq ?zur ?zus ?zut ?zuu ?zuv ?zuw ?zux ?zuy ?zuz ?zva ?zvb ?zvc ?zvd ?zve ?zvf ?zvg ?zvh ?zvi ?zvj ?zvk ?zvl ?zvm ?zvn ?zvo ?zvp ?zvq ?zvr ?zvs ?zvt ?zvu ?zvv ?zvw ?zvx ?zvy ?zvz ?zwa ?zwb ?zwc ?zwd ?zwe ?zwf ?zwg ?zwh ?zwi ?zwj ?zwk ?zwl ?zwm ?zwn ?zwo ?zwp ?zwq ?zwr ?zws ?zwt ?zwu ?zwv ?zww ?zwx ?zwy ?zwz ?zxa ?zxb ?zxc ?zxd ?zxe ?zxf ?zxg ?zxh ?zxi ?zxj ?zxk ?zxl ?zxm ?zxn ?zxo ?zxp ?zxq ?zxr ?zxs ?zxt ?zxu ?zxv ?zxw ?zxx ?zxy ?zxz ?zya ?zyb ?zyc ?zyd ?zye ?zyf ?zyg ?zyh ?zyi ?zyj ?zyk ?zyl ?zym ?zyn ?zyo ?zyp ?zyq ?zyr ?zys ?zyt ?zyu ?zyv ?zyw ?zyx ?zyy ?zyz ?zza ?zzb ?zzc ?zzd ?zze ?zzf ?zzg ?zzh ?zzi ?zzj ?zzk ?zzl ?zzm ?zzn ?zzo ?zzp ?zzq ?zzr ?zzs ?zzt ?zzu ?zzv ?zzw ?zzx ?zzy ?zzz ?zbaa ?zbab ?zbac ?zbad ?zbae ?zbaf ?zbag ?zbah ?zbai ?zbaj ?zbak ?zbal ?zbam ?zban ?zbao ?zbap ?zbaq ?zbar ?zbas ?zbat ?zbau ?zbav ?zbaw ?zbax ?zbay ?zbaz ?zbba ?zbbb ?zbbc ?zbbd ?zbbe ?zbbf ?zbbg ?zbbh ?zbbi ?zbbj ?zbbk ?zbbl ?zbbm ?zbbn ?zbbo ?zbbp ?zbbq ?zbbr ?zbbs ?zbbt ?zbbu ?zbbv ?zbbw ?zbbx ?zbby ?zbbz ?zbca ?zbcb ?zbcc ?zbcd ?zbce ?zbcf ?zbcg ?zbch ?zbci ?zbcj ?zbck ?zbcl ?zbcm ?zbcn ?zbco ?zbcp ?zbcq ?zbcr ?zbcs ?zbct ?zbcu ?zbcv ?zbcw ?zbcx ?zbcy ?zbcz ?zbda ?zbdb ?zbdc ?zbdd ?zbde ?zbdf ?zbdg ?zbdh ?zbdi ?zbdj ?zbdk ?zbdl ?zbdm ?zbdn ?zbdo ?zbdp ?zbdq ?zbdr ?zbds ?zbdt ?zbdu ?zbdv ?zbdw ?zbdx ?zbdy ?zbdz ?zbea ?zbeb ?zbec ?zbed ?zbee ?zbef ?zbeg ?zbeh ?zbei ?zbej ?zbek ?zbel ?zbem ?zben
  (case zqf|zqg|zqh|zqi|zqj|zqk|zql|zqm|zqn|zqo|zqp|zqq|zqr|zqs|zqt|zqu|zqv|zqw|zqx|zqy|zqz|zra|zrb|zrc|zrd|zre|zrf|zrg|zrh|zri|zrj|zrk|zrl|zrm|zrn|zro|zrp|zrq|zrr|zrs|zrt|zru|zrv|zrw|zrx|zry|zrz|zsa|zsb|zsc|zsd|zse|zsf|zsg|zsh|zsi|zsj|zsk|zsl|zsm|zsn|zso|zsp|zsq|zsr|zss|zst|zsu|zsv|zsw|zsx|zsy|zsz|zta|ztb|ztc|ztd|zte|ztf|ztg|zth|zti|ztj|ztk|ztl|ztm|ztn|zto|ztp|ztq|ztr|zts|ztt|ztu|ztv|ztw|ztx|zty|ztz|zua|zub|zuc|zud|zue|zuf|zug|zuh|zui|zuj|zuk|zul|zum|zun|zuo|zup|zuq|zur|zus|zut|zuu|zuv|zuw|zux|zuy|zuz|zva|zvb|zvc|zvd|zve|zvf|zvg|zvh|zvi|zvj|zvk|zvl|zvm|zvn|zvo|zvp|zvq|zvr|zvs|zvt|zvu|zvv|zvw|zvx|zvy|zvz|zwa|zwb|zwc|zwd|zwe|zwf|zwg|zwh|zwi|zwj|zwk|zwl|zwm|zwn|zwo|zwp|zwq|zwr|zws|zwt|zwu|zwv|zww|zwx|zwy|zwz|zxa|zxb|zxc|zxd|zxe|zxf|zxg|zxh|zxi|zxj|zxk|zxl|zxm|zxn|zxo|zxp|zxq|zxr|zxs|zxt|zxu|zxv|zxw|zxx|zxy|zxz|zya|zyb|zyc|zyd|zye|zyf|zyg|zyh|zyi|zyj|zyk|zyl|zym|zyn|zyo|zyp|zyq|zyr|zys|zyt|zyu|zyv|zyw|zyx=>k_is)
  (case zyy=>k_exc)
  (case zyz|zza|zzb|zzc|zzd|zze=>k_is)
  (case zzf=>k_exc)
  (case zzg|zzh|zzi|zzj|zzk|zzl=>k_is)
  (case zzm=>kernel_rfl)
  (case zzn|zzo|zzp|zzq|zzr|zzs=>k_is)
  (case zzt=>kernel_rfl)
  (case zzu|zzv=>k_is)
  (case zzw=>kernel_rfl)
  (case zzx|zzy|zzz|zbaa|zbab|zbac=>k_is)
  (case zbad=>kernel_rfl)
  (case zbae|zbaf|zbag|zbah|zbai|zbaj|zbak|zbal|zbam|zban|zbao|zbap|zbaq|zbar|zbas|zbat|zbau|zbav|zbaw|zbax|zbay=>k_is)
  (case zbaz=>rfl)
  (case zbba|zbbb|zbbc=>k_is)
  (case zbbd=>rfl)
  (case zbbe|zbbf|zbbg=>k_is)
  (case zbbh=>rfl)
  (case zbbi|zbbj|zbbk=>k_is)
  (case zbbl=>rfl)
  (case zbbm|zbbn|zbbo=>k_is)
  (case zbbp=>rfl)
  (case zbbq|zbbr|zbbs|zbbt=>k_is)
  (case zbbu=>rfl)
  (case zbbv|zbbw|zbbx=>k_is)
  (case zbby=>rfl)
  (case zbbz|zbca|zbcb=>k_is)
  (case zbcc=>rfl)
  (case zbcd|zbce|zbcf=>k_is)
  (case zbcg=>rfl)
  (case zbch|zbci|zbcj=>k_is)
  (case zbck=>rfl)
  (case zbcl|zbcm|zbcn|zbco=>k_is)
  (case zbcp=>rfl)
  (case zbcq|zbcr|zbcs=>k_is)
  (case zbct=>rfl)
  (case zbcu|zbcv|zbcw=>k_is)
  (case zbcx=>rfl)
  (case zbcy|zbcz|zbda=>k_is)
  (case zbdb=>rfl)
  (case zbdc|zbdd|zbde=>k_is)
  (case zbdf=>rfl)
  (case zbdg|zbdh|zbdi|zbdj=>k_is)
  (case zbdk=>rfl)
  (case zbdl|zbdm|zbdn=>k_is)
  (case zbdo=>rfl)
  (case zbdp|zbdq|zbdr=>k_is)
  (case zbds=>rfl)
  (case zbdt|zbdu|zbdv=>k_is)
  (case zbdw=>rfl)
  (case zbdx|zbdy|zbdz=>k_is)
  (case zbea=>rfl)
  (case zbeb|zbec|zbed|zbee|zbef|zbeg|zbeh|zbei|zbej|zbek|zbel|zbem|zben=>k_is)
