import PyProof.Rows.All
import Wide.All
import OpenK.AllK
import Wide.FinOn
import Lean
import PyProof.EqAt
import PyProof.EqKinds
import PyProof.TupleCall
import KE.KSortTup
import PyProof.Rows.DictUnroll
import PyProof.DictItems
import KE.LcSums
import PyProof.IsiH_list
import KE.KDictOf
import PyProof.DictWalks
import PyProof.ListRange
import PyProof.EnumStmt
import PyProof.EnumMake
import KE.KDictSum
import PyProof.StrOps2
import PyProof.Rows.CallKwBuiltin
import KE.KRevSl
import PyProof.Rows.SetFrom
import PySem.Challenge.RW_firstout_k14_whole_whatever_the_order
namespace PySem.W.Fast
def tw12382277912722725248:=()
def tw10212636118715317664:=()
def tw17282989709180021472:=()
def tw3897445373303364130:=()
def tw14203013646054399594:=()
def tw1958930354344701324:=()
def tw7790663529286220780:=()
def tw461819000878010189:=()
def tw10582198104928037902:=()
def tw2517620770716943375:=()
def tw4262612984444323119:=()
def tw8905260805154394196:=()
def tw14288549467127941236:=()
def tw9946340410153725909:=()
def tw16394955482989624316:=()
def tw14539768198196406781:=()
def tw10809005344847137246:=()
def tw16488022522074617199:=()
def tw12897283640809896681:=()
def tw9705168220134733897:=()
def tw3716648019089746958:=()
def tw9194809004233854464:=()
def tw13569257074484190647:=()
def tw18321694949177482335:=()
def tw16524305471590846659:=()
def tw14362353686704196287:=()
def tw11272775951690294186:=()
def tw5518971273998164647:=()
def tw5297618169736152211:=()
def tw17273475534752897034:=()
def tw5172681891882589416:=()
def tw13311970783783385880:=()
def tw6561150059912690688:=()
def tw4581391120390669114:=()
def tw3150898164896586337:=()
def tw759427302616168770:=()
def tw8807079560422111691:=()
def tw17363669260173153554:=()
def tw14232231994561077817:=()
def tw9437827550566818036:=()
def tw5407641143400176283:=()
def tw947344498785978182:=()
def tw1770143523726853840:=()
def tw12517138284104322177:=()
def tw14756453671345517583:=()
def tw3418494533679015129:=()
def tw2517109508859417136:=()
def tw10857684785377670612:=()
def tw15433800132196175495:=()
def tw5355692644127140800:=()
def tw6526505159950852841:=()
def tw13910532558837831995:=()
def tw525459949781755940:=()
def tw195922841705706178:=()
def tw13113580453430483876:=()
def tw4543058341382005045:=()
def tw7738026956889185877:=()
def tw17210397273797172144:=()
def tw13940644633150851118:=()
def tw2082295933723935420:=()
def tw618940690796132585:=()
def tw5553781516097126357:=()
def tw18311523712150519253:=()
def tw8101109957607868824:=()
def tw905979858919249080:=()
def tw11785262890091870446:=()
def tw16013594588208161804:=()
def tw5284680775914508106:=()
def tw4125759326123967330:=()
def tw10849616778106891363:=()
def tw2081031412434891266:=()
def tw9019100011854224170:=()
def tw7655733453805208711:=()
def tw7902633715034291586:=()
def tw1369260869731947892:=()
def tw9661367217610181472:=()
def tw8601261035723874591:=()
def tw3252872830528322789:=()
def tw16658600583041631242:=()
def tw3179802321504913390:=()
def tw12145956736942116538:=()
def tw346305018993132804:=()
def tw4006455611536633968:=()
def tw5597300315134703799:=()
def tw4238873467480527878:=()
def tw7446337810609461038:=()
def tw17068997525028381759:=()
def tw1149832868518617806:=()
def tw12846444879606516118:=()
def tw14700518517586943083:=()
def tw9842555995263522205:=()
def tw3294236152502940607:=()
def tw2822785842594529354:=()
def tw9217497073382272349:=()
def tw10469339138388985918:=()
def tw7924831548993328156:=()
def tw964778004742647933:=()
def tw16466460357743115883:=()
def tw6096622815703187449:=()
def tw11601947829102072817:=()
def tw1836776338907374325:=()
def tw6581628835689751177:=()
def tw6700110445578869576:=()
def tw5815276947032074408:=()
def tw1796257977329876719:=()
def tw11212726911684531597:=()
def tw6046513953185757343:=()
def tw3619161189977577603:=()
def tw10941343553703550569:=()
def tw732428989008009915:=()
def tw1536477985577255090:=()
def tw16421881368666986662:=()
def tw4270202398715863324:=()
def tw16603059733945353719:=()
def tw105753302197462334:=()
def tw6762332093919278953:=()
def tw11616769102546207401:=()
def tw10727496450527401721:=()
def tw6676776900499909760:=()
def tw3427013798643056839:=()
end PySem.W.Fast
set_option compiler.extract_closed false
local macro_rules| `(tactic| walk_at"oi")=> `(tactic| first|exact Or.inl rfl|exact Or.inr rfl)
set_option Elab.async false
set_option linter.all false
set_option maxRecDepth 100000
namespace L2
open PySem PySem.Spec PyProof.Rows
abbrev Key:=Sum Int Str
def qK:Key->Value->Bool
 | .inl k,v=>Value.isInt k v
 | .inr x,v=>Value.isStrOf x v
def U0 (w:World):Key->Int
 | .inl k=>hashInt k
 | .inr x=>hashStr w x
theorem cI:∀{k:Key}{v:Value},qK k v=true->(∃i t,k=Sum.inl i/\v=Value.int i t)∨(∃x t,k=Sum.inr x/\v=Value.str x t)
 | .inl i,v,h=>by
  obtain⟨t,e⟩:=Value.isInt_shape (k:=i) (v:=v) h;exact .inl ⟨i,t,rfl,e⟩
 | .inr x,v,h=>by
  obtain⟨t,e⟩:=Value.isStrOf_shape (x:=x) (v:=v) h;exact .inr ⟨x,t,rfl,e⟩
theorem GD (i:Int)(t:Tok):qK (.inl i) (.int i t)=true:=by simp[qK,Value.isInt]
theorem GO (x:Str)(t:Tok):qK (.inr x) (.str x t)=true:=by simp[qK,Value.isStrOf]
theorem P6 (a b:Int):decide ((Sum.inl a:Key)=Sum.inl b)=(a==b):=by
 by_cases e:a=b
 ·subst e;simp
 ·have h:¬(Sum.inl a:Key)=Sum.inl b:=fun q=>e (Sum.inl.inj q);rw[decide_eq_false h];exact(beq_eq_false_iff_ne.mpr e).symm
theorem Q5 (a b:Str):decide ((Sum.inr a:Key)=Sum.inr b)=decide (a=b):=by
 by_cases e:a=b
 ·subst e;simp
 ·have h:¬(Sum.inr a:Key)=Sum.inr b:=fun q=>e (Sum.inr.inj q);rw[decide_eq_false h,decide_eq_false e]
theorem QA (a:Int)(b:Str):decide ((Sum.inl a:Key)=Sum.inr b)=false:=decide_eq_false (fun q=>nomatch q)
theorem RY (a:Str)(b:Int):decide ((Sum.inr a:Key)=Sum.inl b)=false:=decide_eq_false (fun q=>nomatch q)
def aU (prog:Program)(w:World):PySem.KeyKind prog w Key where
 is:=qK
 hash:=U0 w
 inj:=fun v a b ha hb=>by
  rcases cI ha with⟨i,t,rfl,rfl⟩|⟨x,t,rfl,rfl⟩
  ·rcases cI hb with⟨j,u,rfl,e⟩|⟨y,u,rfl,e⟩
   ·injection e with e1 _;rw[e1]
   ·exact nomatch e
  ·rcases cI hb with⟨j,u,rfl,e⟩|⟨y,u,rfl,e⟩
   ·exact nomatch e
   ·injection e with e1 _;rw[e1]
 byValue:=fun k v h=>by
  rcases cI h with⟨i,t,rfl,rfl⟩|⟨x,t,rfl,rfl⟩<;>rfl
 pyHash:=fun hv h=>by
  rcases cI hv with⟨i,t,rfl,rfl⟩|⟨x,t,rfl,rfl⟩
  ·exact wpAny_pyHash_int h
  ·exact wpAny_pyHash_str h
 eqBool:=fun hu hv h=>by
  rcases cI hu with⟨i,t,rfl,rfl⟩|⟨x,t,rfl,rfl⟩
  ·rcases cI hv with⟨j,u,rfl,rfl⟩|⟨y,u,rfl,rfl⟩
   ·rw[P6]at h;exact wpAny_eqBool_int h
   ·rw[QA]at h;exact SeqAt.EqAt.int_str i t y u _ _ _ _ h
  ·rcases cI hv with⟨j,u,rfl,rfl⟩|⟨y,u,rfl,rfl⟩
   ·rw[RY]at h;exact SeqAt.EqAt.str_int x t j u _ _ _ _ h
   ·rw[Q5]at h;exact wpAny_eqBool_str h
 «strs»:=fun k x t v h=>by
  rcases cI h with⟨i,u,rfl,e⟩|⟨y,u,rfl,e⟩
  ·exact nomatch e
  ·injection e with e1 _;subst e1;cases v<;>rfl
theorem A6 (prog:Program)(w:World)(i:Int)(t:Tok):(aU prog w).is (.inl i) (.int i t)=true:=GD i t
theorem iW (prog:Program)(w:World)(x:Str)(t:Tok):(aU prog w).is (.inr x) (.str x t)=true:=GO x t
end L2
namespace L2
open PySem PySem.Spec PyProof.Rows
inductive V where
 | non|bl (b:Bool)|int (i:Int)|str (x:Str)|byt (b:Array UInt8)|flt (b:UInt64)|ref (a:Addr)|ty (n:String)
 deriving DecidableEq
def RelV:V->Value->Prop
 | .non,u=>u=Value.none
 | .bl b,u=>u=Value.bool b
 | .int i,u=>∃t,u=Value.int i t
 | .str x,u=>∃t,u=Value.str x t
 | .byt b,u=>∃t,u=Value.bytes b t
 | .flt b,u=>∃t,u=Value.float b t
 | .ref a,u=>u=Value.ref a
 | .ty n,u=>u=Value.type n
abbrev Vals:List V->List Value->Prop:=Paired RelV
theorem Vals.length {xs:List V}{us:List Value} (r:Vals xs us):xs.length=us.length:=Paired.length r
theorem Vals.get:∀{xs:List V}{us:List Value}{i:Nat}{x:V},Vals xs us->xs[i]? =some x->∃u,us[i]? =some u/\RelV x u
 | _,_,_,_,.nil,e=>by simp at e
 | _,_,0,_,.cons r _,e=>by simp at e;subst e;exact⟨_,rfl,r⟩
 | _,_,i+1,x,.cons _ t,e=>by
  obtain⟨u,h1,h2⟩:=Vals.get (i:=i) (x:=x) t (by simpa using e);exact⟨u,by simpa using h1,h2⟩
theorem Vals.append:∀{xs ys:List V}{us ws:List Value},Vals xs us->Vals ys ws->Vals (xs++ys) (us++ws)
 | _,_,_,_,.nil,s=>s
 | _,_,_,_,.cons r t,s=> .cons r (Vals.append t s)
def RelO:Option V->Option Value->Prop
 | some v,some u=>RelV v u
 | none,none=>True
 | _,_=>False
def KV {κ:Type}:List (κ×V)->List (κ×Value)->Prop:=Paired fun (p:κ×V) (q:κ×Value)=>p.1=q.1/\RelV p.2 q.2
def kV:Key->V
 | .inl i=> .int i
 | .inr x=> .str x
inductive HO where
  | lst (xs:List V)
  | tup (xs:List V)
  | dK (kvs:List (Key×V))|dT (kvs:List (List Key×V))
  | set (S:Int->Bool) (n:Nat)
  | ins (C dx:Addr) (fs:List (Str×V))
  | own (x:Addr)
  | xd (fs:List (Str×V))
  | met (f x:Addr)
  | rng (lo hi:Int)
  | frz (o:Obj) (u:HO)
  | tbl (ps:Array Value)
  | ext (φ:Heap->Prop)
abbrev Hp:=Addr->Option HO
def upd (H:Hp)(a:Addr)(o:HO):Hp:=fun b=>if b=a then some o else H b
theorem aV {H:Hp}{a:Addr}{o:HO}:upd H a o a=some o:=by unfold upd;rw[if_pos rfl]
theorem aJ {H:Hp}{a b:Addr}{o:HO} (h:b≠a):upd H a o b=H b:=by unfold upd;rw[if_neg h]
theorem BT {H:Hp}{a:Addr}{o u:HO}:upd (upd H a o) a u=upd H a u:=by
 funext b;unfold upd;split<;>rfl
theorem TM {H:Hp}{a b:Addr}{o u:HO} (h:H a=some o) (h':H b=some u) (d:o≠u):a≠b:=by
 intro e;subst e;rw[h]at h';exact d (Option.some.inj h')
theorem bB {H:Hp}{a b:Addr}{o:HO} (h:H a=some o) (h':H b=none):a≠b:=by
 intro e;subst e;rw[h]at h';cases h'
section
variable (P:Program)(w:World)
def ObjOk (H:Hp)(h:Heap)(a:Addr):HO->Prop
 | .lst xs=>xs.length<=sizeLine/\∃(its:List Value) (n:Nat),Vals xs its/\h.get? a=some { cls:= .type "list",data:= .seq its.toArray n }
 | .tup xs=>xs.length<=sizeLine/\∃its:List Value,Vals xs its/\IsTup h a its.toArray
 | .dK kvs=>kvs.length<=sizeLine/\(a==sysModules)=false/\∃vs,KV kvs vs/\h.DictOf (aU P w) a vs
 | .dT kvs=>kvs.length<=sizeLine/\(a==sysModules)=false/\∃xs:List (List Key×Addr×Value),
   Paired (fun (p:List Key×V) (q:List Key×Addr×Value)=>p.1=q.1/\H q.2.1=some (.tup (p.1.map kV))/\RelV p.2 q.2.2) kvs xs ∧
   ∃o es ep,h.get? a=some o/\o.ExactDict/\o.data= .dict es ep/\es.toList=xs.map (entryOfKey (tupleKind (aU P w)))/\(xs.map (·.1)).Nodup
 | .set S n=>h.SetOf (intKind P w) a S n
 | .ins C dx fs=>H dx=some (.own a)/\fs.length<=1000/\dx≠a/\h.get? a=some (PySem.W.instObj C dx) ∧
   ∃mA,h.Ns1 dx mA/\(∀f,RelO (fs.lookup f) (mA f))/\PySem.Within mA (fs.map (·.1))
 | .own _=>∃o,h.get? a=some o
 | .xd fs=>∃mA,h.Ns1 a mA/\∀f,RelO (fs.lookup f) (mA f)
 | .rng lo hi=>∃t u v,h.get? a=some { cls:= .type "range",data:= .fields #[.int lo t,.int hi u,.int 1 v] }
 | .frz o u=>h.get? a=some o/\ObjOk H h a u
 | .tbl ps=>h.get? a=some { cls:= .none,data:= .fields ps }
 | .met f x=>h.get? a=some (PySem.W.methodObj (.ref f) (.ref x))
 | .ext φ=>φ h/\(∃o,h.get? a=some o)/\∀h1 h2:Heap,φ h1->(∀o,h1.get? a=some o->h2.get? a=some o)->φ h2
def HOk (H:Hp)(h:Heap):Prop:=∀a o,H a=some o->ObjOk P w H h a o
end
section
variable {P:Program}{w:World}{H H':Hp}{h h':Heap}{a:Addr}{o:HO}
theorem ObjOk.lt (x:ObjOk P w H h a o):a<h.objs.size:=by
 cases o with
 | lst xs=>obtain⟨_,_,_,_,e⟩:=x;exact Heap.lt_size e
 | tup xs=>obtain⟨_,_,_,p⟩:=x;exact p.lt
 | dK kvs=>obtain⟨_,_,_,_,o,_,_,e,_⟩:=x;exact Heap.lt_size e
 | dT kvs=>obtain⟨_,_,_,_,o,_,_,e,_⟩:=x;exact Heap.lt_size e
 | set S n=>obtain⟨o,_,_,_,e,_⟩:=x;exact Heap.lt_size e
 | ins C dx fs=>obtain⟨_,_,_,e,_⟩:=x;exact Heap.lt_size e
 | own y=>obtain⟨_,e⟩:=x;exact Heap.lt_size e
 | xd fs=>obtain⟨_,⟨_,_,_,e,_⟩,_⟩:=x;exact Heap.lt_size e
 | rng lo hi=>obtain⟨_,_,_,e⟩:=x;exact Heap.lt_size e
 | frz ob u=>obtain⟨e,_⟩:=x;exact Heap.lt_size e
 | tbl ps=>exact Heap.lt_size (show h.get? a=some _ from x)
 | met f y=>exact Heap.lt_size (show h.get? a=some _ from x)
 | ext φ=>obtain⟨_,⟨_,e⟩,_⟩:=x;exact Heap.lt_size e
theorem Paired.mapP {α β:Type}{F G:α->β->Prop}:∀{l₁:List α}{l₂:List β},Paired F l₁ l₂->(∀a b,F a b->G a b)->Paired G l₁ l₂
 | _,_,.nil,_=> .nil
 | _,_,.cons r t,f=> .cons (f _ _ r) (Paired.mapP t f)
theorem Paired.imp' {α β:Type}{F G:α->β->Prop} (f:∀a b,F a b->G a b) {l₁:List α}{l₂:List β} (r:Paired F l₁ l₂):Paired G l₁ l₂:=Paired.mapP r f
theorem ObjOk.stay (x:ObjOk P w H h a o)(k:∀b u,(b=a∨H b=some (.own a))->h.get? b=some u->h'.get? b=some u)
  (ho:∀b,H b=some (.own a)->H' b=some (.own a))(ht:∀b xs,H b=some (.tup xs)->H' b=some (.tup xs)):ObjOk P w H' h' a o:=by
 induction o with
 | lst xs=>obtain⟨z,its,n,r,e⟩:=x;exact⟨z,its,n,r,k _ _ (.inl rfl) e⟩
 | tup xs=>obtain⟨z,its,r,ob,e,c⟩:=x;exact⟨z,its,r,ob,k _ _ (.inl rfl) e,c⟩
 | dK kvs=>obtain⟨z,y,vs,r,ob,es,ep,e,c⟩:=x;exact⟨z,y,vs,r,ob,es,ep,k _ _ (.inl rfl) e,c⟩
 | dT kvs =>
  obtain⟨z,y,xs,r,ob,es,ep,e,c⟩:=x;exact⟨z,y,xs,Paired.mapP r fun p q z=>⟨z.1,ht _ _ z.2.1,z.2.2⟩,ob,es,ep,k _ _ (.inl rfl) e,c⟩
 | set S n=>obtain⟨ob,es,ep,t,e,c⟩:=x;exact⟨ob,es,ep,t,k _ _ (.inl rfl) e,c⟩
 | ins C dx fs =>
  obtain⟨d,z,ne,e,mA,⟨od,es,ep,e2,c⟩,r⟩:=x;exact⟨ho _ d,z,ne,k _ _ (.inl rfl) e,mA,⟨od,es,ep,k _ _ (.inr d) e2,c⟩,r⟩
 | own y=>obtain⟨ob,e⟩:=x;exact⟨ob,k _ _ (.inl rfl) e⟩
 | xd fs=>obtain⟨mA,⟨od,es,ep,e,c⟩,r⟩:=x;exact⟨mA,⟨od,es,ep,k _ _ (.inl rfl) e,c⟩,r⟩
 | rng lo hi=>obtain⟨t,u,v,e⟩:=x;exact⟨t,u,v,k _ _ (.inl rfl) e⟩
 | frz ob u ih=>obtain⟨e,q⟩:=x;exact⟨k _ _ (.inl rfl) e,ih q⟩
 | tbl ps =>
  have e:h.get? a=some { cls:= .none,data:= .fields ps }:=x;show h'.get? a=some { cls:= .none,data:= .fields ps };exact k a _ (.inl rfl) e
 | met f y =>
  have e:h.get? a=some (PySem.W.methodObj (.ref f) (.ref y)):=x;show h'.get? a=some (PySem.W.methodObj (.ref f) (.ref y));exact k a _ (.inl rfl) e
 | ext φ=>obtain⟨p,⟨o,e⟩,st⟩:=x;exact⟨st _ _ p fun o q=>k _ _ (.inl rfl) q,⟨o,k _ _ (.inl rfl) e⟩,st⟩
theorem HOk.lt (x:HOk P w H h)(e:H a=some o):a<h.objs.size:=(x a o e).lt
theorem HOk.fresh (x:HOk P w H h)(e:h.objs.size<=a):H a=none:=by
 cases q:H a with
 | none=>rfl
 | some u=>exact absurd (Nat.lt_of_lt_of_le (x.lt q) e) (Nat.lt_irrefl _)
theorem HOk.kept (x:HOk P w H h)(k:∀b u,h.get? b=some u->h'.get? b=some u):HOk P w H h':=fun a o e =>
 (x a o e).stay (fun b u _ q=>k b u q) (fun _ q=>q) fun _ _ q=>q
theorem HOk.laid (x:HOk P w H h)(k:∀b u,h.get? b=some u->h'.get? b=some u)(hp:h.objs.size<=a)(new:ObjOk P w (upd H a o) h' a o):HOk P w (upd H a o) h':=fun b u e=>by
 have hn:=x.fresh hp
 by_cases hb:b=a
 ·subst hb;rw[aV]at e;cases e;exact new
 ·rw[aJ hb]at e;exact(x b u e).stay (fun c v _ q=>k c v q) (fun c q=>by rw[aJ (bB q hn)];exact q) fun c xs q=>by rw[aJ (bB q hn)];exact q
end
def Rd (H:Hp)(a:Addr)(u:HO):Prop:=H a=some u∨∃o,H a=some (.frz o u)
theorem Rd.ok {P:Program}{w:World}{H:Hp}{h:Heap}{a:Addr}{u:HO} (r:Rd H a u) (x:HOk P w H h):ObjOk P w H h a u:=by
 rcases r with r|⟨o,r⟩
 ·exact x a u r
 ·obtain⟨_,q⟩:=x a _ r;exact q
def Mut:Option HO->Prop
 | some (.lst _)=>True
 | some (.dK _)=>True
 | some (.dT _)=>True
 | some (.set _ _)=>True
 | some (.ins _ _ _)=>True
 | some (.ext _)=>True
 | _=>False
section
variable {P:Program}{w:World}{H:Hp}{h h':Heap}{x e:Addr}{o':HO}
theorem HOk.write (ok:HOk P w H h)(mu:Mut (H x))(he:e=x∨H e=some (.own x))(k:∀b u,b≠e->h.get? b=some u->h'.get? b=some u)(heo:∃u,h'.get? e=some u)
  (new:ObjOk P w (upd H x o') h' x o'):HOk P w (upd H x o') h':=fun b u q=>by
 have nown:∀c y,H c=some (.own y)->c≠x:=fun c y r z=>by subst z;rw[r]at mu;exact mu
 have ntup:∀c xs,H c=some (.tup xs)->c≠x:=fun c xs r z=>by subst z;rw[r]at mu;exact mu
 by_cases hb:b=x
 ·subst hb;rw[aV]at q;cases q;exact new
 ·rw[aJ hb]at q
  by_cases hbe:b=e
  ·have q':H b=some (.own x):=by
    rcases he with z|z
    ·exact absurd (hbe.trans z) hb
    ·rw[hbe];exact z
   rw[q]at q';cases q';obtain⟨v,hv⟩:=heo;exact⟨v,by rw[hbe];exact hv⟩
  ·refine(ok b u q).stay (fun c v hc r=>k c v ?_ r) (fun c r=>by rw[aJ (nown c b r)];exact r) fun c xs r=>by rw[aJ (ntup c xs r)];exact r
   rcases hc with rfl|hc
   ·exact hbe
   ·rintro rfl;rcases he with z|z
    ·exact nown c b hc z
    ·rw[hc]at z;cases z;exact hb rfl
end
structure Un (fs ex:List Addr)(H H':Hp)(h h':Heap):Prop where
 keep:∀b o,h.get? b=some o->H b=none->b∉fs->b∉ex->h'.get? b=some o
 slot:∀b o,h.get? b=some o->H b=none->b∈fs->b∉ex->∃sl,h'.get? b=some { o with slots:=sl }
 free:∀b o,h.get? b=some o->H b=none->b∉ex->H' b=none
 there:∀b o,h.get? b=some o->b∉ex->∃o',h'.get? b=some o'
 tups:∀b xs,H b=some (.tup xs)->H' b=some (.tup xs)
 frzs:∀b o u,H b=some (.frz o u)->H' b=some (.frz o u)
 tbls:∀b ps,H b=some (.tbl ps)->∃more,H' b=some (.tbl (ps++more))
section
variable {fs fs' ex ex':List Addr}{H H1 H2:Hp}{h h1 h2 h':Heap}{a x e:Addr}{o:HO}
theorem Un.any (u:Un fs ex H H1 h h1){b:Addr}{ob:Obj} (q:h.get? b=some ob) (n:H b=none) (hx:b∉ex):∃sl,h1.get? b=some { ob with slots:=sl }:=by
 by_cases hb:b∈fs
 ·exact u.slot b ob q n hb hx
 ·exact⟨ob.slots,u.keep b ob q n hb hx⟩
theorem Un.kept (k:∀b u,h.get? b=some u->h'.get? b=some u):Un fs ex H H h h' :=
 ⟨fun b ob q _ _ _=>k b ob q,fun b ob q _ _ _=>⟨ob.slots,k b ob q⟩,fun _ _ _ n _=>n,fun b ob q _=>⟨ob,k b ob q⟩,fun _ _ q=>q,fun _ _ _ q=>q,fun _ ps q=>⟨#[],by rw[q];simp⟩⟩
theorem Un.refl:Un fs ex H H h h:=Un.kept fun _ _ q=>q
theorem Un.laid (k:∀b u,h.get? b=some u->h'.get? b=some u)(hp:h.objs.size<=a)(hn:H a=none):Un fs ex H (upd H a o) h h' where
 keep:=fun b u q _ _ _=>k b u q
 slot:=fun b u q _ _ _=>⟨u.slots,k b u q⟩
 free:=fun b u q n _=>by rw[aJ (Nat.ne_of_lt (Nat.lt_of_lt_of_le (Heap.lt_size q) hp))];exact n
 there:=fun b u q _=>⟨u,k b u q⟩
 tups:=fun b xs q=>by rw[aJ (bB q hn)];exact q
 frzs:=fun b u xs q=>by rw[aJ (bB q hn)];exact q
 tbls:=fun b ps q=>⟨#[],by rw[aJ (bB q hn),q];simp⟩
theorem Un.write (mu:Mut (H x))(he:e=x∨H e=some (.own x))(k:∀b u,b≠e->h.get? b=some u->h'.get? b=some u)(heo:∃u,h'.get? e=some u):Un fs ex H (upd H x o) h h':=by
 have hx:∀b,H b=none->b≠x:=fun b n z=>by subst z;rw[n]at mu;exact mu
 have hb:∀b,H b=none->b≠e:=fun b n z=>by
  subst z;rcases he with r|r
  ·exact hx b n r
  ·rw[n]at r;cases r
 have hm:∀b u,H b=some u->¬Mut (some u)->b≠x:=fun b u q nm z=>by subst z;rw[q]at mu;exact nm mu
 refine⟨fun b u q n _ _=>k b u (hb b n) q,fun b u q n _ _=>⟨u.slots,k b u (hb b n) q⟩,fun b u q n _=>by rw[aJ (hx b n)];exact n,fun b u q _=> ?_,
  fun b xs q=>by rw[aJ (hm b _ q fun z=>z)];exact q,fun b u xs q=>by rw[aJ (hm b _ q fun z=>z)];exact q,fun b ps q=>⟨#[],by rw[aJ (hm b _ q fun z=>z),q];simp⟩⟩
 by_cases hbe:b=e
 ·subst hbe;exact heo
 ·exact⟨u,k b u hbe q⟩
end
def trk (h:Heap)(H:Hp):List Addr:=(List.range h.objs.size).filter fun a=>(H a).isSome
def nK (h:Heap)(H:Hp):Heap:=PySem.W.hideAll h (trk h H)
theorem FE (h:Heap)(H:Hp):(nK h H).objs.size=h.objs.size:=PySem.W.hideAll_size _ _
theorem KB {h:Heap}{H:Hp}{b:Addr}{o:Obj} (e:h.get? b=some o) (n:H b=none):(nK h H).get? b=some o :=
 PySem.W.hideAll_get _ e fun hm=>by
  have q:(H b).isSome=true:=(List.mem_filter.mp hm).2;rw[n]at q;simp at q
theorem MG {h:Heap}{H:Hp}{b:Addr}{o:Obj} (e:(nK h H).get? b=some o):h.get? b=some o/\H b=none:=by
 have e':h.get? b=some o:=PySem.W.of_hideAll (trk h H) e;refine⟨e',?_⟩;cases q:H b with
 | none=>rfl
 | some x =>
  have hm:b∈trk h H:=List.mem_filter.mpr ⟨List.mem_range.mpr (Heap.lt_size e'),by simp[q]⟩;have z:(nK h H).get? b=none:=PySem.W.hideAll_none (trk h H) hm;rw[z]at e;cases e
end L2
namespace L2
open PySem PySem.Spec PyProof.Rows
structure Mod (K:PySem.W.Frag)(mg:Str->Option Value)(base:Heap):Prop where
 kin:K.In base
 glob:base.Ns mainGlobals mg
 blt:∃mb,base.Ns builtinsNs mb/\∀x:Str,x≠ "__name__" ->mb x=bootBuiltins x
 nolimit:base.NoLimit
structure Cx where
 prog:Program
 w:World
 K:PySem.W.Frag
 mg:Str->Option Value
 base:Heap
 A:Around
 N:List Str
 s₀:Shared
 H₀:Hp
 env:Env
 outer:List Env
 stack:List Env
 ex:List Addr
 fn:Str->Bool
 calm:Bool
 pn:List (Addr×Obj)
 xe:Value->Shared->Prop
def frs (l:List Env):List Addr:=l.filterMap (·.frame)
abbrev Cx.fs (X:Cx):List Addr:=frs X.outer
def Vis (sc:Scope)(x:Str):Prop:=sc.names.lookup x=some .local∨sc.names.lookup x=some .cell∨sc.names.lookup x=some .free
def Loc (sc:Scope)(x:Str):Prop:=sc.names.lookup x=some .local∨sc.names.lookup x=some .cell
def VI (env:Env)(h:Heap)(m:Str->Option Value)(x:Str)(u:Value):Prop :=
 (env.kindOf x=some .local/\m x=some u)∨((env.kindOf x=some .cell∨env.kindOf x=some .free)/\∃c,env.cells.lookup x=some c/\h.IsCell c (some u))
structure Cx.Ok (X:Cx):Prop where
 mod:Mod X.K X.mg X.base
 kind:X.env.scope.kind= .function
 glob:X.env.globals=mainGlobals
 blt:X.env.builtins=builtinsNs
 above:X.s₀.heap.objs.size<=X.env.locals
 inj:∀x y c,X.env.cells.lookup x=some c->X.env.cells.lookup y=some c->x=y
 has:∀x,(X.env.kindOf x=some .cell∨X.env.kindOf x=some .free)->∃c,X.env.cells.lookup x=some c
 cab:∀x c,X.fn x=true->X.env.cells.lookup x=some c->X.s₀.heap.objs.size<=c
 hd:X.calm=true->X.A.handled=none
 frames:X.A.frames=some X.stack
 stk:X.stack=X.outer∨(X.stack=X.env::X.outer/\X.env.frame=some X.env.locals)
 exf:∀b∈X.ex,b≠X.env.locals/\∀x c,X.env.cells.lookup x=some c->c≠b
 bs:∀b o,X.base.get? b=some o->X.s₀.heap.get? b=some o/\X.H₀ b=none
 bsz:X.base.objs.size<=X.s₀.heap.objs.size
 noex:∀b o,X.base.get? b=some o->b∉X.ex
 exfs:∀b∈X.ex,b∉X.fs
 funs:X.s₀.heap.FunFrames X.base X.outer
 frf:∀b∈X.fs,X.H₀ b=none
structure Inv (X:Cx)(pins:List (Addr×Obj))(σ:List (Option V))(H:Hp)(s:Shared):Prop where
 ok:X.Ok
 os:s.os=X.s₀.os
 bare:AllBare s.gens
 base:Un X.fs X.ex X.H₀ H X.s₀.heap s.heap
 loc:∃m,s.heap.Ns X.env.locals m/\∀(i:Nat) (x:Str) (v:V),X.N[i]? =some x->σ[i]? =some (some v)->Vis X.env.scope x->∃u,RelV v u/\VI X.env s.heap m x u
 cell:∀x c,X.env.cells.lookup x=some c->∃v,s.heap.IsCell c v
 free:H X.env.locals=none
 freeC:∀x c,X.env.cells.lookup x=some c->H c=none
 pin:∀p∈X.pn++pins,s.heap.get? p.1=some p.2/\H p.1=none/\p.1≠X.env.locals/\p.1∉X.fs/\∀v,p.2.data≠ .cell v
 hok:HOk X.prog X.w H s.heap
 len:σ.length=X.N.length
section
variable {X:Cx}{pins:List (Addr×Obj)}{σ:List (Option V)}{H H':Hp}{s:Shared}{h':Heap}
theorem Cx.Ok.nofr (ok:X.Ok){b:Addr}{o:Obj} (e:X.base.get? b=some o):b∉X.fs:=fun hb=>by
 have:=(ok.funs.mem hb).1;rw[e]at this;cases this
theorem Inv.bs (I:Inv X pins σ H s):∀b o,X.base.get? b=some o->s.heap.get? b=some o/\H b=none:=fun b o e =>
 ⟨I.base.keep b o (I.ok.bs b o e).1 (I.ok.bs b o e).2 (I.ok.nofr e) (I.ok.noex b o e),I.base.free b o (I.ok.bs b o e).1 (I.ok.bs b o e).2 (I.ok.noex b o e)⟩
theorem Inv.bk (I:Inv X pins σ H s):∀b o,X.base.get? b=some o->s.heap.get? b=some o:=fun b o e=>(I.bs b o e).1
theorem Inv.mod (I:Inv X pins σ H s):Mod X.K X.mg X.base:=I.ok.mod
theorem Inv.kIn (I:Inv X pins σ H s):X.K.In s.heap:=I.ok.mod.kin.keeps I.bk
theorem Inv.lt (I:Inv X pins σ H s):X.env.locals<s.heap.objs.size:=let ⟨_,hn,_⟩:=I.loc;hn.lt
theorem Inv.sz (I:Inv X pins σ H s):X.s₀.heap.objs.size<=s.heap.objs.size:=Nat.le_trans I.ok.above (Nat.le_of_lt I.lt)
theorem Inv.nofs (I:Inv X pins σ H s){a:Addr}(h:s.heap.objs.size<=a):a∉X.fs:=fun hb=>by
 obtain⟨_,o,ho,_⟩:=I.ok.funs.mem hb;exact absurd (Nat.lt_of_lt_of_le (Heap.lt_size ho) (Nat.le_trans I.sz h)) (Nat.lt_irrefl _)
theorem Inv.cne (I:Inv X pins σ H s):∀x c,X.env.cells.lookup x=some c->c≠X.env.locals:=fun x c e z=>by
 obtain⟨v,o,ho,hd⟩:=I.cell x c e;obtain⟨m,⟨o',es,ep,ho',hd',_⟩,_⟩:=I.loc;rw[z,ho']at ho;cases ho;rw[hd']at hd;cases hd
theorem Inv.funs (I:Inv X pins σ H s):s.heap.FunFrames X.base X.outer:=by
 have all:∀(l:List Env),(∀b∈frs l,b∈X.fs)->X.s₀.heap.FunFrames X.base l->s.heap.FunFrames X.base l:=by
  intro l
  induction l with
  | nil=>intro _ _;trivial
  | cons env r ih =>
   intro hs hl;obtain⟨hk,⟨L,o,hf,hn,ho,hd⟩,hr⟩:=hl;have hL:L∈X.fs:=hs L (by unfold frs;rw[List.filterMap_cons,hf];exact List.mem_cons_self);obtain⟨sl,e⟩:=I.base.slot L o ho (I.ok.frf L hL) hL fun z=>I.ok.exfs L z hL;exact⟨hk,⟨L,_,hf,hn,e,hd⟩,ih (fun b hb=>hs b (by unfold frs;rw[List.filterMap_cons,hf];exact List.mem_cons_of_mem _ hb)) hr⟩
 exact all X.outer (fun _ hb=>hb) I.ok.funs
theorem Inv.stack (I:Inv X pins σ H s):s.heap.FunFrames X.base X.stack:=by
 rcases I.ok.stk with e|⟨e,hf⟩
 ·rw[e];exact I.funs
 ·rw[e];obtain⟨m,hn,_⟩:=I.loc;refine .cons (by rw[I.ok.kind];decide) hf hn ?_ I.funs;exact Heap.get?_none_of_le (Nat.le_trans I.ok.bsz I.ok.above)
theorem Inv.stkSub (I:Inv X pins σ H s):∀b∈frs X.stack,b∈X.env.locals::X.fs:=fun b hb=>by
 rcases I.ok.stk with e|⟨e,hf⟩
 ·rw[e]at hb;exact List.mem_cons_of_mem _ hb
 ·rw[e]at hb;unfold frs at hb;rw[List.filterMap_cons,hf]at hb;exact hb
theorem Inv.stkFree (I:Inv X pins σ H s):∀b∈frs X.stack,H b=none:=fun b hb=>by
 rcases List.mem_cons.mp (I.stkSub b hb) with e|hb
 ·rw[e];exact I.free
 ·obtain⟨_,o,ho,_⟩:=I.ok.funs.mem hb;exact I.base.free b o ho (I.ok.frf b hb) fun z=>I.ok.exfs b z hb
theorem Inv.step {g':Array GenState}{t':Nat}{d':Drawn}{ch:List Addr} (I:Inv X pins σ H s)
  (hch:∀b∈ch,(b∈X.ex∨X.s₀.heap.objs.size<=b)/\b≠X.env.locals/\(∀x c,X.env.cells.lookup x=some c->c≠b)/\∀p∈X.pn++pins,p.1≠b)
  (keep:∀b o,b≠X.env.locals->b∉X.fs->b∉ch->s.heap.get? b=some o->H b=none->h'.get? b=some o)
  (slot:∀b o,b≠X.env.locals->b∈X.fs->b∉ch->s.heap.get? b=some o->H b=none->∃sl,h'.get? b=some { o with slots:=sl })(free:∀b o,b∉ch->s.heap.get? b=some o->H b=none->H' b=none)
  (there:∀b o,b∉ch->s.heap.get? b=some o->∃o',h'.get? b=some o')
  (tups:∀b xs,H b=some (.tup xs)->H' b=some (.tup xs))(frzs:∀b o u,H b=some (.frz o u)->H' b=some (.frz o u))(tbls:∀b ps,H b=some (.tbl ps)->∃more,H' b=some (.tbl (ps++more)))
  (ns:∀m,s.heap.Ns X.env.locals m->h'.Ns X.env.locals m)(hok:HOk X.prog X.w H' h')(hg:AllBare g') :
  Inv X pins σ H' { s with heap:=h',gens:=g',drawn:=d',toks:=t' }:=by
 have neL:∀b o,X.s₀.heap.get? b=some o->b≠X.env.locals:=fun b o e=>Nat.ne_of_lt (Nat.lt_of_lt_of_le (Heap.lt_size e) I.ok.above);have neC:∀b o,X.s₀.heap.get? b=some o->b∉X.ex->b∉ch:=fun b o e hx hb=>by
  rcases (hch b hb).1 with z|z
  ·exact hx z
  ·exact absurd (Nat.lt_of_lt_of_le (Heap.lt_size e) z) (Nat.lt_irrefl _)
 have cellK:∀x c,X.env.cells.lookup x=some c->∀v,s.heap.IsCell c v->h'.IsCell c v:=fun x c e v ⟨o,ho,hd⟩=>by
  have nch:c∉ch:=fun z=>(hch c z).2.2.1 x c e rfl
  by_cases hc:c∈X.fs
  ·obtain⟨sl,q⟩:=slot c o (I.cne x c e) hc nch ho (I.freeC x c e);exact⟨_,q,hd⟩
  ·exact⟨o,keep c o (I.cne x c e) hc nch ho (I.freeC x c e),hd⟩
 refine⟨I.ok,I.os,hg,⟨fun b o e n hb hx=> ?_,fun b o e n hb hx=> ?_,fun b o e n hx=> ?_,fun b o e hx=> ?_,fun b xs e=>tups b xs (I.base.tups b xs e),fun b o xs e=>frzs b o xs (I.base.frzs b o xs e),fun b ps e=> ?_⟩,?_,fun x c e=> ?_,?_,fun x c e=> ?_,fun p hp=> ?_,hok,I.len⟩
 ·exact keep b o (neL b o e) hb (neC b o e hx) (I.base.keep b o e n hb hx) (I.base.free b o e n hx)
 ·obtain⟨sl,e1⟩:=I.base.slot b o e n hb hx;obtain⟨sl',e2⟩:=slot b _ (neL b o e) hb (neC b o e hx) e1 (I.base.free b o e n hx);exact⟨sl',e2⟩
 ·obtain⟨o',e1⟩:=I.base.there b o e hx;exact free b o' (neC b o e hx) e1 (I.base.free b o e n hx)
 ·obtain⟨o',e1⟩:=I.base.there b o e hx;exact there b o' (neC b o e hx) e1
 ·obtain⟨m1,e1⟩:=I.base.tbls b ps e;obtain⟨m2,e2⟩:=tbls b _ e1;exact⟨m1++m2,by rw[e2,Array.append_assoc]⟩
 ·obtain⟨m,hn,hl⟩:=I.loc;refine⟨m,ns m hn,fun i x v e1 e2 e3=> ?_⟩;obtain⟨u,r,l⟩:=hl i x v e1 e2 e3;refine⟨u,r,?_⟩;rcases l with l|⟨k,c,e,z⟩
  ·exact .inl l
  ·exact .inr ⟨k,c,e,cellK x c e _ z⟩
 ·obtain⟨v,z⟩:=I.cell x c e;exact⟨v,cellK x c e v z⟩
 ·obtain⟨m,⟨o,_,_,ho,_⟩,_⟩:=I.loc;exact free _ o (fun z=>(hch _ z).2.1 rfl) ho I.free
 ·obtain⟨v,o,ho,hd⟩:=I.cell x c e;exact free c o (fun z=>(hch c z).2.2.1 x c e rfl) ho (I.freeC x c e)
 ·obtain⟨e,n,ne,nf,d⟩:=I.pin p hp;have nch:p.1∉ch:=fun z=>(hch p.1 z).2.2.2 p hp rfl;exact⟨keep p.1 p.2 ne nf nch e n,free p.1 p.2 nch e n,ne,nf,d⟩
theorem Inv.un {t':Nat}(I:Inv X pins σ H s)(u:Un X.fs [] H H' s.heap h')(hok:HOk X.prog X.w H' h'):Inv X pins σ H' { s with heap:=h',toks:=t' }:=by
 obtain⟨m,⟨o,es,ep,ho,r⟩,_⟩:=id I.loc;obtain⟨sl,hL⟩:=u.any ho I.free (by simp);exact I.step (g':=s.gens) (d':=s.drawn) (ch:=[]) (fun _ z=>nomatch z) (fun b o _ hb _ e n=>u.keep b o e n hb (by simp)) (fun b o _ hb _ e n=>u.slot b o e n hb (by simp)) (fun b o _ e n=>u.free b o e n (by simp)) (fun b o _ e=>u.there b o e (by simp)) u.tups u.frzs u.tbls (fun m' hm=>by
  obtain⟨o',es',ep',ho',r'⟩:=hm;rw[ho]at ho';cases ho';exact⟨_,es',ep',hL,r'⟩) hok I.bare
theorem Inv.call {g':Array GenState}{t':Nat}{d':Drawn}{ch:List Addr} (I:Inv X pins σ H s) (u:Un (frs X.stack) ch H H' s.heap h') (hok:HOk X.prog X.w H' h') (hg:AllBare g')
  (hch:∀b∈ch,(b∈X.ex∨X.s₀.heap.objs.size<=b)/\b≠X.env.locals/\(∀x c,X.env.cells.lookup x=some c->c≠b)/\∀p∈X.pn++pins,p.1≠b) :
  Inv X pins σ H' { s with heap:=h',gens:=g',drawn:=d',toks:=t' }:=by
 obtain⟨m,⟨o,es,ep,ho,r⟩,_⟩:=id I.loc;obtain⟨sl,hL⟩:=u.any ho I.free fun z=>(hch _ z).2.1 rfl;exact I.step (ch:=ch) hch (fun b o hL hb hc e n=>u.keep b o e n (fun z=>(List.mem_cons.mp (I.stkSub b z)).elim hL hb) hc) (fun b o _ _ hc e n=>u.any e n hc) (fun b o hc e n=>u.free b o e n hc) (fun b o hc e=>u.there b o e hc) u.tups u.frzs u.tbls (fun m' hm=>by
  obtain⟨o',es',ep',ho',r'⟩:=hm;rw[ho]at ho';cases ho';exact⟨_,es',ep',hL,r'⟩) hok hg
theorem Inv.turned {t':Nat}{it:Addr} (I:Inv X pins σ H s) (k:∀b o,b≠it->s.heap.get? b=some o->h'.get? b=some o) (hn:H it=none) (hL:it≠X.env.locals)
  (h1:it∈X.ex∨X.s₀.heap.objs.size<=it)(h2:∀x c,X.env.cells.lookup x=some c->c≠it)(h3:∀p∈X.pn++pins,p.1≠it):Inv X pins σ H { s with heap:=h',toks:=t' }:=by
 have nit:∀b u,H b=some u->b≠it:=fun b u e z=>by rw[z,hn]at e;cases e
 refine I.step (g':=s.gens) (d':=s.drawn) (ch:=[it]) (fun b hb=> ?_) (fun b o _ _ hc e _=>k b o (fun z=>hc (by simp[z])) e) (fun b o _ _ hc e _=>⟨o.slots,k b o (fun z=>hc (by simp[z])) e⟩) (fun _ _ _ _ n=>n)
  (fun b o hc e=>⟨o,k b o (fun z=>hc (by simp[z])) e⟩) (fun _ _ e=>e) (fun _ _ _ e=>e) (fun b ps e=>⟨#[],by rw[e];simp⟩) (fun m hm=> ?_) (fun b u e=> ?_) I.bare
 ·have e:b=it:=by simpa using hb
  subst e;exact⟨h1,hL,h2,h3⟩
 ·obtain⟨o,es,ep,ho,r⟩:=hm;exact⟨o,es,ep,k _ o (Ne.symm hL) ho,r⟩
 ·refine(I.hok b u e).stay (fun c v hc q=>k c v ?_ q) (fun _ q=>q) fun _ _ q=>q;rcases hc with z|z
  ·rw[z];exact nit b u e
  ·exact nit c _ z
theorem Inv.tok (I:Inv X pins σ H s)(t:Nat):Inv X pins σ H { s with toks:=t }:=I.un (h':=s.heap) (t':=t) Un.refl I.hok
theorem Inv.kept {t':Nat}(I:Inv X pins σ H s)(k:∀b u,s.heap.get? b=some u->h'.get? b=some u):Inv X pins σ H { s with heap:=h',toks:=t' }:=I.un (Un.kept k) (I.hok.kept k)
theorem Inv.laid {a:Addr}{o:HO}{t':Nat} (I:Inv X pins σ H s) (k:∀b u,s.heap.get? b=some u->h'.get? b=some u) (hp:s.heap.objs.size<=a) (new:ObjOk X.prog X.w (upd H a o) h' a o) :
  Inv X pins σ (upd H a o) { s with heap:=h',toks:=t' }:=I.un (Un.laid k hp (I.hok.fresh hp)) (I.hok.laid k hp new)
theorem Inv.write {x e:Addr}{o:HO}{t':Nat} (I:Inv X pins σ H s) (mu:Mut (H x)) (he:e=x∨H e=some (.own x)) (k:∀b u,b≠e->s.heap.get? b=some u->h'.get? b=some u) (heo:∃u,h'.get? e=some u)
  (new:ObjOk X.prog X.w (upd H x o) h' x o):Inv X pins σ (upd H x o) { s with heap:=h',toks:=t' }:=I.un (Un.write mu he k heo) (I.hok.write mu he k heo new)
theorem Inv.weak {σ':List (Option V)}(I:Inv X pins σ H s)(hl:σ'.length=σ.length)(w:∀(i:Nat) v,σ'[i]? =some (some v)->σ[i]? =some (some v)):Inv X pins σ' H s :=
 ⟨I.ok,I.os,I.bare,I.base,let ⟨m,hn,hl'⟩:=I.loc;⟨m,hn,fun i x v e1 e2 e3=>hl' i x v e1 (w i v e2) e3⟩,I.cell,I.free,I.freeC,I.pin,I.hok,hl.trans I.len⟩
theorem Inv.pins_of {pins':List (Addr×Obj)}(I:Inv X pins σ H s)(h:∀p∈pins',s.heap.get? p.1=some p.2/\H p.1=none/\p.1≠X.env.locals/\p.1∉X.fs/\∀v,p.2.data≠ .cell v):Inv X pins' σ H s :=
 ⟨I.ok,I.os,I.bare,I.base,I.loc,I.cell,I.free,I.freeC,fun p hp=>(List.mem_append.mp hp).elim (fun z=>I.pin p (List.mem_append_left _ z)) (h p),I.hok,I.len⟩
theorem AC {N:List Str}(hN:N.Nodup){i j:Nat}{x:Str} (a:N[i]? =some x) (b:N[j]? =some x):i=j:=by
 obtain⟨h1,e1⟩:=List.getElem?_eq_some_iff.mp a;obtain⟨h2,e2⟩:=List.getElem?_eq_some_iff.mp b;exact(List.getElem_inj hN).mp (e1.trans e2.symm)
theorem FJ {M:Model}{A:Around}{E:Value->Shared->Prop}{i:Nat}{x:Str}{v:V}{u:Value}{Q:Unit->Shared->Prop} (I:Inv X pins σ H s) (hN:X.N.Nodup) (hi:X.N[i]? =some x) (hx:Loc X.env.scope x) (r:RelV v u)
  (h:∀s',Inv X pins (σ.set i (some v)) H s'->(∃a,Heap.SameBut a s.heap s'.heap/\(a=X.env.locals∨X.env.cells.lookup x=some a))->Q () s')(hf:X.fn x=true∨X.env.scope.names.lookup x=some .local:=by first|exact .inl rfl|exact .inr rfl|assumption):wpAny M A (storeName X.env x u) Q E s:=by
 obtain⟨m,hn,hl⟩:=id I.loc;have hcls:(X.env.scope.kind== .class||(X.env.scope.kind== .module&&X.env.locals !=X.env.globals))=false:=by rw[I.ok.kind];rfl
 have hiσ:i<σ.length:=by rw[I.len];exact(List.getElem?_eq_some_iff.mp hi).1
 have cne:=I.cne;have tracked:∀{a:Addr}{h':Heap},(∃o,s.heap.get? a=some o/\H a=none)->Heap.SameBut a s.heap h'->HOk X.prog X.w H h':=fun {a h'} ha hs b ob e=>by
  obtain⟨_,_,hfree⟩:=ha;refine(I.hok b ob e).stay (fun c w' hc q=>(hs.2 c ?_).trans q) (fun _ q=>q) fun _ _ q=>q;rintro rfl;rcases hc with rfl|hc
  ·rw[hfree]at e;cases e
  ·rw[hfree]at hc;cases hc
 rcases hx with hk|hk
 ·refine wpAny_storeName_local hk hn (fun h' hn' hs=> ?_) hcls;obtain⟨oL,_,_,hoL,_⟩:=id hn;refine h _ ⟨I.ok,I.os,I.bare,⟨fun b o e n hb hx=> ?_,fun b o e n hb hx=> ?_,I.base.free,fun b o e hx=> ?_,I.base.tups,I.base.frzs,I.base.tbls⟩,⟨_,hn',fun j y v' e1 e2 e3=> ?_⟩,fun y c e=> ?_,I.free,I.freeC,fun p hp=> ?_,tracked ⟨oL,hoL,I.free⟩ hs,by simpa using I.len⟩ ⟨_,hs,.inl rfl⟩
  ·exact(hs.2 b (Nat.ne_of_lt (Nat.lt_of_lt_of_le (Heap.lt_size e) I.ok.above))).trans (I.base.keep b o e n hb hx)
  ·obtain⟨sl,e1⟩:=I.base.slot b o e n hb hx;exact⟨sl,(hs.2 b (Nat.ne_of_lt (Nat.lt_of_lt_of_le (Heap.lt_size e) I.ok.above))).trans e1⟩
  ·obtain⟨o',e1⟩:=I.base.there b o e hx;exact⟨o',(hs.2 b (Nat.ne_of_lt (Nat.lt_of_lt_of_le (Heap.lt_size e) I.ok.above))).trans e1⟩
  ·by_cases hj:j=i
   ·subst hj;rw[hi]at e1;cases e1;rw[List.getElem?_set_self hiσ]at e2;cases e2;exact⟨u,r,.inl ⟨hk,by simp⟩⟩
   ·rw[List.getElem?_set_ne (Ne.symm hj)]at e2;obtain⟨u',r',q⟩:=hl j y v' e1 e2 e3;refine⟨u',r',?_⟩;rcases q with⟨k,e⟩|⟨k,c,e,z⟩
    ·refine .inl ⟨k,?_⟩;have:y≠x:=fun e=>hj (AC hN e1 (e▸hi));simp[this,e]
    ·exact .inr ⟨k,c,e,z.sameBut hs (cne y c e)⟩
  ·obtain⟨w',z⟩:=I.cell y c e;exact⟨w',z.sameBut hs (cne y c e)⟩
  ·obtain⟨e,n,ne,nf,d⟩:=I.pin p hp;exact⟨(hs.2 p.1 ne).trans e,n,ne,nf,d⟩
 ·have hfn:X.fn x=true:=by
   rcases hf with z|z
   ·exact z
   ·rw[z]at hk;cases hk
  obtain⟨c,hc⟩:=I.ok.has x (.inl hk);obtain⟨w',z⟩:=I.cell x c hc;refine wpAny_storeName_cell I.ok.kind hk hc z (fun h' hc' hs=> ?_);obtain⟨oc,hoc,hocd⟩:=id z;refine h { s with heap:=h' } ⟨I.ok,I.os,I.bare,⟨fun b o e n hb hx=> ?_,fun b o e n hb hx=> ?_,I.base.free,fun b o e hx=> ?_,I.base.tups,I.base.frzs,I.base.tbls⟩,⟨m,hn.sameBut hs (Ne.symm (cne x c hc)),fun j y v' e1 e2 e3=> ?_⟩,fun y c' e=> ?_,I.free,I.freeC,fun p hp=> ?_,tracked ⟨oc,hoc,I.freeC x c hc⟩ hs,by simpa using I.len⟩ ⟨c,hs,.inr hc⟩
  ·exact(hs.2 b (Nat.ne_of_lt (Nat.lt_of_lt_of_le (Heap.lt_size e) (I.ok.cab x c hfn hc)))).trans (I.base.keep b o e n hb hx)
  ·obtain⟨sl,e1⟩:=I.base.slot b o e n hb hx;exact⟨sl,(hs.2 b (Nat.ne_of_lt (Nat.lt_of_lt_of_le (Heap.lt_size e) (I.ok.cab x c hfn hc)))).trans e1⟩
  ·obtain⟨o',e1⟩:=I.base.there b o e hx;exact⟨o',(hs.2 b (Nat.ne_of_lt (Nat.lt_of_lt_of_le (Heap.lt_size e) (I.ok.cab x c hfn hc)))).trans e1⟩
  ·by_cases hj:j=i
   ·subst hj;rw[hi]at e1;cases e1;rw[List.getElem?_set_self hiσ]at e2;cases e2;exact⟨u,r,.inr ⟨.inl hk,c,hc,hc'⟩⟩
   ·rw[List.getElem?_set_ne (Ne.symm hj)]at e2;obtain⟨u',r',q⟩:=hl j y v' e1 e2 e3;refine⟨u',r',?_⟩;rcases q with q|⟨k,c',e,z'⟩
    ·exact .inl q
    ·refine .inr ⟨k,c',e,z'.sameBut hs ?_⟩;rintro rfl;exact hj (AC hN e1 (I.ok.inj _ _ _ e hc▸hi))
  ·by_cases hcc:c'=c
   ·subst hcc;exact⟨_,hc'⟩
   ·obtain⟨w2,z2⟩:=I.cell y c' e;exact⟨w2,z2.sameBut hs hcc⟩
  ·obtain⟨e,n,ne,nf,d⟩:=I.pin p hp;refine⟨(hs.2 p.1 ?_).trans e,n,ne,nf,d⟩;intro q;rw[q,hoc]at e;have q':oc=p.2:=Option.some.inj e;exact d w' (by rw[←q'];exact hocd)
theorem yQ {M:Model}{A:Around}{E:Value->Shared->Prop}{i:Nat}{x:Str}{v:V}{u:Value}{Q:Unit->Shared->Prop} (I:Inv X pins σ H s) (hN:X.N.Nodup) (hi:X.N[i]? =some x) (hx:Loc X.env.scope x) (r:RelV v u)
  (h:∀s',Inv X pins (σ.set i (some v)) H s'->Q () s')(hf:X.fn x=true∨X.env.scope.names.lookup x=some .local:=by first|exact .inl rfl|exact .inr rfl|assumption):wpAny M A (storeName X.env x u) Q E s :=
 FJ I hN hi hx r (fun s' I' _=>h s' I') hf
theorem Inv.call' {s':Shared}{ch:List Addr} (I:Inv X pins σ H s) (ho:s'.os=s.os) (u:Un (frs X.stack) ch H H' s.heap s'.heap) (hok:HOk X.prog X.w H' s'.heap) (hg:AllBare s'.gens)
  (hch:∀b∈ch,(b∈X.ex∨X.s₀.heap.objs.size<=b)/\b≠X.env.locals/\(∀x c,X.env.cells.lookup x=some c->c≠b)/\∀p∈X.pn++pins,p.1≠b):Inv X pins σ H' s':=by
 obtain⟨h',g',d',t',o'⟩:=s';have e:o'=s.os:=ho;subst e;exact I.call (g':=g') (t':=t') (d':=d') u hok hg hch
end
abbrev XK:=Value->Option Addr->Hp->Prop
abbrev St:=List (Option V)
abbrev VK:=V->Hp->Prop
abbrev TE:=St->Hp->VK->Prop
abbrev TT:=St->Hp->(Bool->Hp->Prop)->Prop
abbrev TA:=St->Hp->(List V->Hp->Prop)->Prop
structure j7 where
 nx:St->Hp->Prop
 rt:VK
 bk:St->Hp->Prop:=fun _ _=>False
 ct:St->Hp->Prop:=fun _ _=>False
abbrev TS:=j7->St->Hp->Prop
def EP (X:Cx)(pins:List (Addr×Obj))(σ:St)(Q:VK)(u:Value)(s':Shared):Prop:=∃v H',Inv X pins σ H' s'/\RelV v u/\Q v H'
def TP (X:Cx)(pins:List (Addr×Obj))(σ:St)(Q:Bool->Hp->Prop)(b:Bool)(s':Shared):Prop:=∃H',Inv X pins σ H' s'/\Q b H'
def AP (X:Cx)(pins:List (Addr×Obj))(σ:St)(Q:List V->Hp->Prop)(us:List Value)(s':Shared):Prop:=∃vs H',Inv X pins σ H' s'/\Vals vs us/\Q vs H'
def SP (X:Cx)(pins:List (Addr×Obj))(D:j7)(f:Flow)(s':Shared):Prop :=
 match f with
 | .next=>∃σ' H',Inv X pins σ' H' s'/\D.nx σ' H'
 | .brk=>∃σ' H',Inv X pins σ' H' s'/\D.bk σ' H'
 | .cont=>∃σ' H',Inv X pins σ' H' s'/\D.ct σ' H'
 | .ret u=>∃v σ' H',Inv X pins σ' H' s'/\RelV v u/\D.rt v H'
def PE (X:Cx)(e:Expr)(t:TE):Prop :=
 ∀(pins:List (Addr×Obj)) (s:Shared) (σ:St) (H:Hp) (Q:VK),Inv X pins σ H s->t σ H Q->wpAny (model X.prog X.w) X.A (eval e X.env) (EP X pins σ Q) X.xe s
def PT (X:Cx)(e:Expr)(t:TT):Prop :=
 ∀(pins:List (Addr×Obj)) (s:Shared) (σ:St) (H:Hp) (Q:Bool->Hp->Prop),Inv X pins σ H s->t σ H Q->wpAny (model X.prog X.w) X.A (isTrue e X.env (eval e X.env)) (TP X pins σ Q) X.xe s
def PW (X:Cx)(e:Expr)(t:TT):Prop :=
 ∀(whole:Sem Value) (pins:List (Addr×Obj)) (s:Shared) (σ:St) (H:Hp) (Q:Bool->Hp->Prop),Inv X pins σ H s->t σ H Q->wpAny (model X.prog X.w) X.A (isTrue e X.env whole) (TP X pins σ Q) X.xe s
theorem PW.pt {X:Cx}{e:Expr}{t:TT} (h:PW X e t):PT X e t:=h _
def PA (X:Cx)(es:List Expr)(t:TA):Prop :=
 ∀(pos:Pos) (pins:List (Addr×Obj)) (s:Shared) (σ:St) (H:Hp) (Q:List V->Hp->Prop),Inv X pins σ H s->t σ H Q->wpAny (model X.prog X.w) X.A (spliced (backTo pos (starEach es X.env))) (AP X pins σ Q) X.xe s
def PS (X:Cx)(st:Stmt)(t:TS):Prop :=
 ∀(pins:List (Addr×Obj)) (s:Shared) (σ:St) (H:Hp) (D:j7),Inv X pins σ H s->t D σ H->wpAny (model X.prog X.w) X.A (exec st X.env) (SP X pins D) X.xe s
def PSs (X:Cx)(st:List Stmt)(t:TS):Prop :=
 ∀(pins:List (Addr×Obj)) (s:Shared) (σ:St) (H:Hp) (D:j7),Inv X pins σ H s->t D σ H->wpAny (model X.prog X.w) X.A (execs st X.env) (SP X pins D) X.xe s
theorem thn {α:Type}{t:Sem α}{Q Q':α->Shared->Prop}{M:Model}{A:Around}{E:Value->Shared->Prop}{s:Shared} (h:wpAny M A t Q E s) (hQ:∀a s,Q a s->Q' a s):wpAny M A t Q' E s:=wpAny_mono h hQ fun _ _ x=>x
end L2
namespace L2
open PySem PySem.Spec PyProof.Rows
section
variable {X:Cx}
def iM (i:Nat):TE:=fun σ H Q=>∃v,σ[i]? =some (some v)/\Q v H
def tC (v:V):TE:=fun _ H Q=>Q v H
theorem QN {i:Nat}{x:Str}{pos:Pos} (hN:X.N[i]? =some x) (hv:Vis X.env.scope x) (hd:(x==("__debug__" :Str))=false:=by decide) (hcd:(x==("__classdict__" :Str))=false:=by decide):PE X (.Name x pos) (iM i):=by
 intro pins s σ H Q I h;obtain⟨v,e,h⟩:=h;obtain⟨m,hn,hl⟩:=I.loc;obtain⟨u,r,l⟩:=hl i x v hN e hv;have fin:EP X pins σ Q u s:=⟨v,H,I,r,h⟩
 rcases l with⟨hk,hm⟩|⟨hk,c,hc,hcell⟩
 ·exact wpAny_Name (wpAny_loadName_local I.ok.kind hk hn hm fin) hd
 ·rcases hk with hk|hk
  ·exact wpAny_Name (wpAny_loadName_cell I.ok.kind hk hc hcell fin) hd
  ·exact wpAny_Name (wpAny_loadName_free I.ok.kind hk hc hcell fin hcd) hd
theorem aE {i j pos}:PE X (.Constant (.int i) j pos) (tC (.int i)):=fun _ _ _ H _ I h=>wpAny_Constant_int ⟨.int i,H,I.tok _,⟨_,rfl⟩,h⟩
theorem lJ {b j pos}:PE X (.Constant (.bool b) j pos) (tC (.bl b)):=fun _ _ _ H _ I h=>Constant_bool ⟨.bl b,H,I,rfl,h⟩
theorem zH {j pos}:PE X (.Constant .none j pos) (tC .non):=fun _ _ _ H _ I h=>Constant_none ⟨.non,H,I,rfl,h⟩
theorem fQ {x j pos}:PE X (.Constant (.str x) j pos) (tC (.str x)):=fun _ _ _ H _ I h=>Calls.Constant_str ⟨.str x,H,I.tok _,⟨_,rfl⟩,h⟩
def Gl (X:Cx)(x:Str):Prop:=X.env.kindOf x=some .globalImplicit
theorem qQ {E:Value->Shared->Prop}{pins:List (Addr×Obj)}{s:Shared}{σ:St}{H:Hp}{x:Str}{u:Value}{pos:Pos}{Q:Value->Shared->Prop} (I:Inv X pins σ H s) (hg:Gl X x) (hm:X.mg x=some u) (h:Q u s)
  (hd:(x==("__debug__" :Str))=false:=by decide):wpAny (model X.prog X.w) X.A (eval (.Name x pos) X.env) Q E s :=
 Calls.Name_function_global I.ok.kind hg (Calls.loadGlobal_global (by rw[I.ok.glob];exact I.mod.glob.keeps I.bk) hm h) hd
theorem mT {E:Value->Shared->Prop}{pins:List (Addr×Obj)}{s:Shared}{σ:St}{H:Hp}{x:Str}{u:Value}{pos:Pos}{Q:Value->Shared->Prop} (I:Inv X pins σ H s) (hg:Gl X x) (hm:X.mg x=none) (hv:bootBuiltins x=some u) (h:Q u s)
  (hn:x≠ "__name__" :=by decide)(hd:(x==("__debug__" :Str))=false:=by decide):wpAny (model X.prog X.w) X.A (eval (.Name x pos) X.env) Q E s:=by
 obtain⟨mb,h1,h2⟩:=I.mod.blt;exact Calls.Name_function_global I.ok.kind hg (Calls.loadGlobal_builtin (by rw[I.ok.glob];exact I.mod.glob.keeps I.bk) hm (by rw[I.ok.blt];exact h1.keeps I.bk) ((h2 x hn).trans hv) h) hd
theorem NH {x:Str}{v:V}{u:Value}{pos:Pos} (hg:Gl X x) (hm:X.mg x=some u) (r:RelV v u) (hd:(x==("__debug__" :Str))=false:=by decide):PE X (.Name x pos) (tC v) :=
 fun _ _ _ H _ I h=>qQ I hg hm ⟨v,H,I,r,h⟩ hd
theorem N9 {x:Str}{v:V}{u:Value}{pos:Pos} (hg:Gl X x) (hm:X.mg x=none) (hv:bootBuiltins x=some u) (r:RelV v u) (hn:x≠ "__name__" :=by decide) (hd:(x==("__debug__" :Str))=false:=by decide):PE X (.Name x pos) (tC v) :=
 fun _ _ _ H _ I h=>mT I hg hm hv ⟨v,H,I,r,h⟩ hn hd
variable {a b:Expr}{ta tb:TE}{pos:Pos}
def PC (X:Cx)(op:CmpOp)(a b:Expr)(t:TE):Prop :=
 ∀(pins:List (Addr×Obj)) (s:Shared) (σ:St) (H:Hp) (Q:VK),Inv X pins σ H s->t σ H Q →
  wpAny (model X.prog X.w) X.A (eval a X.env) (fun v s₁=>wpAny (model X.prog X.w) X.A (eval b X.env) (fun u s₂=>wpAny (model X.prog X.w) X.A (compareOp op v u) (EP X pins σ Q) X.xe s₂) X.xe s₁) X.xe s
def tB (t:TE):TT:=fun σ H Q=>t σ H fun x H1=>∃c,x= .bl c/\Q c H1
theorem yJ {op:CmpOp}{t:TE} (h:PC X op a b t) (h1:behindInMarks op b=false:=by first|exact nobehind _ (by decide) (by decide)|rfl):PT X (.Compare a [op] [b] pos) (tB t):=by
 intro pins s σ H Q I hw;refine wpAny_isTrue_Compare1 (thn (h pins s σ H _ I hw) fun v s1 h1=>thn h1 fun u s2 h2=>thn h2 fun c s3 ⟨x,H1,I1,r1,q1⟩=> ?_) h1;obtain⟨d,rfl,q⟩:=q1;cases r1;exact wpAny_truthy_bool ⟨H1,I1,q⟩
theorem j9 {e:Expr}{t:TE} (h:PE X e t) (he:∀whole,isTrue e X.env whole=(do let v ←whole;standAt e.pos;holding [v] (truthy v)):=by intro _;rfl):PT X e (tB t):=by
 intro pins s σ H Q I hw;refine isTrue_plain (thn (h pins s σ H _ I hw) fun v s1 ⟨x,H1,I1,r1,q1⟩=> ?_) (he _);obtain⟨d,rfl,q⟩:=q1;cases r1;exact wpAny_truthy_bool ⟨H1,I1,q⟩
variable {tA tB':TT}{rest:List Expr}
def tOr (t u:TT):TT:=fun σ H Q=>t σ H fun c H1=>if c=true then Q true H1 else u σ H1 Q
def RF (t:TT):TT:=fun σ H Q=>t σ H fun c H1=>Q (!c) H1
theorem kE (ha:PT X a tA):PW X (.BoolOp .Or [a] pos) tA:=by
 intro wh pins s σ H Q I h;refine isTrue_or (thn (ha pins s σ H Q I h) fun c s1 e=> ?_);cases c with
 | false=>exact isTrue_or_nil e
 | true=>exact e
theorem nM (ha:PT X a tA)(hb:PW X (.BoolOp .Or (b::rest) pos) tB'):PW X (.BoolOp .Or (a::b::rest) pos) (tOr tA tB'):=by
 intro wh pins s σ H Q I h;refine isTrue_or (thn (ha pins s σ H _ I h) fun c s1 ⟨H1,I1,q1⟩=> ?_);cases c with
 | true=>exact⟨H1,I1,q1⟩
 | false=>exact hb wh pins s1 σ H1 Q I1 q1
theorem o9 (ha:PT X a tA):PT X (.UnaryOp .Not a pos) (RF tA):=by
 intro pins s σ H Q I h;exact isTrue_not (ha pins s σ H (fun c H1=>Q (!c) H1) I h)
def LL (ta tb:TE):TE:=fun σ H Q=>ta σ H fun x H1=>∃c,x= .bl c/\if c=true then tb σ H1 Q else Q (.bl false) H1
def TB (ta:TE):TE:=fun σ H Q=>ta σ H fun x H1=>∃c,x= .bl c/\Q (.bl (!c)) H1
theorem uA {op}{t:TE} (h:PE X a t):PE X (.BoolOp op [a] pos) t:=fun pins s σ H Q I hw=>BoolOp_one (h pins s σ H Q I hw)
theorem pM (ha:PE X a ta)(hb:PE X (.BoolOp .And (b::rest) pos) tb):PE X (.BoolOp .And (a::b::rest) pos) (LL ta tb):=by
 intro pins s σ H Q I h;refine BoolOp_and (thn (ha pins s σ H _ I h) fun v s1 ⟨x,H1,I1,r1,q1⟩=> ?_);obtain⟨c,rfl,q1⟩:=q1;cases r1;refine wpAny_truthy_bool ?_;cases c with
 | true=>exact hb pins s1 σ H1 Q I1 q1
 | false=>exact⟨.bl false,H1,I1,rfl,q1⟩
theorem Q2 (ha:PE X a ta):PE X (.UnaryOp .Not a pos) (TB ta):=by
 intro pins s σ H Q I h;refine UnaryOp_ (thn (ha pins s σ H _ I h) fun v s1 ⟨x,H1,I1,r1,q1⟩=> ?_);obtain⟨c,rfl,q1⟩:=q1;cases r1;exact not_of (wpAny_truthy_bool ⟨.bl (!c),H1,I1,rfl,q1⟩)
def tIf (t:TT)(ta tb:TE):TE:=fun σ H Q=>t σ H fun c H1=>if c=true then ta σ H1 Q else tb σ H1 Q
theorem JE {c:Expr}(hc:PT X c tA)(ha:PE X a ta)(hb:PE X b tb):PE X (.IfExp c a b pos) (tIf tA ta tb):=by
 intro pins s σ H Q I h;refine wpAny_IfExp (thn (hc pins s σ H _ I h) fun d s1 ⟨H1,I1,q1⟩=> ?_);cases d with
 | true=>exact ha pins s1 σ H1 Q I1 q1
 | false=>exact hb pins s1 σ H1 Q I1 q1
end
end L2
namespace L2
open PySem PySem.Spec PyProof.Rows
def SqL (K:PySem.W.Frag)(H:Hp)(a:Addr)(xs:List V):Prop :=
 Rd H a (.lst xs) ∨
  ∃(o:Obj) (its:Array Value) (n:Nat),K.lookup a=some o/\o.cls= .type "list" /\o.dict=none/\o.data= .seq its n/\its.size<=sizeLine/\Vals xs its.toList
def SqT (K:PySem.W.Frag)(H:Hp)(a:Addr)(xs:List V):Prop :=
 Rd H a (.tup xs) ∨
  ∃(o:Obj) (its:Array Value) (n:Nat),K.lookup a=some o/\o.cls= .type "tuple" /\o.data= .seq its n/\its.size<=sizeLine/\Vals xs its.toList
def VB:Value->Option V
 | .none=>some .non
 | .bool b=>some (.bl b)
 | .int i _=>some (.int i)
 | .str x _=>some (.str x)
 | .bytes b _=>some (.byt b)
 | .float b _=>some (.flt b)
 | .ref a=>some (.ref a)
 | .type n=>some (.ty n)
 | _=>none
theorem RelV.abs {x:V}{u:Value} (r:RelV x u):VB u=some x:=by
 cases x with
 | non=>cases r;rfl
 | bl _=>cases r;rfl
 | int _=>obtain⟨t,rfl⟩:=r;rfl
 | str _=>obtain⟨t,rfl⟩:=r;rfl
 | byt _=>obtain⟨t,rfl⟩:=r;rfl
 | flt _=>obtain⟨t,rfl⟩:=r;rfl
 | ref _=>cases r;rfl
 | ty _=>cases r;rfl
theorem RelV.inj {x y:V}{u:Value} (r:RelV x u) (q:RelV y u):x=y:=Option.some.inj (r.abs.symm.trans q.abs)
theorem Vals.inj:∀{xs ys:List V}{us:List Value},Vals xs us->Vals ys us->xs=ys
 | _,_,_,.nil,.nil=>rfl
 | _,_,_,.cons r t,.cons r' t'=>by rw[r.inj r',Vals.inj t t']
section
variable {X:Cx}{pins:List (Addr×Obj)}{σ:St}{H:Hp}{s:Shared}{a:Addr}{xs ys:List V}
theorem SqL.of {K:PySem.W.Frag}(h:H a=some (.lst xs)):SqL K H a xs:= .inl (.inl h)
theorem SqT.of {K:PySem.W.Frag}(h:H a=some (.tup xs)):SqT K H a xs:= .inl (.inl h)
theorem Inv.list (I:Inv X pins σ H s)(h:SqL X.K H a xs):∃its:List Value,Vals xs its/\PlainL s.heap a its.toArray/\xs.length<=sizeLine:=by
 rcases h with h|⟨o,its,n,hk,hc,hd,hs,hz,r⟩
 ·obtain⟨z,its,n,r,e⟩:=h.ok I.hok;exact⟨its,r,⟨_,n,e,rfl,rfl,rfl⟩,z⟩
 ·refine⟨its.toList,r,⟨o,n,I.kIn a o hk,hc,hd,by simpa using hs⟩,?_⟩;have e:=r.length;simp only[Array.length_toList]at e
  lia
theorem Inv.tuple (I:Inv X pins σ H s)(h:SqT X.K H a xs):∃its:List Value,Vals xs its/\IsTup s.heap a its.toArray/\xs.length<=sizeLine:=by
 rcases h with h|⟨o,its,n,hk,hc,hs,hz,r⟩
 ·obtain⟨z,its,r,p⟩:=h.ok I.hok;exact⟨its,r,p,z⟩
 ·refine⟨its.toList,r,⟨o,I.kIn a o hk,hc,n,by simpa using hs⟩,?_⟩;have e:=r.length;simp only[Array.length_toList]at e
  lia
theorem Inv.list_inj (I:Inv X pins σ H s)(h:SqL X.K H a xs)(h':SqL X.K H a ys):xs=ys:=by
 obtain⟨its,r,⟨o,n,e,_,_,d⟩,_⟩:=I.list h;obtain⟨its',r',⟨o',n',e',_,_,d'⟩,_⟩:=I.list h';rw[e]at e';cases e';rw[d]at d';injection d' with d1 _;have:its=its':=by simpa using congrArg Array.toList d1
 subst this;exact r.inj r'
end
abbrev Cx.wish (X:Cx)(E:Value->Shared->Prop):Cx:={ X with xe:=E }
abbrev Cx.nox (X:Cx):Cx:=X.wish fun _ _=>False
theorem Cx.Ok.wish {X:Cx}(ok:X.Ok)(E:Value->Shared->Prop):(X.wish E).Ok :=
 ⟨ok.mod,ok.kind,ok.glob,ok.blt,ok.above,ok.inj,ok.has,ok.cab,ok.hd,ok.frames,ok.stk,ok.exf,ok.bs,ok.bsz,ok.noex,ok.exfs,ok.funs,ok.frf⟩
theorem Cx.Ok.unwish {X:Cx}{E:Value->Shared->Prop} (ok:(X.wish E).Ok):X.Ok :=
 ⟨ok.mod,ok.kind,ok.glob,ok.blt,ok.above,ok.inj,ok.has,ok.cab,ok.hd,ok.frames,ok.stk,ok.exf,ok.bs,ok.bsz,ok.noex,ok.exfs,ok.funs,ok.frf⟩
section
variable {X:Cx}{pins:List (Addr×Obj)}{σ:St}{H:Hp}{s:Shared}{E:Value->Shared->Prop}
theorem Inv.wish (I:Inv X pins σ H s)(E:Value->Shared->Prop):Inv (X.wish E) pins σ H s:=⟨I.ok.wish E,I.os,I.bare,I.base,I.loc,I.cell,I.free,I.freeC,I.pin,I.hok,I.len⟩
theorem Inv.unwish (I:Inv (X.wish E) pins σ H s):Inv X pins σ H s:=⟨I.ok.unwish,I.os,I.bare,I.base,I.loc,I.cell,I.free,I.freeC,I.pin,I.hok,I.len⟩
theorem SP.unwish {D:j7}{f:Flow}{s':Shared} (h:SP (X.wish E) pins D f s'):SP X pins D f s':=by
 cases f with
 | next=>obtain⟨σ',H',I,q⟩:=h;exact⟨σ',H',I.unwish,q⟩
 | brk=>obtain⟨σ',H',I,q⟩:=h;exact⟨σ',H',I.unwish,q⟩
 | cont=>obtain⟨σ',H',I,q⟩:=h;exact⟨σ',H',I.unwish,q⟩
 | ret u=>obtain⟨v,σ',H',I,r,q⟩:=h;exact⟨v,σ',H',I.unwish,r,q⟩
theorem PSs.nox {st:List Stmt}{t:TS} (h:PSs X.nox st t):PSs X st t:=fun pins s σ H D I hw =>
 wpAny_mono (h pins s σ H D (I.wish _) hw) (fun _ _ q=>q.unwish) fun _ _ z=>False.elim z
end
section
variable {X:Cx}{st:Stmt}{rest:List Stmt}{t u:TS}{e:Expr}{te:TE}{pos:Pos}
def LN:TS:=fun D σ H=>D.nx σ H
def DL (t u:TS):TS:=fun D σ H=>t { D with nx:=u D } σ H
theorem bU:PSs X [] LN:=fun _ _ σ H _ I h=>wpAny_execs_nil ⟨σ,H,I,h⟩
theorem aD (h1:PS X st t)(h2:PSs X rest u):PSs X (st::rest) (DL t u):=by
 intro pins s σ H D I h;refine wpAny_execs_cons (thn (h1 pins s σ H { D with nx:=u D } I h) fun f s1 q=> ?_);cases f with
 | next =>
  obtain⟨σ',H',I',q⟩:=q;exact h2 pins s1 σ' H' D I' q
 | ret v=>exact q
 | brk=>exact q
 | cont=>exact q
theorem aF (h1:PS X st t):PSs X [st] t:=by
 intro pins s σ H D I h;refine wpAny_execs_cons (thn (h1 pins s σ H D I h) fun f s1 q=> ?_);cases f with
 | next=>exact wpAny_execs_nil q
 | ret v=>exact q
 | brk=>exact q
 | cont=>exact q
theorem Inv.quiet {pins:List (Addr×Obj)}{σ:St}{H:Hp}{s:Shared} (I:Inv X pins σ H s):interactive X.env=false:=by simp[interactive,I.ok.kind]
def L5 (te:TE):TS:=fun D σ H=>te σ H fun _ H1=>D.nx σ H1
theorem bM (he:PE X e te)(hs:swapsWith e none pos.line X.env=pure false:=by rfl):PS X (.Expr e pos) (L5 te):=by
 intro pins s σ H D I h;exact wpAny_Expr_any (thn (he pins s σ H _ I h) fun v s1 ⟨x,H1,I1,r1,q1⟩=>⟨σ,H1,I1,q1⟩) I.quiet hs
def RD (te:TE):TS:=fun D σ H=>te σ H D.rt
theorem aW (he:PE X e te):PS X (.Return (some e) pos) (RD te):=by
 intro pins s σ H D I h;exact wpAny_Return_some (thn (he pins s σ H _ I h) fun v s1 ⟨x,H1,I1,r1,q1⟩=>⟨x,σ,H1,I1,r1,q1⟩)
def DE (c:TT)(t u:TS):TS:=fun D σ H=>c σ H fun b H1=>if b=true then t D σ H1 else u D σ H1
theorem cG {c:Expr}{a b:List Stmt}{tc:TT} (hc:PT X c tc) (ha:PSs X a t) (hb:PSs X b u):PS X (.If c a b pos) (DE tc t u):=by
 intro pins s σ H D I h;refine wpAny_If (thn (hc pins s σ H _ I h) fun d s1 ⟨H1,I1,q1⟩=> ?_);cases d with
 | true=>exact ha pins s1 σ H1 D I1 q1
 | false=>exact hb pins s1 σ H1 D I1 q1
def R4:TS:=fun _ _ _=>False
theorem eT:PS X st R4:=fun _ _ _ _ _ _ h=>h.elim
end
abbrev TG:=V->St->Hp->(St->Hp->Prop)->Prop
abbrev TGs:=List V->St->Hp->(St->Hp->Prop)->Prop
def PG (X:Cx)(target:Expr)(t:TG):Prop :=
 ∀(pins:List (Addr×Obj)) (s:Shared) (σ:St) (H:Hp) (v:V) (u:Value) (Q:St->Hp->Prop),Inv X pins σ H s->RelV v u->t v σ H Q →
  wpAny (model X.prog X.w) X.A (assign target X.env u) (fun _ s'=>∃σ' H',Inv X pins σ' H' s'/\Q σ' H') X.xe s
def PGs (X:Cx)(ts:List Expr)(t:TGs):Prop :=
 ∀(pins:List (Addr×Obj)) (s:Shared) (σ:St) (H:Hp) (vs:List V) (us:List Value) (Q:St->Hp->Prop),Inv X pins σ H s->Vals vs us->t vs σ H Q →
  wpAny (model X.prog X.w) X.A (assignInOrder ((assignEach ts X.env).map (·.2)) us) (fun _ s'=>∃σ' H',Inv X pins σ' H' s'/\Q σ' H') X.xe s
section
variable {X:Cx}{pos:Pos}
def cF (i:Nat):TG:=fun v σ H Q=>Q (σ.set i (some v)) H
theorem aM {i:Nat}{x:Str} (hN:X.N.Nodup) (hi:X.N[i]? =some x) (hx:Loc X.env.scope x) (hf:X.fn x=true∨X.env.scope.names.lookup x=some .local:=by first|exact .inl rfl|exact .inr rfl|assumption):PG X (.Name x pos) (cF i):=by
 intro pins s σ H v u Q I r h;exact wpAny_assign_Name (yQ I hN hi hx r (fun s' I'=>⟨_,H,I',h⟩) hf)
def DY:TGs:=fun vs σ H Q=>vs=[]/\Q σ H
def qJ (t:TG)(u:TGs):TGs:=fun vs σ H Q=>∃v r,vs=v::r/\t v σ H fun σ' H'=>u r σ' H' Q
theorem dE:PGs X [] DY:=by
 intro pins s σ H vs us Q I r h;obtain⟨e,h⟩:=h;subst e;cases r;exact assignInOrder_nil ⟨σ,H,I,h⟩
theorem aY {e:Expr}{es:List Expr}{t:TG}{u:TGs} (h1:PG X e t) (h2:PGs X es u)
  (hs:(assignEach (e::es) X.env).map (·.2)=assign e X.env::(assignEach es X.env).map (·.2):=by rfl):PGs X (e::es) (qJ t u):=by
 intro pins s σ H vs us Q I r h;obtain⟨v,vr,e1,h⟩:=h;subst e1;cases r with
 | cons r rr =>
  rw[hs];refine assignInOrder_cons (thn (h1 pins s σ H _ _ _ I r h) fun _ s1 ⟨σ1,H1,I1,q1⟩=> ?_);exact h2 pins s1 σ1 H1 _ _ Q I1 rr q1
def zM (K:PySem.W.Frag)(n:Nat)(t:TGs):TG:=fun v σ H Q=>∃a xs,v= .ref a/\SqT K H a xs/\xs.length=n/\t xs σ H Q
theorem mR {es:List Expr}{k:Nat}{t:TGs}{n:Nat} (hc:X.calm=true) (h:PGs X es t)
  (hn:(assignEach es X.env).length=n:=by rfl)(hst:(assignEach es X.env).findIdx? (·.1)=none:=by rfl):PG X (.Tuple es k pos) (zM X.K n t):=by
 intro pins s σ H v u Q I r hw;obtain⟨a,xs,e1,hq,hl,hw⟩:=hw;subst e1;cases r;obtain⟨its,rv,ht,hz⟩:=I.tuple hq;refine assign_Tuple_tuple (I.ok.hd hc) ht (by simp[hn,←hl,rv.length]) hst fun h' hx=> ?_;have I1:Inv X pins σ H { s with heap:=h' }:=I.kept (t':=s.toks) fun b o e=>hx b o (Nat.ne_of_lt (Heap.lt_size e)) e;exact h pins _ σ H xs _ Q I1 (by simpa using rv) hw
def EB (te:TE)(g:TG):TS:=fun D σ H=>te σ H fun x H1=>g x σ H1 D.nx
theorem RQ {tg e:Expr}{te:TE}{g:TG} (he:PE X e te) (hg:PG X tg g) (hs:swapsWithSole [tg] e pos.line X.env=pure false:=by rfl) (hw:swappedStores [tg] e X.env=pure none:=by rfl)
  (h1:(assignEach [tg] X.env).map (·.2)=[assign tg X.env]:=by rfl):PS X (.Assign [tg] e pos) (EB te g):=by
 intro pins s σ H D I h;refine wpAny_Assign_stores (thn (he pins s σ H _ I h) fun v s1 ⟨x,H1,I1,r1,q1⟩=> ?_) hs hw;rw[h1];exact thn (hg pins s1 σ H1 x v _ I1 r1 q1) fun _ s2 q=>q
theorem aX {i:Nat}{x:Str}{e:Expr}{te:TE}{pos':Pos} (hN:X.N.Nodup) (hi:X.N[i]? =some x) (hx:Loc X.env.scope x) (he:PE X e te) (hs:swapsWith e (some (.Name x pos')) pos.line X.env=pure false:=by rfl) (hf:X.fn x=true∨X.env.scope.names.lookup x=some .local:=by first|exact .inl rfl|exact .inr rfl|assumption) :
  PS X (.Assign [.Name x pos'] e pos) (EB te (cF i)):=by
 intro pins s σ H D I h;refine wpAny_Assign_Name (thn (he pins s σ H _ I h) fun v s1 ⟨y,H1,I1,r1,q1⟩=> ?_) hs;exact yQ I1 hN hi hx r1 (fun s2 I2=>⟨_,H1,I2,q1⟩) hf
end
section
variable {X:Cx}{pos:Pos}
end
structure It where
 go:Nat->Hp->Prop
 yld:Nat->Hp->V->Hp->Prop
 stop:Nat->Hp->Prop
def fH (X:Cx)(pins:List (Addr×Obj))(H:Hp)(b:Addr):Prop :=
 H b=none/\b≠X.env.locals/\b∉X.fs/\(b∈X.ex∨X.s₀.heap.objs.size<=b)/\(∀x c,X.env.cells.lookup x=some c->c≠b)/\∀p∈X.pn++pins,p.1≠b
theorem Inv.fpOk {X:Cx}{pins:List (Addr×Obj)}{σ:St}{H H':Hp}{s:Shared}{b:Addr} (I:Inv X pins σ H s) (hb:s.heap.objs.size<=b) (hn:H' b=none):fH X pins H' b:=by
 refine⟨hn,Nat.ne_of_gt (Nat.lt_of_lt_of_le I.lt hb),I.nofs hb,.inr (Nat.le_trans I.sz hb),fun x c e z=> ?_,fun p hp z=> ?_⟩
 ·obtain⟨v,q⟩:=I.cell x c e;exact absurd (Nat.lt_of_lt_of_le q.lt (by rw[z];exact hb)) (Nat.lt_irrefl _)
 ·exact absurd (Nat.lt_of_lt_of_le (Heap.lt_size (I.pin p hp).1) (by rw[z];exact hb)) (Nat.lt_irrefl _)
structure nF (P:Program)(w:World)(K:PySem.W.Frag)(tg:Expr)(J:It)(fp:List Addr)(it:Addr)(tn:Nat->Heap->Prop):Prop where
 mem:it∈fp
 obj:∀i h,tn i h->∀b∈fp,∃o,h.get? b=some o/\∀v,o.data≠ .cell v
 keep:∀i h h',tn i h->(∀b∈fp,∀o,h.get? b=some o->h'.get? b=some o)->tn i h'
 item:∀(X:Cx),X.prog=P->X.w=w->X.K=K->X.calm=true->∀(i:Nat) (pins:List (Addr×Obj)) (s:Shared) (σ:St) (H:Hp) (E:Value->Shared->Prop),Inv X pins σ H s->(∀b∈fp,fH X pins H b)->tn i s.heap->J.go i H →
  wpAny (model P w) X.A (pyNext (.ref it)) (fun r s1=>∃u,r=some u ∧
   wpAny (model P w) X.A (letOwnedTupleGo tg (.ref it) u) (fun _ s2=>∃x H',Inv X pins σ H' s2/\RelV x u/\J.yld i H x H'/\tn (i+1) s2.heap/\∀b∈fp,H' b=none) E s1) E s
 done:∀(X:Cx),X.prog=P->X.w=w->X.K=K->X.calm=true->∀(i:Nat) (pins:List (Addr×Obj)) (s:Shared) (σ:St) (H:Hp) (E:Value->Shared->Prop),Inv X pins σ H s->(∀b∈fp,fH X pins H b)->tn i s.heap->J.stop i H →
  wpAny (model P w) X.A (pyNext (.ref it)) (fun r s1=>r=none/\Inv X pins σ H s1) E s
 self:∀(A:Around) (i:Nat) (s:Shared) (Q:Value->Shared->Prop) (E:Value->Shared->Prop),tn i s.heap->Q (.ref it) s->wpAny (model P w) A (pyIter (.ref it)) Q E s
abbrev TI:=St->Hp->(It->Hp->Prop)->Prop
def PIE (X:Cx)(pins:List (Addr×Obj))(σ:St)(tg:Expr)(R:It->Hp->Prop)(itv:Value)(s2:Shared):Prop :=
 ∃(it:Addr) (fp:List Addr) (tn:Nat->Heap->Prop) (J:It) (H':Hp),itv= .ref it/\Inv X pins σ H' s2/\nF X.prog X.w X.K tg J fp it tn/\tn 0 s2.heap/\(∀b∈fp,fH X pins H' b)/\R J H'
def PI (X:Cx)(tg iter:Expr)(wi:TI):Prop :=
 ∀(pins:List (Addr×Obj)) (s:Shared) (σ:St) (H:Hp) (R:It->Hp->Prop),Inv X pins σ H s->wi σ H R →
  wpAny (model X.prog X.w) X.A (eval iter X.env) (fun v s1=>wpAny (model X.prog X.w) X.A (pyIter v) (PIE X pins σ tg R) X.xe s1) X.xe s
theorem DB {M:Model}{A:Around}{E:Value->Shared->Prop}{s:Shared}{tg:Expr}{it:Addr}{u:Value}{o:Obj}{n:String}{vs:Array Value}{Q:Unit->Shared->Prop} (ho:s.heap.get? it=some o) (hc:o.cls= .type n) (hd:o.data= .fields vs)
  (hn:["enumerate","zip","dict_itemiterator","dict_reverseitemiterator","odict_iterator","itertools.zip_longest","itertools.pairwise"].contains n=false)(hQ:Q () s):wpAny M A (letOwnedTupleGo tg (.ref it) u) Q E s:=by
 unfold letOwnedTupleGo;cases tg<;>first
  | exact wpAny_pure hQ
  | (cases u<;>first
    | exact wpAny_pure hQ
    | (refine wpAny_bind (wpAny_load ho ?_);rw[hc,hd];show wpAny M A (if (["enumerate","zip","dict_itemiterator","dict_reverseitemiterator","odict_iterator","itertools.zip_longest","itertools.pairwise"].contains n&&vs[0]? ==some (rawInt _))=true then _ else _) Q E s;rw[if_neg (by intro h;rw[hn,Bool.false_and]at h;cases h)];exact wpAny_pure hQ))
def Itl (K:PySem.W.Frag)(a:Addr):It :=
 ⟨fun i H=>∃xs x,SqL K H a xs/\xs[i]? =some x,fun i H x H'=>H'=H/\∀xs,SqL K H a xs->xs[i]? =some x,fun i H=>∃xs,SqL K H a xs/\xs.length<=i⟩
def Itr (lo:Int)(n:Nat):It:=⟨fun i _=>i<n,fun i H x H'=>H'=H/\x= .int (lo+i),fun i _=>n<=i⟩
theorem GP {P:Program}{w:World}{K:PySem.W.Frag}{tg:Expr} (a it:Addr):nF P w K tg (Itl K a) [it] it (fun i h=>h.IsListIter it a i) where
 mem:=by simp
 obj:=fun i h st b hb=>by
  have e:b=it:=by simpa using hb
  subst e;obtain⟨o,e,c,d⟩:=st;exact⟨o,e,fun v z=>by rw[d]at z;cases z⟩
 keep:=fun i h h' st k=>st.at fun o e=>k it (by simp) o e
 item:=by
  intro X hP hw hK hc i pins s σ H E I hf st hg;subst hP hw hK;obtain⟨xs,x,hq,hx⟩:=hg;obtain⟨its,rv,p,hz⟩:=I.list hq;obtain⟨u,hu,ru⟩:=rv.get hx;obtain⟨f0,f1,f2,f3,f4,f5⟩:=hf it (by simp);refine wpAny_pyNext_list_item st p.isList (x:=u) (by simpa using hu) fun h' st' sb=> ?_;have I1:Inv X pins σ H { s with heap:=h' }:=I.turned (t':=s.toks) (fun b o hb e=>(sb.2 b hb).trans e) f0 f1 f3 f4 f5;obtain⟨o,e,c,d⟩:=id st';exact⟨u,rfl,DB (s:={ s with heap:=h' }) e c d (by decide) ⟨x,H,I1,ru,⟨rfl,fun ys hy=>by rw[I.list_inj hy hq];exact hx⟩,st',fun b hb=>(hf b hb).1⟩⟩
 done:=by
  intro X hP hw hK hc i pins s σ H E I hf st hg;subst hP hw hK;obtain⟨xs,hq,hx⟩:=hg;obtain⟨its,rv,p,hz⟩:=I.list hq;obtain⟨f0,f1,f2,f3,f4,f5⟩:=hf it (by simp);have hl:=rv.length;exact wpAny_pyNext_list_end (I.ok.hd hc) st p.isList (by simp;lia) fun h' eb=>⟨rfl,I.turned (t':=s.toks) (fun b o hb e=>eb b o hb e) f0 f1 f3 f4 f5⟩
 self:=fun _ _ _ _ _ st h=>wpAny_pyIter_listiter st h
theorem D5 {P:Program}{w:World}{K:PySem.W.Frag}{tg:Expr} (it:Addr) (lo:Int) (n:Nat):nF P w K tg (Itr lo n) [it] it (fun i h=>IsRangeIter h it (lo+(i:Nat) * 1) ((n:Int) - (i:Nat)) 1) where
 mem:=by simp
 obj:=fun i h st b hb=>by
  have e:b=it:=by simpa using hb
  subst e;exact⟨_,st,fun v z=>by
   have z':Data.fields _=Data.cell v:=z;cases z'⟩
 keep:=fun i h h' st k=>k it (by simp) _ st
 item:=by
  intro X hP hw hK hc i pins s σ H E I hf st hg;subst hP hw hK;obtain⟨f0,f1,f2,f3,f4,f5⟩:=hf it (by simp);have W:=Walks.range (prog:=X.prog) (w:=X.w) (I.ok.hd hc) it lo 1 n;refine W.item i s _ _ hg st fun v h' tk hv st' kk=> ?_;obtain⟨t,rfl⟩:=hv;have I1:Inv X pins σ H { s with heap:=h',toks:=tk }:=I.turned (fun b o hb e=>kk b o (by simpa using hb) e) f0 f1 f3 f4 f5;refine⟨_,rfl,DB (s:={ s with heap:=h',toks:=tk }) (n:= "range_iterator") st' rfl rfl (by decide) ⟨.int (lo+i),H,I1,⟨t,?_⟩,⟨rfl,rfl⟩,st',fun b hb=>(hf b hb).1⟩⟩;rw[Int.mul_one]
 done:=by
  intro X hP hw hK hc i pins s σ H E I hf st hg;subst hP hw hK;obtain⟨f0,f1,f2,f3,f4,f5⟩:=hf it (by simp);exact wpAny_pyNext_range_end (I.ok.hd hc) st (by have:n<=i:=hg;lia) fun h' eb=>⟨rfl,I.turned (t':=s.toks) (fun b o hb e=>eb b o hb e) f0 f1 f3 f4 f5⟩
 self:=fun _ _ _ _ _ st h=>wpAny_pyIter_rangeiter st h
end L2
namespace L2
open PySem PySem.Spec PyProof.Rows
section
variable {X:Cx}{tg:Expr}
def C7 (K:PySem.W.Frag)(tl:TE):TI:=fun σ H R=>tl σ H fun x H1=>∃a,x= .ref a/\(∃xs,SqL K H1 a xs)/\R (Itl K a) H1
theorem cE {l:Expr}{tl:TE} (hl:PE X l tl):PI X tg l (C7 X.K tl):=by
 intro pins s σ H R I h;refine thn (hl pins s σ H _ I h) fun v s1 ⟨x,H1,I1,r1,q1⟩=> ?_;obtain⟨a,e,⟨xs,hq⟩,q⟩:=q1;subst e;cases r1;obtain⟨its,rv,p,hz⟩:=I1.list hq;refine wpAny_pyIter_list p.isList ?_;refine⟨s1.heap.objs.size,[s1.heap.objs.size],_,_,H1,rfl,I1.kept (t':=s1.toks) fun b o e=>Heap.get?_push_of_some _ e,GP a _,⟨_,Heap.get?_push_size _ rfl,rfl,rfl⟩,fun b hb=> ?_,q⟩;have e:b=s1.heap.objs.size:=by simpa using hb
 subst e;exact I1.fpOk (Nat.le_refl _) (I1.hok.fresh (Nat.le_refl _))
theorem zK {pins:List (Addr×Obj)}{σ:St}{H:Hp}{s:Shared}{R:It->Hp->Prop}{E:Value->Shared->Prop}{lo hi:Int}{t u v:Tok}{tk:Nat} (I:Inv X pins σ H s) (h1: -(2^62)<=lo) (h2:lo<2^62) (h3: -(2^62)<=hi) (h4:hi<2^62)
  (q:R (Itr lo (hi - lo).toNat) H):wpAny (model X.prog X.w) X.A (pyIter (.ref s.heap.objs.size)) (PIE X pins σ tg R) E { s with heap:=s.heap.push { cls:= .type "range",data:= .fields #[.int lo t,.int hi u,.int 1 v] },toks:=tk }:=by
 refine wpAny_pyIter_range (IsRange.new ..) (small_one h1 h2 h3 h4) ?_;have I1:Inv X pins σ H { s with heap:=s.heap.push { cls:= .type "range",data:= .fields #[.int lo t,.int hi u,.int 1 v] },toks:=tk }:=I.kept fun b o e=>Heap.get?_push_of_some _ e;refine⟨(s.heap.push { cls:= .type "range",data:= .fields #[.int lo t,.int hi u,.int 1 v] }).objs.size,[(s.heap.push { cls:= .type "range",data:= .fields #[.int lo t,.int hi u,.int 1 v] }).objs.size],_,_,H,rfl,
  I1.kept (t':=tk) fun b o e=>Heap.get?_push_of_some _ e,D5 _ lo (hi - lo).toNat,?_,fun b hb=> ?_,q⟩
 ·have e1:lo+((0:Nat):Int) * 1=lo:=by simp
  have e2:(((hi - lo).toNat:Nat):Int) - ((0:Nat):Int)=Builtin.Range.rangeSize lo hi 1:=by rw[rangeSize_one];split<;>lia
  show IsRangeIter _ _ (lo+((0:Nat):Int) * 1) ((((hi - lo).toNat:Nat):Int) - ((0:Nat):Int)) 1;rw[e1,e2];exact Heap.get?_push_size _ rfl
 ·have e:b=(s.heap.push { cls:= .type "range",data:= .fields #[.int lo t,.int hi u,.int 1 v] }).objs.size:=by simpa using hb
  subst e;exact I1.fpOk (Nat.le_refl _) (I1.hok.fresh (Nat.le_refl _))
def LE (ta:TA):TI:=fun σ H R=>ta σ H fun vs H1=>∃j:Int,vs=[.int j]/\ -(2^62)<=j/\j<2^62/\R (Itr 0 j.toNat) H1
def LX (ta:TA):TI:=fun σ H R=>ta σ H fun vs H1=>∃i j:Int,vs=[.int i,.int j]/\(-(2^62)<=i/\i<2^62/\ -(2^62)<=j/\j<2^62)/\R (Itr i (j - i).toNat) H1
theorem wI {a:Expr}{ta:TA}{p pos:Pos} (hg:Gl X "range") (hm:X.mg "range" =none) (ha:PA X [a] ta) (hs:starEach [a] X.env=[(false,eval a X.env)]:=by rfl):PI X tg (.Call (.Name "range" p) [a] [] pos) (LE ta):=by
 intro pins s σ H R I h;refine Call_ (mT I hg hm boot_range (PyProof.Rows.callWith_type1 (thn (ha pos pins s σ H _ I h) fun us s1 ⟨vs,H1,I1,r1,q1⟩=> ?_) hs rfl));obtain⟨j,e,q1,q2,q⟩:=q1;subst e;cases r1 with
 | cons r rr =>
  cases rr;obtain⟨t,rfl⟩:=r;exact call_range_1 (zK I1 (by lia) (by lia) q1 q2 (by simpa using q))
theorem ET {a b:Expr}{ta:TA}{p pos:Pos} (hg:Gl X "range") (hm:X.mg "range" =none) (ha:PA X [a,b] ta) (hs:starEach [a,b] X.env=[(false,eval a X.env),(false,eval b X.env)]:=by rfl) (hs2:starEach [b] X.env=[(false,eval b X.env)]:=by rfl) :
  PI X tg (.Call (.Name "range" p) [a,b] [] pos) (LX ta):=by
 intro pins s σ H R I h;refine Call_ (mT I hg hm boot_range (PyProof.Rows.callWith_type1 (thn (ha pos pins s σ H _ I h) fun us s1 ⟨vs,H1,I1,r1,q1⟩=> ?_) (by rw[hs,hs2]) (by rw[hs2];rfl)));obtain⟨i,j,e,⟨q1,q2,q3,q4⟩,q⟩:=q1;subst e;cases r1 with
 | cons r rr =>
  cases rr with
  | cons r' rr =>
   cases rr;obtain⟨t,rfl⟩:=r;obtain⟨t',rfl⟩:=r';exact call_range_2 (zK I1 q1 q2 q3 q4 q)
def P1 (wi:TI)(g:TG)(tb:TS):TS:=fun D σ H=>wi σ H fun J H1=>∃W:Nat->Nat->St->Hp->Prop,(∃m,W 0 m σ H1)/\∀i m σ H,W i m σ H →
 (J.stop i H/\D.nx σ H)∨(J.go i H/\∃N:St->Hp->Prop,(∀σ' H',N σ' H'->∃m',m'<m/\W (i+1) m' σ' H')/\∀x H',J.yld i H x H'->g x σ H' fun σ2 H2=>tb { D with nx:=N,ct:=N,bk:=D.nx } σ2 H2)
def eZ (fp:List Addr)(h:Heap):List (Addr×Obj):=fp.filterMap fun b=>(h.get? b).map fun o=>(b,o)
theorem d6 {fp:List Addr}{h:Heap}{b:Addr}{o:Obj} (hb:b∈fp) (e:h.get? b=some o):(b,o)∈eZ fp h:=List.mem_filterMap.mpr ⟨b,hb,by rw[e];rfl⟩
theorem o8 {fp:List Addr}{h:Heap}{p:Addr×Obj} (hp:p∈eZ fp h):p.1∈fp/\h.get? p.1=some p.2:=by
 obtain⟨b,hb,e⟩:=List.mem_filterMap.mp hp;cases q:h.get? b with
 | none=>rw[q]at e;cases e
 | some o =>
  rw[q]at e;have e':(b,o)=p:=Option.some.inj e;subst e';exact⟨hb,q⟩
theorem Inv.pinned {pins:List (Addr×Obj)}{σ:St}{H:Hp}{s:Shared}{fp:List Addr} (I:Inv X pins σ H s) (hf:∀b∈fp,fH X pins H b) (ho:∀b∈fp,∃o,s.heap.get? b=some o/\∀v,o.data≠ .cell v):Inv X (pins++eZ fp s.heap) σ H s :=
 I.pins_of fun p hp=>(List.mem_append.mp hp).elim (fun z=>I.pin p (List.mem_append_right _ z)) fun z=>by
  obtain⟨hb,e⟩:=o8 z;obtain⟨f0,f1,f2,_⟩:=hf p.1 hb;obtain⟨o,e',d⟩:=ho p.1 hb;rw[e]at e';cases e';exact⟨e,f0,f1,f2,d⟩
theorem Inv.unpinned {pins pl:List (Addr×Obj)}{σ:St}{H:Hp}{s:Shared} (I:Inv X (pins++pl) σ H s):Inv X pins σ H s:=I.pins_of fun p hp=>I.pin p (List.mem_append_right _ (List.mem_append_left _ hp))
theorem d4 {iter:Expr}{body:List Stmt}{wi:TI}{g:TG}{tb:TS}{pos:Pos} (hp:PassesOwn (model X.prog X.w) X.A X.env X.xe) (hc:X.calm=true) (hi:PI X tg iter wi) (hg:PG X tg g) (hb:PSs X body tb)
  (hs:∀x,foldedSetIterable iter X.env x=pure x:=by intro _;rfl):PS X (.For tg iter body [] pos) (P1 wi g tb):=by
 intro pins s σ H D I h;refine wpAny_For (thn (hi pins s σ H _ I h) fun v s1 h1=>thn h1 fun itv s2 h2=> ?_) hs;obtain⟨it,fp,tn,J,H2,e,I2,T,st2,f2,W,⟨m0,w0⟩,turn⟩:=h2;subst e;have stat:∀{H':Hp},(∀b∈fp,H' b=none)->∀b∈fp,fH X pins H' b:=fun hn b hb=>⟨hn b hb,(f2 b hb).2⟩
 refine codeAny_forLoop_any (fun n s'=>∃i σ' H',Inv X pins σ' H' s'/\tn i s'.heap/\(∀b∈fp,H' b=none)/\W i n σ' H') ?_ m0 ⟨0,σ,H2,I2,st2,fun b hb=>(f2 b hb).1,w0⟩;rintro n s3 ⟨i,σ3,H3,I3,st3,fr3,w3⟩;rcases turn i n σ3 H3 w3 with⟨stop,qn⟩|⟨go,N,hN,step⟩
 ·refine wpAny_passesOwn hp (thn (T.done X rfl rfl rfl hc i pins s3 σ3 H3 X.xe I3 (stat fr3) st3 stop) fun r s4 ⟨hr,I4⟩=> ?_);subst hr;exact wpAny_execs_nil ⟨σ3,H3,I4,qn⟩
 ·refine wpAny_passesOwn hp (thn (T.item X rfl rfl rfl hc i pins s3 σ3 H3 X.xe I3 (stat fr3) st3 go) fun r s4 ⟨u,hr,h4⟩=> ?_);subst hr;refine wpAny_passesOwn hp (thn h4 fun _ s5 ⟨x,H5,I5,r5,y5,st5,fr5⟩=> ?_);have I5':=I5.pinned (stat fr5) (T.obj _ _ st5);refine wpAny_passesOwn hp (thn (hg _ s5 σ3 H5 x u _ I5' r5 (step x H5 y5)) fun _ s6 ⟨σ6,H6,I6,q6⟩=> ?_);refine wpAny_passesOwn hp (thn (hb _ s6 σ6 H6 _ I6 q6) fun f s7 q7=> ?_);have again:∀{σ7:St}{H7:Hp},Inv X (pins++eZ fp s5.heap) σ7 H7 s7->N σ7 H7->∃m,m<n/\∃i σ' H',Inv X pins σ' H' s7/\tn i s7.heap/\(∀b∈fp,H' b=none)/\W i m σ' H':=fun {σ7 H7} I7 n7=>by
   obtain⟨m',hm,w7⟩:=hN σ7 H7 n7;refine⟨m',hm,i+1,σ7,H7,I7.unpinned,T.keep _ _ _ st5 fun b hb o e=>(I7.pin (b,o) (List.mem_append_right _ (List.mem_append_right _ (d6 hb e)))).1,fun b hb=> ?_,w7⟩;obtain⟨o,e,d⟩:=T.obj _ _ st5 b hb;exact(I7.pin (b,o) (List.mem_append_right _ (List.mem_append_right _ (d6 hb e)))).2.1
  cases f with
  | next=>obtain⟨σ7,H7,I7,n7⟩:=q7;exact again I7 n7
  | cont=>obtain⟨σ7,H7,I7,n7⟩:=q7;exact again I7 n7
  | brk=>obtain⟨σ7,H7,I7,q7⟩:=q7;exact⟨σ7,H7,I7.unpinned,q7⟩
  | ret v=>obtain⟨x7,σ7,H7,I7,r7,q7⟩:=q7;exact⟨x7,σ7,H7,I7.unpinned,r7,q7⟩
end
theorem K5 {K:PySem.W.Frag}{a:Addr}{xs:List V}{g:TG}{tb:TS}{D:j7}{σ:St}{H:Hp} (Pv:Nat->St->Hp->Prop) (h0:Pv 0 σ H) (hl:∀i σ H,i<=xs.length->Pv i σ H->SqL K H a xs)
  (hs:∀i x σ H,xs[i]? =some x->Pv i σ H->g x σ H fun σ2 H2=>tb { D with nx:=Pv (i+1),ct:=Pv (i+1),bk:=D.nx } σ2 H2)(hd:∀σ H,Pv xs.length σ H->D.nx σ H) :
  ∃W:Nat->Nat->St->Hp->Prop,(∃m,W 0 m σ H)/\∀i m σ H,W i m σ H →
   ((Itl K a).stop i H/\D.nx σ H)∨((Itl K a).go i H/\∃N:St->Hp->Prop,(∀σ' H',N σ' H'->∃m',m'<m/\W (i+1) m' σ' H')/\∀x H',(Itl K a).yld i H x H'->g x σ H' fun σ2 H2=>tb { D with nx:=N,ct:=N,bk:=D.nx } σ2 H2):=by
 refine⟨fun i m σ H=>m=xs.length - i/\i<=xs.length/\Pv i σ H,⟨xs.length,by simp,Nat.zero_le _,h0⟩,?_⟩;rintro i m σ H ⟨rfl,hi,p⟩;have q:=hl i σ H hi p
 by_cases hlt:i<xs.length
 ·refine .inr ⟨⟨xs,xs[i],q,by simp[hlt]⟩,Pv (i+1),fun σ' H' p'=>⟨xs.length - (i+1),by lia,rfl,hlt,p'⟩,fun x H' y=> ?_⟩;obtain⟨e,y⟩:=y;subst e;exact hs i x σ _ (y xs q) p
 ·have e:i=xs.length:=by lia
  subst e;exact .inl ⟨⟨xs,q,Nat.le_refl _⟩,hd σ H p⟩
theorem F6 {lo:Int}{n:Nat}{g:TG}{tb:TS}{D:j7}{σ:St}{H:Hp} (Pv:Nat->St->Hp->Prop) (h0:Pv 0 σ H)
  (hs:∀i σ H,i<n->Pv i σ H->g (.int (lo+i)) σ H fun σ2 H2=>tb { D with nx:=Pv (i+1),ct:=Pv (i+1),bk:=D.nx } σ2 H2)(hd:∀σ H,Pv n σ H->D.nx σ H) :
  ∃W:Nat->Nat->St->Hp->Prop,(∃m,W 0 m σ H)/\∀i m σ H,W i m σ H →
   ((Itr lo n).stop i H/\D.nx σ H)∨((Itr lo n).go i H/\∃N:St->Hp->Prop,(∀σ' H',N σ' H'->∃m',m'<m/\W (i+1) m' σ' H')/\∀x H',(Itr lo n).yld i H x H'->g x σ H' fun σ2 H2=>tb { D with nx:=N,ct:=N,bk:=D.nx } σ2 H2):=by
 refine⟨fun i m σ H=>m=n - i/\i<=n/\Pv i σ H,⟨n,by simp,Nat.zero_le _,h0⟩,?_⟩;rintro i m σ H ⟨rfl,hi,p⟩
 by_cases hlt:i<n
 ·refine .inr ⟨hlt,Pv (i+1),fun σ' H' p'=>⟨n - (i+1),by lia,rfl,hlt,p'⟩,fun x H' y=> ?_⟩;obtain⟨e,y⟩:=y;subst e y;exact hs i σ _ hlt p
 ·have e:i=n:=by lia
  subst e;exact .inl ⟨Nat.le_refl _,hd σ H p⟩
end L2
namespace L2
open PySem PySem.Spec PyProof.Rows
abbrev R2:=V->V->Hp->VK->Prop
def OpR (X:Cx)(f:Value->Value->Sem Value)(r:R2):Prop :=
 ∀(pins:List (Addr×Obj)) (s:Shared) (σ:St) (H:Hp) (x y:V) (v u:Value) (Q:VK),Inv X pins σ H s->RelV x v->RelV y u->r x y H Q →
  wpAny (model X.prog X.w) X.A (f v u) (EP X pins σ Q) X.xe s
def UnR (X:Cx)(f:Value->Sem Value)(r:V->Hp->VK->Prop):Prop :=
 ∀(pins:List (Addr×Obj)) (s:Shared) (σ:St) (H:Hp) (x:V) (v:Value) (Q:VK),Inv X pins σ H s->RelV x v->r x H Q →
  wpAny (model X.prog X.w) X.A (f v) (EP X pins σ Q) X.xe s
def cJ (X:Cx)(f:Value)(r:List V->Hp->VK->Prop):Prop :=
 ∀(pins:List (Addr×Obj)) (s:Shared) (σ:St) (H:Hp) (xs:List V) (us:List Value) (Q:VK),Inv X pins σ H s->Vals xs us->r xs H Q →
  wpAny (model X.prog X.w) X.A (call f us) (EP X pins σ Q) X.xe s
def tOp (r:R2)(ta tb:TE):TE:=fun σ H Q=>ta σ H fun x H1=>tb σ H1 fun y H2=>r x y H2 Q
def tUn (r:V->Hp->VK->Prop)(ta:TE):TE:=fun σ H Q=>ta σ H fun x H1=>r x H1 Q
def rI (C:Int->Int->Prop)(g:Int->Int->V):R2:=fun x y H Q=>∃i j,x= .int i/\y= .int j/\C i j/\Q (g i j) H
def rI0 (g:Int->Int->V):R2:=fun x y H Q=>∃i j,x= .int i/\y= .int j/\Q (g i j) H
def rU (g:Int->V):V->Hp->VK->Prop:=fun x H Q=>∃i,x= .int i/\Q (g i) H
section
variable {X:Cx}{a b c:Expr}{ta tb tc:TE}{pos:Pos}
theorem IW (ha:PE X a ta)(hb:PE X b tb){pins:List (Addr×Obj)}{s:Shared}{σ:St}{H:Hp}{R:V->V->Hp->Prop} (I:Inv X pins σ H s)
  (h:ta σ H fun x H1=>tb σ H1 fun y H2=>R x y H2){Q:Value->Shared->Prop}{f:Value->Value->Sem Value}
  (hf:∀v u s2 x y H2,Inv X pins σ H2 s2->RelV x v->RelV y u->R x y H2->wpAny (model X.prog X.w) X.A (f v u) Q X.xe s2) :
  wpAny (model X.prog X.w) X.A (eval a X.env) (fun v s₁=>wpAny (model X.prog X.w) X.A (eval b X.env) (fun u s₂=>wpAny (model X.prog X.w) X.A (f v u) Q X.xe s₂) X.xe s₁) X.xe s:=by
 refine thn (ha pins s σ H _ I h) fun v s1 ⟨x,H1,I1,r1,q1⟩=> ?_;refine thn (hb pins s1 σ H1 _ I1 q1) fun u s2 ⟨y,H2,I2,r2,q2⟩=> ?_;exact hf v u s2 x y H2 I2 r1 r2 q2
theorem aG {op:Operator}{r:R2} (ho:OpR X (binaryOp op) r) (ha:PE X a ta) (hb:PE X b tb):PE X (.BinOp a op b pos) (tOp r ta tb):=by
 intro pins s σ H Q I h;exact wpAny_BinOp (IW ha hb I h fun v u s2 x y H2 I2 rx ry q=>ho pins s2 σ H2 x y v u Q I2 rx ry q)
theorem nA {op:UnaryOp}{r:V->Hp->VK->Prop} (ho:UnR X (unaryOp op) r) (ha:PE X a ta):PE X (.UnaryOp op a pos) (tUn r ta):=by
 intro pins s σ H Q I h;exact UnaryOp_ (thn (ha pins s σ H _ I h) fun v s1 ⟨x,H1,I1,r1,q1⟩=>ho pins s1 σ H1 x v Q I1 r1 q1)
theorem opI {f:Value->Value->Sem Value}{C:Int->Int->Prop}{g:Int->Int->Int}
  (rule:∀(i j:Int) (t u:Tok) (s:Shared) (Q:Value->Shared->Prop) (E:Value->Shared->Prop),C i j->Q (.int (g i j) s.toks) { s with toks:=s.toks+1 }->wpAny (model X.prog X.w) X.A (f (.int i t) (.int j u)) Q E s) :
  OpR X f (rI C fun i j=> .int (g i j)):=by
 intro pins s σ H x y v u Q I rx ry h;obtain⟨i,j,rfl,rfl,hc,q⟩:=h;obtain⟨t,rfl⟩:=rx;obtain⟨t',rfl⟩:=ry;exact rule i j t t' s _ _ hc ⟨.int (g i j),H,I.tok _,⟨_,rfl⟩,q⟩
theorem SI {f:Value->Value->Sem Value}{g:Int->Int->Int}
  (rule:∀(i j:Int) (t u:Tok) (s:Shared) (Q:Value->Shared->Prop) (E:Value->Shared->Prop),Q (.int (g i j) s.toks) { s with toks:=s.toks+1 }->wpAny (model X.prog X.w) X.A (f (.int i t) (.int j u)) Q E s) :
  OpR X f (rI0 fun i j=> .int (g i j)):=by
 intro pins s σ H x y v u Q I rx ry h;obtain⟨i,j,rfl,rfl,q⟩:=h;obtain⟨t,rfl⟩:=rx;obtain⟨t',rfl⟩:=ry;exact rule i j t t' s _ _ ⟨.int (g i j),H,I.tok _,⟨_,rfl⟩,q⟩
theorem EJ {f:Value->Value->Sem Value}{g:Int->Int->Bool}
  (rule:∀(i j:Int) (t u:Tok) (s:Shared) (Q:Value->Shared->Prop) (E:Value->Shared->Prop),Q (.bool (g i j)) s->wpAny (model X.prog X.w) X.A (f (.int i t) (.int j u)) Q E s) :
  OpR X f (rI0 fun i j=> .bl (g i j)):=by
 intro pins s σ H x y v u Q I rx ry h;obtain⟨i,j,rfl,rfl,q⟩:=h;obtain⟨t,rfl⟩:=rx;obtain⟨t',rfl⟩:=ry;exact rule i j t t' s _ _ ⟨.bl (g i j),H,I,rfl,q⟩
def PM (i j:Int):Prop:=0<j/\j<1073741824
def PH (i j:Int):Prop:=0<=j/\j<=1000000/\i.natAbs<2^64
def CMul (i j:Int):Prop:=(-(2^64)<i/\i<2^64)∨(-(2^64)<j/\j<2^64)
theorem CMul.ok {i j:Int}(h:CMul i j):IntMulOk i j:=by
 rcases h with⟨h1,h2⟩|⟨h1,h2⟩
 ·exact .of_left (intBits_le_64 h1 h2)
 ·exact .of_right (intBits_le_64 h1 h2)
theorem d0:OpR X (binaryOp .Add) (rI0 fun i j=> .int (i+j)):=SI fun _ _ _ _ _ _ _ q=>add_int q
theorem zV:OpR X (binaryOp .Sub) (rI0 fun i j=> .int (i - j)):=SI fun _ _ _ _ _ _ _ q=>sub_int q
theorem uC:OpR X (binaryOp .Mult) (rI CMul fun i j=> .int (i * j)):=opI fun _ _ _ _ _ _ _ hc q=>mul_int q hc.ok
theorem cD:OpR X (binaryOp .FloorDiv) (rI PM fun i j=> .int (i/j)):=opI fun i j _ _ _ _ _ hc q=>by
 have h1:(0:Int)<j:=hc.1;have h2:j<1073741824:=hc.2;exact floordiv_int (by lia) (by rw[Int.fdiv_eq_ediv_of_nonneg i (by lia)];exact q) (.inl (PyProof.noPylong_small (by lia)))
theorem bT:OpR X (binaryOp .Mod) (rI (fun _ j=>0<j) fun i j=> .int (i%j)):=opI fun i j _ _ _ _ _ hc q=>by
 have h1:(0:Int)<j:=hc;exact mod_int' (by lia) (by rw[Int.fmod_eq_emod_of_nonneg i (by lia)];exact q)
theorem QF:OpR X (binaryOp .Pow) (rI PH fun i j=> .int (i^j.toNat)):=opI fun _ _ _ _ _ _ _ hc q=>pow_int_small hc.1 hc.2.1 hc.2.2 q
theorem unI {f:Value->Sem Value}{g:Int->Int}
  (rule:∀(i:Int) (t:Tok) (s:Shared) (Q:Value->Shared->Prop) (E:Value->Shared->Prop),Q (.int (g i) s.toks) { s with toks:=s.toks+1 }->wpAny (model X.prog X.w) X.A (f (.int i t)) Q E s) :
  UnR X f (rU fun i=> .int (g i)):=by
 intro pins s σ H x v Q I rx h;obtain⟨i,rfl,q⟩:=h;obtain⟨t,rfl⟩:=rx;exact rule i t s _ _ ⟨.int (g i),H,I.tok _,⟨_,rfl⟩,q⟩
theorem j8:UnR X (unaryOp .USub) (rU fun i=> .int (-i)):=unI fun _ _ _ _ _ q=>neg_int q
end
def QU:V->V->Bool
 | .non,.non=>true| .non,.int _=>true| .int _,.non=>true| .non,.bl _=>true| .bl _,.non=>true| .non,.str _=>true| .str _,.non=>true
 | .int _,.int _=>true| .bl _,.bl _=>true| .str _,.str _=>true| .byt _,.byt _=>true
 | .int _,.str _=>true| .str _,.int _=>true| .bl _,.str _=>true| .str _,.bl _=>true
 | _,_=>false
def rEq:R2:=fun x y H Q=>QU x y=true/\Q (.bl (decide (x=y))) H
def rNe:R2:=fun x y H Q=>QU x y=true/\Q (.bl (!decide (x=y))) H
theorem BR {i j:Int}:decide (V.int i=V.int j)=(i==j):=by
 rw[Bool.eq_iff_iff];simp
theorem GJ {i j:Bool}:decide (V.bl i=V.bl j)=(i==j):=by
 rw[Bool.eq_iff_iff];simp
theorem B4 {i j:Str}:decide (V.str i=V.str j)=(i==j):=by
 rw[Bool.eq_iff_iff];simp
theorem CK {i j:Array UInt8}:decide (V.byt i=V.byt j)=(i.toList==j.toList):=by
 rw[Bool.eq_iff_iff];cases i;cases j;simp
section
variable {X:Cx}{a b c:Expr}{ta tb tc:TE}{pos:Pos}
theorem bG {pins:List (Addr×Obj)}{σ:St}{H:Hp}{s:Shared}{Q:VK}{k k':Bool} (I:Inv X pins σ H s) (q:Q (.bl k) H) (e:k=k'):EP X pins σ Q (.bool k') s:=by
 subst e;exact⟨.bl k,H,I,rfl,q⟩
theorem oG:OpR X (compareOp .Eq) rEq:=by
 intro pins s σ H x y v u Q I rx ry h;obtain⟨hs,q⟩:=h;cases x with
 | non =>
  cases rx;cases y with
  | non=>cases ry;exact PySem.EqNone.eq_none_none (bG I q (by simp))
  | bl j=>cases ry;exact PySem.EqNone.eq_none_bool (bG I q (by simp))
  | int j=>obtain⟨t',rfl⟩:=ry;exact PySem.EqNone.eq_none_int (bG I q (by simp))
  | str j=>obtain⟨t',rfl⟩:=ry;exact PySem.EqNone.eq_none_str (bG I q (by simp))
  | _=>exact absurd (show false=true from hs) Bool.false_ne_true
 | bl i =>
  cases rx;cases y with
  | non=>cases ry;exact PySem.EqNone.eq_bool_none (bG I q (by simp))
  | bl j=>cases ry;exact eq_bool (bG I q GJ)
  | str j=>obtain⟨t',rfl⟩:=ry;exact PySem.EqMixed.eq_bool_str (bG I q (by simp))
  | _=>exact absurd (show false=true from hs) Bool.false_ne_true
 | int i =>
  obtain⟨t,rfl⟩:=rx;cases y with
  | non=>cases ry;exact PySem.EqNone.eq_int_none (bG I q (by simp))
  | int j=>obtain⟨t',rfl⟩:=ry;exact eq_int (bG I q BR)
  | str j=>obtain⟨t',rfl⟩:=ry;exact PySem.EqMixed.eq_int_str (bG I q (by simp))
  | _=>exact absurd (show false=true from hs) Bool.false_ne_true
 | str i =>
  obtain⟨t,rfl⟩:=rx;cases y with
  | non=>cases ry;exact PySem.EqNone.eq_str_none (bG I q (by simp))
  | bl j=>cases ry;exact PySem.EqMixed.eq_str_bool (bG I q (by simp))
  | int j=>obtain⟨t',rfl⟩:=ry;exact PySem.EqMixed.eq_str_int (bG I q (by simp))
  | str j=>obtain⟨t',rfl⟩:=ry;exact eq_str (bG I q B4)
  | _=>exact absurd (show false=true from hs) Bool.false_ne_true
 | byt i =>
  obtain⟨t,rfl⟩:=rx;cases y with
  | byt j=>obtain⟨t',rfl⟩:=ry;exact PySem.W.eq_bytes (bG I q CK)
  | _=>exact absurd (show false=true from hs) Bool.false_ne_true
 | _=>cases y<;>exact absurd (show false=true from hs) Bool.false_ne_true
theorem nG:OpR X (compareOp .NotEq) rNe:=by
 intro pins s σ H x y v u Q I rx ry h;obtain⟨hs,q⟩:=h;cases x with
 | non =>
  cases rx;cases y with
  | non=>cases ry;exact PySem.EqNone.ne_none_none (bG I q (by simp))
  | bl j=>cases ry;exact PySem.EqNone.ne_none_bool (bG I q (by simp))
  | int j=>obtain⟨t',rfl⟩:=ry;exact PySem.EqNone.ne_none_int (bG I q (by simp))
  | str j=>obtain⟨t',rfl⟩:=ry;exact PySem.EqNone.ne_none_str (bG I q (by simp))
  | _=>exact absurd (show false=true from hs) Bool.false_ne_true
 | bl i =>
  cases rx;cases y with
  | non=>cases ry;exact PySem.EqNone.ne_bool_none (bG I q (by simp))
  | bl j=>cases ry;exact ne_bool (bG I q (congrArg not GJ))
  | str j=>obtain⟨t',rfl⟩:=ry;exact PySem.EqMixed.ne_bool_str (bG I q (by simp))
  | _=>exact absurd (show false=true from hs) Bool.false_ne_true
 | int i =>
  obtain⟨t,rfl⟩:=rx;cases y with
  | non=>cases ry;exact PySem.EqNone.ne_int_none (bG I q (by simp))
  | int j=>obtain⟨t',rfl⟩:=ry;exact ne_int (bG I q (congrArg not BR))
  | str j=>obtain⟨t',rfl⟩:=ry;exact PySem.EqMixed.ne_int_str (bG I q (by simp))
  | _=>exact absurd (show false=true from hs) Bool.false_ne_true
 | str i =>
  obtain⟨t,rfl⟩:=rx;cases y with
  | non=>cases ry;exact PySem.EqNone.ne_str_none (bG I q (by simp))
  | bl j=>cases ry;exact PySem.EqMixed.ne_str_bool (bG I q (by simp))
  | int j=>obtain⟨t',rfl⟩:=ry;exact PySem.EqMixed.ne_str_int (bG I q (by simp))
  | str j=>obtain⟨t',rfl⟩:=ry;exact ne_str (bG I q (congrArg not B4))
  | _=>exact absurd (show false=true from hs) Bool.false_ne_true
 | byt i =>
  obtain⟨t,rfl⟩:=rx;cases y with
  | byt j=>obtain⟨t',rfl⟩:=ry;exact PySem.W.ne_bytes (bG I q (congrArg not CK))
  | _=>exact absurd (show false=true from hs) Bool.false_ne_true
 | _=>cases y<;>exact absurd (show false=true from hs) Bool.false_ne_true
theorem qV:OpR X (compareOp .Lt) (rI0 fun i j=> .bl (decide (i<j))):=EJ fun _ _ _ _ _ _ _ q=>lt_int q
theorem MC:OpR X (compareOp .LtE) (rI0 fun i j=> .bl (decide (i<=j))):=EJ fun _ _ _ _ _ _ _ q=>le_int q
theorem UJ:OpR X (compareOp .Gt) (rI0 fun i j=> .bl (decide (j<i))):=EJ fun _ _ _ _ _ _ _ q=>gt_int q
theorem LQ:OpR X (compareOp .GtE) (rI0 fun i j=> .bl (decide (j<=i))):=EJ fun _ _ _ _ _ _ _ q=>ge_int q
theorem SH:OpR X (compareOp .Is) (fun x y H Q=>y= .non/\Q (.bl (decide (x= .non))) H):=by
 intro pins s σ H x y v u Q I rx ry h;obtain⟨rfl,q⟩:=h;cases ry;refine is_none_gen (bG I q ?_);cases x<;>first
  | (cases rx;rfl)
  | (obtain⟨t,rfl⟩:=rx;rfl)
theorem OP:OpR X (compareOp .IsNot) (fun x y H Q=>y= .non/\Q (.bl (!decide (x= .non))) H):=by
 intro pins s σ H x y v u Q I rx ry h;obtain⟨rfl,q⟩:=h;cases ry;refine isnot_none_gen (bG I q ?_);cases x<;>first
  | (cases rx;rfl)
  | (obtain⟨t,rfl⟩:=rx;rfl)
theorem bC (b:Expr){op:CmpOp}(h:op≠ .In:=by decide)(h2:op≠ .NotIn:=by decide):behindInMarks op b=false:=by
 have e1:(op==CmpOp.In)=false:=by cases op<;>first|rfl|exact absurd rfl h
 have e2:(op==CmpOp.NotIn)=false:=by cases op<;>first|rfl|exact absurd rfl h2
 cases b<;>simp[behindInMarks,e1,e2]
theorem gW {op:CmpOp}{r:R2} (ho:OpR X (compareOp op) r) (ha:PE X a ta) (hb:PE X b tb) (hm:behindInMarks op b=false):PE X (.Compare a [op] [b] pos) (tOp r ta tb):=by
 intro pins s σ H Q I h;exact wpAny_Compare1 (IW ha hb I h fun v u s2 x y H2 I2 rx ry q=>ho pins s2 σ H2 x y v u Q I2 rx ry q) hm
def LJ (t:TE):TT:=fun σ H Q=>t σ H fun x H'=>∃k,x= .bl k/\Q k H'
theorem bL {op:CmpOp}{r:R2} (ho:OpR X (compareOp op) r) (ha:PE X a ta) (hb:PE X b tb) (hm:behindInMarks op b=false):PT X (.Compare a [op] [b] pos) (LJ (tOp r ta tb)):=by
 intro pins s σ H Q I h;refine wpAny_isTrue_Compare1 (thn (ha pins s σ H _ I h) fun v s1 ⟨x,H1,I1,r1,q1⟩=>thn (hb pins s1 σ H1 _ I1 q1) fun u s2 ⟨y,H2,I2,r2,q2⟩ =>
  thn (ho pins s2 σ H2 x y v u _ I2 r1 r2 q2) fun c s3 ⟨z,H3,I3,r3,k,e,q3⟩=> ?_) hm
 subst e;cases r3;exact wpAny_truthy_bool ⟨H3,I3,q3⟩
def QT (r r':R2)(ta tb tc:TE):TE:=fun σ H Q=>ta σ H fun x H1=>tb σ H1 fun y H2=>r x y H2 fun z H3=>∃k,z= .bl k ∧
 (if k=true then tc σ H3 fun w' H4=>r' y w' H4 Q else Q (.bl false) H3)
theorem zO {op op':CmpOp}{r r':R2} (ho:OpR X (compareOp op) r) (ho':OpR X (compareOp op') r') (ha:PE X a ta) (hb:PE X b tb) (hc:PE X c tc)
  (hm:lastMarks [op,op'] [b,c]=false:=by with_unfolding_all rfl):PE X (.Compare a [op,op'] [b,c] pos) (QT r r' ta tb tc):=by
 intro pins s σ H Q I h;refine Compare_chain (thn (ha pins s σ H _ I h) fun v s1 ⟨x,H1,I1,r1,q1⟩=>chain_link (thn (hb pins s1 σ H1 _ I1 q1) fun u s2 ⟨y,H2,I2,r2,q2⟩ =>
  thn (ho pins s2 σ H2 x y v u _ I2 r1 r2 q2) fun d s3 ⟨z,H3,I3,r3,k,e,q3⟩=> ?_)) hm
 subst e;cases r3;refine wpAny_truthy_bool ?_;cases k with
 | false=>exact ite_ff ⟨.bl false,H3,I3,rfl,q3⟩
 | true=>exact ite_tt (chain_last (thn (hc pins s3 σ H3 _ I3 q3) fun w' s4 ⟨z',H4,I4,r4,q4⟩=>ho' pins s4 σ H4 y z' u w' Q I4 r2 r4 q4))
theorem pS:(sizeLine:Nat)<2^63:=by rw[sizeLine_eq];decide
theorem DO:OpR X (binaryOp .Add) (fun x y H Q=>∃i j,x= .str i/\y= .str j/\i.length+j.length<=sizeLine/\Q (.str (i++j)) H):=by
 intro pins s σ H x y v u Q I rx ry h;obtain⟨i,j,rfl,rfl,hz,q⟩:=h;obtain⟨t,rfl⟩:=rx;obtain⟨t',rfl⟩:=ry;exact add_str (fun t' tk=>⟨.str (i++j),H,I.tok _,⟨_,rfl⟩,q⟩) hz
theorem fT {x:V}{us:List Value} (r:Vals [x] us):∃u,us=[u]/\RelV x u:=by
 cases r with
 | cons r1 r2=>cases r2;exact⟨_,rfl,r1⟩
theorem LY {x y:V}{us:List Value} (r:Vals [x,y] us):∃u w',us=[u,w']/\RelV x u/\RelV y w':=by
 cases r with
 | cons r1 r2 =>
  cases r2 with
  | cons r3 r4=>cases r4;exact⟨_,_,rfl,r1,r3⟩
theorem E7 (hc:X.calm=true):cJ X (.builtin "max") (fun xs H Q=>∃i j,xs=[.int i,.int j]/\Q (.int (if j>i then j else i)) H):=by
 intro pins s σ H xs us Q I r h;obtain⟨i,j,rfl,q⟩:=h;obtain⟨u,w',rfl,⟨t,rfl⟩,⟨t',rfl⟩⟩:=LY r;refine max_two_ints (I.ok.hd hc) fun h' tk k=>⟨_,H,I.kept k,?_,q⟩
 by_cases hj:j>i
 ·rw[if_pos hj,if_pos hj];exact⟨_,rfl⟩
 ·rw[if_neg hj,if_neg hj];exact⟨_,rfl⟩
end
end L2
namespace L2
open PySem PySem.Spec PyProof.Rows
structure ObjM (h:Heap)(x dx C:Addr)(mA:Str->Option Value):Prop where
 obj:h.get? x=some (PySem.W.instObj C dx)
 ns:h.Ns1 dx mA
 ne:dx≠x
theorem EZ {h:Heap}{dx:Addr}{mA:Str->Option Value} (n:h.Ns1 dx mA):∃od,h.get? dx=some od/\∀name,PySem.W.lookIn name od=some (mA name):=by
 obtain⟨o,es,ep,ho,hd,hk,_,hm⟩:=n;refine⟨o,ho,fun name=> ?_⟩;have e:=hm name;unfold nsFind findBy at e;rw[←Array.find?_toList]at e;unfold PySem.W.lookIn;rw[hd]
 dsimp only
 split
 ·rename_i y q;rw[q]at e;exact congrArg some e
 ·rename_i q;rw[q]at e;have a:es.toList.any (·.refKey)=false:=by
   rw[List.any_eq_false];intro y hy;obtain⟨z,t,hkey⟩:=hk y (Array.mem_toList_iff.mp hy);simp[DictEntry.refKey,hkey]
  have a':¬es.toList.any (·.refKey)=true:=by rw[a];exact Bool.false_ne_true
  rw[if_neg a'];exact congrArg some e
theorem ObjM.look {h:Heap}{x dx C:Addr}{mA:Str->Option Value} (I:ObjM h x dx C mA):∃od,PySem.W.InstAt h x (PySem.W.instObj C dx) C (some od)/\∀name,PySem.W.lookIn name od=some (mA name) :=
 let ⟨od,ho,hl⟩:=EZ I.ns
 ⟨od,⟨I.obj,rfl,rfl,ho⟩,hl⟩
section
variable {prog:Program}{w:World}{A:Around}{E:Value->Shared->Prop}{s:Shared}{K:PySem.W.Frag}{x dx C f:Addr}{mA:Str->Option Value}{name:Str}{v:Value}
theorem OX {expr:Bool}{Q:Value->Shared->Prop} (X:K.In s.heap) (I:ObjM s.heap x dx C mA) (hg:PySem.W.plainGet K C name=true) (hh:PySem.W.hasDictIn K C=true)
  (ha:PySem.W.findIn K (.ref C) name=some none)(hv:mA name=some v)(hv':PySem.W.handedIn v=true)(h:Q v { s with toks:=s.toks+1 }) :
  wpAny (model prog w) A (getAttr (.ref x) name expr) Q E s:=by
 obtain⟨od,J,hl⟩:=I.look;exact PySem.W.get_value X J (PySem.W.plainGet_of hg).1 (PySem.W.findObj_own hh ha rfl (by rw[hl,hv])) hv' h
theorem I0 {pl:Sem Bool}{Q:Value×List Value->Shared->Prop} (X:K.In s.heap) (I:ObjM s.heap x dx C mA) (hg:PySem.W.plainGet K C name=true)
  (hf:PySem.W.findIn K (.ref C) name=some (some (.ref f)))(ht:PySem.W.isFn K (.ref f)=true)(hv:mA name=none)(h:Q (.ref f,[.ref x]) s) :
  wpAny (model prog w) A (getMethod (.ref x) name pl) Q E s:=by
 obtain⟨od,J,hl⟩:=I.look;exact PySem.W.method_fn X J (PySem.W.plainGet_of hg).1 (PySem.W.plainGet_of hg).2 hf (beq_iff_eq.mp ht) (by show (PySem.W.lookIn name od).map (·.isSome)=some false;rw[hl,hv];rfl) h
theorem OG {ns:List Str}{Q:Unit->Shared->Prop} (X:K.In s.heap) (I:ObjM s.heap x dx C mA)
  (hs:PySem.W.findIn K (.ref C) "__setattr__" =some (some (.builtin "object.__setattr__")))(hp:PySem.W.plainOver K C=true)(ht:PySem.W.takerIn K C name=some none)(hh:PySem.W.hasDictIn K C=true)
  (hw:PySem.Within mA ns)(hsz:ns.length<=sizeLine)
  (h:∀h',ObjM h' x dx C (fun y=>if y=name then some v else mA y)->Heap.SameBut dx s.heap h'->Q () { s with heap:=h',toks:=s.toks+2 }) :
  wpAny (model prog w) A (setAttr (.ref x) name v) Q E s:=by
 obtain⟨od,J,hl⟩:=I.look;refine PySem.W.set_plain X J hs (PySem.W.osa_open (s:={ s with toks:=s.toks+1 }) (r:=none) X J hp ht fun b=> ?_);obtain⟨cd,hc,hd'⟩:=PySem.W.any_some hh;have hx:s.heap.get? x=some ⟨.ref C,some dx,.plain,#[]⟩:=I.obj;refine wpAny_bind (wpAny_pure (wpAny_bind (wpAny_bind (wpAny_loadPart hx (wpAny_bind (PySem.W.Looks.here (s:={ s with toks:=s.toks+1 }) (PySem.W.looks_clsIn X hc) ?_))))));rw[hd'];refine wpAny_pure (a:=some dx) (wpAny_bind (wpAny_pure (wpAny_bind ?_)));refine wpAny_nsSet1 (s:={ s with toks:=s.toks+1 }) I.ns fun h' hn2 hs2=> ?_;obtain⟨oD,esD,epD,hoD,hdD,hcD⟩:=hn2.count (PySem.Within.cons name v hw);refine wpAny_bind (wpAny_lookBehind hoD (by rw[hdD];exact pastItsLine_dict (Nat.le_trans hcD (by rw[List.length_cons];lia))) ?_);exact wpAny_pure (h _ ⟨(hs2.2 _ (Ne.symm I.ne)).trans I.obj,hn2,I.ne⟩ hs2)
theorem K3 {R:Result->Shared->Prop}{vs:List Value}{kw:List (Str×Value)} (X:K.In s.heap) (hm:PySem.W.makesIn K C=true)
  (hi:PySem.W.findIn K (.ref C) "__init__" =some (some (.ref f)))(hf:PySem.W.typeIn K (.ref f)=some (.type "function"))
  (h:codeAny (model prog w) (A.under (.builtin "type.__call__" ⟨.ref C::vs,kw⟩)) (.call (.ref f) ⟨.ref (s.heap.objs.size+1)::vs,kw⟩) (PySem.W.InitBack (s.heap.objs.size+1) R)
   { s with heap:=(s.heap.push PySem.W.emptyDict).push (PySem.W.instObj C s.heap.objs.size) }) :
  codeAny (model prog w) A (.call (.ref C) ⟨vs,kw⟩) R s:=by
 obtain⟨hh,g,d,t,os⟩:=s;exact PySem.W.make_core (PySem.W.makes_of X hm) (PySem.W.looks_findIn X hi) (fun self=>PySem.W.bind_fn X self hf) (.inl rfl) h
end
def cH (f:Str)(v:V):List (Str×V)->List (Str×V)
 | []=>[(f,v)]
 | (g,x)::r=>if g=f then (g,v)::r else (g,x)::cH f v r
theorem iZ (f g:Str)(v:V):∀fs:List (Str×V),(cH f v fs).lookup g=if g=f then some v else fs.lookup g
 | []=>by
  show List.lookup g [(f,v)]=_
  by_cases h:g=f
  ·have hb:(g==f)=true:=beq_iff_eq.mpr h;simp only[List.lookup,hb,if_pos h]
  ·have hb:(g==f)=false:=beq_eq_false_iff_ne.mpr h;simp only[List.lookup,hb,if_neg h]
 | (k,x)::r=>by
  have ih:=iZ f g v r;rw[show cH f v ((k,x)::r)=(if k=f then (k,v)::r else (k,x)::cH f v r) from rfl]
  by_cases hk:k=f
  ·rw[if_pos hk]
   by_cases h:g=k
   ·have hb:(g==k)=true:=beq_iff_eq.mpr h;simp only[List.lookup,hb,if_pos (h.trans hk)]
   ·have hb:(g==k)=false:=beq_eq_false_iff_ne.mpr h;simp only[List.lookup,hb,if_neg (fun e:g=f=>h (e.trans hk.symm))]
  ·rw[if_neg hk]
   by_cases h:g=k
   ·have hb:(g==k)=true:=beq_iff_eq.mpr h;simp only[List.lookup,hb,if_neg (fun e:g=f=>hk (h.symm.trans e))]
   ·have hb:(g==k)=false:=beq_eq_false_iff_ne.mpr h;simp only[List.lookup,hb];exact ih
theorem pG (f:Str)(v:V):∀fs:List (Str×V),f∈(cH f v fs).map (·.1)/\∀g,g∈fs.map (·.1)->g∈(cH f v fs).map (·.1)
 | []=>⟨by simp[cH],fun g h=>by simp at h⟩
 | (k,x)::r=>by
  obtain⟨i1,i2⟩:=pG f v r;rw[show cH f v ((k,x)::r)=(if k=f then (k,v)::r else (k,x)::cH f v r) from rfl]
  by_cases hk:k=f
  ·rw[if_pos hk];subst hk;exact⟨by simp,fun g h=>by simpa using h⟩
  ·rw[if_neg hk];refine⟨?_,fun g h=> ?_⟩
   ·rw[List.map_cons];exact List.mem_cons_of_mem _ i1
   ·rw[List.map_cons]at h ⊢;rcases List.mem_cons.mp h with e|e
    ·exact List.mem_cons.mpr (.inl e)
    ·exact List.mem_cons_of_mem _ (i2 g e)
theorem rM (f:Str)(v:V):∀fs:List (Str×V),(cH f v fs).length<=fs.length+1
 | []=>by simp[cH]
 | (k,x)::r=>by
  have ih:=rM f v r;rw[show cH f v ((k,x)::r)=(if k=f then (k,v)::r else (k,x)::cH f v r) from rfl]
  by_cases hk:k=f
  ·rw[if_pos hk,List.length_cons,List.length_cons];lia
  ·rw[if_neg hk,List.length_cons,List.length_cons];lia
theorem RelO.some_of {v:V}{o:Option Value} (r:RelO (some v) o):∃u,o=some u/\RelV v u:=by
 cases o with
 | none=>exact(show False from r).elim
 | some u=>exact⟨u,rfl,r⟩
theorem RelO.none_of {o:Option Value}(r:RelO none o):o=none:=by
 cases o with
 | none=>rfl
 | some u=>exact(show False from r).elim
theorem v5 {v:V}{u:Value} (r:RelV v u):PySem.W.handedIn u=true:=by
 cases v with
 | non=>cases (show u=Value.none from r);rfl
 | bl b=>cases (show u=Value.bool b from r);rfl
 | int i=>obtain⟨t,e⟩:=(show ∃t,u=Value.int i t from r);cases e;rfl
 | str x=>obtain⟨t,e⟩:=(show ∃t,u=Value.str x t from r);cases e;rfl
 | byt b=>obtain⟨t,e⟩:=(show ∃t,u=Value.bytes b t from r);cases e;rfl
 | flt b=>obtain⟨t,e⟩:=(show ∃t,u=Value.float b t from r);cases e;rfl
 | ref a=>cases (show u=Value.ref a from r);rfl
 | ty n=>cases (show u=Value.type n from r);rfl
section
variable {P:Program}{w:World}{H H':Hp}{h h':Heap}{a C dx:Addr}{fs fs':List (Str×V)}
theorem qN (hok:HOk P w H h)(e:H a=some (.ins C dx fs)):∃mA,ObjM h a dx C mA/\(∀f,RelO (fs.lookup f) (mA f))/\PySem.Within mA (fs.map (·.1))/\fs.length<=1000/\H dx=some (.own a):=by
 obtain⟨d,z,ne,ob,mA,n,r,q⟩:=(show ObjOk P w H h a (.ins C dx fs) from hok a _ e)
 exact⟨mA,⟨ob,n,ne⟩,r,q,z,d⟩
end
structure Cls (K:PySem.W.Frag)(C:Addr):Prop where
 pg:PySem.W.plainGet K C Str.empty=true
 hd:PySem.W.hasDictIn K C=true
 po:PySem.W.plainOver K C=true
 sa:PySem.W.findIn K (.ref C) "__setattr__" =some (some (.builtin "object.__setattr__"))
theorem Cls.get {K:PySem.W.Frag}{C:Addr} (c:Cls K C) (f:Str):PySem.W.plainGet K C f=true:=c.pg
def NoAttr (K:PySem.W.Frag)(C:Addr)(f:Str):Prop:=PySem.W.findIn K (.ref C) f=some none
theorem NoAttr.taker {K:PySem.W.Frag}{C:Addr}{f:Str} (n:NoAttr K C f):PySem.W.takerIn K C f=some none:=by
 unfold PySem.W.takerIn;rw[show PySem.W.findIn K (.ref C) f=some none from n];rfl
structure eX (K:PySem.W.Frag)(C:Addr)(m:Str)(f:Addr):Prop where
 at_:PySem.W.findIn K (.ref C) m=some (some (.ref f))
 fn:PySem.W.isFn K (.ref f)=true
 kp:PySem.W.keepIn K (.ref f)=true
section
variable {X:Cx}{pins:List (Addr×Obj)}{σ:St}{H:Hp}{s:Shared}{a C dx:Addr}{fs:List (Str×V)}{f:Str}{v:V}{A:Around}{E:Value->Shared->Prop}
theorem EE {b:Bool}{Q:Value->Shared->Prop} (I:Inv X pins σ H s) (e:H a=some (.ins C dx fs)) (c:Cls X.K C) (n:NoAttr X.K C f) (l:fs.lookup f=some v)
  (h:∀u s',Inv X pins σ H s'->RelV v u->Q u s'):wpAny (model X.prog X.w) A (getAttr (.ref a) f b) Q E s:=by
 obtain⟨mA,O,r,_,_,_⟩:=qN I.hok e;obtain⟨u,hu,ru⟩:=RelO.some_of (v:=v) (o:=mA f) (by rw[←l];exact r f);exact OX I.kIn O (c.get f) c.hd n hu (v5 ru) (h u _ (I.tok _) ru)
theorem tX {m:Str}{g:Addr}{pl:Sem Bool}{Q:Value×List Value->Shared->Prop} (I:Inv X pins σ H s) (e:H a=some (.ins C dx fs)) (c:Cls X.K C) (k:eX X.K C m g) (l:fs.lookup m=none)
  (h:Q (.ref g,[.ref a]) s):wpAny (model X.prog X.w) A (getMethod (.ref a) m pl) Q E s:=by
 obtain⟨mA,O,r,_,_,_⟩:=qN I.hok e;have hn:mA m=none:=RelO.none_of (by rw[←l];exact r m);exact I0 I.kIn O (c.get m) k.at_ k.fn hn h
theorem EI {y:V}{u:Value}{Q:Unit->Shared->Prop} (I:Inv X pins σ H s) (e:H a=some (.ins C dx fs)) (c:Cls X.K C) (n:NoAttr X.K C f) (hl:fs.length<1000) (ry:RelV y u)
  (h:∀s',Inv X pins σ (upd H a (.ins C dx (cH f y fs))) s'->Q () s'):wpAny (model X.prog X.w) A (setAttr (.ref a) f u) Q E s:=by
 obtain⟨mA,O,r,wi,_,ho⟩:=qN I.hok e;have hz:(fs.map (·.1)).length<=sizeLine:=by rw[List.length_map,sizeLine_eq];lia
 refine OG I.kIn O c.sa c.po n.taker c.hd wi hz fun h' O' sb=>h _ ?_;have hd:∃o,h'.get? dx=some o:=let ⟨o,_,_,e',_⟩:=O'.ns;⟨o,e'⟩;refine I.write (x:=a) (e:=dx) (by rw[e];exact True.intro) (.inr ho) (fun b q hb z=>(sb.2 b hb).trans z) hd ?_;refine⟨by rw[aJ O.ne];exact ho,?_,O.ne,O'.obj,_,O'.ns,fun g=> ?_,fun g hg=> ?_⟩
 ·have:=rM f y fs;lia
 ·show RelO ((cH f y fs).lookup g) (if g=f then some u else mA g);rw[iZ]
  by_cases q:g=f
  ·rw[if_pos q,if_pos q];exact ry
  ·rw[if_neg q,if_neg q];exact r g
 ·by_cases q:g=f
  ·rw[q];exact(pG f y fs).1
  ·refine(pG f y fs).2 g (wi g fun z=>hg ?_);show (if g=f then some u else mA g)=none;rw[if_neg q];exact z
theorem Inv.made (I:Inv X pins σ H s):Inv X pins σ (upd (upd H s.heap.objs.size (.own (s.heap.objs.size+1))) (s.heap.objs.size+1) (.ins C s.heap.objs.size []))
  { s with heap:=(s.heap.push PySem.W.emptyDict).push (PySem.W.instObj C s.heap.objs.size) }:=by
 have e1:(s.heap.push PySem.W.emptyDict).get? s.heap.objs.size=some PySem.W.emptyDict:=Heap.get?_push_size s.heap rfl;have e2:((s.heap.push PySem.W.emptyDict).push (PySem.W.instObj C s.heap.objs.size)).get? (s.heap.objs.size+1)=some (PySem.W.instObj C s.heap.objs.size):=by
  have:=Heap.get?_push_size (s.heap.push PySem.W.emptyDict) (o:=PySem.W.instObj C s.heap.objs.size) rfl
  rwa [Heap.size_push]at this
 have e3:(s.heap.push PySem.W.emptyDict).Ns s.heap.objs.size (fun _=>none):=⟨PySem.W.emptyDict,#[],_,e1,rfl,(fun e he=>absurd he (by simp)),fun _=>rfl⟩
 have I1:=I.laid (a:=s.heap.objs.size) (o:= .own (s.heap.objs.size+1)) (h':=s.heap.push PySem.W.emptyDict) (t':=s.toks) (fun b u q=>Heap.get?_push_of_some _ q) (Nat.le_refl _) ⟨_,e1⟩;refine I1.laid (a:=s.heap.objs.size+1) (o:= .ins C s.heap.objs.size []) (t':=s.toks) (fun b u q=>Heap.get?_push_of_some _ q) (Nat.le_of_eq (Heap.size_push _ _)) ?_;have ne:s.heap.objs.size≠s.heap.objs.size+1:=Nat.ne_of_lt (Nat.lt_succ_self _);refine⟨by rw[aJ ne,aV],Nat.zero_le _,ne,e2,fun _=>none,(Heap.Ns1.of_empty e3).at fun o q=>Heap.get?_push_of_some _ q,fun _=>True.intro,fun y hy=>absurd rfl hy⟩
theorem M5 {prog:Program}{w:World}{env:Env}{e:Expr}{f:Str}{pos:Pos}{s:Shared}{Q:Value->Shared->Prop} (hb:attributeBase e f env (eval e env)=eval e env)
  (h:wpAny (model prog w) A (eval e env) (fun o s₁=>wpAny (model prog w) A (getAttr o f true) Q E s₁) E s):wpAny (model prog w) A (eval (.Attribute e f pos) env) Q E s :=
 Attribute_any_ h (by rw[arm_eval_Attribute,hb])
end
def JD (K:PySem.W.Frag)(ta:TE)(f:Str):TE:=fun σ H Q=>ta σ H fun x H1=>∃a C dx fs v,x= .ref a/\H1 a=some (.ins C dx fs)/\Cls K C/\NoAttr K C f/\fs.lookup f=some v/\Q v H1
def RX (K:PySem.W.Frag)(ta tv:TE)(f:Str):TS:=fun D σ H=>tv σ H fun y H1=>ta σ H1 fun x H2=>∃a C dx fs,x= .ref a/\H2 a=some (.ins C dx fs)/\Cls K C/\NoAttr K C f/\fs.length<1000 ∧
 D.nx σ (upd H2 a (.ins C dx (cH f y fs)))
def QP (X:Cx)(op:Operator)(rd:V->V->Hp->VK->Prop):Prop :=
 ∀(pins:List (Addr×Obj)) (s:Shared) (σ:St) (H:Hp) (x y:V) (u v:Value) (Q:VK),Inv X pins σ H s->RelV x u->RelV y v->rd x y H Q->wpAny (model X.prog X.w) X.A (inplaceOp op u v) (EP X pins σ Q) X.xe s
section
variable {X:Cx}{o e value:Expr}{f:Str}{pos pos' tpos:Pos}{ta tv:TE}
theorem bO (he:PE X e ta)(hb:attributeBase e f X.env (eval e X.env)=eval e X.env):PE X (.Attribute e f pos) (JD X.K ta f):=by
 intro pins s σ H Q I h;refine M5 hb (thn (he pins s σ H _ I h) fun u s1 ⟨x,H1,I1,rx,a,C,dx,fs,v,ex,ea,c,n,l,q⟩=> ?_);subst ex;obtain rfl:u=Value.ref a:=rx;exact EE I1 ea c n l fun u' s2 I2 ru=>⟨v,H1,I2,ru,q⟩
theorem gD (ha:PE X o ta)(hv:PE X value tv)(hs:swapsWith value (some (.Attribute o f pos')) pos.line X.env=pure false):PS X (.Assign [.Attribute o f pos'] value pos) (RX X.K ta tv f):=by
 intro pins s σ H D I h;refine plainObj_wpAny_Assign_Attribute (thn (hv pins s σ H _ I h) fun u s1 ⟨y,H1,I1,ry,q⟩=>thn (ha pins s1 σ H1 _ I1 q) fun ov s2 ⟨x,H2,I2,rx,a,C,dx,fs,ex,ea,c,n,l,q2⟩=> ?_) hs;subst ex;obtain rfl:ov=Value.ref a:=rx;exact EI I2 ea c n l ry fun s3 I3=>⟨σ,_,I3,q2⟩
def PX:V->V->Hp->VK->Prop:=fun x y H Q=>∃i j,x= .int i/\y= .int j/\Q (.int (i+j)) H
theorem QK:QP X .Add PX:=by
 rintro pins s σ H x y u v Q I rx ry ⟨i,j,rfl,rfl,q⟩;obtain⟨t,rfl⟩:=(show ∃t,u=Value.int i t from rx)
 obtain⟨t',rfl⟩:=(show ∃t',v=Value.int j t' from ry)
 exact PyProof.Rows.iadd_int ⟨.int (i+j),H,I.tok _,⟨_,rfl⟩,q⟩
end
section
variable {X:Cx}{pins:List (Addr×Obj)}{σ:St}{H:Hp}{s:Shared}{A:Around}{E:Value->Shared->Prop}{Q:Value->Shared->Prop}{c:Value}{b:Bool}
inductive gN (K:PySem.W.Frag)(H:Hp):V->Value->Prop where
 | non:gN K H .non (.type "NoneType")
 | bl (x:Bool):gN K H (.bl x) (.type "bool")
 | int (i:Int):gN K H (.int i) (.type "int")
 | str (x:Str):gN K H (.str x) (.type "str")
 | flt (x:UInt64):gN K H (.flt x) (.type "float")
 | lst {a:Addr}{xs:List V} (e:H a=some (.lst xs)):gN K H (.ref a) (.type "list")
 | frz {a:Addr}{o:Obj}{xs:List V} (e:H a=some (.frz o (.lst xs))):gN K H (.ref a) (.type "list")
 | tup {a:Addr}{xs:List V} (e:H a=some (.tup xs)):gN K H (.ref a) (.type "tuple")
 | dK {a:Addr}{kvs:List (Key×V)} (e:H a=some (.dK kvs)):gN K H (.ref a) (.type "dict")
 | dT {a:Addr}{kvs:List (List Key×V)} (e:H a=some (.dT kvs)):gN K H (.ref a) (.type "dict")
 | ins {a C dx:Addr}{fs:List (Str×V)} (e:H a=some (.ins C dx fs)) (cl:Cls K C) (ha:PySem.W.findIn K (.ref C) "__class__" =some (some (.builtin "object.__class__")))
   (hn:PySem.W.specialIn K (.builtin "object.__class__") "__get__" =some (some (.builtin "getset_descriptor.__get__")))(htk:PySem.W.takesIn K (.builtin "object.__class__")=some true)
   (hm:PySem.W.mroIn K C (.type "object")=some true):gN K H (.ref a) (.ref C)
theorem E6 {x:V}{u t:Value} (I:Inv X pins σ H s) (rx:RelV x u) (ty:gN X.K H x t) (e:PySem.W.kitOne X.K t c=some b) (h:∀tk,Q (.bool b) { s with toks:=tk }) :
  wpAny (model X.prog X.w) A (call (.builtin "isinstance") [u,c]) Q E s:=by
 cases ty with
 | non=>cases (show u=Value.none from rx);exact PySem.W.kia_one PySem.W.kitx_none I.kIn True.intro e (fun z=>nomatch z) h
 | bl y=>cases (show u=Value.bool y from rx);exact PySem.W.kia_one PySem.W.kitx_bool I.kIn True.intro e (fun z=>nomatch z) h
 | int i=>obtain⟨t,q⟩:=(show ∃t,u=Value.int i t from rx);cases q;exact PySem.W.kia_one PySem.W.kitx_int I.kIn True.intro e (fun z=>nomatch z) h
 | str y=>obtain⟨t,q⟩:=(show ∃t,u=Value.str y t from rx);cases q;exact PySem.W.kia_one PySem.W.kitx_str I.kIn True.intro e (fun z=>nomatch z) h
 | flt y=>obtain⟨t,q⟩:=(show ∃t,u=Value.float y t from rx);cases q;exact PySem.W.kia_one PySem.W.kitx_float I.kIn True.intro e (fun z=>nomatch z) h
 | @lst a xs ea =>
  cases (show u=Value.ref a from rx);obtain⟨_,_,n,_,h1⟩:=(show ObjOk X.prog X.w H s.heap a (.lst xs) from I.hok a _ ea)
  exact PySem.W.kia_one PySem.W.kitx_list I.kIn ⟨_,h1,rfl⟩ e (fun z=>nomatch z) h
 | @frz a ob xs ea =>
  cases (show u=Value.ref a from rx);obtain⟨_,_,_,n,_,h1⟩:=(show ObjOk X.prog X.w H s.heap a (.frz ob (.lst xs)) from I.hok a _ ea)
  exact PySem.W.kia_one PySem.W.kitx_list I.kIn ⟨_,h1,rfl⟩ e (fun z=>nomatch z) h
 | @tup a xs ea =>
  cases (show u=Value.ref a from rx);obtain⟨_,_,_,p⟩:=(show ObjOk X.prog X.w H s.heap a (.tup xs) from I.hok a _ ea)
  obtain⟨o,h1,h2,_⟩:=p;exact PySem.W.kia_one PySem.W.kitx_tuple I.kIn ⟨o,h1,h2⟩ e (fun z=>nomatch z) h
 | @dK a kvs ea =>
  cases (show u=Value.ref a from rx);obtain⟨_,_,vs,_,p⟩:=(show ObjOk X.prog X.w H s.heap a (.dK kvs) from I.hok a _ ea)
  obtain⟨o,es,ep,h1,h2,_⟩:=p;exact PySem.W.kia_one PySem.W.kitx_dict I.kIn ⟨o,h1,h2.1⟩ e (fun z=>nomatch z) h
 | @dT a kvs ea =>
  cases (show u=Value.ref a from rx);obtain⟨_,_,xs,_,o,es,ep,h1,h2,_⟩:=(show ObjOk X.prog X.w H s.heap a (.dT kvs) from I.hok a _ ea)
  exact PySem.W.kia_one PySem.W.kitx_dict I.kIn ⟨o,h1,h2.1⟩ e (fun z=>nomatch z) h
 | @ins a C dx fs ea cl ha hn htk hm =>
  cases (show u=Value.ref a from rx);obtain⟨mA,O,_⟩:=qN I.hok ea;obtain⟨od,J,_⟩:=O.look;exact PySem.W.kia_one (PySem.W.kitx_own (cl.get _) cl.hd ha hn htk hm) I.kIn J e (fun z=>nomatch z) h
end
end L2
namespace L2
open PySem PySem.Spec PyProof.Rows
structure Room (k:Nat)(A:Around):Prop where
 hd:A.handled=none
 dp:A.depth+3 * k+5<recursionLimit
 un:A.units+16 * k+200<cLine
theorem Room.mono {j k:Nat}{A:Around} (r:Room k A) (h:j<=k):Room j A:=⟨r.hd,by have:=r.dp;lia,by have:=r.un;lia⟩
theorem Room.deeper {k:Nat}{A:Around} (r:Room (k+1) A) (env:Env):Room k (A.deeper env) :=
 ⟨r.hd,by have:=r.dp;show A.depth+1+3 * k+5<_;lia,by have:=r.un;show A.units+3+16 * k+200<_;lia⟩
theorem DH {A:Around}{C:Addr}{us:List Value}{kw:List (Str×Value)}:(A.under (.builtin "type.__call__" ⟨.ref C::us,kw⟩)).depth=A.depth+1:=by
 first|rfl|simp[Around.under,Code.weight,Code.isCreation,Code.isGuard,Code.isCaller,Code.frames,Code.isFrame,guardIds]
theorem D3 {A:Around}{C:Addr}{us:List Value}{kw:List (Str×Value)}:(A.under (.builtin "type.__call__" ⟨.ref C::us,kw⟩)).units=A.units+1:=by
 first|rfl|simp[Around.under,Code.cUnits,Code.frames,Code.isFrame]
theorem Room.make {k:Nat}{A:Around} (r:Room (k+1) A) (C:Addr) (us:List Value) (kw:List (Str×Value)):Room k (A.under (.builtin "type.__call__" ⟨.ref C::us,kw⟩)) :=
 ⟨r.hd,by have:=r.dp;rw[DH];lia,by have:=r.un;rw[D3];lia⟩
theorem Room.depth {k:Nat}{A:Around} (r:Room k A):A.depth<recursionLimit:=by have:=r.dp;lia
theorem Room.units0 {k:Nat}{A:Around} (r:Room k A):A.units<cLine:=by have:=r.un;lia
def IC:TA:=fun _ H Q=>Q [] H
def L4 (ta:TE)(tr:TA):TA:=fun σ H Q=>ta σ H fun x H1=>tr σ H1 fun xs H2=>Q (x::xs) H2
section
variable {X:Cx}{e:Expr}{es:List Expr}{te:TE}{t:TA}{pos:Pos}
theorem aB:PA X [] IC:=fun _ _ _ _ H Q I h=>Calls.spliced_nil ⟨[],H,I,.nil,h⟩
theorem aA (ha:PE X e te)(hr:PA X es t)(hs:starEach (e::es) X.env=(false,eval e X.env)::starEach es X.env:=by rfl):PA X (e::es) (L4 te t):=by
 intro pos pins s σ H Q I h;rw[hs];show wpAny _ _ (spliced ((false,eval e X.env)::backTo pos (starEach es X.env))) _ _ s;refine Calls.spliced_cons (thn (ha pins s σ H _ I h) fun u s1 ⟨x,H1,I1,r1,q1⟩=> ?_);exact thn (hr pos pins s1 σ H1 _ I1 q1) fun us s2 ⟨xs,H2,I2,r2,q2⟩=>⟨x::xs,H2,I2,.cons r1 r2,q2⟩
def Q3 (t:TA):TE:=fun σ H Q=>t σ H fun xs H1=>xs.length<=sizeLine/\∀p,H1 p=none->Q (.ref p) (upd H1 p (.tup xs))
def RG (t:TA):TE:=fun σ H Q=>t σ H fun xs H1=>xs.length<=sizeLine/\∀p,H1 p=none->Q (.ref p) (upd H1 p (.lst xs))
theorem mQ {x1}(h:PA X es t):PE X (.Tuple es x1 pos) (Q3 t):=by
 intro pins s σ H Q I hq;refine wpAny_Tuple_spliced (thn (h pos pins s σ H _ I hq) fun us s1 ⟨xs,H1,I1,r,z,q⟩=>⟨by rw[←r.length];exact z,?_⟩);have hf:H1 s1.heap.objs.size=none:=I1.hok.fresh (Nat.le_refl _);refine⟨.ref s1.heap.objs.size,upd H1 s1.heap.objs.size (.tup xs),I1.laid (t':=s1.toks) (fun b u e=>Heap.get?_push_of_some _ e) (Nat.le_refl _) ?_,rfl,q _ hf⟩;exact⟨z,us,r,⟨_,Heap.get?_push_size _ rfl,rfl,_,rfl⟩⟩
theorem d8 (h:PA X es t):PE X (.List es pos) (RG t):=by
 intro pins s σ H Q I hq;refine wpAny_List_spliced (thn (h pos pins s σ H _ I hq) fun us s1 ⟨xs,H1,I1,r,z,q⟩=>⟨by rw[←r.length];exact z,?_⟩);have hf:H1 s1.heap.objs.size=none:=I1.hok.fresh (Nat.le_refl _);refine⟨.ref s1.heap.objs.size,upd H1 s1.heap.objs.size (.lst xs),I1.laid (t':=s1.toks) (fun b u e=>Heap.get?_push_of_some _ e) (Nat.le_refl _) ?_,rfl,q _ hf⟩;exact⟨z,us,0,r,Heap.get?_push_size _ rfl⟩
end
abbrev Sp:=List V->Hp->VK->XK->Prop
abbrev CXT:=List Env->Hp->Shared->XK->Value->Shared->Prop
structure Env0 (P:Program)(w:World)(K:PySem.W.Frag)(mg:Str->Option Value)(base:Heap)(A:Around)(outer:List Env)(s:Shared)(H:Hp):Prop where
 frames:A.frames=some outer
 mod:Mod K mg base
 bs:∀b o,base.get? b=some o->s.heap.get? b=some o/\H b=none
 bsz:base.objs.size<=s.heap.objs.size
 funs:s.heap.FunFrames base outer
 frf:∀b∈frs outer,H b=none
 hok:HOk P w H s.heap
 bare:AllBare s.gens
def CE (outer:List Env)(P:Program)(w:World)(H:Hp)(s:Shared)(Q:VK)(u:Value)(s':Shared):Prop :=
 ∃v H',s'.os=s.os/\AllBare s'.gens/\Un (frs outer) [] H H' s.heap s'.heap/\HOk P w H' s'.heap/\RelV v u/\Q v H'
def CR (CX:CXT)(outer:List Env)(P:Program)(w:World)(H:Hp)(s:Shared)(Q:VK)(E:XK)(r:Result)(s':Shared):Prop :=
 match r with
 | .ok (.ret u)=>CE outer P w H s Q u s'
 | .ok _=>False
 | .error e=>CX outer H s E e s'
structure bD (P:Program)(w:World)(K:PySem.W.Frag)(mg:Str->Option Value)(base:Heap)(CX:CXT)(k:Nat)(f:Addr)(fd:FuncData)(ps:List Str)(sp:Sp):Prop where
 len:∀vs H Q E,sp vs H Q E->vs.length=ps.length
 run:∀(A:Around) (outer:List Env) (s:Shared) (H:Hp) (args:Args) (us:List Value) (vs:List V) (Q:VK) (E:XK),Room k A->Env0 P w K mg base A outer s H->BindsTo s fd args (ps.zip us)->Vals vs us->sp vs H Q E →
  codeAny (model P w) A (.call (.ref f) args) (CR CX outer P w H s Q E) s
theorem Env0.make {P:Program}{w:World}{K:PySem.W.Frag}{mg:Str->Option Value}{base:Heap}{A:Around}{outer:List Env}{s:Shared}{H:Hp} (e:Env0 P w K mg base A outer s H) (C:Addr) (us:List Value) (kw:List (Str×Value)) :
  Env0 P w K mg base (A.under (.builtin "type.__call__" ⟨.ref C::us,kw⟩)) outer s H:=⟨by first|exact e.frames|(simpa [Around.under,Code.envs,Code.isFrame,pushEnvs] using e.frames),e.mod,e.bs,e.bsz,e.funs,e.frf,e.hok,e.bare⟩
section
variable {X:Cx}{pins:List (Addr×Obj)}{σ:St}{H:Hp}{s s':Shared}
theorem Inv.env0 (I:Inv X pins σ H s):Env0 X.prog X.w X.K X.mg X.base X.A X.stack s H :=
 ⟨I.ok.frames,I.ok.mod,I.bs,Nat.le_trans I.ok.bsz I.sz,I.stack,I.stkFree,I.hok,I.bare⟩
theorem Inv.after {Q:VK}{u:Value} (I:Inv X pins σ H s) (h:CE X.stack X.prog X.w H s Q u s'):EP X pins σ Q u s':=by
 obtain⟨v,H',os,bare,un,hok,r,q⟩:=h;obtain⟨hh,g,d,t,os'⟩:=s';obtain rfl:os'=s.os:=os;exact⟨v,H',I.call (h':=hh) (g':=g) (d':=d) (t':=t) (ch:=[]) un hok bare (fun b z=>absurd z (by simp)),r,q⟩
end
def tQ (sp:Sp)(dvs:List V)(E:XK)(t:TA):TE:=fun σ H Q=>t σ H fun vs H1=>sp (vs++dvs) H1 Q E
def C3 (C:Addr)(sp:Sp)(dvs:List V)(E:XK)(t:TA):TE:=fun σ H Q=>t σ H fun vs H1=>∀x dx,H1 x=none->H1 dx=none->dx≠x →
 sp (.ref x::(vs++dvs)) (upd (upd H1 dx (.own x)) x (.ins C dx [])) (fun v H2=>v= .non/\Q (.ref x) H2) E
def Binds (K:PySem.W.Frag)(fd:FuncData)(ps:List Str)(ds:List Value):Prop :=
 ∀(s:Shared) (us:List Value),K.In s.heap->(us++ds).length=ps.length->BindsTo s fd ⟨us,[]⟩ (ps.zip (us++ds))
theorem Binds.all {K:PySem.W.Frag}{fd:FuncData}{ps:List Str} (h:∀us:List Value,us.length=ps.length->bindArgs fd ⟨us,[]⟩=pure (ps.zip us)):Binds K fd ps []:=fun s us _ hl=>by
 rw[List.append_nil]at hl ⊢;exact .of_eq (h us hl)
def pV (CX:CXT)(X:Cx)(E:XK):Prop:=∀(pins:List (Addr×Obj)) (σ:St) (H:Hp) (s:Shared) (e:Value) (s':Shared),Inv X pins σ H s->CX X.stack H s E e s'->X.xe e s'
section
variable {X:Cx}{CX:CXT}{k:Nat}{f C:Addr}{fd:FuncData}{ps:List Str}{sp:Sp}{dvs:List V}{ds:List Value}{E:XK}{x m:Str}{p pos apos:Pos}{e o:Expr}{es:List Expr}{ta:TE}{t:TA}
theorem t9 {pins:List (Addr×Obj)}{σ:St}{H:Hp}{s:Shared}{Q:VK}{us:List Value}{vs:List V} (F:bD X.prog X.w X.K X.mg X.base CX k f fd ps sp) (hr:Room k X.A) (hb:Binds X.K fd ps ds) (hd:Vals dvs ds) (hx:pV CX X E)
  (I:Inv X pins σ H s)(r:Vals vs us)(h:sp (vs++dvs) H Q E):wpAny (model X.prog X.w) X.A (call (.ref f) us) (EP X pins σ Q) X.xe s:=by
 have r2:Vals (vs++dvs) (us++ds):=r.append hd;have hl:(us++ds).length=ps.length:=by rw[←r2.length];exact F.len _ _ _ _ h
 refine wpAny_call (codeAny_mono (F.run X.A X.stack s H ⟨us,[]⟩ (us++ds) (vs++dvs) Q E hr I.env0 (hb s us I.kIn hl) r2 h) fun r s' hq=> ?_);cases r with
 | error e=>exact hx pins σ H s e s' I hq
 | ok fl =>
  cases fl with
  | ret u=>exact I.after hq
  | next=>exact False.elim hq
  | brk=>exact False.elim hq
  | cont=>exact False.elim hq
theorem O3 (F:bD X.prog X.w X.K X.mg X.base CX k f fd ps sp)(hr:Room k X.A)(hg:Gl X x)(hm:X.mg x=some (.ref f))(hk:PySem.W.keepIn X.K (.ref f)=true)(hb:Binds X.K fd ps ds)(hd:Vals dvs ds)(hx:pV CX X E)
  (ha:PA X (e::es) t)(hdb:(x==("__debug__" :Str))=false:=by decide)(he:starEach (e::es) X.env=(false,eval e X.env)::starEach es X.env:=by rfl)(hpl:(backTo pos (starEach es X.env)).any (·.1)=false:=by rfl) :
  PE X (.Call (.Name x p) (e::es) [] pos) (tQ sp dvs E t):=by
 intro pins s σ H Q I h;refine wpAny_Call_Name_kw (qQ I hg hm ?_ hdb);refine PySem.W.callWith_K (h₀:=X.base) I.ok.mod.kin hk (thn (ha pos pins s σ H _ I h) fun us s1 ⟨vs,H1,I1,r,q⟩=>⟨I1.kIn,?_⟩) he hpl;exact t9 F hr hb hd hx I1 r q
structure Mk (K:PySem.W.Frag)(C f:Addr):Prop where
 makes:PySem.W.makesIn K C=true
 init:PySem.W.findIn K (.ref C) "__init__" =some (some (.ref f))
 fn:PySem.W.isFn K (.ref f)=true
 kp:PySem.W.keepIn K (.ref C)=true
theorem IN {pins:List (Addr×Obj)}{σ:St}{H:Hp}{s:Shared}{Q:VK}{us:List Value}{vs:List V} (M:Mk X.K C f) (F:bD X.prog X.w X.K X.mg X.base CX k f fd ps sp) (hr:Room (k+1) X.A) (hb:Binds X.K fd ps ds) (hd:Vals dvs ds)
  (hx:pV CX X E)(I:Inv X pins σ H s)(r:Vals vs us)
  (h:∀x dx,H x=none->H dx=none->dx≠x->sp (.ref x::(vs++dvs)) (upd (upd H dx (.own x)) x (.ins C dx [])) (fun v H2=>v= .non/\Q (.ref x) H2) E) :
  wpAny (model X.prog X.w) X.A (call (.ref C) us) (EP X pins σ Q) X.xe s:=by
 have hq:=h (s.heap.objs.size+1) s.heap.objs.size (I.hok.fresh (Nat.le_succ _)) (I.hok.fresh (Nat.le_refl _)) (Nat.ne_of_lt (Nat.lt_succ_self _));have I2:=Inv.made (C:=C) I;have r2:Vals (V.ref (s.heap.objs.size+1)::(vs++dvs)) (Value.ref (s.heap.objs.size+1)::(us++ds)):= .cons rfl (r.append hd);have hl:(Value.ref (s.heap.objs.size+1)::us++ds).length=ps.length:=by
  have e:=r2.length;rw[F.len _ _ _ _ hq]at e;exact e.symm
 refine wpAny_call (K3 (f:=f) I.kIn M.makes M.init (beq_iff_eq.mp M.fn) (codeAny_mono (F.run _ X.stack _ _ ⟨Value.ref (s.heap.objs.size+1)::us,[]⟩ (Value.ref (s.heap.objs.size+1)::(us++ds)) _ _ E (hr.make C us [])
  (I2.env0.make C us []) (hb _ (Value.ref (s.heap.objs.size+1)::us) I2.kIn hl) r2 hq) fun r s' hq'=> ?_))
 cases r with
 | error e=>exact hx pins σ _ _ e s' I2 hq'
 | ok fl =>
  cases fl with
  | ret u =>
   obtain⟨v,H',I3,rv,ev,q3⟩:=I2.after hq';subst ev;exact⟨rv,⟨V.ref (s.heap.objs.size+1),H',I3,rfl,q3⟩⟩
  | next=>exact False.elim hq'
  | brk=>exact False.elim hq'
  | cont=>exact False.elim hq'
theorem M0 (M:Mk X.K C f)(F:bD X.prog X.w X.K X.mg X.base CX k f fd ps sp)(hr:Room (k+1) X.A)(hg:Gl X x)(hm:X.mg x=some (.ref C))(hb:Binds X.K fd ps ds)(hd:Vals dvs ds)(hx:pV CX X E)
  (ha:PA X (e::es) t)(hdb:(x==("__debug__" :Str))=false:=by decide)(he:starEach (e::es) X.env=(false,eval e X.env)::starEach es X.env:=by rfl)(hpl:(backTo pos (starEach es X.env)).any (·.1)=false:=by rfl) :
  PE X (.Call (.Name x p) (e::es) [] pos) (C3 C sp dvs E t):=by
 intro pins s σ H Q I h;refine wpAny_Call_Name_kw (qQ I hg hm ?_ hdb);refine PySem.W.callWith_K (h₀:=X.base) I.ok.mod.kin M.kp (thn (ha pos pins s σ H _ I h) fun us s1 ⟨vs,H1,I1,r,q⟩=>⟨I1.kIn,?_⟩) he hpl;exact IN M F hr hb hd hx I1 r q
end
section
variable {X:Cx}{CX:CXT}{k:Nat}{f C:Addr}{fd:FuncData}{ps ks:List Str}{sp:Sp}{E:XK}{x m:Str}{p pos apos kpos:Pos}{e o:Expr}{es:List Expr}{kws:List Keyword}{te ta:TE}{t tk:TA}{nm:Option Str}
variable {g:List Value->List Value->List Value}{gV:List V->List V->List V}
end
structure aS (N P:List Str)(sc:Scope):Prop where
 kind:sc.kind= .function
 co:sc.isCoroutine=false
 gen:sc.isGenerator=false
 nd:N.Nodup
 pre:N.take P.length=P
 par:∀x∈P,sc.names.lookup x=some .local∨sc.names.lookup x=some .cell
 nofree:∀y∈sc.names,y.2≠ .free
theorem vV {kindOf:Str->Option NameKind}{x:Str}:∀{binds:List (Str×Value)}{m:Str->Option Value},(∀v,(x,v)∉binds)->bindL kindOf binds m x=m x
 | [],_,_=>rfl
 | (n,v)::r,m,h=>by
  unfold bindL;rw[vV fun w hw=>h w (List.mem_cons_of_mem _ hw)]
  split
  ·have:x≠n:=by rintro rfl;exact h v List.mem_cons_self
   simp[this]
  ·rfl
theorem wC {kindOf:Str->Option NameKind}{x:Str}:∀{binds:List (Str×Value)}{m:Str->Option Value},(∀v,(x,v)∉binds)->bindC kindOf binds m x=m x
 | [],_,_=>rfl
 | (n,v)::r,m,h=>by
  unfold bindC;rw[wC fun w hw=>h w (List.mem_cons_of_mem _ hw)]
  split
  ·rfl
  ·have:x≠n:=by rintro rfl;exact h v List.mem_cons_self
   simp[this]
theorem vT {kindOf:Str->Option NameKind}{x:Str}{v:Value}:∀{P:List Str}{vs:List Value}{i:Nat}{m:Str->Option Value},P.Nodup->P[i]? =some x->vs[i]? =some v->kindOf x=some .local →
  bindL kindOf (P.zip vs) m x=some v
 | [],_,_,_,_,h,_,_=>by simp at h
 | _::_,[],_,_,_,_,h,_=>by simp at h
 | p::P,w::vs,0,m,nd,h1,h2,hk=>by
  simp at h1 h2;subst h1;subst h2;show bindL kindOf ((p,w)::P.zip vs) m p=_;unfold bindL;rw[vV fun v hv=>(List.nodup_cons.mp nd).1 (List.of_mem_zip hv).1,if_pos hk];simp
 | p::P,w::vs,i+1,m,nd,h1,h2,hk=>by
  show bindL kindOf ((p,w)::P.zip vs) m x=_;unfold bindL;exact vT (i:=i) (List.nodup_cons.mp nd).2 (by simpa using h1) (by simpa using h2) hk
theorem v7 {kindOf:Str->Option NameKind}{x:Str}{v:Value}:∀{P:List Str}{vs:List Value}{i:Nat}{m:Str->Option Value},P.Nodup->P[i]? =some x->vs[i]? =some v->kindOf x≠some .local →
  bindC kindOf (P.zip vs) m x=some v
 | [],_,_,_,_,h,_,_=>by simp at h
 | _::_,[],_,_,_,_,h,_=>by simp at h
 | p::P,w::vs,0,m,nd,h1,h2,hk=>by
  simp at h1 h2;subst h1;subst h2;show bindC kindOf ((p,w)::P.zip vs) m p=_;unfold bindC;rw[wC fun v hv=>(List.nodup_cons.mp nd).1 (List.of_mem_zip hv).1,if_neg hk];simp
 | p::P,w::vs,i+1,m,nd,h1,h2,hk=>by
  show bindC kindOf ((p,w)::P.zip vs) m x=_;unfold bindC;exact v7 (i:=i) (List.nodup_cons.mp nd).2 (by simpa using h1) (by simpa using h2) hk
def iT (N:List Str)(vs:List V):St:=vs.map some++List.replicate (N.length - vs.length) none
def uH (CX:CXT)(P:Program)(w:World)(K:PySem.W.Frag)(mg:Str->Option Value)(base:Heap)(N:List Str)(qual:Str)(scope:Scope)(f:Addr)(cd:Value)(A:Around)(outer:List Env)(s:Shared)(H:Hp)(E:XK):Cx where
 prog:=P
 w:=w
 K:=K
 mg:=mg
 base:=base
 A:=A.deeper (envOfC qual scope s.heap.objs.size f cd)
 N:=N
 s₀:=s
 H₀:=H
 env:=envOfC qual scope s.heap.objs.size f cd
 outer:=outer
 stack:=envOfC qual scope s.heap.objs.size f cd::outer
 ex:=[]
 calm:=true
 fn:=fun _=>true
 pn:=[]
 xe:=fun e s'=>wpAny (model P w) (A.deeper (envOfC qual scope s.heap.objs.size f cd)) (leaving (envOfC qual scope s.heap.objs.size f cd) e) (fun _ s''=>CX outer H s E e s'') (fun e' s''=>CX outer H s E e' s'') s'
theorem nL {sc:Scope}{n:Nat}{x:Str} (h:sc.names.lookup x=some .cell):∃c,(cellsFrom n sc.names []).lookup x=some c:=by
 have q:=PySem.W.cellsFrom_some sc.names n [] (.inl h);exact Option.isSome_iff_exists.mp q
theorem GE {CX:CXT}{P:Program}{w:World}{K:PySem.W.Frag}{mg:Str->Option Value}{base:Heap}{N ps:List Str}{qual:Str}{scope:Scope}{f:Addr}{cd:Value}{A:Around}{outer:List Env}{s s1:Shared}{H:Hp}{E:XK}{us:List Value}{vs:List V}
  (S:aS N ps scope)(hd:A.handled=none)(e0:Env0 P w K mg base A outer s H)(hl:vs.length=ps.length)(r:Vals vs us)
  (x:InCallC s s.heap.objs.size (bindL (envOfC qual scope s.heap.objs.size f cd).kindOf (ps.zip us) fun _=>none) (cellsFrom (s.heap.objs.size+1) scope.names []) (bindC (envOfC qual scope s.heap.objs.size f cd).kindOf (ps.zip us) fun _=>none) s1) :
  Inv (uH CX P w K mg base N qual scope f cd A outer s H E) [] (iT N vs) H s1:=by
 have hpl:ps.length<=N.length:=by have:=congrArg List.length S.pre;rw[List.length_take]at this;lia
 obtain⟨h1,tk,rfl,hk⟩:=x.done;have noA:∀b:Addr,b∉(uH CX P w K mg base N qual scope f cd A outer s H E).ex:=fun b z=>absurd (show b∈([]:List Addr) from z) (by simp);refine⟨⟨e0.mod,S.kind,rfl,rfl,Nat.le_refl _,fun y z c h1 h2=> ?_,fun y hy=> ?_,fun y c _ h=> ?_,fun _=>hd,Around.frames_deeper e0.frames,.inr ⟨rfl,rfl⟩,fun b z=>absurd z (noA b),e0.bs,e0.bsz,fun b _ _=>noA b,fun b z=>absurd z (noA b),e0.funs,e0.frf⟩,
  rfl,e0.bare,Un.kept hk,⟨_,x.toInCall.ns,fun i y v h1 h2 h3=> ?_⟩,fun y c h=>⟨_,x.cell y c h⟩,e0.hok.fresh (Nat.le_refl _),fun y c h=> ?_,fun p hp=>absurd (show p∈([]:List (Addr×Obj)) from hp) (by simp),e0.hok.kept hk,?_⟩
 ·exact name_of_addr x.apart (PySem.mem_of_lookup h1) (PySem.mem_of_lookup h2)
 ·have hy:scope.names.lookup y=some .cell∨scope.names.lookup y=some .free:=hy;rcases hy with hy|hy
  ·exact nL hy
  ·exact absurd rfl (S.nofree _ (PySem.mem_of_lookup hy))
 ·exact Nat.le_of_lt (x.above y c (PySem.mem_of_lookup h))
 ·have hi:i<vs.length:=by
   unfold iT at h2
   by_cases hi:i<vs.length
   ·exact hi
   ·rw[List.getElem?_append_right (by simpa using hi)]at h2;rw[List.getElem?_replicate]at h2
    split at h2<;>cases h2
  have ha:vs[i]? =some v:=by
   unfold iT at h2;rw[List.getElem?_append_left (by simpa using hi),List.getElem?_map]at h2;cases e:vs[i]? with
   | none=>rw[e]at h2;cases h2
   | some a=>rw[e]at h2;cases h2;rfl
  obtain⟨u,hu,rv⟩:=r.get ha;have hp:ps[i]? =some y:=by
   rw[←S.pre,List.getElem?_take_of_lt (by lia)];exact h1
  have ndP:ps.Nodup:=by rw[←S.pre];exact S.nd.sublist (List.take_sublist _ _)
  refine⟨u,rv,?_⟩;rcases S.par y (List.mem_of_getElem? hp) with k|k
  ·exact .inl ⟨k,vT ndP hp hu k⟩
  ·obtain⟨c,e⟩:=nL (n:=s.heap.objs.size+1) k;refine .inr ⟨.inl k,c,e,?_⟩;have q:=x.cell y c e;rw[v7 ndP hp hu (by show scope.names.lookup y≠_;rw[k];decide)]at q;exact q
 ·exact e0.hok.fresh (Nat.le_of_lt (x.above y c (PySem.mem_of_lookup h)))
 ·unfold iT;show _=N.length;rw[List.length_append,List.length_map,List.length_replicate]
  lia
theorem UG {CX:CXT}{P:Program}{w:World}{K:PySem.W.Frag}{mg:Str->Option Value}{base:Heap}{k:Nat}{f:Addr}{name qual:Str}{params:Arguments}{body:List Stmt}{scope:Scope}{dV kV doc pm cdv ct oc:Value}{an od:Option Addr}
  {osl:Array (Option Value)}{N ps:List Str}{sp:Sp} (lk:K.lookup f=some ⟨oc,od,.func (PySem.W.fnOf name qual params body scope dV kV doc pm an cdv ct),osl⟩) (hcd:PySem.W.codeIn K cdv qual=true) (S:aS N ps scope)
  (len:∀vs H Q E,sp vs H Q E->vs.length=ps.length)
  (hbody:∀(A:Around) (outer:List Env) (s:Shared) (H:Hp) (vs:List V) (Q:VK) (E:XK),Room k (A.deeper (envOfC qual scope s.heap.objs.size f cdv))->sp vs H Q E →
   ∃t,PSs (uH CX P w K mg base N qual scope f cdv A outer s H E) body t/\t { nx:=fun _ H'=>Q .non H',rt:=Q } (iT N vs) H) :
  bD P w K mg base CX (k+1) f (PySem.W.fnOf name qual params body scope dV kV doc pm an cdv ct) ps sp:=by
 refine⟨len,fun A outer s H args us vs Q E hr e0 hb r hsp=> ?_⟩;have hl:=len _ _ _ _ hsp;have KX:K.In s.heap:=e0.mod.kin.keeps fun b o e=>(e0.bs b o e).1;have lim:s.heap.NoLimit:=e0.mod.nolimit.keeps fun b o e=>(e0.bs b o e).1;have hkind:∀y∈ps.zip us,scope.names.lookup y.1=some .local∨(scope.names.lookup y.1=some .cell/\((cellsFrom (s.heap.objs.size+1) scope.names []).lookup y.1).isSome=true):=fun⟨n,v⟩ hy=>by
  rcases S.par n (List.of_mem_zip hy).1 with q|q
  ·exact .inl q
  ·exact .inr ⟨q,PySem.W.cellsFrom_some _ _ _ (.inl q)⟩
 refine codeAny_call_function hr.depth (KX _ _ lk) rfl S.co S.gen rfl (PySem.W.codeRec_of KX hcd) (hb _ _ _ _ ?_);refine wpAny_newFunctionEnv_cells S.kind hkind fun env he s1 x=> ?_;subst he;refine⟨lim.keeps x.toInCall.keep,codeAny_func ?_⟩;obtain⟨t,ht,hq⟩:=hbody A outer s H vs Q E (hr.deeper _) hsp;have I:Inv (uH CX P w K mg base N qual scope f cdv A outer s H E) [] (iT N vs) H s1:=GE S hr.hd e0 hl r x;refine wpAny_mono (ht [] s1 (iT N vs) H _ I hq) (fun fl s' hs=> ?_) fun e s' hs=>hs;have fin:∀{σ':St}{H':Hp}{v:V}{u:Value},Inv (uH CX P w K mg base N qual scope f cdv A outer s H E) [] σ' H' s'->RelV v u->Q v H'->CE outer P w H s Q u s' :=
  fun {σ' H' v u} J rv q=>⟨v,H',J.os,J.bare,J.base,J.hok,rv,q⟩
 cases fl with
 | ret u =>
  obtain⟨v,σ',H',J,rv,q⟩:=hs;exact fin J rv q
 | next =>
  obtain⟨σ',H',J,q⟩:=hs;exact fin (v:=V.non) (u:=Value.none) J rfl q
 | brk =>
  obtain⟨_,_,_,q⟩:=hs;exact False.elim q
 | cont =>
  obtain⟨_,_,_,q⟩:=hs;exact False.elim q
end L2
namespace L2
open PySem PySem.Spec PyProof.Rows
section
variable {X:Cx}{x:Str}{p pos:Pos}{e:Expr}{es:List Expr}{t:TA}{id T:String}{r:List V->Hp->VK->Prop}
def tCB (r:List V->Hp->VK->Prop)(t:TA):TE:=fun σ H Q=>t σ H fun vs H1=>r vs H1 Q
theorem bV (hc:cJ X (.builtin id) r)(hg:Gl X x)(hm:X.mg x=none)(hv:bootBuiltins x=some (.builtin id))(ha:PA X (e::es) t)(hn:x≠ "__name__" :=by decide)(hdb:(x==("__debug__" :Str))=false:=by decide)
  (he:starEach (e::es) X.env=(false,eval e X.env)::starEach es X.env:=by rfl)(hpl:(backTo pos (starEach es X.env)).any (·.1)=false:=by rfl):PE X (.Call (.Name x p) (e::es) [] pos) (tCB r t):=by
 intro pins s σ H Q I h;refine wpAny_Call_Name_kw (mT I hg hm hv ?_ hn hdb);exact PyProof.Rows.callWith_builtin1 (thn (ha pos pins s σ H _ I h) fun us s1 ⟨vs,H1,I1,r1,q1⟩=>hc pins s1 σ H1 vs us Q I1 r1 q1) he hpl
theorem fP (hc:cJ X (.type T) r)(hg:Gl X x)(hm:X.mg x=none)(hv:bootBuiltins x=some (.type T))(ha:PA X (e::es) t)(hn:x≠ "__name__" :=by decide)(hdb:(x==("__debug__" :Str))=false:=by decide)
  (he:starEach (e::es) X.env=(false,eval e X.env)::starEach es X.env:=by rfl)(hpl:(backTo pos (starEach es X.env)).any (·.1)=false:=by rfl):PE X (.Call (.Name x p) (e::es) [] pos) (tCB r t):=by
 intro pins s σ H Q I h;refine wpAny_Call_Name_kw (mT I hg hm hv ?_ hn hdb);exact PyProof.Rows.callWith_type1 (thn (ha pos pins s σ H _ I h) fun us s1 ⟨vs,H1,I1,r1,q1⟩=>hc pins s1 σ H1 vs us Q I1 r1 q1) he hpl
end
end L2
namespace HT
open PySem PyProof.Rows
section
open PySem.SeqAt
open PySem.AutoSeq1 (wpAny_loadPart')
open PySem.MeetsSeq PySem.MeetsSeq2 PySem.MeetsSeq3
end
section
variable {prog:Program}{w:World}{A:Around}{E:Value->Shared->Prop}{s:Shared}
end
end HT
namespace L2
open PySem PySem.Spec PyProof.Rows
abbrev TO:=St->Hp->(Option Int->Hp->Prop)->Prop
def PO (X:Cx)(e:Option Expr)(t:TO):Prop :=
 ∀(pins:List (Addr×Obj)) (s:Shared) (σ:St) (H:Hp) (Q:Option Int->Hp->Prop),Inv X pins σ H s->t σ H Q →
  wpAny (model X.prog X.w) X.A (evalPart e X.env) (fun u s'=>∃o H',Inv X pins σ H' s'/\IsPart u o/\Q o H') X.xe s
def BZ:TO:=fun _ H Q=>Q none H
def LP (t:TE):TO:=fun σ H Q=>t σ H fun x H1=>∃i,x= .int i/\Q (some i) H1
section
variable {X:Cx}{e:Expr}{te:TE}{lo hi:Option Expr}{tl th:TO}{pos p2:Pos}
theorem cU:PO X none BZ:=by
 intro pins s σ H Q I h;rw[evalPart_none];exact wpAny_pure ⟨none,H,I,.none,h⟩
theorem iK (h:PE X e te):PO X (some e) (LP te):=by
 intro pins s σ H Q I hw;rw[evalPart_some];refine thn (h pins s σ H _ I hw) fun u s1 ⟨x,H1,I1,r1,q1⟩=> ?_;obtain⟨i,rfl,q⟩:=q1;obtain⟨t,rfl⟩:=r1;exact⟨some i,H1,I1,.int i t,q⟩
end
end L2
namespace L2
open PySem PySem.Spec PyProof.Rows
def ixN (n:Nat)(i:Int):Option Nat:=if 0<=i then (if i<n then some i.toNat else none) else if -(n:Int)<=i then some (i+n).toNat else none
def atI {α:Type}(xs:List α)(i:Int):Option α:=(ixN xs.length i).bind fun j=>xs[j]?
theorem N7 {n:Nat}{i:Int}{j:Nat} (h:ixN n i=some j):seqIndex? i n=some j/\j<n/\ -(n:Int)<=i/\i<n:=by
 unfold ixN at h
 by_cases h0:0<=i
 ·rw[if_pos h0]at h
  by_cases h1:i<n
  ·rw[if_pos h1]at h;have e:i.toNat=j:=Option.some.inj h;exact⟨by rw[seqIndex_of h0 h1,e],by lia,by lia,h1⟩
  ·rw[if_neg h1]at h;cases h
 ·rw[if_neg h0]at h
  by_cases h1: -(n:Int)<=i
  ·rw[if_pos h1]at h;have e:(i+n).toNat=j:=Option.some.inj h;exact⟨by rw[seqIndex_neg (by lia) h1,e],by lia,h1,by lia⟩
  ·rw[if_neg h1]at h;cases h
theorem uX {α:Type}{xs:List α}{i:Int}{v:α} (h:atI xs i=some v):∃j,seqIndex? i xs.length=some j/\xs[j]? =some v/\j<xs.length/\ -(xs.length:Int)<=i/\i<xs.length:=by
 unfold atI at h;cases e:ixN xs.length i with
 | none=>rw[e]at h;cases h
 | some j =>
  rw[e]at h;obtain⟨h1,h2,h3,h4⟩:=N7 e;exact⟨j,h1,h,h2,h3,h4⟩
theorem mU {α:Type}{xs:List α}{j:Nat}{v:α} (h:xs[j]? =some v):atI xs (j:Int)=some v:=by
 have hj:j<xs.length:=(List.getElem?_eq_some_iff.mp h).1;have e:ixN xs.length (j:Int)=some j:=by
  unfold ixN;rw[if_pos (by lia),if_pos (by lia)];simp
 unfold atI;rw[e];exact h
def MN (b:Expr):Prop:=∀o i,subscripted b false o i=operate [o,i] (getItem o i)
def IxR (X:Cx)(r:R2):Prop :=
 ∀(value slice:Expr) (pins:List (Addr×Obj)) (s:Shared) (σ:St) (H:Hp) (x y:V) (v u:Value) (Q:VK),Inv X pins σ H s->RelV x v->RelV y u->r x y H Q →
  subscripted slice false v u=operate [v,u] (getItem v u)->wpAny (model X.prog X.w) X.A (subscriptTail value slice v u) (EP X pins σ Q) X.xe s
def MtR (X:Cx)(id:String)(r:V->List V->Hp->VK->Prop):Prop :=
 ∀(pins:List (Addr×Obj)) (s:Shared) (σ:St) (H:Hp) (x:V) (xs:List V) (v:Value) (us:List Value) (Q:VK),Inv X pins σ H s->RelV x v->Vals xs us->r x xs H Q →
  wpAny (model X.prog X.w) X.A (call (.builtin id) (v::us)) (EP X pins σ Q) X.xe s
section
variable {X:Cx}{a b:Expr}{ta tb:TE}{pos:Pos}
theorem eL {r:R2}(hr:IxR X r)(ha:PE X a ta)(hb:PE X b tb)(hs:MN b):PE X (.Subscript a b pos) (tOp r ta tb):=by
 intro pins s σ H Q I h;exact Subscript_ (IW ha hb I h fun v u s2 x y H2 I2 rx ry q=>hr a b pins s2 σ H2 x y v u Q I2 rx ry q (hs _ _))
def DG (K:PySem.W.Frag):R2:=fun x y H Q=>∃p xs i v,x= .ref p/\y= .int i/\SqL K H p xs/\atI xs i=some v/\Q v H
def JO (K:PySem.W.Frag):R2:=fun x y H Q=>∃p xs i v,x= .ref p/\y= .int i/\SqT K H p xs/\atI xs i=some v/\Q v H
def VM:R2:=fun x y H Q=>∃z i c,x= .str z/\y= .int i/\z.length<=sizeLine/\atI z.cps.toList i=some c/\Q (.str ⟨#[c]⟩) H
theorem hG:IxR X (DG X.K):=by
 intro value slice pins s σ H x y v u Q I rx ry h hs;obtain⟨p,xs,i,z,rfl,rfl,hq,he,q⟩:=h;cases rx;obtain⟨t,rfl⟩:=ry;obtain⟨its,r,pl,hz⟩:=I.list hq;obtain⟨j,h1,h2,h3,h4,h5⟩:=uX he;obtain⟨w,ew,rw'⟩:=r.get h2;have hl:=r.length;have hn:=pS;have fin:EP X pins σ Q w s:=⟨z,H,I,rw',q⟩
 by_cases h0:0<=i
 ·have hj:i.toNat=j:=by
   rw[seqIndex_of h0 h5]at h1;exact Option.some.inj h1
  exact item_listR pl.isList h0 (by lia) (by rw[hj];simpa using ew) fin hs
 ·have hj:(i+(its.toArray.size:Int)).toNat=j:=by
   rw[seqIndex_neg (by lia) h4]at h1;rw[List.size_toArray,←hl];exact Option.some.inj h1
  exact subscriptTail_builtinR (x:=w) pl.isList.typeIs slot_list_getitem.lookup
   (wpAny_getItem_list_neg (Q:=fun r s'=>r=w/\EP X pins σ Q r s') pl.isList (by lia) (by rw[List.size_toArray]<;>lia) (by lia) (by rw[hj];simpa using ew) ⟨rfl,fin⟩) hs
theorem mG:IxR X (JO X.K):=by
 intro value slice pins s σ H x y v u Q I rx ry h hs;obtain⟨p,xs,i,z,rfl,rfl,hq,he,q⟩:=h;cases rx;obtain⟨t,rfl⟩:=ry;obtain⟨its,r,pl,hz⟩:=I.tuple hq;obtain⟨j,h1,h2,h3,h4,h5⟩:=uX he;obtain⟨w,ew,rw'⟩:=r.get h2;have hl:=r.length;have hn:=pS;have fin:EP X pins σ Q w s:=⟨z,H,I,rw',q⟩
 exact subscriptTail_builtinR (x:=w) pl.typeIs slot_tuple_getitem.lookup
  (getItem_tuple (j:=j) (Q:=fun r s'=>r=w/\EP X pins σ Q r s') pl (by lia) (by lia) (by rw[List.size_toArray,←hl];exact h1) (by simpa using ew) ⟨rfl,fin⟩) hs
theorem FL:IxR X VM:=by
 intro value slice pins s σ H x y v u Q I rx ry h hs;obtain⟨z,i,c,rfl,rfl,hz,he,q⟩:=h;obtain⟨t,rfl⟩:=rx;obtain⟨t',rfl⟩:=ry;obtain⟨j,h1,h2,h3,h4,h5⟩:=uX he;have hl:z.cps.toList.length=z.length:=by simp[Str.length]
 rw[hl]at h1 h4 h5;have hn:=pS;exact tail_any (typeIs_str s z t) slot_str_getitem.lookup (getItem_str (c:=c) (by
  have e1:decide (i< -(2^63:Int))=false:=decide_eq_false (by lia);have e2:decide (i≥2^63)=false:=decide_eq_false (by lia);rw[e1,e2,Bool.or_false]) (by rw[h1];simpa using h2) ⟨.str ⟨#[c]⟩,H,I.tok _,⟨_,rfl⟩,q⟩) hs
def tD:V->Bool
 | .non=>true
 | .bl _=>true
 | .int _=>true
 | .str _=>true
 | _=>false
def eqV:V->V->Bool
 | .non,.non=>true
 | .bl a,.bl b=>a==b
 | .bl a,.int b=>(if a then 1 else 0)==b
 | .int a,.bl b=>a==(if b then 1 else 0)
 | .int a,.int b=>a==b
 | .str a,.str b=>a==b
 | _,_=>false
theorem Q8 {A:Around}{s:Shared}{y x:V}{u v:Value} (ry:RelV y u) (rx:RelV x v) (fy:tD y=true) (fx:tD x=true):SeqAt.EqAt A s u v (eqV y x):=by
 cases y with
 | non =>
  cases ry;cases x with
  | non=>cases rx;exact SeqAt.EqAt.same _
  | bl b=>cases rx;exact SeqAt.EqAt.none_bool b
  | int b=>obtain⟨t,rfl⟩:=rx;exact SeqAt.EqAt.none_int b t
  | str b=>obtain⟨t,rfl⟩:=rx;exact SeqAt.EqAt.none_str b t
  | _=>exact absurd (show false=true from fx) Bool.false_ne_true
 | bl a =>
  cases ry;cases x with
  | non=>cases rx;exact SeqAt.EqAt.bool_none a
  | bl b=>cases rx;exact SeqAt.EqAt.bool_bool a b
  | int b=>obtain⟨t,rfl⟩:=rx;exact SeqAt.EqAt.bool_int a b t
  | str b=>obtain⟨t,rfl⟩:=rx;exact SeqAt.EqAt.bool_str a b t
  | _=>exact absurd (show false=true from fx) Bool.false_ne_true
 | int a =>
  obtain⟨t',rfl⟩:=ry;cases x with
  | non=>cases rx;exact SeqAt.EqAt.int_none a t'
  | bl b=>cases rx;exact SeqAt.EqAt.int_bool a t' b
  | int b=>obtain⟨t,rfl⟩:=rx;exact SeqAt.EqAt.int_int a t' b t
  | str b=>obtain⟨t,rfl⟩:=rx;exact SeqAt.EqAt.int_str a t' b t
  | _=>exact absurd (show false=true from fx) Bool.false_ne_true
 | str a =>
  obtain⟨t',rfl⟩:=ry;cases x with
  | non=>cases rx;exact SeqAt.EqAt.str_none a t'
  | bl b=>cases rx;exact SeqAt.EqAt.str_bool a t' b
  | int b=>obtain⟨t,rfl⟩:=rx;exact SeqAt.EqAt.str_int a t' b t
  | str b=>obtain⟨t,rfl⟩:=rx;exact SeqAt.EqAt.str_str a t' b t
  | _=>exact absurd (show false=true from fx) Bool.false_ne_true
 | _=>exact absurd (show false=true from fy) Bool.false_ne_true
theorem z6:cJ X (.builtin "len") (fun xs H Q=>∃p ys,xs=[.ref p]/\(SqL X.K H p ys∨SqT X.K H p ys)/\Q (.int ys.length) H):=by
 intro pins s σ H xs us Q I r h;obtain⟨p,ys,rfl,hq,q⟩:=h;obtain⟨u,rfl,rx⟩:=fT r;cases rx;have hn:=pS;rcases hq with hq|hq
 ·obtain⟨its,r',pl,hz⟩:=I.list hq;have hlen:=r'.length;exact Calls.call_len_list pl.isList (by simp only[List.size_toArray]<;>lia) ⟨.int ys.length,H,I.tok _,⟨s.toks+1,by rw[List.size_toArray,hlen]⟩,q⟩
 ·obtain⟨its,r',pl,hz⟩:=I.tuple hq;have hlen:=r'.length;exact len_tuple pl (by simp only[List.size_toArray]<;>lia) ⟨.int ys.length,H,I.tok _,⟨s.toks+1,by rw[List.size_toArray,hlen]⟩,q⟩
theorem yP:cJ X (.builtin "len") (fun xs H Q=>∃z,xs=[.str z]/\z.length<=sizeLine/\Q (.int z.length) H):=by
 intro pins s σ H xs us Q I r h;obtain⟨z,rfl,hz,q⟩:=h;obtain⟨u,rfl,t,rfl⟩:=fT r;have hn:=pS;exact len_str (by lia) ⟨.int z.length,H,I.tok _,⟨_,rfl⟩,q⟩
theorem zG:cJ X (.type "list") (fun xs H Q=>∃p ys,xs=[.ref p]/\(SqL X.K H p ys∨SqT X.K H p ys)/\∀l,H l=none->Q (.ref l) (upd H l (.lst ys))):=by
 intro pins s σ H xs us Q I r h;obtain⟨p,ys,rfl,hq,q⟩:=h;obtain⟨u,rfl,rx⟩:=fT r;cases rx;have fin:∀(its:List Value),Vals ys its->ys.length<=sizeLine->∀(h':Heap) (c':Nat),(∀b o',s.heap.get? b=some o'->h'.get? b=some o') →
   h'.get? s.heap.objs.size=some { cls:= .type "list",dict:=none,data:= .seq its.toArray c',slots:= #[] }->EP X pins σ Q (.ref s.heap.objs.size) { s with heap:=h' }:=fun its r' hz h' c' kp e =>
  ⟨.ref s.heap.objs.size,_,I.laid (t':=s.toks) kp (Nat.le_refl _) (show ObjOk X.prog X.w _ h' _ (.lst ys) from⟨hz,its,c',r',e⟩),rfl,q _ (I.hok.fresh (Nat.le_refl _))⟩
 rcases hq with hq|hq
 ·obtain⟨its,r',pl,hz⟩:=I.list hq;have hlen:=r'.length;obtain⟨o,ho,hc,n,hd⟩:=pl.isList;exact call_list_seq p (.inl rfl) ho hc hd (fun h' c' kp e=>fin its r' hz h' c' kp e) (by simp only[List.size_toArray]<;>lia)
 ·obtain⟨its,r',pl,hz⟩:=I.tuple hq;have hlen:=r'.length;obtain⟨o,ho,hc,n,hd⟩:=pl;exact call_list_seq p (.inr rfl) ho hc hd (fun h' c' kp e=>fin its r' hz h' c' kp e) (by simp only[List.size_toArray]<;>lia)
def tyV (K:PySem.W.Frag)(T:String)(x:V)(H:Hp):Prop:=match x with
 | .str _=>T= "str"
 | .int _=>T= "int"
 | .ref p=>(T= "list" /\∃xs,SqL K H p xs)∨(T= "tuple" /\∃o,K.lookup p=some o/\o.cls= .type "tuple" /\o.dict=none) ∨
   (T= "dict" /\((∃kvs,H p=some (.dK kvs))∨∃kvs,H p=some (.dT kvs)))∨(T= "set" /\∃S n,H p=some (.set S n))
 | _=>False
theorem PN {pins:List (Addr×Obj)}{σ:St}{H:Hp}{s:Shared}{T:String}{x:V}{v:Value} (I:Inv X pins σ H s) (r:RelV x v) (ty:tyV X.K T x H) :
  s.TypeIs v T/\∀a,v= .ref a->∃ob,s.heap.get? a=some ob/\ob.dict=none:=by
 cases x with
 | str z =>
  obtain⟨t,rfl⟩:=r;cases (show T= "str" from ty);exact⟨typeIs_str s z t,fun _ e=>nomatch e⟩
 | int i =>
  obtain⟨t,rfl⟩:=r;cases (show T= "int" from ty);exact⟨typeIs_int s i t,fun _ e=>nomatch e⟩
 | ref p =>
  cases r;rcases ty with⟨rfl,xs,hq⟩|⟨rfl,o,hk,hc,hd⟩|⟨rfl,hk⟩|⟨rfl,S,n,hk⟩
  ·obtain⟨its,_,pl,_⟩:=I.list hq;refine⟨pl.isList.typeIs,fun a e=> ?_⟩;cases e;obtain⟨o,n,e,c,hd,_⟩:=pl;exact⟨o,e,hd⟩
  ·refine⟨⟨o,I.kIn p o hk,hc⟩,fun a e=> ?_⟩;cases e;exact⟨o,I.kIn _ o hk,hd⟩
  ·have z:∃o,s.heap.get? p=some o/\o.ExactDict:=by
    rcases hk with⟨kvs,hk⟩|⟨kvs,hk⟩
    ·obtain⟨_,_,_,_,o,_,_,e,ex,_⟩:=I.hok p _ hk;exact⟨o,e,ex⟩
    ·obtain⟨_,_,_,_,o,_,_,e,ex,_⟩:=I.hok p _ hk;exact⟨o,e,ex⟩
   obtain⟨o,e,ex⟩:=z;refine⟨⟨o,e,ex.1⟩,fun a e2=> ?_⟩;cases e2;exact⟨o,e,ex.2.1⟩
  ·obtain⟨o,_,_,_,e,ex,_⟩:=I.hok p _ hk;refine⟨⟨o,e,ex.1⟩,fun a e2=> ?_⟩;cases e2;exact⟨o,e,ex.2.1⟩
 | _=>exact False.elim ty
def tBM (K:PySem.W.Frag)(T:String)(r:V->List V->Hp->VK->Prop)(to:TE)(t:TA):TE:=fun σ H Q=>to σ H fun x H1=>tyV K T x H1/\t σ H1 fun xs H2=>r x xs H2 Q
variable {o e:Expr}{es:List Expr}{to:TE}{t:TA}{name:Str}{apos cpos:Pos}{T id:String}{r:V->List V->Hp->VK->Prop}
theorem jP (pa:PlainAttrs T)(slot:Slot T name id)(hty:typeOf (.builtin id)=pure (.type "method_descriptor"))(hm:MtR X id r)(ho:PE X o to)(ha:PA X (e::es) t)
  (hbase:attributeBase o name X.env (eval o X.env)=eval o X.env:=by rfl)
  (hfew:((backTo cpos (starEach (e::es) X.env)).all (fun x=> !x.1)&&(backToKw cpos (keywordEach [] X.env)).all (fun x=>x.1.isSome)
   && decide ((e::es).length+([]:List Keyword).length+(if ([]:List Keyword).isEmpty then 0 else 1)<30))=true:=by rfl)
  (hline:(apos.endLine==cpos.line)=true:=by rfl)(hs:starEach (e::es) X.env=(false,eval e X.env)::starEach es X.env:=by rfl)(hplain:(backTo cpos (starEach es X.env)).any (·.1)=false:=by rfl) :
  PE X (.Call (.Attribute o name apos) (e::es) [] cpos) (tBM X.K T r to t):=by
 intro pins s σ H Q I h;refine wpAny_Call_method_late hbase hfew hline rfl (thn (ho pins s σ H _ I h) fun v s1 ⟨x,H1,I1,r1,ty,q1⟩=> ?_);obtain⟨h1,h2⟩:=PN I1 r1 ty;refine⟨T,id,pa,slot,hty,h1,h2,?_⟩;have hA:=ha cpos pins s1 σ H1 _ I1 q1;rw[hs]at hA ⊢;refine Calls.callWith_builtin (by show (false||(backTo cpos (starEach es X.env)).any (·.1))=false;rw[hplain]<;>rfl) (Calls.evalArgs_plain ?_);exact thn hA fun us s2 ⟨vs,H2,I2,r2,q2⟩=>hm pins s2 σ H2 x vs v us Q I2 r1 r2 q2
end
end L2
namespace L2
open PySem PySem.Spec PyProof.Rows
def MtM (X:Cx)(id:String)(r:V->List V->Hp->VK->Prop):Prop :=
 ∀(pins:List (Addr×Obj)) (s:Shared) (σ:St) (H:Hp) (x:V) (xs:List V) (v:Value) (us:List Value) (Q:VK),Inv X pins σ H s->RelV x v->Vals xs us->r x xs H Q →
  wpAny (model X.prog X.w) X.A (call (.builtin id) (v::us)) (EP X pins σ Q) X.xe s
theorem Vals.one:∀{x:V}{us:List Value},Vals [x] us->∃u,us=[u]/\RelV x u
 | _,_,.cons r .nil=>⟨_,rfl,r⟩
section
variable {X:Cx}{pins:List (Addr×Obj)}{σ:St}{H:Hp}{s:Shared}{l b:Addr}{xs ys zs:List V}
theorem Inv.lset {its its':List Value}{n:Nat}{f:Array Value->Array Value}{t':Nat} (I:Inv X pins σ H s) (hH:H l=some (.lst xs))
  (e:s.heap.get? l=some { cls:= .type "list",data:= .seq its.toArray n })(hf:f its.toArray=its'.toArray)(hv:Vals ys its')(hz:ys.length<=sizeLine) :
  Inv X pins σ (upd H l (.lst ys)) { s with heap:=s.heap.update l (Obj.mapSeq f),toks:=t' }:=by
 have q:=PySem.IsL.update e f;rw[hf]at q;refine I.write (x:=l) (e:=l) (by rw[hH];exact trivial) (.inl rfl) (fun b' u hb hu=>(Heap.get?_update_other s.heap (Obj.mapSeq f) (Ne.symm hb)).trans hu) ⟨_,q⟩ ?_;exact⟨hz,its',_,hv,q⟩
theorem Inv.lnew {its:List Value}{t':Nat} (I:Inv X pins σ H s) (hv:Vals ys its) (hz:ys.length<=sizeLine) :
  Inv X pins σ (upd H s.heap.objs.size (.lst ys)) { s with heap:=s.heap.push { cls:= .type "list",data:= .seq its.toArray },toks:=t' } :=
 I.laid (fun _ _ q=>Heap.get?_push_of_some _ q) (Nat.le_refl _) ⟨hz,its,0,hv,Heap.get?_push_size _ rfl⟩
theorem Inv.fresh (I:Inv X pins σ H s):H s.heap.objs.size=none:=I.hok.fresh (Nat.le_refl _)
theorem Inv.lstM (I:Inv X pins σ H s)(hH:H l=some (.lst xs)):xs.length<=sizeLine/\∃(its:List Value) (n:Nat),Vals xs its/\xs.length=its.length/\s.heap.get? l=some { cls:= .type "list",data:= .seq its.toArray n }:=by
 obtain⟨z,its,n,r,e⟩:=I.hok l _ hH;exact⟨z,its,n,r,r.length,e⟩
theorem JX {n:Nat}(h:n<=sizeLine):Builtin.List.listTooLong n=false:=by
 unfold Builtin.List.listTooLong;exact decide_eq_false (by lia)
end
section
variable {X:Cx}
def B0:V->List V->Hp->VK->Prop:=fun x vs H Q=>∃l xs y,x= .ref l/\vs=[y]/\H l=some (.lst xs)/\xs.length<sizeLine/\Q .non (upd H l (.lst (xs++[y])))
theorem dC:MtM X "list.append" B0:=by
 intro pins s σ H x vs v us Q I rx rv h;obtain⟨l,xs,y,rfl,rfl,hH,hz,q⟩:=h;cases rx;obtain⟨u,rfl,ru⟩:=rv.one;obtain⟨z,its,n,r,hl,e⟩:=I.lstM hH;refine call_meets F.slot_list_append ⟨_,e,rfl⟩ F.entry_list_append (F.args_list_append_2 _ _) (PySem.list_append l its.toArray n u (by rw[List.size_toArray];lia)) ⟨e,?_⟩;refine⟨.non,_,I.lset (its':=its++[u]) hH e (by simp) (r.append (.cons ru .nil)) ?_,rfl,q⟩;rw[List.length_append,List.length_singleton]
 lia
def BX:V->List V->Hp->VK->Prop:=fun x vs H Q=>∃l b xs zs,x= .ref l/\vs=[.ref b]/\H l=some (.lst xs)/\H b=some (.lst zs)/\xs.length+zs.length<=sizeLine/\Q .non (upd H l (.lst (xs++zs)))
theorem F3:MtM X "list.extend" BX:=by
 intro pins s σ H x vs v us Q I rx rv h;obtain⟨l,b,xs,zs,rfl,rfl,hH,hB,hz,q⟩:=h;cases rx;obtain⟨u,rfl,ru⟩:=rv.one;cases ru;obtain⟨z,its,n,r,hl,e⟩:=I.lstM hH;obtain⟨z2,its2,n2,r2,hl2,e2⟩:=I.lstM hB;have hsz:its.toArray.size+its2.toArray.size<=sizeLine:=by rw[List.size_toArray,List.size_toArray];lia
 have hlong:¬(!its.toArray.isEmpty&&Builtin.List.listTooLong (its.toArray.size+its2.toArray.size))=true:=by
  rw[JX hsz,Bool.and_false];exact Bool.false_ne_true
 refine call_meets F.slot_list_extend ⟨_,e,rfl⟩ F.entry_list_extend (F.args_list_extend_2 _ _)
  (AutoSeq1.list_extend_list_list_0 l its.toArray n b its2.toArray n2 hlong (by rw[List.size_toArray];lia) (by lia)) ⟨e,e2,?_⟩
 refine⟨.non,_,I.lset (its':=its++its2) hH e (by simp) (r.append r2) ?_,rfl,q⟩;rw[List.length_append]
 lia
def SE:R2:=fun x y H Q=>∃l b xs zs,x= .ref l/\y= .ref b/\H l=some (.lst xs)/\H b=some (.lst zs)/\xs.length+zs.length<=sizeLine/\∀p,H p=none->Q (.ref p) (upd H p (.lst (xs++zs)))
theorem zP:OpR X (binaryOp .Add) SE:=by
 intro pins s σ H x y v u Q I rx ry h;obtain⟨l,b,xs,zs,rfl,rfl,hH,hB,hz,q⟩:=h;cases rx;cases ry;obtain⟨z,its,n,r,hl,e⟩:=I.lstM hH;obtain⟨z2,its2,n2,r2,hl2,e2⟩:=I.lstM hB;refine PySem.P.add_list e e2 ?_ (by rw[List.size_toArray,List.size_toArray];lia);have ea:its.toArray++its2.toArray=(its++its2).toArray:=by simp
 rw[ea];exact⟨.ref _,_,I.lnew (t':=s.toks) (r.append r2) (by rw[List.length_append];lia),rfl,q _ I.fresh⟩
end
section
variable {prog:Program}{w:World}{A:Around}{E:Value->Shared->Prop}{s:Shared}
set_option maxRecDepth 100000 in
end
section
variable {X:Cx}
end
end L2
namespace Att
open PySem PySem.W PySem.Calls PyProof.Rows
theorem tW {P:Params}{h:Heap}:∀(ns:List Int) (vs:List Value),WellAll P h vs (ns.map WData.int)->IntsAre vs ns:=by
 intro ns
 induction ns with
 | nil =>
  intro vs w;rw[List.map_nil]at w;cases w;exact .nil
 | cons n ns ih =>
  intro vs w;rw[List.map_cons]at w;cases w with
  | cons a b =>
   cases a;exact .cons _ _ (ih _ b)
theorem E4 {l:OpenLaw}{n:Nat} (hn:l.most=some n) {P:Params}{h:Heap}{args:List WData}{vals:List Value}
  (hpre:l.row.toRowW.claim.pre args=true)(hwl:WellAll P h vals args) :
  ∃a vs ns,vals=[Value.ref a]/\args=[WData.list (ns.map WData.int)]/\h.get? a=some { cls:= .type "list",data:= .seq vs.toArray }/\IntsAre vs ns/\ns.length<=n:=by
 have hsh:WShape.hasAll [] args [.list .int]=true:=(pre_splitW hpre).1;have hc:l.pre.holds [] { args:=args }=true:=(pre_splitW hpre).2;obtain⟨d,r,rfl,h1,h2⟩:=hasAllW_cons hsh;obtain rfl:=hasAllW_nil h2;obtain⟨xs,rfl,h3⟩:=hasW_list h1;obtain⟨ns,rfl⟩:=items_int h3;have hlen:ns.length<=n:=by
  unfold OpenLaw.pre at hc;have h4:(WTm.not (.lt (.lit (.int (n:Int))) (.len (.arg 0)))).holds [] { args:=[.list (ns.map .int)] }=true:=by
   have h4:=(holds_andW hc).1;rw[hn]at h4;exact h4
  have h5:=condW_of h4 (w_not (w_lt w_lit (w_len_list (w_arg rfl))));rw[List.length_map]at h5;refine Nat.le_of_not_lt fun q=> ?_;have q':(n:Int)<((ns.length:Nat):Int):=by lia
  first
   | (rw[decide_eq_true q']at h5;exact absurd h5 (by decide))
   | (simp at h5;lia)
 cases hwl with
 | cons w1 w2 =>
  cases w2;cases w1 with
  | list ho hall=>exact⟨_,_,ns,rfl,rfl,ho,tW ns _ hall,hlen⟩
theorem EV (l:OpenLaw)(args:List WData):l.row.toRowW.claim.post args (.bool true) args=true :=
 postW_of (r:=l.row.toRowW) (X:=(true==true))
  (show WShape.has [] (.bool true) .bool=true by first|rfl|decide|simp[WShape.has,WShape.arms,WShape.armsAll])
  (show (WTm.eq .res (.lit (.bool true))).value [] { args:=args,res:=some (.bool true),after:=args }=some (.bool (true==true)) from w_eq_bool (w_res rfl) w_lit) rfl
theorem attach_call {l:OpenLaw}{n:Nat}{q:Program}{loose:List Str}{XP:(Str->Option Value)->Heap->Prop}{YP:World->Heap->Prop}{d:DefRec}
  (hn:l.most=some n)(hdf:d.params.defaults=[])
  (call:∀(w:World) (s₀ s₁:Shared) (mg mb:Str->Option Value) (fa:Addr) (o:Obj) (pm cd doc:Value) (a:Addr) (vs:List Value) (ns:List Int),
   Ground q loose [] XP w s₀ mg mb s₁.heap->YP w s₁.heap →
   s₁.heap.get? fa=some o->o.data= .func (docDef d.name d.params d.body d.scope pm cd doc)->s₁.heap.CodeRec cd d.name->mg d.name=some (.ref fa) →
   s₁.heap.get? a=some { cls:= .type "list",data:= .seq vs.toArray }->IntsAre vs ns->ns.length<=n->s₁.gens= #[] →
   codeAny (model l.prog w) callerA (.call (.ref fa) ⟨[.ref a],[]⟩) (fun r s'=>r= .ok (.ret (.bool true))/\OldK s₁.heap s'.heap/\s'.os=s₁.os/\AllBare s'.gens) s₁) :
  WalkO q loose XP YP l.row.toRowW d [] (fun f vs=>PySem.call f vs):=by
 intro w s₀ s₁ mg mb G Y fa o pm cd doc dV kV ho hd hcd hD hmg hg args vals as hpre hlay hrd hwl hlo;obtain rfl:dV= .none:=Dflts.none hD hdf;obtain rfl:kV= .none:=Dflts.noKw hD;obtain⟨a,vs,ns,rfl,rfl,hobj,hints,hlen⟩:=E4 hn hpre hwl;refine enter_call (codeAny_mono (call w s₀ s₁ mg mb fa o pm cd doc a vs ns G Y ho (fd_plain hd) hcd hmg hobj hints hlen hg) fun r s' hq=> ?_);obtain⟨rfl,h2,h3,h4⟩:=hq;exact⟨.inl ⟨.bool true,.bool true,[],rfl,fun _=>rfl,.bool true,EV l _,fun _=>⟨List.Pairwise.nil,fun _ hm=>(nomatch hm)⟩⟩,h2,h3,h4⟩
section
variable {prog:Program}{w:World}{A:Around}{E:Value->Shared->Prop}{s:Shared}{K:Frag}
end
end Att
namespace L2
open PySem PySem.Spec PyProof.Rows
theorem vU:∀{vs:List Value}{ns:List Int},IntsAre vs ns->Vals (ns.map V.int) vs
 | _,_,.nil=> .nil
 | _,_,.cons n t h=> .cons ⟨t,rfl⟩ (vU h)
def JH (H:Hp):Prop:=∀b,H b=none∨∃o xs,H b=some (.frz o (.lst xs))
theorem IL {P:Program}{w:World}{K:PySem.W.Frag}{mg mb:Str->Option Value}{CX:CXT}{k:Nat}{fa a:Addr}{fd:FuncData}{x:Str}{sp:Sp}{s₁:Shared}{vs:List Value}{ns:List Int}
  (KX:K.In s₁.heap)(hns:s₁.heap.Ns mainGlobals mg)(hb:s₁.heap.Ns builtinsNs mb)(hbb:∀x:Str,x≠ "__name__" ->mb x=bootBuiltins x)(hlim:s₁.heap.NoLimit)(hg:s₁.gens= #[])
  (ha:s₁.heap.get? a=some { cls:= .type "list",data:= .seq vs.toArray })(hi:IntsAre vs ns)(hl:ns.length<=sizeLine)(hr:Room k callerA)
  (F:∀base:Heap,K.In base->base.Ns mainGlobals mg->bD P w K mg base CX k fa fd [x] sp)(hbind:∀(s:Shared) (u:Value),BindsTo s fd ⟨[u],[]⟩ [(x,u)])
  (hsp:∀H:Hp,JH H->SqL K H a (ns.map V.int)->sp [.ref a] H (fun v _=>v= .bl true) fun _ _ _=>False)
  (hCX:∀H e s',CX [] H s₁ (fun _ _ _=>False) e s'->False) :
  codeAny (model P w) callerA (.call (.ref fa) ⟨[.ref a],[]⟩) (fun r s'=>r= .ok (.ret (.bool true))/\OldK s₁.heap s'.heap/\s'.os=s₁.os/\AllBare s'.gens) s₁:=by
 have rv:=vU hi;have lenV:=hi.length;have core:∀H:Hp,JH H->SqL K H a (ns.map V.int)->HOk P w H s₁.heap->(∀b,H b≠none->b=a)->(H a≠none->K.lookup a=none) →
   codeAny (model P w) callerA (.call (.ref fa) ⟨[.ref a],[]⟩) (fun r s'=>r= .ok (.ret (.bool true))/\OldK s₁.heap s'.heap/\s'.os=s₁.os/\AllBare s'.gens) s₁:=by
  intro H hO hS hok hA hK;have base_of:∀{b:Addr}{o:Obj},s₁.heap.get? b=some o->H b=none->(nK s₁.heap H).get? b=some o:=fun e n=>KB e n;have noA:∀{b:Addr}{o:Obj}{es:Array DictEntry}{ep:Nat},s₁.heap.get? b=some o->o.data= .dict es ep->H b=none:=fun {b o es ep} e d=>by
   cases q:H b with
   | none=>rfl
   | some u =>
    have e':b=a:=hA b (by rw[q];simp);subst e';rw[ha]at e;cases e;have d':Data.seq vs.toArray _=Data.dict es ep:=d;cases d'
  have nsK:∀{b:Addr}{m:Str->Option Value},s₁.heap.Ns b m->(nK s₁.heap H).Ns b m:=fun {b m} ⟨o,es,ep,e,d,r⟩=>⟨o,es,ep,base_of e (noA e d),d,r⟩
  have hKb:K.In (nK s₁.heap H):=fun b o e=>base_of (KX b o e) (by
   cases q:H b with
   | none=>rfl
   | some u =>
    have e':b=a:=hA b (by rw[q];simp);subst e';rw[hK (by rw[q];simp)]at e;cases e)
  have hM:Mod K mg (nK s₁.heap H):=⟨hKb,nsK hns,⟨mb,nsK hb,hbb⟩,let ⟨mc,h1,h2⟩:=hlim;⟨mc,nsK h1,h2⟩⟩
  have e0:Env0 P w K mg (nK s₁.heap H) callerA [] s₁ H:=⟨rfl,hM,fun b o e=>MG e,Nat.le_of_eq (FE _ _),trivial,fun b hb=>absurd (show b∈([]:List Addr) from hb) (by simp),hok,.of_eq hg⟩
  refine codeAny_mono ((F _ hKb (nsK hns)).run callerA [] s₁ H ⟨[.ref a],[]⟩ [.ref a] [.ref a] _ _ hr e0 (hbind s₁ (.ref a)) (.cons rfl .nil) (hsp H hO hS)) fun r s' h=> ?_;cases r with
  | error e=>exact(hCX H e s' h).elim
  | ok fl =>
   cases fl with
   | next=>exact False.elim h
   | brk=>exact False.elim h
   | cont=>exact False.elim h
   | ret u =>
    obtain⟨v,H',os,bare,un,hok',r',q⟩:=h;have q':v= .bl true:=q;subst q';obtain rfl:u=Value.bool true:=r';refine⟨rfl,OldK.of_keep fun b o e=> ?_,os,bare⟩;cases q:H b with
    | none=>exact un.keep b o e q (by intro z;exact absurd (show b∈([]:List Addr) from z) (by simp)) (by simp)
    | some u =>
     rcases hO b with z|⟨ob,xs,z⟩
     ·rw[q]at z;cases z
     ·have z2:=un.frzs b ob _ z;obtain⟨e1,_⟩:=hok b _ z;obtain⟨e2,_⟩:=hok' b _ z2;rw[e]at e1;cases e1;exact e2
 cases hk:K.lookup a with
 | some o =>
  have e:=KX a o hk;rw[ha]at e;cases e;refine core (fun _=>none) (fun _=> .inl rfl) (.inr ⟨_,vs.toArray,_,hk,rfl,rfl,rfl,by rw[List.size_toArray,lenV];exact hl,by simpa using rv⟩) (fun b u z=>by have z':(none:Option HO)=some u:=z;cases z') (fun b z=>absurd rfl z) fun z=>absurd rfl z
 | none =>
  refine core (fun b=>if b=a then some (.frz { cls:= .type "list",data:= .seq vs.toArray } (.lst (ns.map V.int))) else none) (fun b=> ?_) (.inl (.inr ⟨{ cls:= .type "list",data:= .seq vs.toArray },if_pos rfl⟩)) (fun b u z=> ?_) (fun b z=> ?_) fun _=>hk
  ·by_cases hb:b=a
   ·exact .inr ⟨_,_,if_pos hb⟩
   ·exact .inl (if_neg hb)
  ·by_cases hb:b=a
   ·have z':=(if_pos hb).symm.trans z;cases z';subst hb;exact⟨ha,by rw[List.length_map];exact hl,vs,_,rv,ha⟩
   ·have z':=(if_neg hb).symm.trans z;cases z'
  ·by_cases hb:b=a
   ·exact hb
   ·exact absurd (if_neg hb) z
end L2
namespace L2
open PySem PySem.Spec PyProof.Rows
theorem walk_of {l:PySem.W.OpenLaw}{n k:Nat}{q:Program}{loose:List Str}{XP:(Str->Option Value)->Heap->Prop}{YP:World->Heap->Prop}{d:DefRec}{K:Params->PySem.W.Frag}{CX:World->CXT}{sp:World->Sp}{x:Str}
  (hn:l.most=some n)(hn2:n<=sizeLine)(hdf:d.params.defaults=[])(hr:Room k callerA)
  (hY:∀(w:World) (h:Heap),YP w h->(K w.params).In h)
  (F:∀(w:World) (mg:Str->Option Value) (fa:Addr) (h:Heap),(K w.params).In h->h.Ns mainGlobals mg->mg d.name=some (.ref fa) →
   ∃fd:FuncData,(∀(s:Shared) (u:Value),BindsTo s fd ⟨[u],[]⟩ [(x,u)]) ∧
    ∀base:Heap,(K w.params).In base->base.Ns mainGlobals mg->bD l.prog w (K w.params) mg base (CX w) k fa fd [x] (sp w))
  (hsp:∀(w:World) (H:Hp) (a:Addr) (ns:List Int),ns.length<=n->JH H->SqL (K w.params) H a (ns.map V.int)->sp w [.ref a] H (fun v _=>v= .bl true) fun _ _ _=>False)
  (hCX:∀(w:World) (H:Hp) (s:Shared) (e:Value) (s':Shared),CX w [] H s (fun _ _ _=>False) e s'->False) :
  PySem.W.WalkO q loose XP YP l.row.toRowW d [] (fun f vs=>PySem.call f vs):=by
 refine Att.attach_call hn hdf fun w s₀ s₁ mg mb fa o pm cd doc a vs ns G Y ho hd hcd hmg hobj hints hlen hg=> ?_;have KX:=hY w _ Y;obtain⟨fd,hb,hF⟩:=F w mg fa _ KX G.T.g hmg;exact IL KX G.T.g G.T.b G.T.builtins G.T.nolimit hg hobj hints (Nat.le_trans hlen hn2) hr hF hb (fun H hO hS=>hsp w H a ns hlen hO hS) fun H e s'=>hCX w H s₁ e s'
end L2
namespace L2
open PySem PySem.Spec PyProof.Rows
def bZ (s:Stmt)(j:Nat):Stmt:=match s with
 | .ClassDef _ _ _ body _ _ _ _ _ _ _=>body.getD j (.Pass ⟨0,0,0,0⟩)
 | _=> .Pass ⟨0,0,0,0⟩
def aL (s:Stmt):Arguments:=match s with
 | .FunctionDef _ a _ _ _ _ _ _ _ _=>a
 | _=>{ posonlyargs:=[],args:=[],vararg:=none,kwonlyargs:=[],kw_defaults:=[],kwarg:=none,defaults:=[] }
def aK (s:Stmt):List Stmt:=match s with
 | .FunctionDef _ _ b _ _ _ _ _ _ _=>b
 | _=>[]
def aC (s:Stmt):Scope:=match s with
 | .FunctionDef _ _ _ _ _ _ sc _ _ _=>sc
 | _=>{ kind:= .function,names:=[],isGenerator:=false,isCoroutine:=false }
abbrev CX0:CXT:=fun _ _ _ _ _ _=>False
abbrev E0:XK:=fun _ _ _=>False
theorem t0 {X:Cx}:pV CX0 X E0:=fun _ _ _ _ _ _ _ h=>h.elim
section
variable {P:Program}{w:World}{K:PySem.W.Frag}{mg:Str->Option Value}{base:Heap}
end
theorem EW {n:Nat}(h:n<=1000):n<sizeLine:=Nat.lt_of_le_of_lt h (by decide)
section
variable {X:Cx}
theorem pv (i:Nat){x:Str}{pos:Pos} (hN:X.N[i]? =some x:=by rfl) (hv:Vis X.env.scope x:=by first|exact Or.inl rfl|exact Or.inr (Or.inl rfl)|exact Or.inr (Or.inr rfl)) (hd:(x==("__debug__" :Str))=false:=by decide)
  (hcd:(x==("__classdict__" :Str))=false:=by decide):PE X (.Name x pos) (iM i):=QN hN hv hd hcd
end
theorem uY {c A B:Prop}[Decidable c](h1:c->A)(h2:¬c->B):if c then A else B:=by
 by_cases h:c
 ·rw[if_pos h];exact h1 h
 ·rw[if_neg h];exact h2 h
def Same (H H':Hp):Prop:=∀b o,H b=some o->H' b=some o
theorem Same.refl (H:Hp):Same H H:=fun _ _ h=>h
theorem Same.trans {H H1 H2:Hp}(a:Same H H1)(b:Same H1 H2):Same H H2:=fun c o h=>b c o (a c o h)
theorem Same.seq {K:PySem.W.Frag}{H H':Hp}{a:Addr}{xs:List V} (e:Same H H') (h:SqL K H a xs):SqL K H' a xs:=by
 rcases h with (h|⟨o,h⟩)|h
 ·exact .inl (.inl (e _ _ h))
 ·exact .inl (.inr ⟨o,e _ _ h⟩)
 ·exact .inr h
end L2
namespace L2
open PySem PySem.Spec PyProof.Rows
section
variable {X:Cx}{pins:List (Addr×Obj)}{σ:St}{H:Hp}{s:Shared}{D:Addr}{ys:List V}
theorem HOk.adds {P:Program}{w:World}{h:Heap}{o:HO} (x:HOk P w H h) (hn:H D=none) (new:ObjOk P w (upd H D o) h D o):HOk P w (upd H D o) h:=fun b u e=>by
 by_cases hb:b=D
 ·subst hb;rw[aV]at e;cases e;exact new
 ·rw[aJ hb]at e;exact(x b u e).stay (fun c v _ q=>q) (fun c q=>by rw[aJ (bB q hn)];exact q) fun c xs q=>by rw[aJ (bB q hn)];exact q
theorem HOk.drops {P:Program}{w:World}{h:Heap} (x:HOk P w (upd H D (.lst ys)) h) (hn:H D=none):HOk P w H h:=fun b u e=>by
 have hb:b≠D:=bB e hn;refine(x b u (by rw[aJ hb];exact e)).stay (fun c v _ q=>q) (fun c q=> ?_) fun c xs q=> ?_
 ·by_cases hc:c=D
  ·subst hc;rw[aV]at q;cases q
  ·rw[aJ hc]at q;exact q
 ·by_cases hc:c=D
  ·subst hc;rw[aV]at q;cases q
  ·rw[aJ hc]at q;exact q
theorem Inv.track {its:List Value}{n:Nat} (I:Inv X pins σ H s) (hn:H D=none) (e:s.heap.get? D=some { cls:= .type "list",data:= .seq its.toArray n }) (r:Vals ys its) (hz:ys.length<=sizeLine)
  (h0:X.s₀.heap.objs.size<=D)(h1:D≠X.env.locals)(h2:∀x c,X.env.cells.lookup x=some c->c≠D)(h3:∀p∈X.pn++pins,p.1≠D):Inv X pins σ (upd H D (.lst ys)) s where
 ok:=I.ok
 os:=I.os
 bare:=I.bare
 base:=by
  have lt:∀b o,X.s₀.heap.get? b=some o->b≠D:=fun b o q=>Nat.ne_of_lt (Nat.lt_of_lt_of_le (Heap.lt_size q) h0);refine⟨I.base.keep,I.base.slot,fun b o q n' hx=> ?_,I.base.there,fun b xs q=> ?_,fun b o u q=> ?_,fun b ps q=> ?_⟩
  ·rw[aJ (lt b o q)];exact I.base.free b o q n' hx
  ·have z:=I.base.tups b xs q;rw[aJ (bB z hn)];exact z
  ·have z:=I.base.frzs b o u q;rw[aJ (bB z hn)];exact z
  ·obtain⟨more,z⟩:=I.base.tbls b ps q;exact⟨more,by rw[aJ (bB z hn)];exact z⟩
 loc:=I.loc
 cell:=I.cell
 free:=by rw[aJ (Ne.symm h1)];exact I.free
 freeC:=fun x c q=>by rw[aJ (h2 x c q)];exact I.freeC x c q
 pin:=fun p hp=>by
  obtain⟨a,b,c⟩:=I.pin p hp;exact⟨a,by rw[aJ (h3 p hp)];exact b,c⟩
 hok:=I.hok.adds hn ⟨hz,its,n,r,e⟩
 len:=I.len
theorem Inv.untrack (I:Inv X pins σ (upd H D (.lst ys)) s)(hn:H D=none):Inv X pins σ H s where
 ok:=I.ok
 os:=I.os
 bare:=I.bare
 base:=by
  have low:∀b u,upd H D (.lst ys) b=some u->(∀xs,u≠ .lst xs)->H b=some u:=fun b u q nl=>by
   by_cases hb:b=D
   ·subst hb;rw[aV]at q;cases q;exact absurd rfl (nl ys)
   ·rw[aJ hb]at q;exact q
  refine⟨I.base.keep,I.base.slot,fun b o q n' hx=> ?_,I.base.there,fun b xs q=> ?_,fun b o u q=> ?_,fun b ps q=> ?_⟩
  ·have z:=I.base.free b o q n' hx
   by_cases hb:b=D
   ·subst hb;exact hn
   ·rw[aJ hb]at z;exact z
  ·exact low _ _ (I.base.tups b xs q) (fun _ z=>by cases z)
  ·exact low _ _ (I.base.frzs b o u q) (fun _ z=>by cases z)
  ·obtain⟨more,z⟩:=I.base.tbls b ps q;exact⟨more,low _ _ z (fun _ z=>by cases z)⟩
 loc:=I.loc
 cell:=I.cell
 free:=by
  have z:=I.free
  by_cases hb:X.env.locals=D
  ·rw[hb];exact hn
  ·rw[aJ hb]at z;exact z
 freeC:=fun x c q=>by
  have z:=I.freeC x c q
  by_cases hb:c=D
  ·rw[hb];exact hn
  ·rw[aJ hb]at z;exact z
 pin:=fun p hp=>by
  obtain⟨a,b,c⟩:=I.pin p hp;refine⟨a,?_,c⟩
  by_cases hb:p.1=D
  ·rw[hb];exact hn
  ·rw[aJ hb]at b;exact b
 hok:=I.hok.drops hn
 len:=I.len
end
def bE (X:Cx)(scope:Scope)(cl:List (Str×Addr))(N:List Str)(C:Addr)(s0:Shared)(H0:Hp)(fp:List Addr):Cx where
 prog:=X.prog
 w:=X.w
 K:=X.K
 mg:=X.mg
 base:=X.base
 A:=X.A
 N:=N
 s₀:=s0
 H₀:=H0
 env:=compEnvC scope cl C X.env
 outer:=X.stack
 stack:=X.stack
 ex:=fp
 fn:=fun _=>false
 calm:=X.calm
 pn:=[]
 xe:=fun _ _=>False
structure Blk (X:Cx)(scope:Scope)(cl:List (Str×Addr))(N:List Str)(nl:Nat)(ci:List Nat):Prop where
 kind:scope.kind= .function
 names:∀y∈scope.names,y.2= .local->scope.names.lookup y.1=some .local
 nocell:∀y∈scope.names,y.2≠ .cell
 clos:closureFor scope X.env=pure cl
 sub:∀n c,cl.lookup n=some c->X.env.cells.lookup n=some c
 has:∀n,((relabel scope X.env).names.lookup n=some .cell∨(relabel scope X.env).names.lookup n=some .free)->∃c,cl.lookup n=some c
 len:N.length=nl+ci.length
 cap:∀(j i:Nat),ci[j]? =some i->∃n,N[nl+j]? =some n/\X.N[i]? =some n/\(X.env.scope.names.lookup n=some .cell∨X.env.scope.names.lookup n=some .free) ∧
  ((relabel scope X.env).names.lookup n=some .cell∨(relabel scope X.env).names.lookup n=some .free)/\cl.lookup n=X.env.cells.lookup n
def bK (nl:Nat)(ci:List Nat)(σ:St):St:=List.replicate nl none++ci.map fun i=>(σ[i]?).join
theorem wN {nl:Nat}{ci:List Nat}{σ:St}{k:Nat}{v:V} (h:(bK nl ci σ)[k]? =some (some v)):∃j i,k=nl+j/\ci[j]? =some i/\σ[i]? =some (some v):=by
 unfold bK at h
 by_cases hk:k<nl
 ·rw[List.getElem?_append_left (by simpa using hk),List.getElem?_replicate]at h
  split at h<;>cases h
 ·rw[List.getElem?_append_right (by simpa using hk),List.length_replicate,List.getElem?_map]at h;cases e:ci[k - nl]? with
  | none=>rw[e]at h;cases h
  | some i =>
   rw[e]at h;have h':(σ[i]?).join=some v:=by simpa using h
   refine⟨k - nl,i,by lia,e,?_⟩;cases q:σ[i]? with
   | none=>rw[q]at h';cases h'
   | some o=>rw[q]at h';simp at h';rw[h']
theorem pO {nl:Nat}{ci:List Nat}{σ:St}:(bK nl ci σ).length=nl+ci.length:=by unfold bK;simp
section
variable {X:Cx}{scope:Scope}{cl:List (Str×Addr)}{N:List Str}{nl:Nat}{ci:List Nat}{pins:List (Addr×Obj)}{σ:St}{H2:Hp}{s2:Shared}{fp:List Addr}
theorem BH (B:Blk X scope cl N nl ci)(I:Inv X pins σ H2 s2)(f2:∀b∈fp,fH X pins H2 b)(fo:∀b∈fp,∃o,s2.heap.get? b=some o){C:Addr}{h4:Heap}{t4:Nat}{m4:Str->Option Value} (hC:s2.heap.objs.size<=C) (hns:h4.Ns C m4)
  (hk:∀b o,s2.heap.get? b=some o->h4.get? b=some o):Inv (bE X scope cl N C s2 H2 fp) [] (bK nl ci σ) H2 { s2 with heap:=h4,toks:=t4 }:=by
 have lt2:∀b∈fp,b<s2.heap.objs.size:=fun b hb=>by obtain⟨o,e⟩:=fo b hb;exact Heap.lt_size e
 have ok:(bE X scope cl N C s2 H2 fp).Ok:=by
  refine⟨I.ok.mod,B.kind,I.ok.glob,I.ok.blt,hC,fun x y c h1 h2=>I.ok.inj x y c (B.sub x c h1) (B.sub y c h2),fun x hx=>B.has x hx,fun x c hf _=>(by cases hf),I.ok.hd,I.ok.frames,.inl rfl,fun b hb=>⟨?_,?_⟩,I.bs,?_,fun b o e hb=> ?_,fun b hb z=> ?_,I.stack,I.stkFree⟩
  ·exact Nat.ne_of_lt (Nat.lt_of_lt_of_le (lt2 b hb) hC)
  ·exact fun x c h=>(f2 b hb).2.2.2.2.1 x c (B.sub x c h)
  ·exact Nat.le_trans I.ok.bsz I.sz
  ·rcases (f2 b hb).2.2.2.1 with z|z
   ·exact I.ok.noex b o e z
   ·exact absurd (Nat.lt_of_lt_of_le (Heap.lt_size e) (Nat.le_trans I.ok.bsz z)) (Nat.lt_irrefl _)
  ·rcases List.mem_cons.mp (I.stkSub b z) with q|q
   ·exact(f2 b hb).2.1 q
   ·exact(f2 b hb).2.2.1 q
 refine⟨ok,rfl,I.bare,Un.kept hk,⟨m4,hns,fun k x v e1 e2 e3=> ?_⟩,fun x c e=> ?_,I.hok.fresh hC,fun x c e=>I.freeC x c (B.sub x c e),fun p hp=>(by cases hp),I.hok.kept hk,?_⟩
 ·obtain⟨j,i,rfl,hj,hσ⟩:=wN e2;obtain⟨n,hn1,hn2,hk1,hk2,hl⟩:=B.cap j i hj;have en:x=n:=by
   have e1':N[nl+j]? =some x:=e1;rw[hn1]at e1';exact(Option.some.inj e1').symm
  subst en;obtain⟨m,hm,hloc⟩:=I.loc;have vis:Vis X.env.scope x:= .inr hk1;obtain⟨u,ru,lk⟩:=hloc i x v hn2 hσ vis;refine⟨u,ru,.inr ⟨hk2,?_⟩⟩;rcases lk with⟨kl,_⟩|⟨_,c,ec,hc⟩
  ·have kl':X.env.scope.names.lookup x=some .local:=kl;rcases hk1 with z|z<;>· rw[z]at kl';cases kl'
  ·refine⟨c,hl.trans ec,?_⟩;obtain⟨o,ho,hd⟩:=hc;exact⟨o,hk _ _ ho,hd⟩
 ·obtain⟨v,o,ho,hd⟩:=I.cell x c (B.sub x c e);exact⟨v,o,hk _ _ ho,hd⟩
 ·show (bK nl ci σ).length=N.length;rw[pO,B.len]
theorem F5 {C:Addr}{σ':St}{H':Hp}{s':Shared}{pb:List (Addr×Obj)} (I:Inv X pins σ H2 s2) (f2:∀b∈fp,fH X pins H2 b) (J:Inv (bE X scope cl N C s2 H2 fp) pb σ' H' s'):Inv X pins σ H' s' :=
 I.call' J.os J.base J.hok J.bare fun b hb=>⟨(f2 b hb).2.2.2.1,(f2 b hb).2.1,(f2 b hb).2.2.2.2.1,(f2 b hb).2.2.2.2.2⟩
end
section
variable {prog:Program}{w:World}{A:Around}{R:Result->Shared->Prop}{s:Shared}
theorem rP {elt target iter:Expr}{ifs:List Expr}{scope:Scope}{pos:Pos}{it acc:Value}{env:Env} (I:Nat->Shared->Prop)
  (turn:∀n s,I n s->wpAny (model prog w) A (pyNext it) (fun r s₁=>match r with
   | none=>R (.ok .next) s₁
   | some v=>wpAny (model prog w) A (letOwnedTupleGo target it v) (fun _ s₁'=>wpAny (model prog w) A (assign target env v) (fun _ s₂ =>
     wpAny (model prog w) A (forIn ifs true fun c r=>if r=true then do let ok ←isTrue c env (eval c env);pure (ForInStep.yield ok) else pure (ForInStep.yield r)) (fun ok s₃ =>
      if ok=true then wpAny (model prog w) A (eval elt env) (fun x s₄ =>
       wpAny (model prog w) A (call (.builtin "list.append") [acc,x]) (fun _ s₅=>∃m,m<n/\I m s₅) (notedBy (model prog w) A env fun e s'=>R (.error e) s') s₄) (notedBy (model prog w) A env fun e s'=>R (.error e) s') s₃
      else ∃m,m<n/\I m s₃) (notedBy (model prog w) A env fun e s'=>R (.error e) s') s₂) (notedBy (model prog w) A env fun e s'=>R (.error e) s') s₁') (notedBy (model prog w) A env fun e s'=>R (.error e) s') s₁) (notedBy (model prog w) A env fun e s'=>R (.error e) s') s)
  (n:Nat)(h:I n s) :
  codeAny (model prog w) A (.compLoop (.ListComp elt [⟨target,iter,ifs,0⟩] scope pos) 0 it acc env) R s:=by
 refine codeAny_loop rfl I (fun n s hI=> ?_) n h;show wpAny _ A ((compTurn (.ListComp elt [⟨target,iter,ifs,0⟩] scope pos) 0 it acc env).onRaise (fun x=>do noteFrame x env;theTreesLotGoes x)) _ _ s;refine wpAny_noted ?_;rw[compTurn_list];refine wpAny_bind (wpAny_standAt (wpAny_bind (wpAny_mono (turn n s hI) (fun r s₁ h₁=> ?_) fun _ _ h'=>h')));cases r with
 | none=>exact wpAny_pure h₁
 | some v =>
  refine wpAny_bind (wpAny_mono h₁ (fun _ s₁' h₁'=> ?_) fun _ _ h'=>h');refine wpAny_bind (wpAny_mono h₁' (fun _ s₂ h₂=>wpAny_bind (wpAny_mono h₂ (fun ok s₃ h₃=> ?_) fun _ _ h'=>h')) fun _ _ h'=>h');cases ok with
  | false=>exact wpAny_pure ⟨rfl,h₃⟩
  | true =>
   exact wpAny_bind (wpAny_bind (wpAny_mono h₃ (fun x s₄ h₄=>wpAny_bind (wpAny_mono h₄ (fun _ s₅ h₅=>wpAny_pure (wpAny_pure ⟨rfl,h₅⟩)) fun _ _ h'=>h')) fun _ _ h'=>h'))
end
def PF (X:Cx)(ifs:List Expr)(t:TT):Prop :=
 ∀(pins:List (Addr×Obj)) (s:Shared) (σ:St) (H:Hp) (Q:Bool->Hp->Prop),Inv X pins σ H s->t σ H Q →
  wpAny (model X.prog X.w) X.A (forIn ifs true fun c r=>if r=true then do let ok ←isTrue c X.env (eval c X.env);pure (ForInStep.yield ok) else pure (ForInStep.yield r)) (TP X pins σ Q) X.xe s
def uR:TT:=fun _ H Q=>Q true H
theorem fR {X:Cx}:PF X [] uR:=fun _ _ _ H _ I h=>wpAny_tests_nil ⟨H,I,h⟩
theorem tR {X:Cx}{c:Expr}{t:TT} (h:PT X c t):PF X [c] t:=fun pins s σ H Q I q=>wpAny_tests_one (h pins s σ H Q I q)
def d3 (J:It)(g:TG)(ti:TT)(te:TE)(σ0:St)(fin:List V->Hp->Prop)(H1:Hp):Prop :=
 ∃W:Nat->Nat->List V->Hp->Prop,(∃m,W 0 m [] H1)/\∀i m ys H,W i m ys H →
  (J.stop i H/\fin ys H) ∨
  (J.go i H/\∀x H',J.yld i H x H'->g x σ0 H' fun σ2 H2=>(σ2.length=σ0.length/\∀(j:Nat) v,σ0[j]? =some (some v)->σ2[j]? =some (some v)) ∧
   ti σ2 H2 fun b H3=>if b=true then te σ2 H3 fun y H4=>ys.length<sizeLine/\∃m',m'<m/\W (i+1) m' (ys++[y]) H4 else ∃m',m'<m/\W (i+1) m' ys H3)
def yE (wi:TI)(nl:Nat)(ci:List Nat)(g:TG)(ti:TT)(te:TE):TE:=fun σ H Q =>
 wi σ H fun J H1=>d3 J g ti te (bK nl ci σ) (fun ys H'=>∀p,H' p=none->Q (.ref p) (upd H' p (.lst ys))) H1
section
variable {X:Cx}{scope:Scope}{cl:List (Str×Addr)}{N:List Str}{nl:Nat}{ci:List Nat}{tg elt iter:Expr}{ifs:List Expr}{pos:Pos}{wi:TI}{g:TG}{ti:TT}{te:TE}
theorem wP {pins:List (Addr×Obj)}{σ:St}{H2:Hp}{s2:Shared}{fp:List Addr}{it:Addr}{J:It}{tn:Nat->Heap->Prop}{E:Value->Shared->Prop}{RR:Value->Addr->Result->Shared->Prop}{fin:List V->Hp->Prop}
  (hc:X.calm=true)(B:Blk X scope cl N nl ci)(hg:∀C s0 H0 fp,PG (bE X scope cl N C s0 H0 fp) tg g)(hi:∀C s0 H0 fp,PF (bE X scope cl N C s0 H0 fp) ifs ti)(he:∀C s0 H0 fp,PE (bE X scope cl N C s0 H0 fp) elt te)
  (I2:Inv X pins σ H2 s2)(T:nF X.prog X.w X.K tg J fp it tn)(st2:tn 0 s2.heap)(f2:∀b∈fp,fH X pins H2 b)(hW:d3 J g ti te (bK nl ci σ) fin H2)
  (hfin:∀(D C:Addr) (s':Shared) (H':Hp) (ys:List V) (oC:Obj) (m:Str->Option Value),H' D=none->Inv X (pins++[(C,oC)]) σ (upd H' D (.lst ys)) s'->s'.heap.Ns C m->s2.heap.objs.size<=C->fin ys H'->RR (.ref D) C (.ok .next) s') :
  wpAny (model X.prog X.w) X.A (newList []) (fun acc s₃=>wpAny (model X.prog X.w) X.A (newFunctionEnv scope X.env.globals cl [] X.env.qual none .none (some X.env)) (fun cenv s₄ =>
   codeAny (model X.prog X.w) X.A (.compStart (.ListComp elt [⟨tg,iter,ifs,0⟩] scope pos) 0 (.ref it) acc { cenv with scope:=relabel scope X.env }) (RR acc cenv.locals) s₄) E s₃) E s2:=by
 obtain⟨W,⟨m0,w0⟩,turn⟩:=hW;refine wpAny_newObj_type (wpAny_newFunctionEnv B.nocell (by intro y hy;simp at hy) (fun h1 hns1 hsb1=> ?_) B.kind)
 dsimp only at hns1 hsb1 ⊢
 generalize hH2:s2.heap.push { cls:= .type "list",dict:=none,data:= .seq ([]:List Value).toArray }=G2 at hns1 hsb1 ⊢;have hCs:G2.objs.size=s2.heap.objs.size+1:=by rw[←hH2,Heap.size_push]
 generalize hCe:G2.objs.size=C at hns1 hsb1 hCs ⊢;have hDC:s2.heap.objs.size≠C:=by rw[hCs];exact Nat.ne_of_lt (Nat.lt_succ_self _)
 have hCle:s2.heap.objs.size<=C:=by rw[hCs];exact Nat.le_succ _
 have old:∀b o,s2.heap.get? b=some o->h1.get? b=some o:=fun b o e=>hsb1.extBut b o (by rw[hCs];exact Nat.ne_of_lt (Nat.lt_succ_of_lt (Heap.lt_size e))) (Heap.get?_push_of_some _ (hH2▸Heap.get?_push_of_some _ e));have hacc:h1.get? s2.heap.objs.size=some { cls:= .type "list",data:= .seq ([]:List Value).toArray 0 }:=hsb1.extBut _ _ hDC (Heap.get?_push_of_some _ (hH2▸Heap.get?_push_size _ rfl));have fo:∀b∈fp,∃o,s2.heap.get? b=some o:=fun b hb=>let ⟨o,e,_⟩:=T.obj 0 _ st2 b hb;⟨o,e⟩;have lt2:∀b∈fp,b<s2.heap.objs.size:=fun b hb=>let ⟨o,e⟩:=fo b hb;Heap.lt_size e;have hDfp:s2.heap.objs.size∉fp:=fun z=>Nat.lt_irrefl _ (lt2 _ z);have hCfp:C∉fp:=fun z=>Nat.lt_irrefl _ (Nat.lt_of_lt_of_le (lt2 _ z) hCle);generalize hDe:s2.heap.objs.size=D at hCs hDC hCle hacc hDfp lt2;have loop:∀s3:Shared,s3={ s2 with heap:=h1,toks:=s2.toks+([]:List (Str×Value)).length } →
   codeAny (model X.prog X.w) X.A (.compLoop (.ListComp elt [⟨tg,iter,ifs,0⟩] scope pos) 0 (.ref it) (.ref D) (compEnvC scope cl C X.env)) (RR (.ref D) C) s3:=by
  rintro s3 rfl;have I4:Inv (bE X scope cl N C s2 H2 fp) [] (bK nl ci σ) H2 { s2 with heap:=h1,toks:=s2.toks+([]:List (Str×Value)).length }:=BH B I2 f2 fo (by rw[hDe];exact hCle) hns1 old;have fpk:∀{H':Hp},(∀b∈fp,H' b=none)->∀b∈fp,fH (bE X scope cl N C s2 H2 fp) [] H' b:=fun hn b hb =>
   ⟨hn b hb,(I4.ok.exf b hb).1,I4.ok.exfs b hb,.inl hb,(I4.ok.exf b hb).2,fun p hp=>by cases hp⟩
  have hDX:∀x c,(bE X scope cl N C s2 H2 fp).env.cells.lookup x=some c->c≠D:=fun x c e=>by
   obtain⟨v,o,ho,_⟩:=I2.cell x c (B.sub x c e);rw[←hDe];exact Nat.ne_of_lt (Heap.lt_size ho)
  have hDL:D≠(bE X scope cl N C s2 H2 fp).env.locals:=hDC;have hDf:D∉(bE X scope cl N C s2 H2 fp).fs:=fun z=>by
   rcases List.mem_cons.mp (I2.stkSub D z) with q|q
   ·exact Nat.lt_irrefl _ (by have:=I2.lt;rw[hDe,←q]at this;exact this)
   ·exact I2.nofs (by rw[hDe];exact Nat.le_refl _) q
  refine rP (fun n s'=>∃i ys its k H',W i n ys H'/\Inv (bE X scope cl N C s2 H2 fp) [] (bK nl ci σ) H' s'/\tn i s'.heap/\(∀b∈fp,H' b=none)/\H' D=none ∧
   s'.heap.get? D=some { cls:= .type "list",data:= .seq its.toArray k }/\Vals ys its/\ys.length<=sizeLine) ?_ m0 ?_
  ·rintro n s' ⟨i,ys,its,k,H',w',I',st',fr',hD',eD,rv,hz⟩;have IP:Inv (bE X scope cl N C s2 H2 fp) [(D,{ cls:= .type "list",data:= .seq its.toArray k })] (bK nl ci σ) H' s':=I'.pins_of fun p hp=>by
    obtain rfl:p=_:=by simpa using hp
    exact⟨eD,hD',hDL,hDf,fun v z=>by cases z⟩
   have fpD:∀{H'':Hp},(∀b∈fp,H'' b=none)->∀b∈fp,fH (bE X scope cl N C s2 H2 fp) [(D,{ cls:= .type "list",data:= .seq its.toArray k })] H'' b:=fun hn b hb =>
    ⟨hn b hb,(I4.ok.exf b hb).1,I4.ok.exfs b hb,.inl hb,(I4.ok.exf b hb).2,fun p hp=>by
     obtain rfl:p=_:=by simpa [bE] using hp
     exact fun z=>hDfp ((show D=b from z)▸hb)⟩
   rcases turn i n ys H' w' with⟨stop,q⟩|⟨go,step⟩
   ·refine thn (T.done (bE X scope cl N C s2 H2 fp) rfl rfl rfl hc i _ s' (bK nl ci σ) H' _ IP (fpD fr') st' stop) fun r s'' ⟨hr,I''⟩=> ?_;subst hr;have eD2:=(I''.pin (D,_) (List.mem_append_right _ List.mem_cons_self)).1;have J1:Inv (bE X scope cl N C s2 H2 fp) [] (bK nl ci σ) (upd H' D (.lst ys)) s'' :=
     (I''.pins_of (pins':=[]) fun p hp=>by cases hp).track hD' eD2 rv hz (by show s2.heap.objs.size<=D;rw[hDe];exact Nat.le_refl _) hDL hDX fun p hp=>by cases hp
    have K1:Inv X pins σ (upd H' D (.lst ys)) s'':=F5 I2 f2 J1;obtain⟨mC,nsC,_⟩:=J1.loc;obtain⟨oC,es,ep,hoC,hdC,rC⟩:=id nsC;refine hfin D C s'' H' ys oC mC hD' (K1.pins_of fun p hp=> ?_) nsC (by rw[hDe];exact hCle) q;rcases List.mem_append.mp hp with hp|hp
    ·exact K1.pin p (List.mem_append_right _ hp)
    ·obtain rfl:p=(C,oC):=by simpa using hp
     refine⟨hoC,J1.free,Nat.ne_of_gt (Nat.lt_of_lt_of_le I2.lt (by rw[hDe];exact hCle)),I2.nofs (by rw[hDe];exact hCle),fun v z=> ?_⟩;rw[hdC]at z;cases z
   ·refine thn (T.item (bE X scope cl N C s2 H2 fp) rfl rfl rfl hc i _ s' (bK nl ci σ) H' _ IP (fpD fr') st' go) fun r s4 ⟨u,hr,h4⟩=> ?_;subst hr;refine thn h4 fun _ s5 ⟨x,H5,I5,r5,y5,st5,fr5⟩=> ?_;have I5':=I5.pinned (fpD fr5) (T.obj _ _ st5);refine wpAny_mono (hg C s2 H2 fp _ s5 (bK nl ci σ) H5 x u _ I5' r5 (step x H5 y5)) (fun _ s6 ⟨σ6,H6,I6,⟨hl6,hk6⟩,q6⟩=> ?_) fun _ _ f=>f.elim;refine wpAny_mono (hi C s2 H2 fp _ s6 σ6 H6 _ I6 q6) (fun b s7 ⟨H7,I7,q7⟩=> ?_) fun _ _ f=>f.elim;have pinD:∀{pp:List (Addr×Obj)}{σx:St}{Hx:Hp}{sx:Shared},Inv (bE X scope cl N C s2 H2 fp) ([(D,({ cls:= .type "list",data:= .seq its.toArray k }:Obj))]++eZ fp s5.heap) σx Hx sx →
      sx.heap.get? D=some { cls:= .type "list",data:= .seq its.toArray k }/\Hx D=none/\tn (i+1) sx.heap/\(∀b∈fp,Hx b=none):=fun {pp σx Hx sx} Ix=>by
     refine⟨(Ix.pin (D,_) (List.mem_append_right _ (List.mem_append_left _ List.mem_cons_self))).1,(Ix.pin (D,_) (List.mem_append_right _ (List.mem_append_left _ List.mem_cons_self))).2.1,T.keep _ _ _ st5 fun b hb o e=>(Ix.pin (b,o) (List.mem_append_right _ (List.mem_append_right _ (d6 hb e)))).1,fun b hb=> ?_⟩;obtain⟨o,e,d⟩:=T.obj _ _ st5 b hb;exact(Ix.pin (b,o) (List.mem_append_right _ (List.mem_append_right _ (d6 hb e)))).2.1
    cases b with
    | false =>
     rw[if_neg Bool.false_ne_true]at q7 ⊢;obtain⟨m',hm',w7⟩:=q7;obtain⟨e7,n7,st7,fr7⟩:=pinD (pp:=[]) I7;exact⟨m',hm',i+1,ys,its,k,H7,w7,(I7.pins_of (pins':=[]) fun p hp=>by cases hp).weak hl6.symm hk6,st7,fr7,n7,e7,rv,hz⟩
    | true =>
     rw[if_pos rfl]at q7 ⊢;refine wpAny_mono (he C s2 H2 fp _ s7 σ6 H7 _ I7 q7) (fun y' s8 ⟨y,H8,I8,r8,hlt,m',hm',w8⟩=> ?_) fun _ _ f=>f.elim;obtain⟨e8,n8,st8,fr8⟩:=pinD (pp:=[]) I8;have I8f:Inv (bE X scope cl N C s2 H2 fp) (eZ fp s5.heap) σ6 H8 s8:=I8.pins_of fun p hp=>I8.pin p (List.mem_append_right _ (List.mem_append_right _ hp));have I8t:=I8f.track n8 e8 rv hz (by show s2.heap.objs.size<=D;rw[hDe];exact Nat.le_refl _) hDL hDX fun p hp=>by
      have hp':p∈eZ fp s5.heap:=by simpa [bE] using hp
      exact fun z=>hDfp (z▸(o8 hp').1)
     refine wpAny_mono (dC (X:=bE X scope cl N C s2 H2 fp) (eZ fp s5.heap) s8 σ6 _ (.ref D) [y] (.ref D) [y'] (fun _ H9=>H9=upd H8 D (.lst (ys++[y]))) I8t rfl (.cons r8 .nil)
      ⟨D,ys,y,rfl,rfl,aV,hlt,BT⟩) (fun _ s9 ⟨_,H9,I9,_,e9⟩=> ?_) fun _ _ f=>f.elim
     subst e9;obtain⟨hz9,its9,k9,rv9,e9⟩:=I9.hok D _ aV;have I9u:=I9.untrack n8;refine⟨m',hm',i+1,ys++[y],its9,k9,H8,w8,(I9u.pins_of (pins':=[]) fun p hp=>by cases hp).weak hl6.symm hk6,?_,fr8,n8,e9,rv9,hz9⟩;exact T.keep _ _ _ st5 fun b hb o e=>(I9u.pin (b,o) (List.mem_append_right _ (d6 hb e))).1
  ·exact⟨0,[],[],0,H2,w0,I4,T.keep _ _ _ st2 fun b hb o e=>old b o e,fun b hb=>(f2 b hb).1,I2.hok.fresh (by rw[hDe];exact Nat.le_refl _),hacc,.nil,Nat.zero_le _⟩
 exact codeAny_compStart_list (loop _ rfl) (T.self _ 0 _ _ _ (T.keep _ _ _ st2 fun b hb o e=>old b o e) (loop _ rfl))
theorem dD (hc:X.calm=true)(B:Blk X scope cl N nl ci)(hp:PI X tg iter wi)(hg:∀C s0 H0 fp,PG (bE X scope cl N C s0 H0 fp) tg g)(hi:∀C s0 H0 fp,PF (bE X scope cl N C s0 H0 fp) ifs ti)
  (he:∀C s0 H0 fp,PE (bE X scope cl N C s0 H0 fp) elt te)(hs:∀x,foldedSetIterable iter X.env x=pure x:=by intro _;rfl):PE X (.ListComp elt [⟨tg,iter,ifs,0⟩] scope pos) (yE wi nl ci g ti te):=by
 intro pins s σ H Q I h;rw[eval_ListComp];refine wpAny_comprehension_free (use:=none) rfl hs B.clos B.kind B.names (thn (hp pins s σ H _ I h) fun v s1 h1=>thn h1 fun itv s2 h2=> ?_);obtain⟨it,fp,tn,J,H2,e,I2,T,st2,f2,hW⟩:=h2;subst e;refine wP (RR:=fun acc C=>compPost (model X.prog X.w) X.A X.xe none (EP X pins σ Q) acc C) hc B hg hi he I2 T st2 f2 hW ?_;intro D C s' H' ys oC m hD K1 hn hC q;refine⟨m,hn,fun h' hs'=> ?_⟩;have hL:C≠X.env.locals:=(K1.pin (C,oC) (by simp)).2.2.1;have I9:Inv X pins σ (upd H' D (.lst ys)) { s' with heap:=h',toks:=s'.toks }:=K1.unpinned.turned (t':=s'.toks) (it:=C) (fun b o hb e=>hs'.extBut b o hb e) (K1.pin (C,oC) (by simp)).2.1 hL (.inr (Nat.le_trans I2.sz hC)) (fun x c e z=> ?_) fun p hp z=> ?_
 ·exact⟨.ref D,_,I9,rfl,q D hD⟩
 ·obtain⟨v,o,ho,_⟩:=I2.cell x c e;exact absurd (Nat.lt_of_lt_of_le (Heap.lt_size ho) (z▸hC)) (Nat.lt_irrefl _)
 ·exact absurd (Nat.lt_of_lt_of_le (Heap.lt_size (I2.pin p hp).1) (z▸hC)) (Nat.lt_irrefl _)
theorem C0 {i:Nat}{x:Str}{pos' spos:Pos} (hN:X.N.Nodup) (hix:X.N[i]? =some x) (hx:Loc X.env.scope x) (hc:X.calm=true) (B:Blk X scope cl N nl ci) (hp:PI X tg iter wi) (hg:∀C s0 H0 fp,PG (bE X scope cl N C s0 H0 fp) tg g)
  (hi:∀C s0 H0 fp,PF (bE X scope cl N C s0 H0 fp) ifs ti)(he:∀C s0 H0 fp,PE (bE X scope cl N C s0 H0 fp) elt te)
  (hsw:swapsWith (.ListComp elt [⟨tg,iter,ifs,0⟩] scope pos) (some (.Name x pos')) spos.line X.env=pure true:=by rfl)(hs:∀x,foldedSetIterable iter X.env x=pure x:=by intro _;rfl)
  (hf:X.fn x=true∨X.env.scope.names.lookup x=some .local:=by first|exact .inl rfl|exact .inr rfl|assumption) :
  PS X (.Assign [.Name x pos'] (.ListComp elt [⟨tg,iter,ifs,0⟩] scope pos) spos) (EB (yE wi nl ci g ti te) (cF i)):=by
 intro pins s σ H D I h;rw[exec_Assign_Name_used _ _ _ _ hsw];refine wpAny_bind (wpAny_standAt (wpAny_bind ?_));show wpAny _ X.A (do let _ ←comprehension (.ListComp elt [⟨tg,iter,ifs,0⟩] scope pos) scope X.env _ (newList []) false (eval iter X.env) (some (assign (.Name x pos') X.env))) _ _ s;refine wpAny_bind (wpAny_mono (wpAny_comprehension_free (use:=some (assign (.Name x pos') X.env)) (Q:=fun _ s'=>SP X pins D .next s') rfl hs B.clos B.kind B.names
  (thn (hp pins s σ H _ I h) fun v s1 h1=>thn h1 fun itv s2 h2=> ?_)) (fun _ s' hq=>wpAny_pure (wpAny_pure hq)) fun _ _ e=>e)
 obtain⟨it,fp,tn,J,H2,e,I2,T,st2,f2,hW⟩:=h2;subst e;refine wP (RR:=fun acc C=>compPost (model X.prog X.w) X.A X.xe (some (assign (.Name x pos') X.env)) (fun _ s'=>SP X pins D .next s') acc C) hc B hg hi he I2 T st2 f2 hW ?_;intro Dd C s' H' ys oC m hD K1 hn hC q;show wpAny _ X.A (assign (.Name x pos') X.env (.ref Dd)) _ _ _;refine thn (aM (i:=i) hN hix hx hf (pins++[(C,oC)]) s' σ (upd H' Dd (.lst ys)) (.ref Dd) (.ref Dd) (fun σ' H''=>D.nx σ' H'') K1 rfl (q Dd hD)) fun _ s'' ⟨σ',H'',K2,q2⟩=> ?_;have eC:=K2.pin (C,oC) (by simp);obtain⟨oC',es,ep,hoC,hdC,rC⟩:=id hn;have eo:oC'=oC:=by
  have:=(K1.pin (C,oC) (by simp)).1;rw[hoC]at this;exact Option.some.inj this
 subst eo;refine⟨m,⟨oC',es,ep,eC.1,hdC,rC⟩,fun h' hs'=> ?_⟩;have hL:C≠X.env.locals:=eC.2.2.1;have I9:Inv X pins σ' H'' { s'' with heap:=h',toks:=s''.toks }:=K2.unpinned.turned (t':=s''.toks) (it:=C) (fun b o hb e=>hs'.extBut b o hb e) eC.2.1 hL (.inr (Nat.le_trans I2.sz hC)) (fun x c e z=> ?_) fun p hp z=> ?_
 ·exact⟨σ',H'',I9,q2⟩
 ·obtain⟨v,o,ho,_⟩:=I2.cell x c e;exact absurd (Nat.lt_of_lt_of_le (Heap.lt_size ho) (z▸hC)) (Nat.lt_irrefl _)
 ·exact absurd (Nat.lt_of_lt_of_le (Heap.lt_size (I2.pin p hp).1) (z▸hC)) (Nat.lt_irrefl _)
end
end L2
namespace L2
open PySem PySem.Spec PyProof.Rows
def Its (x:Str):It:=⟨fun i _=>i<x.cps.size,fun i H v H'=>H'=H/\∃c,x.cps[i]? =some c/\v= .str ⟨#[c]⟩,fun i _=>i=x.cps.size⟩
theorem zJ {P:Program}{w:World}{K:PySem.W.Frag}{tg:Expr} (it:Addr) (x:Str) (t:Tok) (ty:String)
  (hty:["enumerate","zip","dict_itemiterator","dict_reverseitemiterator","odict_iterator","itertools.zip_longest","itertools.pairwise"].contains ty=false)
  (W:∀A':Around,A'.handled=none->Walks P w A' it [it] [it] x.cps.size (SignAt x) (fun i h=>h.IsStrIter it ty x t i))
  (hself:∀(A:Around) (i:Nat) (s:Shared) (Q:Value->Shared->Prop) (E:Value->Shared->Prop),s.heap.IsStrIter it ty x t i->Q (.ref it) s->wpAny (model P w) A (pyIter (.ref it)) Q E s) :
  nF P w K tg (Its x) [it] it (fun i h=>h.IsStrIter it ty x t i) where
 mem:=by simp
 obj:=fun i h st b hb=>by
  have e:b=it:=by simpa using hb
  subst e;obtain⟨o,e,c,d⟩:=st;exact⟨o,e,fun v z=>by rw[d]at z;cases z⟩
 keep:=fun i h h' st k=>let ⟨o,ho,r⟩:=st;⟨o,k it (by simp) o ho,r⟩
 item:=by
  intro X hP hw hK hc i pins s σ H E I hf st hg;subst hP hw hK;obtain⟨f0,f1,f2,f3,f4,f5⟩:=hf it (by simp);refine(W X.A (I.ok.hd hc)).item i s _ _ hg st fun v h' tk hv st' kk=> ?_;obtain⟨c,u,hc',rfl⟩:=hv;have I1:Inv X pins σ H { s with heap:=h',toks:=tk }:=I.turned (fun b o hb e=>kk b o (by simpa using hb) e) f0 f1 f3 f4 f5;obtain⟨o,e,c1,d⟩:=id st';exact⟨_,rfl,DB (s:={ s with heap:=h',toks:=tk }) e c1 d hty ⟨.str ⟨#[c]⟩,H,I1,⟨u,rfl⟩,⟨rfl,c,hc',rfl⟩,st',fun b hb=>(hf b hb).1⟩⟩
 done:=by
  intro X hP hw hK hc i pins s σ H E I hf st hg;subst hP hw hK;obtain⟨f0,f1,f2,f3,f4,f5⟩:=hf it (by simp);have e:i=x.cps.size:=hg;subst e;exact(W X.A (I.ok.hd hc)).done s _ _ st fun h' tk kk=>⟨rfl,I.turned (fun b o hb e=>kk b o (by simpa using hb) e) f0 f1 f3 f4 f5⟩
 self:=hself
def VP (tl:TE):TI:=fun σ H R=>tl σ H fun x H1=>∃z,x= .str z/\R (Its z) H1
theorem QS {X:Cx}{tg l:Expr}{tl:TE} (hl:PE X l tl):PI X tg l (VP tl):=by
 intro pins s σ H R I h;refine thn (hl pins s σ H _ I h) fun v s1 ⟨x,H1,I1,rx,z,ez,q⟩=> ?_;subst ez;obtain⟨t,rfl⟩:=rx;cases ha:z.cps.all (·<128)
 ·refine wpAny_pyIter_wide ha ⟨s1.heap.objs.size,[s1.heap.objs.size],_,Its z,H1,rfl,I1.kept (t':=s1.toks) fun b u e=>Heap.get?_push_of_some _ e,zJ _ z t "str_iterator" (by decide) (fun A' hA=>Walks.strWide hA _ z t) (fun _ _ _ _ _ st h=>wpAny_pyIter_striter_wide st h),⟨_,Heap.get?_push_size _ rfl,rfl,rfl⟩,fun b hb=> ?_,q⟩;have e:b=s1.heap.objs.size:=by simpa using hb
  subst e;exact I1.fpOk (Nat.le_refl _) (I1.hok.fresh (Nat.le_refl _))
 ·refine wpAny_pyIter_ascii ha ⟨s1.heap.objs.size,[s1.heap.objs.size],_,Its z,H1,rfl,I1.kept (t':=s1.toks) fun b u e=>Heap.get?_push_of_some _ e,zJ _ z t "str_ascii_iterator" (by decide) (fun A' hA=>Walks.strAscii hA _ z t) (fun _ _ _ _ _ st h=>wpAny_pyIter_striter_ascii st h),⟨_,Heap.get?_push_size _ rfl,rfl,rfl⟩,fun b hb=> ?_,q⟩;have e:b=s1.heap.objs.size:=by simpa using hb
  subst e;exact I1.fpOk (Nat.le_refl _) (I1.hok.fresh (Nat.le_refl _))
theorem O0 {J:It}{g:TG}{ti:TT}{te:TE}{σ0:St}{fin:List V->Hp->Prop}{H1:Hp} (n:Nat) (f:Nat->V) (hn:n<=sizeLine) (Ok:Hp->Prop) (h0:Ok H1)
  (hst:∀H,Ok H->J.stop n H)(hgo:∀i H,i<n->Ok H->J.go i H)
  (hstep:∀i H x H',i<n->Ok H->J.yld i H x H'->g x σ0 H' fun σ2 H2=>(σ2.length=σ0.length/\∀(j:Nat) v,σ0[j]? =some (some v)->σ2[j]? =some (some v))/\ti σ2 H2 fun b H3=>b=true/\te σ2 H3 fun y H4=>y=f i/\Ok H4)
  (mono:∀σ H (Q Q':Bool->Hp->Prop),(∀b H',Q b H'->Q' b H')->ti σ H Q->ti σ H Q')(mono2:∀σ H (Q Q':VK),(∀b H',Q b H'->Q' b H')->te σ H Q->te σ H Q')(mono3:∀x σ H (Q Q':St->Hp->Prop),(∀σ' H',Q σ' H'->Q' σ' H')->g x σ H Q->g x σ H Q')
  (hfin:∀H,Ok H->fin ((List.range n).map f) H):d3 J g ti te σ0 fin H1:=by
 refine⟨fun i m ys H=>m=n - i/\i<=n/\ys=(List.range i).map f/\Ok H,⟨n,by simp,Nat.zero_le _,rfl,h0⟩,?_⟩;rintro i m ys H ⟨rfl,hi,rfl,ok⟩
 by_cases hlt:i<n
 ·refine .inr ⟨hgo i H hlt ok,fun x H' y=> ?_⟩;refine mono3 _ _ _ _ _ (fun σ' H'' q=>⟨q.1,mono _ _ _ _ (fun b H3 q=> ?_) q.2⟩) (hstep i H x H' hlt ok y);obtain⟨rfl,q⟩:=q;rw[if_pos rfl];refine mono2 _ _ _ _ (fun v H4 q=> ?_) q;obtain⟨rfl,ok4⟩:=q;refine⟨by rw[List.length_map,List.length_range];lia,n - (i+1),by lia,rfl,hlt,?_,ok4⟩;rw[List.range_succ,List.map_append];rfl
 ·have e:i=n:=by lia
  subst e;exact .inl ⟨hst H ok,hfin H ok⟩
section
variable {X:Cx}
theorem yM:∀bs:List Bool,(List.range bs.length).all (fun i=>bs.getD i true)=bs.all id
 | []=>rfl
 | b::bs=>by
  rw[List.length_cons,List.range_succ_eq_map,List.all_cons,List.all_map,List.all_cons,←yM bs];rfl
theorem uK (hc:X.calm=true):cJ X (.builtin "all") (fun xs H Q=>∃(p:Addr) (bs:List Bool),xs=[.ref p]/\SqL X.K H p (bs.map V.bl)/\Q (.bl (bs.all id)) H):=by
 intro pins s σ H xs us Q I r h;obtain⟨p,bs,rfl,hq,q⟩:=h;obtain⟨u,rfl,rx⟩:=fT r;cases rx;obtain⟨its,r',pl,hz⟩:=I.list hq;have hl:=pl.isList;have hlt:p<s.heap.objs.size:=by obtain⟨_,e,_⟩:=hl;exact Heap.lt_size e
 have hlen:bs.length=its.length:=by have:=r'.length;rw[List.length_map]at this;exact this
 refine call_all_walk (wpAny_pyIter_list hl ?_);refine⟨s.heap.objs.size,_,_,its.toArray.size,_,_,fun i=>bs.getD i true,rfl,Walks.list (show X.A.in1.handled=none from I.ok.hd hc) s.heap.objs.size p (Nat.ne_of_lt hlt) its.toArray,⟨⟨_,Heap.get?_push_size _ rfl,rfl,rfl⟩,hl.push _⟩,?_,?_⟩
 ·intro i v s' Q' E' hi hQ;have hi':its[i]? =some v:=by simpa using hi
  have hib:i<bs.length:=by rw[hlen];exact(List.getElem?_eq_some_iff.mp hi').1
  obtain⟨u,hu,ru⟩:=r'.get (i:=i) (x:=V.bl bs[i]) (by rw[List.getElem?_map,List.getElem?_eq_getElem hib];rfl);rw[hi']at hu;cases hu;have:v=Value.bool bs[i]:=ru;subst this;refine wpAny_truthy_bool ?_;have eb:bs.getD i true=bs[i]:=by rw[List.getD_eq_getElem?_getD,List.getElem?_eq_getElem hib];rfl
  have hQ':Q' (bs.getD i true) s':=hQ;rw[eb]at hQ';exact hQ'
 ·intro h' tk hk;have eall:(List.range its.toArray.size).all (fun i=>bs.getD i true)=bs.all id:=by
   rw[List.size_toArray,←hlen];exact yM bs
  rw[eall];refine⟨.bl (bs.all id),H,?_,rfl,q⟩;have I1:Inv X pins σ H { s with heap:=s.heap.push { cls:= .type "list_iterator",data:= .fields #[.ref p,.int 0 0] },toks:=s.toks }:=I.kept fun b u e=>Heap.get?_push_of_some _ e;obtain⟨f0,f1,f2,f3,f4,f5⟩:=I.fpOk (Nat.le_refl _) (I.hok.fresh (Nat.le_refl _));exact I1.turned (fun b o hb e=>hk b o (by simpa using hb) e) f0 f1 f3 f4 f5
theorem A8:cJ X (.builtin "isinstance") (fun xs H Q=>∃x c t u b,xs=[x,c]/\gN X.K H x t/\RelV c u/\PySem.W.kitOne X.K t u=some b/\Q (.bl b) H):=by
 intro pins s σ H xs us Q I r h;obtain⟨x,c,t,u,b,rfl,ty,rc,e,q⟩:=h;obtain⟨v1,v2,rfl,r1,r2⟩:=LY r;have e2:v2=u:=by
  cases c with
  | non=>exact(show v2=_ from r2).trans (show u=_ from rc).symm
  | bl b=>exact(show v2=_ from r2).trans (show u=_ from rc).symm
  | ref b=>exact(show v2=_ from r2).trans (show u=_ from rc).symm
  | ty b=>exact(show v2=_ from r2).trans (show u=_ from rc).symm
  | int i =>
   obtain⟨t1,rfl⟩:=(show ∃t,u=_ from rc)
   cases ty<;>simp[PySem.W.kitOne,PySem.W.kitCls]at e
  | str i =>
   obtain⟨t1,rfl⟩:=(show ∃t,u=_ from rc)
   cases ty<;>simp[PySem.W.kitOne,PySem.W.kitCls]at e
  | byt i =>
   obtain⟨t1,rfl⟩:=(show ∃t,u=_ from rc)
   cases ty<;>simp[PySem.W.kitOne,PySem.W.kitCls]at e
  | flt i =>
   obtain⟨t1,rfl⟩:=(show ∃t,u=_ from rc)
   cases ty<;>simp[PySem.W.kitOne,PySem.W.kitCls]at e
 subst e2;exact E6 I r1 ty e fun tk=>⟨.bl b,H,I.tok tk,rfl,q⟩
theorem GN:OpR X (compareOp .LtE) (fun x y H Q=>∃i j,x= .str i/\y= .str j/\Q (.bl (!decide (j.cps.toList<i.cps.toList))) H):=by
 intro pins s σ H x y v u Q I rx ry h;obtain⟨i,j,rfl,rfl,q⟩:=h;obtain⟨t,rfl⟩:=rx;obtain⟨t',rfl⟩:=ry;exact P.le_str ⟨.bl _,H,I,rfl,q⟩
end
end L2
namespace L2
open PySem PySem.Spec PyProof.Rows
def tZ (xs:List (Str×NameKind))(XN:List Str)(ns:List (Str×NameKind))(N:List Str)(nl:Nat)(ci:List Nat):Bool :=
 (ns.all fun y=>y.2 != .cell&&(y.2 != .local||ns.lookup y.1==some .local)&&(y.2 != .free||(xs.lookup y.1==some .cell&&ns.lookup y.1==some .free))) &&
 (N.length==nl+ci.length) &&
 (List.range ci.length).all fun j=>match ci[j]?,N[nl+j]? with
  | some i,some n=>XN[i]? ==some n&&xs.lookup n==some .cell&&ns.lookup n==some .free
  | _,_=>false
def fN (ns:List (Str×NameKind))(cs:List (Str×Addr)):List (Str×Addr)->List (Str×Addr)
 | acc=>ns.foldl (fun acc y=>if y.2== .free then (y.1,(cs.lookup y.1).getD 0)::acc else acc) acc
theorem gG {env:Env}:∀(ns:List (Str×NameKind)) (acc:List (Str×Addr)),(∀y∈ns,y.2= .free->∃c,env.cells.lookup y.1=some c) →
  (forIn ns acc fun x r=>(do
   let (name,kind):=x
   if (kind==NameKind.free)=true then do
     let c ←cellOf env name
     pure (ForInStep.yield ((name,c)::r))
    else pure (ForInStep.yield r)):Sem (List (Str×Addr)))=pure (fN ns env.cells acc)
 | [],acc,_=>rfl
 | (n,k)::r,acc,h=>by
  have ih:=fun acc=>gG r acc fun y hy=>h y (List.mem_cons_of_mem _ hy);rw[List.forIn_cons]
  by_cases hk:k= .free
  ·subst hk;obtain⟨c,e⟩:=h (n,.free) List.mem_cons_self rfl;have e1:cellOf env n=pure c:=by unfold cellOf;rw[e]
   simp only[beq_self_eq_true,if_true,e1];show (forIn r ((n,c)::acc) _:Sem (List (Str×Addr)))=_;rw[ih];show _=pure (fN ((n,NameKind.free)::r) env.cells acc);simp only[fN,List.foldl_cons,beq_self_eq_true,if_true,e,Option.getD_some]
  ·have hb:(k==NameKind.free)=false:=by simpa using hk
   simp only[hb,Bool.false_eq_true,if_false];show (forIn r acc _:Sem (List (Str×Addr)))=_;rw[ih];simp only[fN,List.foldl_cons,hb,Bool.false_eq_true,if_false]
theorem cT {cs:List (Str×Addr)}:∀(ns:List (Str×NameKind)) (acc:List (Str×Addr)) (n:Str),(∀y∈ns,y.2= .free->∃c,cs.lookup y.1=some c) →
  ((n,NameKind.free)∈ns∨acc.lookup n=cs.lookup n)->(∀c,acc.lookup n=some c->cs.lookup n=some c)->(fN ns cs acc).lookup n=cs.lookup n
 | [],acc,n,_,h,_=>by
  rcases h with h|h
  ·cases h
  ·exact h
 | (m,k)::r,acc,n,hc,h,hs=>by
  have hc':∀y∈r,y.2= .free->∃c,cs.lookup y.1=some c:=fun y hy=>hc y (List.mem_cons_of_mem _ hy);show (fN r cs (if k== .free then (m,(cs.lookup m).getD 0)::acc else acc)).lookup n=cs.lookup n
  by_cases hk:k= .free
  ·subst hk;obtain⟨c,e⟩:=hc (m,.free) List.mem_cons_self rfl;simp only[beq_self_eq_true,if_true,e,Option.getD_some]
   by_cases hm:n=m
   ·subst hm;have q:List.lookup n ((n,c)::acc)=some c:=by simp[List.lookup_cons]
    exact cT r _ n hc' (.inr (q.trans e.symm)) fun c' z=>by rw[q]at z;cases z;exact e
   ·have hb:(n==m)=false:=by simpa using hm
    have q:List.lookup n ((m,c)::acc)=acc.lookup n:=by simp[List.lookup_cons,hb]
    refine cT r _ n hc' ?_ fun c' z=>hs c' (q▸z);rcases h with h|h
    ·rcases List.mem_cons.mp h with z|z
     ·cases z;exact absurd rfl hm
     ·exact .inl z
    ·exact .inr (q.trans h)
  ·have hb:(k==NameKind.free)=false:=by simpa using hk
   simp only[hb,Bool.false_eq_true,if_false];refine cT r _ n hc' ?_ hs;rcases h with h|h
   ·rcases List.mem_cons.mp h with z|z
    ·cases z;exact absurd rfl hk
    ·exact .inl z
   ·exact .inr h
theorem nC {cs:List (Str×Addr)}:∀(ns:List (Str×NameKind)) (acc:List (Str×Addr)),(∀y∈ns,y.2= .free->∃c,cs.lookup y.1=some c) →
  (∀n c,acc.lookup n=some c->cs.lookup n=some c)->∀n c,(fN ns cs acc).lookup n=some c->cs.lookup n=some c
 | [],acc,_,hs,n,c,h=>hs n c h
 | (m,k)::r,acc,hc,hs,n,c,h=>by
  have hc':∀y∈r,y.2= .free->∃c,cs.lookup y.1=some c:=fun y hy=>hc y (List.mem_cons_of_mem _ hy);have h':(fN r cs (if k== .free then (m,(cs.lookup m).getD 0)::acc else acc)).lookup n=some c:=h;refine nC r _ hc' ?_ n c h';intro n' c' z
  by_cases hk:k= .free
  ·subst hk;obtain⟨d,e⟩:=hc (m,.free) List.mem_cons_self rfl;simp only[beq_self_eq_true,if_true,e,Option.getD_some]at z
   by_cases hm:n'=m
   ·subst hm;simp[List.lookup_cons]at z;subst z;exact e
   ·have hb:(n'==m)=false:=by simpa using hm
    simp[List.lookup_cons,hb]at z;exact hs n' c' z
  ·have hb:(k==NameKind.free)=false:=by simpa using hk
   simp only[hb,Bool.false_eq_true,if_false]at z;exact hs n' c' z
theorem dX {env:Env}(hkf:env.scope.kind= .function):∀{names:List (Str×NameKind)}{x:Str},names.lookup x=some .free->env.kindOf x=some .cell →
  (names.map fun (n,k)=>if (k==NameKind.free&&env.scope.kind== .function&&env.kindOf n==some .cell) then (n,NameKind.cell) else (n,k)).lookup x=some .cell
 | [],_,h,_=>by simp at h
 | (n,k)::r,x,h,hc=>by
  show List.lookup x ((if (k==NameKind.free&&env.scope.kind== .function&&env.kindOf n==some .cell)=true then (n,NameKind.cell) else (n,k))::_)=_;cases hx:x==n with
  | true =>
   simp only[List.lookup_cons,hx]at h;cases h;have e:x=n:=by simpa using hx
   subst e;rw[hkf,hc];simp[List.lookup_cons]
  | false =>
   simp only[List.lookup_cons,hx]at h;have ih:=dX hkf h hc
   split
   ·simp only[List.lookup_cons,hx];exact ih
   ·simp only[List.lookup_cons,hx];exact ih
theorem cN {env:Env}:∀{names:List (Str×NameKind)}{x:Str}{k':NameKind},(∀y∈names,y.2≠ .cell)->(k'= .cell∨k'= .free) →
  (names.map fun (n,k)=>if (k==NameKind.free&&env.scope.kind== .function&&env.kindOf n==some .cell) then (n,NameKind.cell) else (n,k)).lookup x=some k'->(x,NameKind.free)∈names
 | [],_,_,_,_,h=>by simp at h
 | (n,k)::r,x,k',hn,hk',h=>by
  have h':List.lookup x ((if (k==NameKind.free&&env.scope.kind== .function&&env.kindOf n==some .cell)=true then (n,NameKind.cell) else (n,k))::r.map _)=some k':=h;cases hx:x==n with
  | true =>
   have e:x=n:=by simpa using hx
   subst e
   by_cases hf:k= .free
   ·subst hf;exact List.mem_cons_self
   ·have hb:(k==NameKind.free)=false:=by simpa using hf
    simp only[hb,Bool.false_and,Bool.false_eq_true,if_false,List.lookup_cons,hx]at h';cases h';rcases hk' with z|z
    ·exact absurd z (hn (x,k) List.mem_cons_self)
    ·exact absurd z hf
  | false =>
   have h2:List.lookup x (r.map fun (n,k)=>if (k==NameKind.free&&env.scope.kind== .function&&env.kindOf n==some .cell) then (n,NameKind.cell) else (n,k))=some k':=by
    split at h'
    ·simp only[List.lookup_cons,hx]at h';exact h'
    ·simp only[List.lookup_cons,hx]at h';exact h'
   exact List.mem_cons_of_mem _ (cN (fun y hy=>hn y (List.mem_cons_of_mem _ hy)) hk' h2)
theorem blk {X:Cx}{scope:Scope}{N:List Str}{nl:Nat}{ci:List Nat} (n0:Nat) (hX:X.env.cells=cellsFrom n0 X.env.scope.names []) (hkf:X.env.scope.kind= .function) (hk:scope.kind= .function)
  (h:tZ X.env.scope.names X.N scope.names N nl ci=true):Blk X scope (fN scope.names X.env.cells []) N nl ci:=by
 unfold tZ at h;rw[Bool.and_eq_true,Bool.and_eq_true]at h;obtain⟨⟨h1,h2⟩,h3⟩:=h;rw[List.all_eq_true]at h1;have h1':∀y∈scope.names,y.2≠ .cell/\(y.2= .local->scope.names.lookup y.1=some .local)/\(y.2= .free->X.env.scope.names.lookup y.1=some .cell/\scope.names.lookup y.1=some .free):=fun y hy=>by
  have q:=h1 y hy;simp only[Bool.and_eq_true,Bool.or_eq_true,bne_iff_ne,ne_eq,beq_iff_eq]at q;obtain⟨⟨q1,q2⟩,q3⟩:=q;exact⟨q1,fun e=>q2.resolve_left fun z=>z e,fun e=>q3.resolve_left fun z=>z e⟩
 have hcs:∀y∈scope.names,y.2= .free->∃c,X.env.cells.lookup y.1=some c:=fun y hy e=>by
  rw[hX];exact nL ((h1' y hy).2.2 e).1
 refine⟨hk,fun y hy=>(h1' y hy).2.1,fun y hy=>(h1' y hy).1,?_,?_,?_,by simpa using h2,?_⟩
 ·unfold closureFor;refine(congrArg (fun m:Sem (List (Str×Addr))=>m >>= fun cs=>pure cs) (gG scope.names [] hcs)).trans ?_;rfl
 ·exact nC scope.names [] hcs fun n c z=>by cases z
 ·intro n hn;have hm:(n,NameKind.free)∈scope.names:=by
   rcases hn with z|z
   ·exact cN (fun y hy=>(h1' y hy).1) (.inl rfl) z
   ·exact cN (fun y hy=>(h1' y hy).1) (.inr rfl) z
  obtain⟨c,e⟩:=hcs _ hm rfl;exact⟨c,(cT scope.names [] n hcs (.inl hm) fun c z=>by cases z).trans e⟩
 ·intro j i hj;have hjl:j<ci.length:=(List.getElem?_eq_some_iff.mp hj).1;rw[List.all_eq_true]at h3;have q:=h3 j (List.mem_range.mpr hjl);rw[hj]at q;cases e:N[nl+j]? with
  | none=>rw[e]at q;cases q
  | some n =>
   rw[e]at q;simp only[Bool.and_eq_true,beq_iff_eq]at q;obtain⟨⟨q1,q2⟩,q3⟩:=q;refine⟨n,rfl,q1,.inl q2,.inl (dX hkf q3 q2),?_⟩;exact cT scope.names [] n hcs (.inl (PySem.mem_of_lookup q3)) fun c z=>by cases z
structure Fc (P:Program)(w:World)(K:PySem.W.Frag)(mg:Str->Option Value)(base:Heap)(x:Str)(k:Nat)(ps:List Str)(sp:Sp):Prop where
 ex:∃f fd,mg x=some (.ref f)/\PySem.W.keepIn K (.ref f)=true/\Binds K fd ps []/\bD P w K mg base CX0 k f fd ps sp
theorem b5 {X:Cx}{x:Str}{k k':Nat}{ps:List Str}{sp:Sp}{e:Expr}{es:List Expr}{t:TA}{p pos:Pos} (F:Fc X.prog X.w X.K X.mg X.base x k ps sp) (hr:Room k' X.A) (ha:PA X (e::es) t) (hk:k<=k':=by decide) (hg:Gl X x:=by rfl)
  (hdb:(x==("__debug__" :Str))=false:=by decide)(he:starEach (e::es) X.env=(false,eval e X.env)::starEach es X.env:=by rfl)(hpl:(backTo pos (starEach es X.env)).any (·.1)=false:=by rfl) :
  PE X (.Call (.Name x p) (e::es) [] pos) (tQ sp [] E0 t):=by
 obtain⟨f,fd,hm,kp,b,G⟩:=F.ex;exact O3 G (hr.mono hk) hg hm kp b .nil t0 ha hdb he hpl
theorem DX {X:Cx}{x:Str}{n:String}{pos:Pos} (hg:Gl X x) (hm:X.mg x=none) (hv:bootBuiltins x=some (.type n)) (hn:x≠ "__name__" :=by decide) (hd:(x==("__debug__" :Str))=false:=by decide):PE X (.Name x pos) (tC (.ty n)):=N9 hg hm hv rfl hn hd
theorem OU {X:Cx}{x:Str}{i:Int}{t:Tok}{pos:Pos} (hg:Gl X x) (hm:X.mg x=some (.int i t)) (hd:(x==("__debug__" :Str))=false:=by decide):PE X (.Name x pos) (tC (.int i)):=NH hg hm ⟨t,rfl⟩ hd
theorem i6:bootBuiltins "isinstance" =some (.builtin "isinstance"):=by decide +kernel
theorem QG:bootBuiltins "all" =some (.builtin "all"):=by decide +kernel
theorem mN:bootBuiltins "len" =some (.builtin "len"):=by decide +kernel
theorem P8:bootBuiltins "max" =some (.builtin "max"):=by decide +kernel
theorem Q7:bootBuiltins "int" =some (.type "int"):=by decide +kernel
theorem RB:bootBuiltins "str" =some (.type "str"):=by decide +kernel
theorem M1:bootBuiltins "bool" =some (.type "bool"):=by decide +kernel
theorem mE:bootBuiltins "list" =some (.type "list"):=by decide +kernel
theorem OI:bootBuiltins "dict" =some (.type "dict"):=by decide +kernel
inductive BTy (K:PySem.W.Frag)(H:Hp):V->String->Prop where
 | non:BTy K H .non "NoneType"
 | bl (x:Bool):BTy K H (.bl x) "bool"
 | int (i:Int):BTy K H (.int i) "int"
 | str (x:Str):BTy K H (.str x) "str"
 | lst {a:Addr}{xs:List V} (e:H a=some (.lst xs)):BTy K H (.ref a) "list"
 | tup {a:Addr}{xs:List V} (e:H a=some (.tup xs)):BTy K H (.ref a) "tuple"
 | dK {a:Addr}{kvs:List (Key×V)} (e:H a=some (.dK kvs)):BTy K H (.ref a) "dict"
theorem BTy.ty {K:PySem.W.Frag}{H:Hp}{x:V}{n:String} (b:BTy K H x n):gN K H x (.type n):=by
 cases b with
 | non=>exact .non
 | bl=>exact .bl _
 | int=>exact .int _
 | str=>exact .str _
 | lst e=>exact .lst e
 | tup e=>exact .tup e
 | dK e=>exact .dK e
def isB (n c:String):Bool:=n==c||(n== "bool" &&c== "int")
theorem EH {K:PySem.W.Frag}{H:Hp}{x:V}{n:String} (b:BTy K H x n) (c:String) (hc:c= "int" ∨c= "bool" ∨c= "str"):PySem.W.kitOne K (.type n) (.type c)=some (isB n c):=by
 cases b<;>rcases hc with rfl|rfl|rfl<;>kernel_rfl
end L2
namespace L2
open PySem PySem.Spec PyProof.Rows
theorem EU {J:It}{te:TE}{σ0:St}{fin:List V->Hp->Prop}{H1:Hp} (n:Nat) (Ok:Nat->List V->Hp->Prop) (hn:n<=sizeLine) (h00:σ0[0]? =some none) (h0:Ok 0 [] H1) (hlen:∀i ys H,Ok i ys H->ys.length<=i)
  (hst:∀ys H,Ok n ys H->J.stop n H/\fin ys H)(hstep:∀i ys H,i<n->Ok i ys H->J.go i H/\∀x H',J.yld i H x H'->∀R:VK,(∀y H4,Ok (i+1) (ys++[y]) H4->R y H4)->te (σ0.set 0 (some x)) H' R):d3 J (cF 0) uR te σ0 fin H1:=by
 refine⟨fun i m ys H=>m=n - i/\i<=n/\Ok i ys H,⟨n,by simp,Nat.zero_le _,h0⟩,?_⟩;rintro i m ys H ⟨rfl,hi,ok⟩
 by_cases hlt:i<n
 ·obtain⟨go,st⟩:=hstep i ys H hlt ok;refine .inr ⟨go,fun x H' y=>⟨⟨by simp,fun j v hv=> ?_⟩,?_⟩⟩
  ·cases j with
   | zero=>rw[h00]at hv;cases hv
   | succ j=>rw[List.getElem?_set_ne (by lia)];exact hv
  ·unfold uR
   dsimp only
   rw[if_pos rfl];exact st x H' y _ fun z H4 ok4=>⟨by have:=hlen i ys H ok;lia,n - (i+1),by lia,rfl,hlt,ok4⟩
 ·have e:i=n:=by lia
  subst e;exact .inl (hst ys H ok)
theorem D9 {lo:Int}{n:Nat}{te:TE}{σ0:St}{fin:List V->Hp->Prop}{H1:Hp} (Ok:Nat->List V->Hp->Prop) (hn:n<=sizeLine) (h00:σ0[0]? =some none) (h0:Ok 0 [] H1) (hlen:∀i ys H,Ok i ys H->ys.length<=i) (hfin:∀ys H,Ok n ys H->fin ys H)
  (hstep:∀i ys H,i<n->Ok i ys H->∀R:VK,(∀y H4,Ok (i+1) (ys++[y]) H4->R y H4)->te (σ0.set 0 (some (.int (lo+i)))) H R):d3 (Itr lo n) (cF 0) uR te σ0 fin H1 :=
 EU n Ok hn h00 h0 hlen (fun ys H ok=>⟨Nat.le_refl _,hfin ys H ok⟩) fun i ys H hi ok=>⟨hi,fun x H' y=>by
  obtain⟨e1,e2⟩:=y;subst e1 e2;exact hstep i ys _ hi ok⟩
section
variable {X:Cx}
theorem KO {x:V}(h:tD x=true):eqV x x=true:=by
 cases x<;>first|rfl|(simp[eqV];done)|exact absurd h Bool.false_ne_true
theorem nZ (n:Nat):(List.range n).all (fun _=>true)=true:=by simp
end
structure FunV (K:PySem.W.Frag)(x qual:Str)(st:Stmt)(f:Addr)(fd:FuncData):Prop where
 ex:∃(oc:Value) (od:Option Addr) (dV kV doc pm:Value) (an:Option Addr) (cdv ct:Value) (osl:Array (Option Value)),
  fd=PySem.W.fnOf x qual (aL st) (aK st) (aC st) dV kV doc pm an cdv ct/\K.lookup f=some ⟨oc,od,.func fd,osl⟩/\PySem.W.codeIn K cdv qual=true
 kp:PySem.W.keepIn K (.ref f)=true
section
variable {P:Program}{w:World}{K:PySem.W.Frag}{mg:Str->Option Value}{base:Heap}
theorem FunV.ok {x qual:Str}{st:Stmt}{f:Addr}{fd:FuncData}{N ps:List Str}{k:Nat}{sp:Sp} (F:FunV K x qual st f fd) (S:aS N ps (aC st)) (len:∀vs H Q E,sp vs H Q E->vs.length=ps.length)
  (hbody:∀(cdv:Value) (A:Around) (outer:List Env) (s:Shared) (H:Hp) (vs:List V) (Q:VK) (E:XK),Room k (A.deeper (envOfC qual (aC st) s.heap.objs.size f cdv))->sp vs H Q E →
   ∃t,PSs (uH CX0 P w K mg base N qual (aC st) f cdv A outer s H E).nox (aK st) t/\t { nx:=fun _ H'=>Q .non H',rt:=Q } (iT N vs) H):bD P w K mg base CX0 (k+1) f fd ps sp:=by
 obtain⟨oc,od,dV,kV,doc,pm,an,cdv,ct,osl,rfl,lk,hcd⟩:=F.ex;refine UG lk hcd S len fun A outer s H vs Q E hr h=> ?_;obtain⟨t,h1,h2⟩:=hbody cdv A outer s H vs Q E hr h;exact⟨t,PSs.nox h1,h2⟩
theorem aR {x qual:Str}{st:Stmt}{f:Addr}{oc:Value}{od an:Option Addr}{osl:Array (Option Value)}{dV kV doc pm cdv ct:Value} (l:K.lookup f=some ⟨oc,od,.func (PySem.W.fnOf x qual (aL st) (aK st) (aC st) dV kV doc pm an cdv ct),osl⟩) (c:PySem.W.codeIn K cdv qual=true)
  (k:PySem.W.keepIn K (.ref f)=true):FunV K x qual st f (PySem.W.fnOf x qual (aL st) (aK st) (aC st) dV kV doc pm an cdv ct):=⟨⟨oc,od,dV,kV,doc,pm,an,cdv,ct,osl,rfl,l,c⟩,k⟩
structure Mc (P:Program)(w:World)(K:PySem.W.Frag)(mg:Str->Option Value)(base:Heap)(C:Addr)(nm:Str)(k:Nat)(sp:Sp):Prop where
 ex:∃f fd ps,Cls K C/\eX K C nm f/\Binds K fd ps []/\bD P w K mg base CX0 k f fd ps sp
structure Kc (P:Program)(w:World)(K:PySem.W.Frag)(mg:Str->Option Value)(base:Heap)(x:Str)(C:Addr)(k:Nat)(dvs:List V)(sp:Sp):Prop where
 ex:∃f fd ps ds,mg x=some (.ref C)/\Mk K C f/\Vals dvs ds/\Binds K fd ps ds/\bD P w K mg base CX0 k f fd ps sp
end
section
variable {X:Cx}{k k':Nat}{sp:Sp}{x m:Str}{p pos apos:Pos}{e o:Expr}{es:List Expr}{ta:TE}{t:TA}{C:Addr}{dvs:List V}
def tMD (M:Addr->Sp->Prop)(m:Str)(ta:TE)(t:TA):TE:=fun σ H Q=>ta σ H fun x H1=>∃a C dx fs sp,x= .ref a/\H1 a=some (.ins C dx fs)/\fs.lookup m=none/\M C sp/\t σ H1 fun vs H2=>sp (x::vs) H2 Q E0
theorem d5 (k:Nat){pl:Sem Bool}(hr:Room k' X.A)(ho:PE X o ta)(ha:PA X (e::es) t)(hk:k<=k':=by decide)
  (hst:starEach (e::es) X.env=(false,eval e X.env)::starEach es X.env:=by rfl)(hpl:(backTo pos (starEach es X.env)).any (·.1)=false:=by rfl)
  (ht:eval (.Call (.Attribute o m apos) (e::es) [] pos) X.env=(do
   let ov ←eval o X.env
   standAt apos.atName
   let (f,first) ←holding [ov] (getMethod ov m pl)
   callWith pos f first (backTo pos (starEach (e::es) X.env)) (backToKw pos (keywordEach [] X.env))):=by rfl) :
  PE X (.Call (.Attribute o m apos) (e::es) [] pos) (tMD (fun C sp=>Mc X.prog X.w X.K X.mg X.base C m k sp) m ta t):=by
 intro pins s σ H Q I h;refine PySem.W.methodCall_KW (pl:=pl) (thn (ho pins s σ H _ I h) fun u s1 ⟨x,H1,I1,rx,a,C,dx,fs,sp,ex,ea,l,M,q⟩=> ?_) ht;subst ex;obtain rfl:u=Value.ref a:=rx;obtain⟨f,fd,ps,c,hm,hb,F⟩:=M.ex;refine tX I1 ea c hm l ?_;refine PySem.W.callWith_K (first:=[.ref a]) (h₀:=X.base) I.ok.mod.kin hm.kp (thn (ha pos pins s1 σ H1 _ I1 q) fun us s2 ⟨vs,H2,I2,r,q2⟩=>⟨I2.kIn,?_⟩) hst hpl;exact t9 (us:= .ref a::us) (vs:= .ref a::vs) (dvs:=[]) F (hr.mono hk) hb .nil t0 I2 (.cons rfl r) (by rw[List.append_nil];exact q2)
theorem cM (k:Nat){pl:Sem Bool}(hr:Room k' X.A)(ho:PE X o ta)(hk:k<=k':=by decide)
  (ht:eval (.Call (.Attribute o m apos) [] [] pos) X.env=(do
   let ov ←eval o X.env
   standAt apos.atName
   let (f,first) ←holding [ov] (getMethod ov m pl)
   callWith pos f first (backTo pos (starEach [] X.env)) (backToKw pos (keywordEach [] X.env))):=by rfl) :
  PE X (.Call (.Attribute o m apos) [] [] pos) (tMD (fun C sp=>Mc X.prog X.w X.K X.mg X.base C m k sp) m ta IC):=by
 intro pins s σ H Q I h;refine PySem.W.methodCall_KW (pl:=pl) (thn (ho pins s σ H _ I h) fun u s1 ⟨x,H1,I1,rx,a,C,dx,fs,sp,ex,ea,l,M,q⟩=> ?_) ht;subst ex;obtain rfl:u=Value.ref a:=rx;obtain⟨f,fd,ps,c,hm,hb,F⟩:=M.ex;refine tX I1 ea c hm l ?_;exact PySem.W.callWith_K0 (first:=[.ref a]) I1.kIn hm.kp (t9 (us:=[.ref a]) (vs:=[.ref a]) (dvs:=[]) F (hr.mono hk) hb .nil t0 I1 (.cons rfl .nil) q)
theorem tG (F:Kc X.prog X.w X.K X.mg X.base x C k dvs sp)(hr:Room k' X.A)(ha:PA X (e::es) t)(hk:k+1<=k':=by decide)(hg:Gl X x:=by rfl)
  (hdb:(x==("__debug__" :Str))=false:=by decide)(he:starEach (e::es) X.env=(false,eval e X.env)::starEach es X.env:=by rfl)(hpl:(backTo pos (starEach es X.env)).any (·.1)=false:=by rfl) :
  PE X (.Call (.Name x p) (e::es) [] pos) (C3 C sp dvs E0 t):=by
 obtain⟨f,fd,ps,ds,hm,M,hd,hb,G⟩:=F.ex;exact M0 M G (hr.mono hk) hg hm hb hd t0 ha hdb he hpl
structure Dc (P:Program)(w:World)(K:PySem.W.Frag)(mg:Str->Option Value)(base:Heap)(x m:Str)(k:Nat)(sp:Sp):Prop where
 ex:∃C f fd ps,mg x=some (.ref C)/\PySem.W.specialIn K (.ref C) "__getattribute__" =some (some (.builtin "type.__getattribute__"))/\PySem.W.readsIn K C (.type "type")=true/\PySem.W.findCls K (.ref C) (.type "type") m=some (.val (.ref f)) ∧
  PySem.W.keepIn K (.ref f)=true/\Binds K fd ps []/\bD P w K mg base CX0 k f fd ps sp
theorem TQ {pl:Sem Bool}(F:Dc X.prog X.w X.K X.mg X.base x m k sp)(hr:Room k' X.A)(ha:PA X (e::es) t)(hk:k<=k':=by decide)(hg:Gl X x:=by rfl)(hdb:(x==("__debug__" :Str))=false:=by decide)
  (hst:starEach (e::es) X.env=(false,eval e X.env)::starEach es X.env:=by rfl)(hpl:(backTo pos (starEach es X.env)).any (·.1)=false:=by rfl)
  (ht:eval (.Call (.Attribute (.Name x p) m apos) (e::es) [] pos) X.env=(do
   let ov ←eval (.Name x p) X.env
   standAt apos.atName
   let (f,first) ←holding [ov] (getMethod ov m pl)
   callWith pos f first (backTo pos (starEach (e::es) X.env)) (backToKw pos (keywordEach [] X.env))):=by rfl) :
  PE X (.Call (.Attribute (.Name x p) m apos) (e::es) [] pos) (tQ sp [] E0 t):=by
 intro pins s σ H Q I h;obtain⟨C,f,fd,ps,hm,hga,hrd,hfc,kp,hb,G⟩:=F.ex;refine PySem.W.methodCall_KW (pl:=pl) (qQ I hg hm ?_ hdb) ht;refine PySem.W.method_cls I.kIn hga (PySem.W.cls_value I.kIn hrd hfc (v5 (v:= .ref f) rfl) ?_);have I1:=I.tok (s.toks+1);refine PySem.W.callWith_K (first:=[]) (h₀:=X.base) I.ok.mod.kin kp (thn (ha pos pins _ σ H _ I1 h) fun us s2 ⟨vs,H2,I2,r,q2⟩=>⟨I2.kIn,?_⟩) hst hpl;exact t9 G (hr.mono hk) hb .nil t0 I2 r q2
end
end L2
namespace L2
open PySem PySem.Spec PyProof.Rows
def LO:R2:=fun x y H Q=>∃i j,x= .str i/\y= .str j/\i.length+j.length<=sizeLine/\Q (.str (i++j)) H
def RE:R2:=fun x y H Q=>y= .non/\Q (.bl (decide (x= .non))) H
def ED:R2:=fun x y H Q=>y= .non/\Q (.bl (!decide (x= .non))) H
def VF:R2:=fun x y H Q=>∃i j,x= .str i/\y= .str j/\Q (.bl (!decide (j.cps.toList<i.cps.toList))) H
def VH (K:PySem.W.Frag):List V->Hp->VK->Prop:=fun xs H Q=>∃x c t u b,xs=[x,c]/\gN K H x t/\RelV c u/\PySem.W.kitOne K t u=some b/\Q (.bl b) H
def VE (K:PySem.W.Frag):List V->Hp->VK->Prop:=fun xs H Q=>∃(p:Addr) (bs:List Bool),xs=[.ref p]/\SqL K H p (bs.map V.bl)/\Q (.bl (bs.all id)) H
def TL:List V->Hp->VK->Prop:=fun xs H Q=>∃z,xs=[.str z]/\z.length<=sizeLine/\Q (.int z.length) H
def L6 (K:PySem.W.Frag):List V->Hp->VK->Prop:=fun xs H Q=>∃p ys,xs=[.ref p]/\(SqL K H p ys∨SqT K H p ys)/\Q (.int ys.length) H
def LU:List V->Hp->VK->Prop:=fun xs H Q=>∃i j,xs=[.int i,.int j]/\Q (.int (if j>i then j else i)) H
def BS (K:PySem.W.Frag):List V->Hp->VK->Prop:=fun xs H Q=>∃p ys,xs=[.ref p]/\(SqL K H p ys∨SqT K H p ys)/\∀l,H l=none->Q (.ref l) (upd H l (.lst ys))
section
variable {X:Cx}
theorem BO:OpR X (binaryOp .Add) LO:=DO
theorem SD:OpR X (compareOp .Is) RE:=SH
theorem MM:OpR X (compareOp .IsNot) ED:=OP
theorem GV:OpR X (compareOp .LtE) VF:=GN
theorem rY:cJ X (.builtin "isinstance") (VH X.K):=A8
theorem KL (hc:X.calm=true):cJ X (.builtin "all") (VE X.K):=uK hc
theorem G0:cJ X (.builtin "len") TL:=yP
theorem i4:cJ X (.builtin "len") (L6 X.K):=z6
theorem FV (hc:X.calm=true):cJ X (.builtin "max") LU:=E7 hc
theorem oI:cJ X (.type "list") (BS X.K):=zG
theorem qT {i j:Int}(n:Int){k1 k2 p1 p2 pos}(h:i^j.toNat=n)(c:PH i j):PE X (.BinOp (.Constant (.int i) k1 p1) .Pow (.Constant (.int j) k2 p2) pos) (tC (.int n)):=by
 subst h;intro pins s σ H Q I q;exact aG QF aE aE pins s σ H Q I ⟨i,j,rfl,rfl,c,q⟩
end
def yI (P:Bool->Hp->Prop):VK:=fun x H=>∃k,x= .bl k/\P k H
def SB (O:Option Int->Hp->Prop):VK:=fun x H=>∃i,x= .int i/\O (some i) H
def R3 (Q:VK):List V->Hp->Prop:=fun xs H=>xs.length<=sizeLine/\∀p,H p=none->Q (.ref p) (upd H p (.lst xs))
def QL (Q:VK):List V->Hp->Prop:=fun xs H=>xs.length<=sizeLine/\∀p,H p=none->Q (.ref p) (upd H p (.tup xs))
def PR (Q:VK):List V->Hp->Prop:=fun ys H=>∀p,H p=none->Q (.ref p) (upd H p (.lst ys))
def R6 (K:PySem.W.Frag)(f:Str)(Q:VK):VK:=fun x H=>∃a C dx fs v,x= .ref a/\H a=some (.ins C dx fs)/\Cls K C/\NoAttr K C f/\fs.lookup f=some v/\Q v H
def LD (K:PySem.W.Frag)(f:Str)(y:V)(q:Hp->Prop):VK:=fun x H=>∃a C dx fs,x= .ref a/\H a=some (.ins C dx fs)/\Cls K C/\NoAttr K C f/\fs.length<1000/\q (upd H a (.ins C dx (cH f y fs)))
def MdP (M:Addr->Sp->Prop)(m:Str)(t:TA)(σ:St)(Q:VK):VK:=fun x H=>∃a C dx fs sp,x= .ref a/\H a=some (.ins C dx fs)/\fs.lookup m=none/\M C sp/\t σ H fun vs H2=>sp (x::vs) H2 Q E0
def sY (C:Addr)(sp:Sp)(dvs:List V)(E:XK)(Q:VK):List V->Hp->Prop:=fun vs H1=>∀x dx,H1 x=none->H1 dx=none->dx≠x →
 sp (.ref x::(vs++dvs)) (upd (upd H1 dx (.own x)) x (.ins C dx [])) (fun v H2=>v= .non/\Q (.ref x) H2) E
def BmP (K:PySem.W.Frag)(T:String)(r:V->List V->Hp->VK->Prop)(t:TA)(σ:St)(Q:VK):VK:=fun x H1=>tyV K T x H1/\t σ H1 fun xs H2=>r x xs H2 Q
def QQ (K:PySem.W.Frag)(R:It->Hp->Prop):VK:=fun x H1=>∃a,x= .ref a/\(∃xs,SqL K H1 a xs)/\R (Itl K a) H1
def RP (R:It->Hp->Prop):List V->Hp->Prop:=fun vs H1=>∃j:Int,vs=[.int j]/\ -(2^62)<=j/\j<2^62/\R (Itr 0 j.toNat) H1
def QW (R:It->Hp->Prop):List V->Hp->Prop:=fun vs H1=>∃i j:Int,vs=[.int i,.int j]/\(-(2^62)<=i/\i<2^62/\ -(2^62)<=j/\j<2^62)/\R (Itr i (j - i).toNat) H1
section
variable {nx bk ct:St->Hp->Prop}{rt:VK}{σ:St}{H:Hp}{Q:VK}{t u:TS}{te ta tb tc:TE}{g:TG}{c d:TT}{v:V}{K:PySem.W.Frag}{E:XK}
theorem RV (h:t ⟨u ⟨nx,rt,bk,ct⟩,rt,bk,ct⟩ σ H):DL t u ⟨nx,rt,bk,ct⟩ σ H:=h
theorem KQ {v:TS}(h:DL (DE c t u) v ⟨nx,rt,bk,ct⟩ σ H):DL (DE c t u) v ⟨nx,rt,bk,ct⟩ σ H:=h
theorem OV (h:nx σ H):LN ⟨nx,rt,bk,ct⟩ σ H:=h
theorem Q9 (h:te σ H fun x H1=>g x σ H1 nx):EB te g ⟨nx,rt,bk,ct⟩ σ H:=h
theorem Q6 (h:te σ H rt):RD te ⟨nx,rt,bk,ct⟩ σ H:=h
theorem MJ (h:te σ H fun _ H1=>nx σ H1):L5 te ⟨nx,rt,bk,ct⟩ σ H:=h
theorem SY (h:c σ H fun b H1=>if b=true then t ⟨nx,rt,bk,ct⟩ σ H1 else u ⟨nx,rt,bk,ct⟩ σ H1):DE c t u ⟨nx,rt,bk,ct⟩ σ H:=h
def zL (J:It)(g:TG)(tb:TS)(D:j7)(σ:St)(H:Hp):Prop :=
 ∃W:Nat->Nat->St->Hp->Prop,(∃m,W 0 m σ H)/\∀i m σ H,W i m σ H →
  (J.stop i H/\D.nx σ H)∨(J.go i H/\∃N:St->Hp->Prop,(∀σ' H',N σ' H'->∃m',m'<m/\W (i+1) m' σ' H')/\∀x H',J.yld i H x H'->g x σ H' fun σ2 H2=>tb { D with nx:=N,ct:=N,bk:=D.nx } σ2 H2)
theorem RT {wi:TI}{tb:TS} (h:wi σ H fun J H1=>zL J g tb ⟨nx,rt,bk,ct⟩ σ H1):P1 wi g tb ⟨nx,rt,bk,ct⟩ σ H:=h
theorem TN {l:St}(h:Q v H):iM 0 (some v::l) H Q:=⟨v,rfl,h⟩
theorem SW {a0}{l:St} (h:Q v H):iM 1 (a0::some v::l) H Q:=⟨v,rfl,h⟩
theorem S0 {a0 a1}{l:St} (h:Q v H):iM 2 (a0::a1::some v::l) H Q:=⟨v,rfl,h⟩
theorem TD {a0 a1 a2}{l:St} (h:Q v H):iM 3 (a0::a1::a2::some v::l) H Q:=⟨v,rfl,h⟩
theorem SS {a0 a1 a2 a3}{l:St} (h:Q v H):iM 4 (a0::a1::a2::a3::some v::l) H Q:=⟨v,rfl,h⟩
theorem TK {a0 a1 a2 a3 a4}{l:St} (h:Q v H):iM 5 (a0::a1::a2::a3::a4::some v::l) H Q:=⟨v,rfl,h⟩
theorem TV {a0 a1 a2 a3 a4 a5}{l:St} (h:Q v H):iM 6 (a0::a1::a2::a3::a4::a5::some v::l) H Q:=⟨v,rfl,h⟩
theorem SZ {a0 a1 a2 a3 a4 a5 a6}{l:St} (h:Q v H):iM 7 (a0::a1::a2::a3::a4::a5::a6::some v::l) H Q:=⟨v,rfl,h⟩
theorem UF {a0 a1 a2 a3 a4 a5 a6 a7}{l:St} (h:Q v H):iM 8 (a0::a1::a2::a3::a4::a5::a6::a7::some v::l) H Q:=⟨v,rfl,h⟩
theorem ST {a0 a1 a2 a3 a4 a5 a6 a7 a8}{l:St} (h:Q v H):iM 9 (a0::a1::a2::a3::a4::a5::a6::a7::a8::some v::l) H Q:=⟨v,rfl,h⟩
theorem RK {a0 a1 a2 a3 a4 a5 a6 a7 a8 a9}{l:St} (h:Q v H):iM 10 (a0::a1::a2::a3::a4::a5::a6::a7::a8::a9::some v::l) H Q:=⟨v,rfl,h⟩
variable {q:St->Hp->Prop}
theorem UN {a}{l:St} (h:q (some v::l) H):cF 0 v (a::l) H q:=h
theorem TH {a0 a}{l:St} (h:q (a0::some v::l) H):cF 1 v (a0::a::l) H q:=h
theorem SX {a0 a1 a}{l:St} (h:q (a0::a1::some v::l) H):cF 2 v (a0::a1::a::l) H q:=h
theorem TR {a0 a1 a2 a}{l:St} (h:q (a0::a1::a2::some v::l) H):cF 3 v (a0::a1::a2::a::l) H q:=h
theorem UB {a0 a1 a2 a3 a}{l:St} (h:q (a0::a1::a2::a3::some v::l) H):cF 4 v (a0::a1::a2::a3::a::l) H q:=h
theorem UQ {a0 a1 a2 a3 a4 a}{l:St} (h:q (a0::a1::a2::a3::a4::some v::l) H):cF 5 v (a0::a1::a2::a3::a4::a::l) H q:=h
theorem TW {a0 a1 a2 a3 a4 a5 a}{l:St} (h:q (a0::a1::a2::a3::a4::a5::some v::l) H):cF 6 v (a0::a1::a2::a3::a4::a5::a::l) H q:=h
theorem UO {a0 a1 a2 a3 a4 a5 a6 a}{l:St} (h:q (a0::a1::a2::a3::a4::a5::a6::some v::l) H):cF 7 v (a0::a1::a2::a3::a4::a5::a6::a::l) H q:=h
theorem T0 {a0 a1 a2 a3 a4 a5 a6 a7 a}{l:St} (h:q (a0::a1::a2::a3::a4::a5::a6::a7::some v::l) H):cF 8 v (a0::a1::a2::a3::a4::a5::a6::a7::a::l) H q:=h
theorem TZ {a0 a1 a2 a3 a4 a5 a6 a7 a8 a}{l:St} (h:q (a0::a1::a2::a3::a4::a5::a6::a7::a8::some v::l) H):cF 9 v (a0::a1::a2::a3::a4::a5::a6::a7::a8::a::l) H q:=h
theorem SA {a0 a1 a2 a3 a4 a5 a6 a7 a8 a9 a}{l:St} (h:q (a0::a1::a2::a3::a4::a5::a6::a7::a8::a9::some v::l) H):cF 10 v (a0::a1::a2::a3::a4::a5::a6::a7::a8::a9::a::l) H q:=h
theorem VL (h:Q v H):tC v σ H Q:=h
theorem UH {r:R2}(h:ta σ H fun x H1=>tb σ H1 fun y H2=>r x y H2 Q):tOp r ta tb σ H Q:=h
theorem UA {r:V->Hp->VK->Prop}(h:ta σ H fun x H1=>r x H1 Q):tUn r ta σ H Q:=h
theorem SV {f:Int->Int->V}{i j:Int} (h:Q (f i j) H):rI0 f (.int i) (.int j) H Q:=⟨i,j,rfl,rfl,h⟩
theorem VG {f:Int->V}{i:Int} (h:Q (f i) H):rU f (.int i) H Q:=⟨i,rfl,h⟩
theorem R8 {f:Int->Int->V}{i j:Int} (h0:0<j) (h1:j<1073741824) (h:Q (f i j) H):rI PM f (.int i) (.int j) H Q:=⟨i,j,rfl,rfl,⟨h0,h1⟩,h⟩
theorem P7 {f:Int->Int->V}{i j:Int} (h0:0<j) (h:Q (f i j) H):rI (fun _ j=>0<j) f (.int i) (.int j) H Q:=⟨i,j,rfl,rfl,h0,h⟩
theorem NA {f:Int->Int->V}{i j:Int} (h0: -18446744073709551616<i) (h1:i<18446744073709551616) (h:Q (f i j) H):rI CMul f (.int i) (.int j) H Q:=⟨i,j,rfl,rfl,.inl ⟨by lia,by lia⟩,h⟩
theorem N3 {f:Int->Int->V}{i j:Int} (h0: -18446744073709551616<j) (h1:j<18446744073709551616) (h:Q (f i j) H):rI CMul f (.int i) (.int j) H Q:=⟨i,j,rfl,rfl,.inr ⟨by lia,by lia⟩,h⟩
theorem LM {i j:Int}:decide (V.int i=V.int j)=decide (i=j):=by simp
theorem LG {i j:Str}:decide (V.str i=V.str j)=decide (i=j):=by simp
theorem RW {i j:Int}(h:Q (.bl (decide (i=j))) H):rEq (.int i) (.int j) H Q:=⟨rfl,by rw[LM];exact h⟩
theorem QZ {i j:Str}(h:Q (.bl (decide (i=j))) H):rEq (.str i) (.str j) H Q:=⟨rfl,by rw[LG];exact h⟩
theorem OJ {i:Str}(h:Q (.bl false) H):rEq .non (.str i) H Q:=⟨rfl,by rw[decide_eq_false (fun z=>by cases z)];exact h⟩
theorem PJ {i j:Int}(h:Q (.bl (!decide (i=j))) H):rNe (.int i) (.int j) H Q:=⟨rfl,by rw[LM];exact h⟩
theorem FC {i j:Str}(h:Q (.bl (!decide (i=j))) H):rNe (.str i) (.str j) H Q:=⟨rfl,by rw[LG];exact h⟩
theorem BW (h:Q (.bl false) H):rNe .non .non H Q:=⟨rfl,h⟩
theorem NX (h:Q (.bl (decide (v= .non))) H):RE v .non H Q:=⟨rfl,h⟩
theorem MQ (h:Q (.bl false) H):ED .non .non H Q:=⟨rfl,h⟩
theorem OL {i:Str}(h:Q (.bl true) H):ED (.str i) .non H Q:=⟨rfl,by rw[decide_eq_false (fun z=>by cases z)];exact h⟩
theorem NJ {i j:Str}(hl:i.length+j.length<=sizeLine)(h:Q (.str (i++j)) H):LO (.str i) (.str j) H Q:=⟨i,j,rfl,rfl,hl,h⟩
theorem OE (h:ta σ H (yI fun c H1=>if c=true then tb σ H1 Q else Q (.bl false) H1)):LL ta tb σ H Q:=h
theorem R9 (h:c σ H fun k H1=>if k=true then ta σ H1 Q else tb σ H1 Q):tIf c ta tb σ H Q:=h
theorem MR {sp:Sp}{t:TA} (h:t σ H fun vs H1=>sp vs H1 Q E):tQ sp [] E t σ H Q:=by
 unfold tQ;simp only[List.append_nil];exact h
theorem TF {r:List V->Hp->VK->Prop}{t:TA} (h:t σ H fun vs H1=>r vs H1 Q):tCB r t σ H Q:=h
theorem RH {t:TA}(h:t σ H (R3 Q)):RG t σ H Q:=h
theorem RI {t:TA}(h:t σ H (QL Q)):Q3 t σ H Q:=h
theorem fE {o:HO}{R:V->Hp->Prop} (h:∀p H',H p=none->Same H H'->H' p=some o->R (.ref p) H'):∀p,H p=none->R (.ref p) (upd H p o) :=
 fun p hp=>h p _ hp (fun b u e=>by rw[aJ (bB e hp)];exact e) aV
theorem OA {xs:List V}(hn:xs.length<=sizeLine)(h:∀p H',H p=none->Same H H'->H' p=some (.lst xs)->Q (.ref p) H'):R3 Q xs H:=⟨hn,fE h⟩
theorem MZ {xs:List V}(hn:xs.length<=sizeLine)(h:∀p H',H p=none->Same H H'->H' p=some (.tup xs)->Q (.ref p) H'):QL Q xs H:=⟨hn,fE h⟩
theorem ML {xs:List V}(h:∀p H',H p=none->Same H H'->H' p=some (.lst xs)->Q (.ref p) H'):PR Q xs H:=fE h
theorem P2 {f:Str}(h:ta σ H (R6 K f Q)):JD K ta f σ H Q:=h
theorem NN {a C dx:Addr}{fs:List (Str×V)}{f:Str} (e:H a=some (.ins C dx fs)) (cl:Cls K C) (na:NoAttr K C f) (l:fs.lookup f=some v) (h:Q v H):R6 K f Q (.ref a) H:=⟨a,C,dx,fs,v,rfl,e,cl,na,l,h⟩
theorem NU {f:Str}(h:ta σ H fun y H1=>tb σ H1 (LD K f y (nx σ))):RX K tb ta f ⟨nx,rt,bk,ct⟩ σ H:=h
theorem KI {a C dx:Addr}{fs:List (Str×V)}{f:Str}{y:V}{w:Hp->Prop} (e:H a=some (.ins C dx fs)) (cl:Cls K C) (na:NoAttr K C f) (l:decide (fs.length<1000)=true)
  (h:∀H',(∀b o,H b=some o->b≠a->H' b=some o)->H' a=some (.ins C dx (cH f y fs))->w H'):LD K f y w (.ref a) H :=
 ⟨a,C,dx,fs,rfl,e,cl,na,of_decide_eq_true l,h _ (fun b o q hb=>by rw[aJ hb];exact q) aV⟩
theorem UK {M:Addr->Sp->Prop}{m:Str}{t:TA} (h:ta σ H (MdP M m t σ Q)):tMD M m ta t σ H Q:=h
theorem PK {M:Addr->Sp->Prop}{m:Str}{t:TA}{a C dx:Addr}{fs:List (Str×V)}{sp:Sp} (e:H a=some (.ins C dx fs)) (l:fs.lookup m=none) (F:M C sp) (h:t σ H fun vs H2=>sp (.ref a::vs) H2 Q E0):MdP M m t σ Q (.ref a) H :=
 ⟨a,C,dx,fs,sp,rfl,e,l,F,h⟩
theorem MT {C:Addr}{sp:Sp}{dvs:List V}{t:TA} (h:t σ H (sY C sp dvs E Q)):C3 C sp dvs E t σ H Q:=h
theorem yV {C:Addr}{sp:Sp}{dvs vs:List V}{fs:List (Str×V)}
  (hsp:∀p dx H0 (Q':VK),H0 p=some (.ins C dx [])->(∀H',(∀b o,H0 b=some o->b≠p->H' b=some o)->H' p=some (.ins C dx fs)->Q' .non H')->Same H H0->sp (.ref p::(vs++dvs)) H0 Q' E)
  (k:∀p dx H',H p=none->Same H H'->H' p=some (.ins C dx fs)->Q (.ref p) H'):sY C sp dvs E Q vs H:=by
 intro x dx nx nd ne;have s0:Same H (upd (upd H dx (.own x)) x (.ins C dx [])):=fun b o e=>by
  rw[aJ (bB e nx),aJ (bB e nd)];exact e
 exact hsp x dx _ _ aV (fun H' sb e=>⟨rfl,k x dx H' nx (fun b o q=>sb b o (s0 b o q) (bB q nx)) e⟩) s0
theorem NZ {wi:TI}{nl:Nat}{ci:List Nat}{ti:TT} (h:wi σ H fun J H1=>d3 J g ti te (bK nl ci σ) (PR Q) H1):yE wi nl ci g ti te σ H Q:=h
theorem OM {p:Addr}{a b i:Int} (e:SqL K H p [.int a,.int b]) (h0:0<=i) (h1:i<2) (h:∀v,(i=0/\v=a)∨(i=1/\v=b)->Q (.int v) H):DG K (.ref p) (.int i) H Q:=by
 have:i=0∨i=1:=by lia
 rcases this with rfl|rfl
 ·exact⟨p,_,0,_,rfl,rfl,e,rfl,h a (.inl ⟨rfl,rfl⟩)⟩
 ·exact⟨p,_,1,_,rfl,rfl,e,rfl,h b (.inr ⟨rfl,rfl⟩)⟩
theorem O1 {l b:Addr}{xs zs:List V} (e:H l=some (.lst xs)) (e2:H b=some (.lst zs)) (hn:xs.length+zs.length<=sizeLine) (h:∀p H',H p=none->Same H H'->H' p=some (.lst (xs++zs))->Q (.ref p) H'):SE (.ref l) (.ref b) H Q :=
 ⟨l,b,xs,zs,rfl,rfl,e,e2,hn,fE h⟩
theorem UI {T:String}{r:V->List V->Hp->VK->Prop}{to:TE}{t:TA} (h:to σ H (BmP K T r t σ Q)):tBM K T r to t σ H Q:=h
theorem QH {r:V->List V->Hp->VK->Prop}{t:TA}{p:Addr}{xs:List V} (e:SqL K H p xs) (h:t σ H fun xs H2=>r (.ref p) xs H2 Q):BmP K "list" r t σ Q (.ref p) H:=⟨.inl ⟨rfl,xs,e⟩,h⟩
structure ICls (K:PySem.W.Frag)(C:Addr):Prop where
 cl:Cls K C
 ha:PySem.W.findIn K (.ref C) "__class__" =some (some (.builtin "object.__class__"))
 hn:PySem.W.specialIn K (.builtin "object.__class__") "__get__" =some (some (.builtin "getset_descriptor.__get__"))
 tk:PySem.W.takesIn K (.builtin "object.__class__")=some true
 hm:PySem.W.mroIn K C (.type "object")=some true
theorem M7 {p:Addr}{ys:List V} (e:SqL K H p ys) (h:Q (.int ys.length) H):L6 K [.ref p] H Q:=⟨p,ys,rfl,.inl e,h⟩
theorem OS {i j:Int}(h:Q (.int (max i j)) H):LU [.int i,.int j] H Q:=⟨i,j,rfl,by
 have e:(if j>i then j else i)=max i j:=by lia
 rw[e];exact h⟩
theorem GW {p:Addr}{ys:List V} (e:SqL K H p ys) (h:∀l H',H l=none->Same H H'->H' l=some (.lst ys)->Q (.ref l) H'):BS K [.ref p] H Q:=⟨p,ys,rfl,.inl e,fE h⟩
variable {B:Bool->Hp->Prop}
theorem NK (h:te σ H (yI B)):LJ te σ H B:=h
theorem SU (h:te σ H (yI B)):tB te σ H B:=h
theorem UD (h:c σ H fun k H1=>if k=true then B true H1 else d σ H1 B):tOr c d σ H B:=h
theorem RU (h:c σ H fun k H1=>B (!k) H1):RF c σ H B:=h
theorem SG {b:Bool}{P:Bool->Hp->Prop} (h:P b H):yI P (.bl b) H:=⟨b,rfl,h⟩
theorem EX {A B:Prop}(h:A):if true=true then A else B:=by rw[if_pos rfl];exact h
theorem yK {A B:Prop}(h:B):if false=true then A else B:=by rw[if_neg Bool.false_ne_true];exact h
theorem OH {A B:Prop}(h:B):if (!true)=true then A else B:=yK h
theorem OK {A B:Prop}(h:A):if (!false)=true then A else B:=EX h
theorem SC {p A B:Prop}[Decidable p](hp:¬p)(h:B):if decide p=true then A else B:=by rw[if_neg (by rw[decide_eq_false hp];exact Bool.false_ne_true)];exact h
theorem MU {p A B:Prop}[Decidable p](hp:p)(h:B):if (!decide p)=true then A else B:=by rw[decide_eq_true hp];exact yK h
theorem i5 {p A B:Prop}[Decidable p](h1:p->A)(h2:¬p->B):if decide p=true then A else B:=uY (fun h=>h1 (of_decide_eq_true h)) fun h=>h2 fun z=>h (decide_eq_true z)
variable {L:List V->Hp->Prop}{O:Option Int->Hp->Prop}{tr:TA}
theorem RZ (h:L [] H):IC σ H L:=h
theorem MS (h:te σ H fun x H1=>tr σ H1 fun xs H2=>L (x::xs) H2):L4 te tr σ H L:=h
theorem FD (h:O none H):BZ σ H O:=h
theorem N4 (h:te σ H (SB O)):LP te σ H O:=h
theorem Q1 {i:Int}(h:O (some i) H):SB O (.int i) H:=⟨i,rfl,h⟩
variable {vs:List V}{gs:TGs}
theorem NY (h:q σ H):DY [] σ H q:=⟨rfl,h⟩
theorem KZ (h:g v σ H fun σ' H'=>gs vs σ' H' q):qJ g gs (v::vs) σ H q:=⟨v,vs,rfl,h⟩
theorem N8 {a:Addr}{n:Nat} (e:SqT K H a vs) (hl:vs.length=n) (h:gs vs σ H q):zM K n gs (.ref a) σ H q:=⟨a,vs,rfl,e,hl,h⟩
variable {R:It->Hp->Prop}
theorem ID (h:te σ H (QQ K R)):C7 K te σ H R:=h
theorem wE {a:Addr}{xs:List V} (e:SqL K H a xs) (h:R (Itl K a) H):QQ K R (.ref a) H:=⟨a,rfl,⟨xs,e⟩,h⟩
theorem KP (h:tr σ H (RP R)):LE tr σ H R:=h
theorem FM {j:Int}(h0: -4611686018427387904<=j)(h1:j<4611686018427387904)(h:R (Itr 0 j.toNat) H):RP R [.int j] H:=⟨j,rfl,by lia,by lia,h⟩
theorem HY (h:tr σ H (QW R)):LX tr σ H R:=h
theorem FY {i j:Int}(h0: -4611686018427387904<=i)(h1:i<4611686018427387904)(h2: -4611686018427387904<=j)(h3:j<4611686018427387904)(h:R (Itr i (j - i).toNat) H):QW R [.int i,.int j] H:=⟨i,j,rfl,⟨by lia,by lia,by lia,by lia⟩,h⟩
theorem gX {a:Addr}{tb:TS} (xs:List V) (Pv:Nat->St->Hp->Prop) (h0:Pv 0 σ H) (hl:∀i σ H,i<=xs.length->Pv i σ H->SqL K H a xs)
  (hs:∀i x σ H,xs[i]? =some x->Pv i σ H->g x σ H fun σ2 H2=>tb ⟨Pv (i+1),rt,nx,Pv (i+1)⟩ σ2 H2)(hd:∀σ H,Pv xs.length σ H->nx σ H):zL (Itl K a) g tb ⟨nx,rt,bk,ct⟩ σ H :=
 K5 (D:=⟨nx,rt,bk,ct⟩) Pv h0 hl hs hd
theorem CN {lo:Int}{n:Nat}{tb:TS} (Pv:Nat->St->Hp->Prop) (h0:Pv 0 σ H)
  (hs:∀i σ H,i<n->Pv i σ H->g (.int (lo+i)) σ H fun σ2 H2=>tb ⟨Pv (i+1),rt,nx,Pv (i+1)⟩ σ2 H2)(hd:∀σ H,Pv n σ H->nx σ H):zL (Itr lo n) g tb ⟨nx,rt,bk,ct⟩ σ H :=
 F6 (D:=⟨nx,rt,bk,ct⟩) Pv h0 hs hd
end
section
variable {K:PySem.W.Frag}{te:TE}{σ:St}{ci:List Nat}{rest:St}{fin:List V->Hp->Prop}{H:Hp}{a:Addr}
theorem zX (hr:ci.map (fun i=>(σ[i]?).join)=rest):bK 1 ci σ=none::rest:=by
 unfold bK;rw[hr];rfl
theorem BG {lo:Int}{n:Nat} (P:Nat->V->Prop) (hn:n<=sizeLine) (hr:ci.map (fun i=>(σ[i]?).join)=rest)
  (hs:∀i H1,i<n->Same H H1->∀R:VK,(∀y H2,P i y->Same H1 H2->R y H2)->te (some (.int (lo+i))::rest) H1 R)
  (hf:∀ys H1,Same H H1->ys.length=n->(∀i y,ys[i]? =some y->P i y)->fin ys H1):d3 (Itr lo n) (cF 0) uR te (bK 1 ci σ) fin H:=by
 rw[zX hr];refine D9 (fun i ys H1=>Same H H1/\ys.length=i/\∀j y,ys[j]? =some y->P j y) hn rfl ⟨Same.refl _,rfl,fun j y h=>by simp at h⟩ (fun i ys H1 ok=>Nat.le_of_eq ok.2.1) (fun ys H1 ok=>hf ys H1 ok.1 ok.2.1 ok.2.2) ?_;intro i ys H1 hi ⟨s1,hl,hp⟩ R hR;refine hs i H1 hi s1 R fun y H2 hy s2=>hR y H2 ⟨s1.trans s2,by simp[hl],fun j z hz=> ?_⟩
 by_cases hj:j<ys.length
 ·rw[List.getElem?_append_left hj]at hz;exact hp j z hz
 ·rw[List.getElem?_append_right (by lia)]at hz;have hj0:j - ys.length=0:=by
   cases e:j - ys.length with
   | zero=>rfl
   | succ k=>rw[e]at hz;simp at hz
  rw[hj0]at hz;have:z=y:=by simpa using hz.symm
  subst this;have:j=i:=by lia
  subst this;exact hy
end
section
variable {K:PySem.W.Frag}{te:TE}{σ:St}{ci:List Nat}{rest:St}{fin:List V->Hp->Prop}{H:Hp}{a:Addr}
theorem D6 {α β:Type}{xs:List α}{ys:List β}{f:α->β} (hl:ys.length=xs.length) (h:∀(i:Nat) y,ys[i]? =some y->∃x,xs[i]? =some x/\y=f x):ys=xs.map f:=by
 apply List.ext_getElem?
 intro i;rw[List.getElem?_map];cases e:ys[i]? with
 | none =>
  have:xs[i]? =none:=by
   rw[List.getElem?_eq_none_iff]at e ⊢
   lia
  rw[this];rfl
 | some y =>
  obtain⟨x,hx,rfl⟩:=h i y e;rw[hx];rfl
theorem IH {lo:Int}{n:Nat} (f:Nat->V) (hn:n<=sizeLine) (hr:ci.map (fun i=>(σ[i]?).join)=rest)
  (hs:∀i H1,i<n->Same H H1->∀R:VK,(∀H2,Same H1 H2->R (f i) H2)->te (some (.int (lo+i))::rest) H1 R)
  (hf:∀H1,Same H H1->fin ((List.range n).map f) H1):d3 (Itr lo n) (cF 0) uR te (bK 1 ci σ) fin H:=by
 refine BG (fun i y=>y=f i) hn hr (fun i H1 hi s1 R hR=>hs i H1 hi s1 R fun H2 s2=>hR _ H2 rfl s2) ?_;intro ys H1 s1 hl hp;have e:ys=(List.range n).map f:=by
  refine D6 (by rw[hl,List.length_range]) fun i y hy=> ?_;have hi:i<n:=by
   rw[←hl];exact(List.getElem?_eq_some_iff.mp hy).1
  exact⟨i,by simp[hi],hp i y hy⟩
 rw[e];exact hf H1 s1
end
theorem Same.at {H H':Hp}{b:Addr}{o:HO} (s:Same H H') (h:H b=some o):H' b=some o:=s b o h
def SameBut (p:Addr)(H H':Hp):Prop:=∀b o,H b=some o->b≠p->H' b=some o
theorem SameBut.upd {p:Addr}{H:Hp}{o:HO}:SameBut p H (upd H p o):=fun b u e hb=>by rw[aJ hb];exact e
theorem SameBut.trans {p:Addr}{H H1 H2:Hp} (a:SameBut p H H1) (b:SameBut p H1 H2):SameBut p H H2:=fun c o h hc=>b c o (a c o h hc) hc
theorem Same.but {p:Addr}{H H':Hp} (s:Same H H'):SameBut p H H':=fun b o e _=>s b o e
theorem SameBut.same {p:Addr}{H H0 H':Hp} (n:H0 p=none) (s:Same H0 H) (b:SameBut p H H'):Same H0 H':=fun c o e=>b c o (s c o e) (bB e n)
theorem aO {t:TS}{D:j7}{N:List Str}{vs:List V}{σ:St}{H:Hp} (e:iT N vs=σ) (h:t D σ H):t D (iT N vs) H:=e▸h
theorem SameBut.refl {p:Addr}{H:Hp}:SameBut p H H:=fun _ _ e _=>e
theorem SameBut.snoc {p:Addr}{H H1 H2:Hp} (b:∀c o,H1 c=some o->c≠p->H2 c=some o) (a:SameBut p H H1):SameBut p H H2:=fun c o h hc=>b c o (a c o h hc) hc
theorem SameBut.snocS {p:Addr}{H H1 H2:Hp} (b:Same H1 H2) (a:SameBut p H H1):SameBut p H H2:=fun c o h hc=>b c o (a c o h hc)
theorem Same.snoc {H H1 H2:Hp}(b:Same H1 H2)(a:Same H H1):Same H H2:=a.trans b
theorem NM {f:Str}{v:V}{fs:List (Str×V)}:(cH f v fs).lookup f=some v:=by rw[iZ,if_pos rfl]
theorem UE {f g:Str}{v:V}{o:Option V}{fs:List (Str×V)} (h:decide (g=f)=false) (l:fs.lookup g=o):(cH f v fs).lookup g=o:=by rw[iZ,if_neg (of_decide_eq_false h)];exact l
theorem QE {f:Str}:([]:List (Str×V)).lookup f=none:=rfl
section
variable {K:PySem.W.Frag}{x qual:Str}{st:Stmt}{kV doc pm cdv ct:Value}{an:Option Addr}{ps:List Str}
theorem aT (h:∀us:List Value,us.length=ps.length->bindArgs (PySem.W.fnOf x qual (aL st) (aK st) (aC st) .none kV doc pm an cdv ct) ⟨us,[]⟩=pure (ps.zip us)) :
  Binds K (PySem.W.fnOf x qual (aL st) (aK st) (aC st) .none kV doc pm an cdv ct) ps []:= .all h
theorem mM (k:Nat){T:Addr}{ds:List Value}{oc:Value}{od:Option Addr}{sl:Array (Option Value)}{items:Array Value}{n:Nat} (lt:K.lookup T=some ⟨oc,od,.seq items n,sl⟩)
  (h:∀us:List Value,us.length=k->∃k,bindArgs (PySem.W.fnOf x qual (aL st) (aK st) (aC st) (.ref T) kV doc pm an cdv ct) ⟨us,[]⟩=seqItems? (.ref T) >>= k/\k (some items)=pure (ps.zip (us++ds)))(hk:k+ds.length=ps.length:=by rfl) :
  Binds K (PySem.W.fnOf x qual (aL st) (aK st) (aC st) (.ref T) kV doc pm an cdv ct) ps ds:=fun s us hK hl=>by
 obtain⟨k,h1,h2⟩:=h us (by rw[List.length_append]at hl;lia);exact .of_defaults (T:=T) (items:=items) (n:=n) rfl (hK T _ lt) rfl h1 h2
end
theorem bR (s:String):(Str.ofString s).length=s.length:=by
 rw[Str.ofString_eq_toList];show (s.toList.map Char.toNat).toArray.size=_;rw[List.size_toArray,List.length_map,String.length_toList]
def sgB (c:Nat):Bool:=decide (97<=c)&&decide (c<=122)
def fW (z:Str):Bool:=z.cps.toList.all sgB
def bQ (z:Str):Bool:=decide (1<=(z.length:Int))&&decide ((z.length:Int)<=8)&&fW z
theorem GY {z:Str}(h:bQ z=true):z.length<=8:=by
 unfold bQ at h;simp only[Bool.and_eq_true,decide_eq_true_eq]at h
 lia
theorem yO {z:Str}(h0:1<=z.length)(h1:z.length<=8)(h2:fW z=true):bQ z=true:=by
 unfold bQ;simp only[Bool.and_eq_true,decide_eq_true_eq];exact⟨⟨by lia,by lia⟩,h2⟩
theorem zR {c:Nat}{z:Str} (h:fW z=true) (hc:c∈z.cps.toList):fW ⟨#[c]⟩=true:=by
 unfold fW at h ⊢;rw[List.all_eq_true]at h;show [c].all sgB=true;rw[List.all_cons,h c hc];rfl
theorem lZ (x y:Str):(x++y).cps.toList=x.cps.toList++y.cps.toList:=by
 show (x.cps++y.cps).toList=_;simp
theorem eG (x y:Str):(x++y).length=x.length+y.length:=by
 show (x.cps++y.cps).size=_;rw[Array.size_append];rfl
theorem u0 (c:Nat):(⟨#[c]⟩:Str).length=1:=rfl
theorem yS {x y:Str}(h:fW x=true)(h':fW y=true):fW (x++y)=true:=by
 unfold fW at h h' ⊢;rw[lZ,List.all_append,h,h'];rfl
theorem BN {x y:Str}(h:x.cps.toList=y.cps.toList):x=y:=by
 cases x;cases y;have:_=_:=Array.ext' h;cases this;rfl
end L2
namespace L2
open PySem PySem.Spec PyProof.Rows
section
variable {prog:Program}{w:World}{A:Around}{E:Value->Shared->Prop}{s:Shared}
end
section
variable {X:Cx}{pos:Pos}
end
section
variable {nx bk ct:St->Hp->Prop}{rt:VK}{σ:St}{H:Hp}{g:TG}{K:PySem.W.Frag}{a:Addr}{tb:TS}{xs:List V}
end
theorem NO {H:Hp}{Q:VK}{i j:Int} (h0:0<j) (h:0<=i%j->i%j<j->Q (.int (i%j)) H):rI (fun _ j=>0<j) (fun i j=> .int (i%j)) (.int i) (.int j) H Q:=⟨i,j,rfl,rfl,h0,h (Int.emod_nonneg _ (by lia)) (Int.emod_lt_of_pos _ h0)⟩
end L2
namespace L2
open PySem PySem.Spec PyProof.Rows PySem.W
section
variable {prog:Program}{w:World}{A:Around}{E:Value->Shared->Prop}{h:Heap}{g:Array GenState}{d:Drawn}{t:Nat}{os:OsState}{a C:Addr}{o:Obj}{vs:Array Value}{K:Frag}
end
end L2
namespace L2
open PySem PySem.Spec PyProof.Rows PySem.W
section
variable {M:Model}{A:Around}{E:Value->Shared->Prop}{s:Shared}{base:Heap}{env:Env}{outer:List Env}{L ea:Addr}{Q:Unit->Shared->Prop}
end
end L2
namespace L2
open PySem PySem.Spec PyProof.Rows PySem.W
section
variable {P:Program}{w:World}{H H':Hp}{h h':Heap}{a:Addr}{o:HO}
end
section
variable {X:Cx}{pins:List (Addr×Obj)}{σ:St}{H H1:Hp}{s s1:Shared}{h2 B:Heap}
end
end L2
namespace L2
open PySem PySem.Spec PyProof.Rows PySem.W
section
variable {X:Cx}{E:XK}{x:Str}{C:Addr}{np cpos pos:Pos}{e:Expr}{es:List Expr}{t:TA}
end
section
variable {X:Cx}{k k':Nat}{sp:Sp}{x m:Str}{p pos apos:Pos}{e o:Expr}{es:List Expr}{ta:TE}{t:TA}{C:Addr}{dvs:List V}{E:XK}{ps:List Str}
end
section
variable {P:Program}{w:World}{K:PySem.W.Frag}{mg:Str->Option Value}{base:Heap}
end
end L2
namespace L2
open PySem PySem.Spec PyProof.Rows PySem.W
section
variable {M:Model}{A:Around}{E:Value->Shared->Prop}{s:Shared}{base:Heap}{env:Env}{outer:List Env}{L ea:Addr}{Q:Unit->Shared->Prop}
end
end L2
namespace L2
open PySem PySem.Spec PyProof.Rows PySem.W
section
variable {X:Cx}{pins:List (Addr×Obj)}{σ:St}{H:Hp}{s:Shared}{ea:Addr}
end
section
variable {X:Cx}{k k':Nat}{sp:Sp}{x m:Str}{p pos apos:Pos}{e o:Expr}{es:List Expr}{ta:TE}{t:TA}{C f:Addr}{dvs:List V}{ds:List Value}{R:XK}{ps:List Str}{fd:FuncData}
end
section
variable {X:Cx}{k k':Nat}{sp:Sp}{x m:Str}{p pos apos:Pos}{e o:Expr}{es:List Expr}{ta:TE}{t:TA}{C:Addr}{dvs:List V}{R:XK}
end
section
variable {X:Cx}{i:Nat}{n x:Str}{T:Addr}{np hpos pos epos:Pos}{e:Expr}{tc:XK->TE}{b₀:Stmt}{suite:List Stmt}{ts:TS}
end
end L2
namespace L2
open PySem PySem.Spec PyProof.Rows PySem.W
section
variable {X:Cx}{x:Str}{j:Nat}{p pos:Pos}{e v1 v2:Expr}{es:List Expr}{te:TE}{t:TJ}
end
end L2
namespace L2
open PySem PySem.W
section
variable {K:Frag}{C D:Addr}{cd:ClassData}{b:Bool}
end
variable {K:Frag}{H:Hp}{Q:VK}
end L2
namespace L2
open PySem PySem.W
end L2
set_option maxHeartbeats 4000000
namespace L2
open PySem PySem.Spec PyProof.Rows
section
variable {X:Cx}{pins:List (Addr×Obj)}{σ:St}{H:Hp}{s:Shared}
end
section
variable {X:Cx}{CX:CXT}{k k':Nat}{sp:Sp}{E:XK}{x y:Str}{p pos:Pos}{e:Expr}{es:List Expr}{t:TA}{i:Nat}{c:Addr}
end
section
variable {P:Program}{w:World}{K:PySem.W.Frag}{mg:Str->Option Value}{base:Heap}
end
section
variable {X:Cx}{k k':Nat}{x:Str}{p pos:Pos}{e:Expr}{es:List Expr}{t:TA}
end
section
variable {X:Cx}{args:Arguments}{body:Expr}{lsc:Scope}{pos:Pos}{y:Str}{c cL PL:Addr}
end
end L2
namespace L2
open PySem PySem.Spec PyProof.Rows
section
variable {P:Program}{w:World}{K:PySem.W.Frag}{mg:Str->Option Value}{base:Heap}
end
section
variable {X:Cx}{o:Expr}{to:TE}{ap pos:Pos}
def LV (i j:Int):Prop:=0<j/\j<2^100
theorem IE:OpR X (binaryOp .FloorDiv) (rI LV fun i j=> .int (i/j)):=opI fun i j _ _ _ _ _ hc q=>by
 have h1:(0:Int)<j:=hc.1;have h2:j<2^100:=hc.2;refine floordiv_int (by lia) (by rw[Int.fdiv_eq_ediv_of_nonneg i (by lia)];exact q) (.inl (PyProof.noPylong_of_log2 ?_));have h3:j.natAbs<2^100:=by lia
 have h4:=Nat.log2_lt (n:=j.natAbs) (k:=100) (by lia)
 lia
theorem N6 {H:Hp}{Q:VK}{f:Int->Int->V}{i j:Int} (h0:0<j) (h1:j<2^100) (h:Q (f i j) H):rI LV f (.int i) (.int j) H Q:=⟨i,j,rfl,rfl,⟨h0,h1⟩,h⟩
theorem y9:∀{xs:List V}{us:List Value},xs.length=us.length->(∀(i:Nat) x u,xs[i]? =some x->us[i]? =some u->RelV x u)->Vals xs us
 | [],[],_,_=> .nil
 | [],_::_,h,_=>by simp at h
 | _::_,[],h,_=>by simp at h
 | x::xs,u::us,h,k=> .cons (k 0 x u rfl rfl) (y9 (by simpa using h) fun i y w e1 e2=>k (i+1) y w (by simpa using e1) (by simpa using e2))
end
section
variable {X:Cx}{k k':Nat}{sp:Sp}{x m:Str}{p pos apos:Pos}{e:Expr}{es:List Expr}{t:TA}{dvs:List V}
end
end L2
namespace L2
open PySem PySem.Spec PyProof.Rows
section
variable {P:Program}{w:World}
end
section
variable {P:Program}{w:World}{K:PySem.W.Frag}{mg:Str->Option Value}{base:Heap}
end
section
variable {X:Cx}{st:Stmt}{rest:List Stmt}{t:TS}{u:j7->(St->V->Hp->Prop)->St->Hp->Prop}{e:Expr}{te:TE}{pos:Pos}
end
section
variable {P:Program}{w:World}{K:PySem.W.Frag}{mg:Str->Option Value}{base:Heap}
end
section
open PySem.W
variable {X:Cx}{i j:Nat}{n x y:Str}{T:Addr}{np yp hpos pos epos:Pos}{e:Expr}{tc:XK->TE}{b₀:Stmt}{suite:List Stmt}{ts:TS}
end
end L2
namespace L2
open PySem PySem.Spec PyProof.Rows
end L2
namespace L2
open PySem PySem.Spec PyProof.Rows
section
variable {X:Cx}
def SK (K:PySem.W.Frag):R2:=fun x y H Q=>∃a b xs,x= .ref a/\y= .ref b/\SqL K H a xs/\SqL K H b []/\Q (.bl (!xs.isEmpty)) H
theorem QJ (hu:X.A.units<cLine):OpR X (compareOp .NotEq) (SK X.K):=by
 intro pins s σ H x y v u Q I rx ry h;obtain⟨a,b,xs,rfl,rfl,ha,hb,q⟩:=h;cases rx;cases ry;obtain⟨its,r,pl,hz⟩:=I.list ha;obtain⟨its2,r2,pl2,_⟩:=I.list hb;cases r2;cases xs with
 | nil =>
  cases r;refine SeqAt.RcNeAt.lists (e:=fun _=>true) pl.isList pl2.isList rfl hu (fun j h1=>absurd h1 (Nat.not_lt_zero _)) X.prog X.w X.xe _ ⟨.bl false,H,I,rfl,q⟩
 | cons x xs =>
  cases r with
  | cons r1 r2 =>
   exact SeqAt.RcNeAt.lists_lengths pl.isList pl2.isList (by simp) hu X.prog X.w X.xe _ ⟨.bl true,H,I,rfl,q⟩
theorem SL {K:PySem.W.Frag}{H:Hp}{Q:VK}{a b:Addr}{xs:List V} (ha:SqL K H a xs) (hb:SqL K H b []) (h:Q (.bl (!xs.isEmpty)) H):SK K (.ref a) (.ref b) H Q:=⟨a,b,xs,rfl,rfl,ha,hb,h⟩
end
end L2
namespace L2
open PySem PySem.Spec PyProof.Rows
section
variable {κ:Type}[DecidableEq κ]
def bP (kvs:List (κ×V))(k:κ):Option V:=(kvs.find? fun kv=>decide (kv.1=k)).map (·.2)
def c7 (kvs:List (κ×V))(k:κ)(v:V):List (κ×V) :=
 if (kvs.any fun kv=>decide (kv.1=k))=true then kvs.map (fun kv=>if kv.1=k then (kv.1,v) else kv) else kvs++[(k,v)]
theorem cY {p:κ×V}{r:List (κ×V)}{k:κ} (e:p.1=k):bP (p::r) k=some p.2:=by simp[bP,List.find?_cons,e]
theorem cQ {p:κ×V}{r:List (κ×V)}{k:κ} (e:¬p.1=k):bP (p::r) k=bP r k:=by simp[bP,List.find?_cons,e]
theorem iH (k:κ):∀kvs:List (κ×V),(kvs.any fun kv=>decide (kv.1=k))=(bP kvs k).isSome
 | []=>rfl
 | p::r=>by
  rw[List.any_cons]
  by_cases e:p.1=k
  ·simp only[cY e,decide_eq_true e,Bool.true_or,Option.isSome_some]
  ·rw[cQ e,decide_eq_false e,Bool.false_or];exact iH k r
theorem zI (k j:κ)(y:V):∀kvs:List (κ×V),bP (kvs.map fun kv=>if kv.1=k then (kv.1,y) else kv) j=(bP kvs j).map fun x=>if j=k then y else x
 | []=>rfl
 | p::r=>by
  have ih:=zI k j y r;rw[List.map_cons]
  by_cases h:p.1=k
  ·rw[if_pos h]
   by_cases e:p.1=j
   ·rw[cY (p:=(p.1,y)) e,cY e,Option.map_some,if_pos (e.symm.trans h)]
   ·rw[cQ (p:=(p.1,y)) e,cQ e,ih]
  ·rw[if_neg h]
   by_cases e:p.1=j
   ·rw[cY (p:=p) e,cY e,Option.map_some,if_neg (fun z=>h (e.trans z))]
   ·rw[cQ (p:=p) e,cQ e,ih]
theorem wT (k j:κ)(y:V):∀kvs:List (κ×V),bP kvs k=none->bP (kvs++[(k,y)]) j=if j=k then some y else bP kvs j
 | [],_=>by
  by_cases e:k=j
  ·rw[if_pos e.symm];exact cY (p:=(k,y)) e
  ·rw[if_neg (fun z=>e z.symm)];exact cQ (p:=(k,y)) e
 | p::r,hn=>by
  rw[List.cons_append];have hk:¬p.1=k:=fun z=>by rw[cY z]at hn;cases hn
  rw[cQ hk]at hn;have ih:=wT k j y r hn
  by_cases e:p.1=j
  ·rw[cY e,cY e,if_neg (fun z=>hk (e.trans z))]
  ·rw[cQ e,cQ e,ih]
theorem rS (kvs:List (κ×V))(k j:κ)(y:V):bP (c7 kvs k y) j=if j=k then some y else bP kvs j:=by
 unfold c7
 by_cases a:(kvs.any fun kv=>decide (kv.1=k))=true
 ·rw[if_pos a,zI];rw[iH]at a
  by_cases e:j=k
  ·obtain⟨x,hx⟩:=Option.isSome_iff_exists.mp a;rw[if_pos e,e,hx,Option.map_some,if_pos rfl]
  ·rw[if_neg e];cases bP kvs j with
   | none=>rfl
   | some x=>rw[Option.map_some,if_neg e]
 ·rw[if_neg a];refine wT k j y kvs ?_;rw[iH]at a;cases q:bP kvs k with
  | none=>rfl
  | some x=>rw[q]at a;exact(a rfl).elim
theorem gE (kvs:List (κ×V))(k:κ)(v:V):(c7 kvs k v).length<=kvs.length+1:=by
 unfold c7
 split
 ·rw[List.length_map];lia
 ·rw[List.length_append,List.length_cons,List.length_nil];lia
theorem r6 {kvs:List (κ×V)}{k:κ} (v:V) (h:bP kvs k=none):c7 kvs k v=kvs++[(k,v)]:=by
 unfold c7;rw[iH,h];exact if_neg (by decide)
theorem RelO.isSome_eq {o:Option V}{u:Option Value} (r:RelO o u):o.isSome=u.isSome:=by
 cases o with
 | none=>cases u with
  | none=>rfl
  | some _=>exact(show False from r).elim
 | some _=>cases u with
  | none=>exact(show False from r).elim
  | some _=>rfl
theorem RelO.getD {o:Option V}{u:Option Value}{d:V}{d':Value} (r:RelO o u) (rd:RelV d d'):RelV (o.getD d) (u.getD d'):=by
 cases o with
 | none=>cases u with
  | none=>exact rd
  | some _=>exact(show False from r).elim
 | some _=>cases u with
  | none=>exact(show False from r).elim
  | some _=>exact r
theorem KV.val {kvs:List (κ×V)}{vs:List (κ×Value)} (r:KV kvs vs) (k:κ):RelO (bP kvs k) (valueAt vs k):=by
 unfold KV at r
 induction r with
 | nil=>exact True.intro
 | @cons p q ps qs h t ih =>
  obtain⟨h1,h2⟩:=h
  by_cases e:p.1=k
  ·have e':q.1=k:=h1.symm.trans e;have b:valueAt (q::qs) k=some q.2:=by simp[valueAt,List.find?_cons,e']
   rw[cY e,b];exact h2
  ·have e':¬q.1=k:=fun z=>e (h1.trans z);have b:valueAt (q::qs) k=valueAt qs k:=by simp[valueAt,List.find?_cons,e']
   rw[cQ e,b];exact ih
theorem KV.any {kvs:List (κ×V)}{vs:List (κ×Value)} (r:KV kvs vs) (k:κ):(kvs.any fun kv=>decide (kv.1=k))=vs.any fun kv=>decide (kv.1=k):=by
 unfold KV at r
 induction r with
 | nil=>rfl
 | cons h t ih=>rw[List.any_cons,List.any_cons,ih,h.1]
theorem KV.repl {kvs:List (κ×V)}{vs:List (κ×Value)} (r:KV kvs vs) (k:κ) {y:V}{u:Value} (ry:RelV y u) :
  KV (kvs.map fun kv=>if kv.1=k then (kv.1,y) else kv) (vs.map fun kv=>if kv.1=k then (kv.1,u) else kv):=by
 unfold KV at r ⊢
 induction r with
 | nil=>exact .nil
 | @cons p q ps qs h t ih =>
  rw[List.map_cons,List.map_cons];refine .cons ?_ ih;obtain⟨h1,h2⟩:=h
  by_cases e:p.1=k
  ·rw[if_pos e,if_pos (h1.symm.trans e)];exact⟨h1,ry⟩
  ·rw[if_neg e,if_neg (fun z=>e (h1.trans z))];exact⟨h1,h2⟩
theorem KV.put {kvs:List (κ×V)}{vs:List (κ×Value)} (r:KV kvs vs) (k:κ) {y:V}{u:Value} (ry:RelV y u):KV (c7 kvs k y) (stored vs k u):=by
 unfold c7 stored;rw[r.any k]
 by_cases e:(vs.any fun kv=>decide (kv.1=k))=true
 ·rw[if_pos e,if_pos e];exact r.repl k ry
 ·rw[if_neg e,if_neg e];exact Paired.snoc r ⟨rfl,ry⟩
theorem KV.length {kvs:List (κ×V)}{vs:List (κ×Value)} (r:KV kvs vs):kvs.length=vs.length:=Paired.length r
end
theorem nU {P:Program}{w:World}{k:Key}{u:Value} (r:RelV (kV k) u):(aU P w).is k u=true:=by
 cases k with
 | inl i=>obtain⟨t,e⟩:=(show ∃t,u=Value.int i t from r);subst e;exact A6 P w i t
 | inr x=>obtain⟨t,e⟩:=(show ∃t,u=Value.str x t from r);subst e;exact iW P w x t
theorem wO {P:Program}{w:World}:∀{ks:List Key}{us:List Value},Vals (ks.map kV) us->ItemsAre (aU P w) ks us
 | [],_,r=>by rw[List.map_nil]at r;cases r;exact .nil
 | k::ks,_,r=>by
  rw[List.map_cons]at r;cases r with
  | cons h t=>exact .cons (nU h) (wO t)
abbrev KT (H:Hp):List (List Key×V)->List (List Key×Addr×Value)->Prop:=Paired fun p q=>p.1=q.1/\H q.2.1=some (.tup (p.1.map kV))/\RelV p.2 q.2.2
theorem KT.val {H:Hp}{kvs:List (List Key×V)}{xs:List (List Key×Addr×Value)} (r:KT H kvs xs) (k:List Key):RelO (bP kvs k) ((atKey xs k).map (·.2)):=by
 induction r with
 | nil=>exact True.intro
 | @cons p q ps qs h t ih =>
  obtain⟨h1,_,h2⟩:=h
  by_cases e:p.1=k
  ·have e':q.1=k:=h1.symm.trans e;have b:atKey (q::qs) k=some q.2:=by simp[atKey,List.find?_cons,e']
   rw[cY e,b];exact h2
  ·have e':¬q.1=k:=fun z=>e (h1.trans z);have b:atKey (q::qs) k=atKey qs k:=by simp[atKey,List.find?_cons,e']
   rw[cQ e,b];exact ih
theorem KT.repl {H:Hp}{kvs:List (List Key×V)}{xs:List (List Key×Addr×Value)} (r:KT H kvs xs) (k:List Key) {y:V}{u:Value} (ry:RelV y u) :
  KT H (kvs.map fun kv=>if kv.1=k then (kv.1,y) else kv) (xs.map (putAt k u)):=by
 induction r with
 | nil=>exact .nil
 | @cons p q ps qs h t ih =>
  rw[List.map_cons,List.map_cons];refine .cons ?_ ih;obtain⟨h1,h2,h3⟩:=h;unfold putAt
  by_cases e:p.1=k
  ·rw[if_pos e,if_pos (h1.symm.trans e)];exact⟨h1,h2,ry⟩
  ·rw[if_neg e,if_neg (fun z=>e (h1.trans z))];exact⟨h1,h2,h3⟩
theorem KT.put {H:Hp}{kvs:List (List Key×V)}{xs:List (List Key×Addr×Value)} (r:KT H kvs xs) (k:List Key) {b:Addr}{y:V}{u:Value} (hb:H b=some (.tup (k.map kV))) (ry:RelV y u) :
  KT H (c7 kvs k y) (storedH xs k b u):=by
 have e:(kvs.any fun kv=>decide (kv.1=k))=(atKey xs k).isSome:=by
  rw[iH,(r.val k).isSome_eq,Option.isSome_map]
 unfold c7 storedH;rw[e]
 by_cases q:(atKey xs k).isSome=true
 ·rw[if_pos q,if_pos q];exact r.repl k ry
 ·rw[if_neg q,if_neg q];exact Paired.snoc r ⟨rfl,hb,ry⟩
theorem KT.keeps {H H':Hp}{kvs:List (List Key×V)}{xs:List (List Key×Addr×Value)} (r:KT H kvs xs) (ht:∀b ys,H b=some (.tup ys)->H' b=some (.tup ys)):KT H' kvs xs :=
 Paired.mapP r fun _ _ z=>⟨z.1,ht _ _ z.2.1,z.2.2⟩
section
variable {P:Program}{w:World}{H:Hp}{h:Heap}{a:Addr}
theorem L1 {u:HO}(ok:HOk P w H h)(e:Rd H a u):ObjOk P w H h a u:=e.ok ok
theorem iU {kvs:List (Key×V)}(ok:HOk P w H h)(e:Rd H a (.dK kvs)):kvs.length<=sizeLine/\(a==sysModules)=false/\∃vs,KV kvs vs/\h.DictOf (aU P w) a vs :=
 show ObjOk P w H h a (.dK kvs) from L1 ok e
theorem UP {kvs:List (Key×V)}(ok:HOk P w H h)(e:H a=some (.dK kvs)):kvs.length<=sizeLine/\(a==sysModules)=false/\∃vs,KV kvs vs/\h.DictOf (aU P w) a vs:=iU ok (.inl e)
theorem mI {ks:List Key}(ok:HOk P w H h)(e:H a=some (.tup (ks.map kV))):(tupleKind (aU P w)).is h ks a:=by
 obtain⟨_,its,r,o,h1,h2,n,h3⟩:=(show ObjOk P w H h a (.tup (ks.map kV)) from ok a _ e)
 exact⟨o,its.toArray,n,h1,h2,h3,by simpa using wO r⟩
theorem nE {kvs:List (List Key×V)}(ok:HOk P w H h)(e:Rd H a (.dT kvs)):kvs.length<=sizeLine/\(a==sysModules)=false ∧
  ∃xs,KT H kvs xs/\h.DictOfH (tupleKind (aU P w)) a xs:=by
 obtain⟨z,y,xs,r,o,es,ep,h1,h2,h3,h4,h5⟩:=(show ObjOk P w H h a (.dT kvs) from L1 ok e)
 refine⟨z,y,xs,r,o,es,ep,h1,h2,h3,h4,fun x hx=> ?_,h5⟩;have all:∀{l:List (List Key×V)}{m:List (List Key×Addr×Value)},KT H l m->∀x∈m,(tupleKind (aU P w)).is h x.1 x.2.1:=by
  intro l m q
  induction q with
  | nil=>intro x hx;exact nomatch hx
  | @cons p q ps qs hq t ih =>
   intro x hx;rcases List.mem_cons.mp hx with e|hx
   ·subst e;exact mI ok (by rw[←hq.1];exact hq.2.1)
   ·exact ih x hx
 exact all r x hx
theorem TU {kvs:List (List Key×V)}(ok:HOk P w H h)(e:H a=some (.dT kvs)):kvs.length<=sizeLine/\(a==sysModules)=false ∧
  ∃xs,KT H kvs xs/\h.DictOfH (tupleKind (aU P w)) a xs:=nE ok (.inl e)
end
def fV (H:Hp)(a:Addr)(y:V)(r:Option V):Prop :=
 (∃kvs k,Rd H a (.dK kvs)/\y=kV k/\r=bP kvs k)∨∃kvs k b,Rd H a (.dT kvs)/\y= .ref b/\H b=some (.tup (k.map kV))/\r=bP kvs k
def DPut (H:Hp)(a:Addr)(y v:V)(H':Hp):Prop :=
 (∃kvs k,H a=some (.dK kvs)/\y=kV k/\kvs.length<sizeLine/\H'=upd H a (.dK (c7 kvs k v))) ∨
 ∃kvs k b,H a=some (.dT kvs)/\y= .ref b/\H b=some (.tup (k.map kV))/\kvs.length<sizeLine/\H'=upd H a (.dT (c7 kvs k v))
theorem DPut.k {H:Hp}{a:Addr}{kvs:List (Key×V)}{k:Key}{v:V} (e:H a=some (.dK kvs)) (hl:kvs.length<sizeLine):DPut H a (kV k) v (upd H a (.dK (c7 kvs k v))):= .inl ⟨kvs,k,e,rfl,hl,rfl⟩
section
variable {X:Cx}{pins:List (Addr×Obj)}{σ:St}{H:Hp}{s:Shared}{a:Addr}{y v:V}{u r:Value}{o:Option V}{A:Around}{E:Value->Shared->Prop}
theorem Inv.big (I:Inv X pins σ H s):sysModules<s.heap.objs.size:=by
 have h:mainGlobals<s.heap.objs.size:=(I.mod.glob.keeps I.bk).lt;exact Nat.lt_trans (by decide) h
theorem v6 {Q:Value->Shared->Prop}(hu:A.units+1<cLine)(I:Inv X pins σ H s)(g:fV H a y (some v))(ry:RelV y u)(h:∀w' s',Inv X pins σ H s'->RelV v w'->Q w' s') :
  wpAny (model X.prog X.w) A (getItem (.ref a) u) Q E s:=by
 rcases g with⟨kvs,k,e,ey,l⟩|⟨kvs,k,b,e,ey,eb,l⟩
 ·subst ey;obtain⟨z,hd,vs,rel,dd⟩:=iU I.hok e;obtain⟨w',hw,rw'⟩:=RelO.some_of (v:=v) (o:=valueAt vs k) (by rw[l];exact rel.val k);exact wpAny_getItem_of (nU ry) dd.mapOf hw (h w' _ (I.tok _) rw')
 ·subst ey;cases (show u=Value.ref b from ry);obtain⟨z,hd,xs,rel,dd⟩:=nE I.hok e;obtain⟨w',hw,rw'⟩:=RelO.some_of (v:=v) (o:=(atKey xs k).map (·.2)) (by rw[l];exact rel.val k);obtain⟨p,hp,hp2⟩:=Option.map_eq_some_iff.mp hw;refine wpAny_getItem_heap (tupleKind_room_in1 hu) (mI I.hok eb) dd hp ?_;rw[hp2];exact h w' _ (I.tok _) rw'
theorem VJ {Q:Value->Shared->Prop}(hu:A.units+1<cLine)(I:Inv X pins σ H s)(g:fV H a y o)(ry:RelV y u)(h:∀s',Inv X pins σ H s'->Q (.bool o.isSome) s') :
  wpAny (model X.prog X.w) A (compareOp .In u (.ref a)) Q E s:=by
 rcases g with⟨kvs,k,e,ey,l⟩|⟨kvs,k,b,e,ey,eb,l⟩
 ·subst ey;obtain⟨z,hd,vs,rel,dd⟩:=iU I.hok e;refine wpAny_in_of (nU ry) hd dd.mapOf ?_;rw[←(rel.val k).isSome_eq,←l];exact h _ (I.tok _)
 ·subst ey;cases (show u=Value.ref b from ry);obtain⟨z,hd,xs,rel,dd⟩:=nE I.hok e;refine wpAny_in_heap (tupleKind_room_in1 hu) (mI I.hok eb) hd dd ?_;have q:=(rel.val k).isSome_eq;rw[Option.isSome_map]at q;rw[←q,←l];exact h _ (I.tok _)
theorem ON {Q:Value->Shared->Prop}(hu:A.units+1<cLine)(I:Inv X pins σ H s)(g:fV H a y o)(ry:RelV y u)(h:∀s',Inv X pins σ H s'->Q (.bool (!o.isSome)) s') :
  wpAny (model X.prog X.w) A (compareOp .NotIn u (.ref a)) Q E s:=by
 rcases g with⟨kvs,k,e,ey,l⟩|⟨kvs,k,b,e,ey,eb,l⟩
 ·subst ey;obtain⟨z,hd,vs,rel,dd⟩:=iU I.hok e;refine wpAny_notIn_of (nU ry) hd dd.mapOf ?_;rw[←(rel.val k).isSome_eq,←l];exact h _ (I.tok _)
 ·subst ey;cases (show u=Value.ref b from ry);obtain⟨z,hd,xs,rel,dd⟩:=nE I.hok e;refine wpAny_notIn_heap (tupleKind_room_in1 hu) (mI I.hok eb) hd dd ?_;have q:=(rel.val k).isSome_eq;rw[Option.isSome_map]at q;rw[←q,←l];exact h _ (I.tok _)
theorem CD {h':Heap}{t':Nat}{ob:HO} (I:Inv X pins σ H s) (mu:Mut (H a)) (hs:Heap.SameBut a s.heap h') (he:∃q,h'.get? a=some q) (new:ObjOk X.prog X.w (upd H a ob) h' a ob) :
  Inv X pins σ (upd H a ob) { s with heap:=h',toks:=t' } :=
 I.write (x:=a) (e:=a) mu (.inl rfl) (fun b q hb z=>(hs.2 b hb).trans z) he new
theorem HD {P:Program}{w:World}{H':Hp}{h':Heap}{kvs:List (Key×V)}{vs:List (Key×Value)} (z:kvs.length<=sizeLine) (hd:(a==sysModules)=false) (rel:KV kvs vs) (dd:h'.DictOf (aU P w) a vs) :
  ObjOk P w H' h' a (.dK kvs):=⟨z,hd,vs,rel,dd⟩
theorem wB {H':Hp}{Q:Unit->Shared->Prop} (hu:A.units+1<cLine) (I:Inv X pins σ H s) (g:DPut H a y v H') (ry:RelV y u) (rv:RelV v r) (h:∀s',Inv X pins σ H' s'->Q () s') :
  wpAny (model X.prog X.w) A (setItem (.ref a) u r) Q E s:=by
 rcases g with⟨kvs,k,e,ey,l,eH⟩|⟨kvs,k,b,e,ey,eb,l,eH⟩
 ·subst ey eH;obtain⟨z,hd,vs,rel,dd⟩:=UP I.hok e;have hz:vs.length<=sizeLine:=by rw[←rel.length];exact z
  have hl:(c7 kvs k v).length<=sizeLine:=by have:=gE kvs k v;lia
  refine wpAny_setItem_pairs (hsz:=hz) (nU ry) dd fun h' dd' hs=>h _ ?_;have he:∃q,h'.get? a=some q:=let ⟨q,_,_,hq,_⟩:=dd';⟨q,hq⟩;exact CD I (by rw[e];exact True.intro) hs he (HD hl hd (rel.put k rv) dd')
 ·subst ey eH;cases (show u=Value.ref b from ry);obtain⟨z,hd,xs,rel,dd⟩:=TU I.hok e;have hz:xs.length<=sizeLine:=by rw[←Paired.length rel];exact z
  have hl:(c7 kvs k v).length<=sizeLine:=by have:=gE kvs k v;lia
  refine wpAny_setItem_heap (hsz:=hz) (tupleKind_room_in1 hu) (mI I.hok eb) dd fun h' dd' hs=>h _ ?_;obtain⟨q,es,ep,hq,h2,h3,h4,_,h5⟩:=dd';refine CD I (by rw[e];exact True.intro) hs ⟨q,hq⟩ ⟨hl,hd,_,(rel.put k eb rv).keeps fun c ys ec=> ?_,q,es,ep,hq,h2,h3,h4,h5⟩;rw[aJ (TM ec e (fun z=>nomatch z))];exact ec
end
section
variable {X:Cx}{pins:List (Addr×Obj)}{σ:St}{H:Hp}{s:Shared}{a:Addr}{kvs:List (Key×V)}{k:Key}{u:Value}{A:Around}{E:Value->Shared->Prop}
end
def R7 (i:Expr):Prop:=∀ov iv,subscripted i false ov iv=operate [ov,iv] (getItem ov iv)
theorem OR {prog:Program}{w:World}{A:Around}{E:Value->Shared->Prop}{s:Shared}{env:Env}{value slice:Expr}{pos:Pos}{T id:String}{Q:Value->Shared->Prop}
  (hl:typeLookup (.type T) "__getitem__" =pure (some (.builtin id)))(hs:R7 slice)
  (h:wpAny (model prog w) A (eval value env) (fun o s₁=>wpAny (model prog w) A (eval slice env) (fun i s₂=>s₂.TypeIs o T/\wpAny (model prog w) A (getItem o i) Q E s₂) E s₁) E s) :
  wpAny (model prog w) A (eval (.Subscript value slice pos) env) Q E s:=by
 refine Subscript_ (wpAny_mono h (fun o s₁ h₁=>wpAny_mono h₁ (fun i s₂ h₂=> ?_) fun _ _ x=>x) fun _ _ x=>x);obtain⟨hT,h₂⟩:=h₂;unfold subscriptTail;refine wpAny_bind ?_;rw[getitemInPython_of_ne hT.not_modules];refine wpAny_bind (wpAny_specialOf hT hl ?_);have fin:wpAny (model prog w) A (subscripted slice false o i) (fun r s₃=>wpAny (model prog w) A (letTemporaryGo value o r >>= fun _=>pure r) Q E s₃) E s₂:=by
  rw[hs o i];exact wpAny_operating (wpAny_mono h₂ (fun r s₃ h₃=>wpAny_bind (wpAny_letTemporaryGo (wpAny_pure h₃))) fun _ _ x=>x)
 first
  | exact wpAny_pure (wpAny_bind fin)
  | exact wpAny_bind (wpAny_pure (wpAny_bind fin))
  | exact wpAny_bind fin
theorem A9 {X:Cx}{pins:List (Addr×Obj)}{σ:St}{H:Hp}{s:Shared}{a:Addr}{y:V}{o:Option V} (I:Inv X pins σ H s) (g:fV H a y o):s.TypeIs (.ref a) "dict" :=by
 rcases g with⟨kvs,k,e,_,_⟩|⟨kvs,k,b,e,_,_,_⟩
 ·obtain⟨_,_,vs,_,dd⟩:=iU I.hok e;exact dd.typeIs
 ·obtain⟨_,_,xs,_,dd⟩:=nE I.hok e;exact dd.typeIs
def LI (td ty:TE):TE:=fun σ H Q=>td σ H fun x H1=>ty σ H1 fun y H2=>∃a v,x= .ref a/\fV H2 a y (some v)/\Q v H2
def QO (ty td:TE):TE:=fun σ H Q=>ty σ H fun y H1=>td σ H1 fun x H2=>∃a o,x= .ref a/\fV H2 a y o/\Q (.bl o.isSome) H2
def BP (ty td:TE):TE:=fun σ H Q=>ty σ H fun y H1=>td σ H1 fun x H2=>∃a o,x= .ref a/\fV H2 a y o/\Q (.bl (!o.isSome)) H2
def LF (td ty tv:TE):TS:=fun D σ H=>tv σ H fun v H1=>td σ H1 fun x H2=>ty σ H2 fun y H3=>∃a H4,x= .ref a/\DPut H3 a y v H4/\D.nx σ H4
def LR (td ty tv:TE)(rd:V->V->Hp->VK->Prop):TS:=fun D σ H=>td σ H fun x H1=>ty σ H1 fun y H2=>∃a v,x= .ref a/\fV H2 a y (some v) ∧
 tv σ H2 fun y2 H3=>rd v y2 H3 fun z H4=>∃H5,DPut H4 a y z H5/\D.nx σ H5
section
variable {X:Cx}{o i e value:Expr}{pos pos' tpos:Pos}{td ty tv:TE}
theorem mO (hu:X.A.units+1<cLine)(ho:PE X o td)(hi:PE X i ty)(hs:R7 i):PE X (.Subscript o i pos) (LI td ty):=by
 intro pins s σ H Q I h;refine OR PySem.F.slot_dict_getitem.lookup hs (thn (ho pins s σ H _ I h) fun u s1 ⟨x,H1,I1,rx,q1⟩=>thn (hi pins s1 σ H1 _ I1 q1) fun iv s2 ⟨y,H2,I2,ry,a,v,ex,g,q2⟩=> ?_);subst ex;obtain rfl:u=Value.ref a:=rx;exact⟨A9 I2 g,v6 hu I2 g ry fun w' s3 I3 rw'=>⟨v,H2,I3,rw',q2⟩⟩
theorem Q0 (hu:X.A.units+1<cLine)(hi:PE X i ty)(ho:PE X o td):PC X .In i o (QO ty td):=by
 intro pins s σ H Q I h;refine thn (hi pins s σ H _ I h) fun iv s1 ⟨y,H1,I1,ry,q1⟩=>thn (ho pins s1 σ H1 _ I1 q1) fun u s2 ⟨x,H2,I2,rx,a,ov,ex,g,q2⟩=> ?_;subst ex;obtain rfl:u=Value.ref a:=rx;exact VJ hu I2 g ry fun s3 I3=>⟨.bl ov.isSome,H2,I3,rfl,q2⟩
theorem v3 (hu:X.A.units+1<cLine)(hi:PE X i ty)(ho:PE X o td):PC X .NotIn i o (BP ty td):=by
 intro pins s σ H Q I h;refine thn (hi pins s σ H _ I h) fun iv s1 ⟨y,H1,I1,ry,q1⟩=>thn (ho pins s1 σ H1 _ I1 q1) fun u s2 ⟨x,H2,I2,rx,a,ov,ex,g,q2⟩=> ?_;subst ex;obtain rfl:u=Value.ref a:=rx;exact ON hu I2 g ry fun s3 I3=>⟨.bl (!ov.isSome),H2,I3,rfl,q2⟩
theorem qO (hu:X.A.units+1<cLine)(ho:PE X o td)(hi:PE X i ty)(hv:PE X value tv)(hs:swapsWith value (some (.Subscript o i pos')) pos.line X.env=pure false) :
  PS X (.Assign [.Subscript o i pos'] value pos) (LF td ty tv):=by
 intro pins s σ H D I h;refine wpAny_Assign_Subscript (thn (hv pins s σ H _ I h) fun r s1 ⟨v,H1,I1,rv,q1⟩=>thn (ho pins s1 σ H1 _ I1 q1) fun u s2 ⟨x,H2,I2,rx,q2⟩=>thn (hi pins s2 σ H2 _ I2 q2) fun iv s3 ⟨y,H3,I3,ry,a,H4,ex,g,q3⟩=> ?_) hs;subst ex;obtain rfl:u=Value.ref a:=rx;exact wB hu I3 g ry rv fun s4 I4=>⟨σ,H4,I4,q3⟩
theorem NI {op:Operator}{rd:V->V->Hp->VK->Prop} (hu:X.A.units+1<cLine) (ho:PE X o td) (hi:PE X i ty) (hv:PE X value tv) (hop:QP X op rd)
  (ha:∀ov iv new,augStore i ov iv new=(do holding [new,ov,iv] (setItem ov iv new);release [new,ov,iv] [];pure .next)):PS X (.AugAssign (.Subscript o i tpos) op value pos) (LR td ty tv rd):=by
 intro pins s σ H D I h;refine wpAny_AugAssign_SubscriptAny (thn (ho pins s σ H _ I h) fun u s1 ⟨x,H1,I1,rx,q1⟩=>thn (hi pins s1 σ H1 _ I1 q1) fun iv s2 ⟨y,H2,I2,ry,a,v,ex,g,q2⟩=> ?_) ha;subst ex;obtain rfl:u=Value.ref a:=rx;refine v6 hu I2 g ry fun w' s3 I3 rw'=>thn (hv pins s3 σ H2 _ I3 q2) fun w2 s4 ⟨y2,H3,I4,ry2,q3⟩=>thn (hop pins s4 σ H3 v y2 w' w2 _ I4 rw' ry2 q3) fun w3 s5 ⟨z,H4,I5,rz,H5,g5,q4⟩=> ?_;exact wB hu I5 g5 ry rz fun s6 I6=>⟨σ,H5,I6,q4⟩
end
theorem JI {P:Program}{w:World}{H:Hp} (h:Heap) (hb:sysModules<h.objs.size):ObjOk P w H (h.push { cls:= .type "dict",data:= .dict #[] }) h.objs.size (.dK []) :=
 ⟨Nat.zero_le _,beq_eq_false_iff_ne.mpr (Ne.symm (Nat.ne_of_lt hb)),[],.nil,Heap.DictOf.new h⟩
def GQ:TE:=fun _ H Q=>∀p,H p=none->Q (.ref p) (upd H p (.dK []))
section
variable {X:Cx}{pos:Pos}
theorem oJ:PE X (.Dict [] [] pos) GQ:=fun pins s σ H Q I h =>
 wpAny_Dict_empty ⟨.ref s.heap.objs.size,_,I.laid (a:=s.heap.objs.size) (o:= .dK []) (t':=s.toks) (fun _ _ q=>Heap.get?_push_of_some _ q) (Nat.le_refl _) (JI s.heap I.big),rfl,h _ (I.hok.fresh (Nat.le_refl _))⟩
end
def hJ (kvs more:List (Key×V)):List (Key×V):=more.foldl (fun acc kv=>c7 acc kv.1 kv.2) kvs
theorem KV.merge:∀{more:List (Key×V)}{rs:List (Key×Value)}{kvs:List (Key×V)}{vs:List (Key×Value)},KV more rs->KV kvs vs->KV (hJ kvs more) (merged vs rs):=by
 intro more rs kvs vs r;unfold KV at r
 induction r generalizing kvs vs with
 | nil=>intro q;exact q
 | @cons p q ps qs h t ih =>
  intro r0;have e:KV (c7 kvs p.1 p.2) (stored vs q.1 q.2):=by
   have:=r0.put p.1 h.2;rw[←h.1];exact this
  exact ih e
theorem oO:∀(more kvs:List (Key×V)),(hJ kvs more).length<=kvs.length+more.length
 | [],kvs=>by show kvs.length<=kvs.length+0;lia
 | p::r,kvs=>by
  have h1:=oO r (c7 kvs p.1 p.2);have h2:=gE kvs p.1 p.2;show (hJ (c7 kvs p.1 p.2) r).length<=_;rw[List.length_cons];lia
structure M2 (X:Cx)(o:Expr)(m:Str)(apos:Pos)(e f:Expr)(cpos:Pos):Prop where
 base:attributeBase o m X.env (eval o X.env)=eval o X.env
 few:((backTo cpos (starEach [e,f] X.env)).all (fun x=> !x.1)&&(backToKw cpos (keywordEach [] X.env)).all (fun x=>x.1.isSome)
  && decide (([e,f]:List Expr).length+([]:List Keyword).length+(if ([]:List Keyword).isEmpty then 0 else 1)<30))=true
 line:(apos.endLine==cpos.line)=true
 trees:backTo cpos (starEach [e,f] X.env)=[(false,eval e X.env),(false,eval f X.env)]
def IsD (H:Hp)(a:Addr):Prop:=(∃kvs,Rd H a (.dK kvs))∨∃kvs,Rd H a (.dT kvs)
theorem zE {X:Cx}{pins:List (Addr×Obj)}{σ:St}{H:Hp}{s:Shared}{a:Addr} (I:Inv X pins σ H s) (d:IsD H a) :
  s.TypeIs (.ref a) "dict" /\(∀b,Value.ref a= .ref b->∃ob,s.heap.get? b=some ob/\ob.dict=none)/\(a==sysModules)=false:=by
 rcases d with⟨kvs,e⟩|⟨kvs,e⟩
 ·obtain⟨_,hd,vs,_,dd⟩:=iU I.hok e;refine⟨dd.typeIs,fun b q=> ?_,hd⟩;cases q;obtain⟨ob,_,_,h1,h2,_⟩:=dd;exact⟨ob,h1,h2.2.1⟩
 ·obtain⟨_,hd,xs,_,dd⟩:=nE I.hok e;refine⟨dd.typeIs,fun b q=> ?_,hd⟩;cases q;obtain⟨ob,_,_,h1,h2,_⟩:=dd;exact⟨ob,h1,h2.2.1⟩
section
variable {X:Cx}{pins:List (Addr×Obj)}{σ:St}{H:Hp}{s:Shared}{a:Addr}{y d:V}{u r:Value}{o:Option V}{A:Around}{E:Value->Shared->Prop}
theorem Q4 {Q:Value->Shared->Prop}(hu:A.units+1<cLine)(I:Inv X pins σ H s)(g:fV H a y o)(ry:RelV y u)(rd:RelV d r)(h:∀w' s',Inv X pins σ H s'->RelV (o.getD d) w'->Q w' s') :
  wpAny (model X.prog X.w) A (call (.builtin "dict.get") [.ref a,u,r]) Q E s:=by
 rcases g with⟨kvs,k,e,ey,l⟩|⟨kvs,k,b,e,ey,eb,l⟩
 ·subst ey;obtain⟨z,hd,vs,rel,dd⟩:=iU I.hok e;refine call_meetsIn PySem.F.slot_dict_get dd.typeIs PySem.F.entry_dict_get (PySem.F.args_dict_get_3 _ _ _) (meets_dict_get_default (aU X.prog X.w) a (nU ry) hd r) ⟨_,dd.mapOf,h _ _ (I.tok _) ?_⟩;rw[l];exact(rel.val k).getD rd
 ·subst ey;cases (show u=Value.ref b from ry);obtain⟨z,hd,xs,rel,dd⟩:=nE I.hok e;refine call_meetsIn PySem.F.slot_dict_get dd.typeIs PySem.F.entry_dict_get (PySem.F.args_dict_get_3 _ _ _) (meetsH_dict_get_default (tupleKind (aU X.prog X.w)) a b hd r) ⟨tupleKind_room_in1 hu,k,xs,mI I.hok eb,dd,h _ _ (I.tok _) ?_⟩;rw[l];exact(rel.val k).getD rd
end
def HE (td ty tx:TE):TE:=fun σ H Q=>td σ H fun x H1=>∃a,x= .ref a/\IsD H1 a/\ty σ H1 fun y H2=>tx σ H2 fun z H3=>∃o,fV H3 a y o/\Q (o.getD z) H3
section
variable {X:Cx}{o e f:Expr}{apos cpos:Pos}{td ty tx:TE}
theorem zT (hu:X.A.units+1<cLine)(ho:PE X o td)(he:PE X e ty)(hf:PE X f tx)(m:M2 X o "get" apos e f cpos):PE X (.Call (.Attribute o "get" apos) [e,f] [] cpos) (HE td ty tx):=by
 intro pins s σ H Q I h;refine wpAny_Call_method m.base m.few m.line PySem.F.plainAttrs_dict PySem.F.slot_dict_get PySem.F.type_dict_get (thn (ho pins s σ H _ I h) fun u s1 ⟨x,H1,I1,rx,a,ex,d,q1⟩=> ?_);subst ex;obtain rfl:u=Value.ref a:=rx;obtain⟨t1,t2,_⟩:=zE I1 d;refine⟨t1,t2,?_⟩;rw[m.trees];refine Calls.callWith_builtin rfl (Calls.evalArgs_plain (Calls.spliced_cons (thn (he pins s1 σ H1 _ I1 q1) fun iv s2 ⟨y,H2,I2,ry,q2⟩ =>
  Calls.spliced_cons (thn (hf pins s2 σ H2 _ I2 q2) fun fv s3 ⟨z,H3,I3,rz,ov,g,q3⟩=>Calls.spliced_nil ?_))))
 exact Q4 hu I3 g ry rz fun w' s4 I4 rw'=>⟨_,H3,I4,rw',q3⟩
end
section
variable {X:Cx}{pins:List (Addr×Obj)}{σ:St}{H:Hp}{s:Shared}{a:Addr}{kvs:List (Key×V)}{A:Around}{E:Value->Shared->Prop}
end
section
variable {X:Cx}{pins:List (Addr×Obj)}{σ:St}{H:Hp}{s:Shared}{a:Addr}{y:V}{u:Value}{A:Around}{E:Value->Shared->Prop}
end
end L2
namespace L2
open PySem PySem.Spec PyProof.Rows
section
variable {κ:Type}[DecidableEq κ]
end
end L2
namespace L2
open PySem PySem.W PyProof.Rows
def aP {α:Type}(c:Nat->Nat->Bool):KasT α->α
 | .ret a=>a
 | .ask i j k=>aP c (k (c i j))
def KasIn {α:Type}(n:Nat)(R:α->Prop):KasT α->Prop
 | .ret a=>R a
 | .ask i j k=>i<n/\j<n/\∀b,KasIn n R (k b)
theorem KasIn.bind {α β:Type}{n:Nat}{R:α->Prop}{S:β->Prop}{f:α->KasT β} (hf:∀a,R a->KasIn n S (f a)):∀{t:KasT α},KasIn n R t->KasIn n S (t.bind f)
 | .ret _,h=>hf _ h
 | .ask _ _ _,h=>⟨h.1,h.2.1,fun b=>KasIn.bind hf (h.2.2 b)⟩
theorem KasIn.val {α:Type}{n:Nat}{R:α->Prop} (c:Nat->Nat->Bool):∀{t:KasT α},KasIn n R t->R (aP c t)
 | .ret _,h=>h
 | .ask i j k,h=>KasIn.val c (t:=k (c i j)) (h.2.2 (c i j))
theorem KasIn.wp {α:Type}{n:Nat}{R:α->Prop}{c:Nat->Nat->Bool}{cmp:Nat->Nat->(Bool->Shared->Prop)->Shared->Prop}{s:Shared} (hc:∀i j,i<n->j<n->∀C,C (c i j) s->cmp i j C s) {Q:α->Shared->Prop} :
  ∀{t:KasT α},KasIn n R t->Q (aP c t) s->t.kasWp cmp Q s
 | .ret _,_,q=>q
 | .ask i j k,h,q=>hc i j h.1 h.2.1 _ (KasIn.wp hc (t:=k (c i j)) (h.2.2 (c i j)) q)
abbrev Places (n:Nat)(p:Array Nat):Prop:=p.Perm (List.range n).toArray
theorem Places.lt {n:Nat}{p:Array Nat} (h:Places n p) (h0:0<n) (i:Nat):p.getD i 0<n:=by
 by_cases hi:i<p.size
 ·have e:p.getD i 0=p[i]:=by simp[Array.getD,hi]
  rw[e];have:=h.mem_iff.mp (Array.getElem_mem hi)
  simpa using this
 ·have e:p.getD i 0=0:=by simp[Array.getD,hi]
  rw[e];exact h0
theorem hZ {n:Nat}{p:Array Nat} (h:Places n p) (i j:Nat):Places n (kas_rev p i j):=(mirror_perm _ _ _ _).trans h
theorem zZ {n:Nat}{p:Array Nat} (h0:0<n) (hp:Places n p):∀(f k:Nat),KasIn n (fun _=>True) (kas_asc p f k)
 | 0,_=>trivial
 | f+1,k=>⟨hp.lt h0 _,hp.lt h0 _,fun b=>by cases b with|true=>exact trivial|false=>exact zZ h0 hp f (k+1)⟩
theorem qH {n:Nat}(h0:0<n):∀(f:Nat) {p:Array Nat},Places n p->∀k q,KasIn n (fun r:Array Nat×Nat×Nat=>Places n r.1) (kas_desc f p k q)
 | 0,_,hp,_,_=>hp
 | f+1,p,hp,k,q=>by
  refine⟨hp.lt h0 _,hp.lt h0 _,fun b=> ?_⟩;cases b with
  | true =>
   show KasIn n _ (if q>0 then _ else _)
   split
   ·exact qH h0 f (hZ hp _ _) _ _
   ·exact qH h0 f hp _ _
  | false =>
   refine⟨hp.lt h0 _,hp.lt h0 _,fun b=> ?_⟩;cases b with
   | true=>exact hp
   | false=>exact qH h0 f hp _ _
theorem zS {n k m:Nat}{p:Array Nat} (h0:0<n) (hp:Places n p):KasIn n (fun r:Nat×Array Nat=>Places n r.2) (kas_tail3 k m p) :=
 KasIn.bind (R:=fun _=>True) (S:=fun r:Nat×Array Nat=>Places n r.2) (f:=fun j=> .ret (j,kas_rev p 0 k)) (fun _ _=>hZ hp 0 k) (zZ h0 (hZ hp 0 k) (m - k) k)
theorem rR {n k m:Nat}{p:Array Nat} (h0:0<n) (hp:Places n p):KasIn n (fun r:Nat×Array Nat=>Places n r.2) (kas_descPart k m p) :=
 KasIn.bind (fun r hr=>by
  split
  ·exact zS h0 (hZ hr _ _)
  ·exact zS h0 hr) (qH h0 _ hp _ _)
theorem KC {n m:Nat}{p:Array Nat} (h0:0<n) (hp:Places n p):KasIn n (fun r:Nat×Array Nat=>Places n r.2) (kas_count m p) :=
 KasIn.bind (fun k _=>by
  split
  ·exact hp
  ·split
   ·refine⟨hp.lt h0 _,hp.lt h0 _,fun b=> ?_⟩;cases b with
    | true=>exact hp
    | false=>exact rR h0 (hZ hp _ _)
   ·exact rR h0 hp) (zZ h0 hp _ _)
theorem rV {n k:Nat}{p:Array Nat} (h0:0<n) (hp:Places n p):∀(f l r:Nat),KasIn n (fun _=>True) (kas_place p k f l r)
 | 0,_,_=>trivial
 | f+1,l,r=>by
  unfold kas_place
  split
  ·exact trivial
  ·refine⟨hp.lt h0 _,hp.lt h0 _,fun b=> ?_⟩;cases b with
   | true=>exact rV h0 hp f _ _
   | false=>exact rV h0 hp f _ _
theorem FR {n:Nat}(h0:0<n):∀(f:Nat) {p:Array Nat} (k:Nat),Places n p->KasIn n (Places n) (kas_bin f p k)
 | 0,_,_,hp=>hp
 | f+1,_,k,hp=>KasIn.bind (fun _ _=>FR h0 f (k+1) ((bubble_perm _ _ _).trans hp)) (rV h0 hp _ _ _)
theorem u3 {n:Nat}(h0:0<n):KasIn n (Places n) (kas_sort n) :=
 KasIn.bind (fun r hr=>by
  split
  ·exact FR h0 _ _ hr
  ·exact hr) (KC h0 (Array.Perm.refl _))
def bW {α:Type}(d:α)(c:Nat->Nat->Bool)(l:List α):List α:=if l.length<2 then l else (aP c (kas_sort l.length)).toList.map fun i=>l.getD i d
theorem dA {n:Nat}(c:Nat->Nat->Bool)(h:0<n):Places n (aP c (kas_sort n)):=(u3 h).val c
theorem mJ {α:Type}(d:α)(c:Nat->Nat->Bool)(l:List α):(bW d c l).length=l.length:=by
 unfold bW
 split
 ·rfl
 ·have h:=(dA (n:=l.length) c (by lia)).size_eq;rw[List.length_map,Array.length_toList,h];simp
end L2
namespace L2
open PySem PySem.W PyProof.Rows PySem.Calls
section
variable {prog:Program}{w:World}{A:Around}{E:Value->Shared->Prop}{s:Shared}
abbrev jU (a:Addr)(h h':Heap):Prop:=∀b o,b≠a->h.get? b=some o->h'.get? b=some o
theorem CI {a:Addr}{vs:List Value}{n:Nat}{P:PySem.Fin->Shared->Prop} (c:Nat->Nat->Bool) (κ:SortKind) (ho:s.heap.get? a=some (seqObj "list" vs.toArray n)) (h64:vs.length<64)
  (hk:2<=vs.length->∀h',jU a s.heap h'->∀R:SortKind->Shared->Prop,R κ { s with heap:=h' }->wpAny (model prog w) A (keyKind' vs.toArray) R (fun _ _=>False) { s with heap:=h' })
  (hc:2<=vs.length->∀h',jU a s.heap h'->∀i j,i<vs.length->j<vs.length->∀C,C (c i j) { s with heap:=h' }->kas_ask prog w A κ vs i j C { s with heap:=h' })
  (h:∀h' e,jU a s.heap h'->h'.get? a=some (seqObj "list" (bW Value.none c vs).toArray e)->P (.done (.ret .none)) { s with heap:=h' }) :
  wpAny (model prog w) A (Builtin.«list.sort» ⟨[.ref a],[]⟩) P E s:=by
 have lt:a<s.heap.objs.size:=Heap.lt_size ho;generalize hg1:s.heap.update a (Obj.mapSeq fun _=>(#[]:Array Value))=g1;have sb1:Heap.SameBut a s.heap g1:=hg1▸Heap.SameBut.update s.heap a (Obj.mapSeq fun _=>(#[]:Array Value));obtain⟨e1,o1⟩:∃e1,g1.get? a=some (seqObj "list" #[] e1):=hg1▸⟨_,get?_update_seq ho fun _=> #[]⟩;have lt1:a<g1.objs.size:=Heap.lt_size o1;have kp:jU a s.heap ((g1.push (seqObj "tuple" vs.toArray 0)).push (seqObj "list" #[] 0)):=fun b o hb q =>
  Heap.get?_push_of_some _ (Heap.get?_push_of_some _ ((sb1.2 b hb).trans q))
 have o3:((g1.push (seqObj "tuple" vs.toArray 0)).push (seqObj "list" #[] 0)).get? a=some (seqObj "list" #[] e1):=Heap.get?_push_of_some _ (Heap.get?_push_of_some _ o1);generalize hg3:(g1.push (seqObj "tuple" vs.toArray 0)).push (seqObj "list" #[] 0)=g3 at kp o3;have fin:∀out:List Value,out.length=vs.length->out=bW Value.none c vs->wpAny (model prog w) A (do
   let touched:=(←seqEpoch a) !=e1
   Builtin.List.listUpdate (.ref a) fun _=>out.toArray
   if let some e:=(none:Option Value) then rule "list.sort.comparison-raised";throw e
   if touched then rule "list.sort.modified";raiseError "ValueError" "list modified during sort"
   ret .none) P E { s with heap:=g3 }:=by
  intro out hl ho';obtain⟨e2,o4⟩:∃e2,(g3.update a (Obj.mapSeq fun _=>out.toArray)).get? a=some (seqObj "list" out.toArray e2):=⟨_,get?_update_seq o3 fun _=>out.toArray⟩
  refine wpAny_bind (seqEpoch_at (s:={ s with heap:=g3 }) o3 rfl ?_);refine wpAny_bind (listUpdate_at (s:={ s with heap:=g3 }) o3 rfl ?_ (Nat.zero_le _) (by rw[List.size_toArray,sizeLine_eq];lia));simp only[bne_self_eq_false,Bool.false_eq_true,if_false];refine wpAny_pure (h _ e2 (fun b o hb q=> ?_) (ho'▸o4));exact((Heap.SameBut.update g3 a (Obj.mapSeq fun _=>out.toArray)).2 b hb).trans (kp b o hb q)
 rw[list_sort_plain];refine wpAny_bind (listItems_at ho rfl (wpAny_bind (listUpdate_at ho rfl ?_ (by rw[List.size_toArray,sizeLine_eq];lia) (Nat.zero_le _))));rw[hg1];refine wpAny_bind (seqEpoch_at (s:={ s with heap:=g1 }) o1 rfl ?_);refine wpAny_bind (wpAny_newTuple ?_ (by show vs.length<=_;rw[sizeLine_eq];lia));refine wpAny_bind (wpAny_newList ?_ (Nat.zero_le _));refine wpAny_holding ?_;show wpAny (model prog w) A _ P E { s with heap:=(g1.push (seqObj "tuple" vs.toArray 0)).push (seqObj "list" #[] 0) };rw[hg3]
 dsimp only
 by_cases h2:vs.toArray.size<2
 ·rw[if_pos h2,if_pos h2];have h2':vs.length<2:=by rwa [List.size_toArray]at h2
  refine wpAny_bind (wpAny_pure ?_);rw[StateT.run_pure];refine wpAny_bind (wpAny_pure ?_)
  dsimp only
  have ez:(arrOf (SortSt.mk' general' (vs.toArray.zip vs.toArray) #[] 7 none)).map (·.2)=vs.toArray:=by
   show (vs.toArray.zip vs.toArray).map (·.2)=_
   apply Array.toList_inj.mp
   rw[Array.toList_map,Array.toList_zip,List.map_snd_zip];exact Nat.le_refl _
  rw[ez];exact fin vs rfl (by unfold bW;rw[if_pos h2'])
 ·rw[if_neg h2,if_neg h2];have h2':2<=vs.length:=by rw[List.size_toArray]at h2;lia
  refine wpAny_bind (wpAny_mono (hk h2' _ kp (fun κ' s'=>κ'=κ/\s'={ s with heap:=g3 }) ⟨rfl,rfl⟩) ?_ fun _ _ x=>x.elim);rintro _ _ ⟨rfl,rfl⟩;refine wpAny_bind (wpAny_mono (kat_run (Q:=fun st' s'=>∃p:Array Nat,p=aP c (kas_sort vs.length)/\arrOf st'=p.map (kas_item (vs.toArray.zip vs.toArray))/\failedOf st'=none/\s'={ s with heap:=g3 }) (G:=fun p s'=>p=aP c (kas_sort vs.length)/\s'={ s with heap:=g3 })
   rfl h2' h64 (fun p st' s' _ a2 a3 a4=>⟨p,a4.1,a2,a3,a4.2⟩) ((u3 (by lia)).wp (hc h2' _ kp) ⟨rfl,rfl⟩)) ?_ fun _ _ e=>e)
  rintro ⟨⟨⟩,st'⟩ _ ⟨p,rfl,har,hf,rfl⟩
  dsimp only
  rw[kat_snds rfl har,hf];have hz:=(dA (n:=vs.length) c (by lia)).size_eq;exact fin _ (by rw[List.length_map,Array.length_toList,hz];simp) (by unfold bW;rw[if_neg (by lia)])
theorem F2 {l:Addr}{vs:List Value}{Q:Value->Shared->Prop} (c:Nat->Nat->Bool) (κ:SortKind) (hl:s.heap.IsList l vs.toArray) (h64:vs.length<64)
  (hk:2<=vs.length->∀h',(∀b o,s.heap.get? b=some o->h'.get? b=some o)->∀R:SortKind->Shared->Prop,R κ { s with heap:=h' }->wpAny (model prog w) A.in1.in1 (keyKind' vs.toArray) R (fun _ _=>False) { s with heap:=h' })
  (hc:2<=vs.length->∀h',(∀b o,s.heap.get? b=some o->h'.get? b=some o)->∀i j,i<vs.length->j<vs.length->∀C,C (c i j) { s with heap:=h' }->kas_ask prog w A.in1.in1 κ vs i j C { s with heap:=h' })
  (h:∀D h' e,s.heap.objs.size<=D->(∀b o,s.heap.get? b=some o->h'.get? b=some o)->h'.get? D=some (seqObj "list" (bW Value.none c vs).toArray e)->Q (.ref D) { s with heap:=h' }) :
  wpAny (model prog w) A (call (.builtin "sorted") [.ref l]) Q E s:=by
 have hz64:vs.length<=sizeLine:=by rw[sizeLine_eq];lia
 refine Calls.call_function_entry kind_sorted plain_sorted entry_sorted (args_sorted1 _) ?_;unfold Builtin.«sorted»;refine wpAny_bind (m:=checkCount "sorted" 1 1 _) (wpAny_pure (wpAny_bind (collect_list hl ?_ hz64)));refine wpAny_bind (wpAny_newList ?_ hz64);generalize hq:(s.heap.push (seqObj "list" #[] 0)).update s.heap.objs.size (Obj.mapSeq (·++vs.toArray))=q;have qs:q.objs.size=s.heap.objs.size+1:=by rw[←hq,Heap.size_update,size_push']
 have qk:∀b o,s.heap.get? b=some o->q.get? b=some o:=fun b o e=>by
  have bl:b<s.heap.objs.size:=Heap.lt_size e;rw[←hq,Heap.get?_update_ne _ _ _ _ (Nat.ne_of_lt bl),Heap.get?_push_ne _ _ _ (Nat.ne_of_lt bl)];exact e
 have oD:(q.push (seqObj "list" vs.toArray 0)).get? q.objs.size=some (seqObj "list" vs.toArray 0):=Heap.get?_push_size _ rfl;have kD:∀h',jU q.objs.size (q.push (seqObj "list" vs.toArray 0)) h'->∀b o,s.heap.get? b=some o->h'.get? b=some o:=fun h' k b o e =>
  k b o (Nat.ne_of_lt (by rw[qs];exact Nat.lt_succ_of_lt (Heap.lt_size e))) (Heap.get?_push_of_some _ (qk b o e))
 refine wpAny_bind (wpAny_holding (wpAny_call_entry slot_list_sort ⟨_,oD,rfl⟩ entry_list_sort ?body (args_list_sort _)))
 case body =>
  refine CI (s:={ s with heap:=q.push (seqObj "list" vs.toArray 0) }) c κ oD h64 (fun h2 h' k=>hk h2 h' (kD h' k)) (fun h2 h' k=>hc h2 h' (kD h' k)) fun h' e k o'=> ?_;exact⟨_,rfl,wpAny_pure ⟨_,rfl,h _ h' e (by show s.heap.objs.size<=q.objs.size;rw[qs];exact Nat.le_succ _) (kD h' k) o'⟩⟩
end
end L2
namespace L2
open PySem PySem.W PyProof.Rows
def c8:Key->Bool
 | .inl _=>true
 | .inr _=>false
def eV:Key->Key->Bool
 | .inl i,.inl j=>decide (i<j)
 | .inr x,.inr y=>decide (x.cps.toList<y.cps.toList)
 | _,_=>false
def eO:List Key->List Key->Bool
 | a::as,b::bs=>if a=b then eO as bs else eV a b
 | _,_=>false
section
variable {prog:Program}{w:World}{A:Around}{s:Shared}
theorem QD {a b:Key}{u v:Value}{Q:Bool->Shared->Prop}{E:Value->Shared->Prop} (k:c8 a=c8 b) (ru:RelV (kV a) u) (rv:RelV (kV b) v) (q:Q (decide (a=b)) s):wpAny (model prog w) A (eqBool u v) Q E s:=by
 cases a<;>cases b<;>first|(cases k;done)|skip
 ·obtain⟨t,rfl⟩:=ru;obtain⟨t',rfl⟩:=rv;refine wpAny_eqBool_int ?_;rename_i i j;have e:(i==j)=decide ((Sum.inl i:Key)=Sum.inl j):=by
   by_cases z:i=j
   ·subst z;simp
   ·rw[beq_false_of_ne z,decide_eq_false (fun y=>z (Sum.inl.inj y))]
  rw[e];exact q
 ·obtain⟨t,rfl⟩:=ru;obtain⟨t',rfl⟩:=rv;refine wpAny_eqBool_str ?_;rename_i i j;have e:decide (i=j)=decide ((Sum.inr i:Key)=Sum.inr j):=by
   by_cases z:i=j
   ·subst z;simp
   ·rw[decide_eq_false z,decide_eq_false (fun y=>z (Sum.inr.inj y))]
  rw[e];exact q
theorem PP {a b:Key}{u v:Value}{Q:Bool->Shared->Prop}{E:Value->Shared->Prop} (k:c8 a=c8 b) (ru:RelV (kV a) u) (rv:RelV (kV b) v) (q:Q (eV a b) s) (t:Bool):wpAny (model prog w) A (oneLt' t u v) Q E s:=by
 cases a<;>cases b<;>first|(cases k;done)|skip
 ·obtain⟨t1,rfl⟩:=ru;obtain⟨t2,rfl⟩:=rv;cases t with
  | true=>exact oneLt_int q
  | false=>exact kat_one _ _ (lt_int q)
 ·obtain⟨t1,rfl⟩:=ru;obtain⟨t2,rfl⟩:=rv;cases t with
  | true=>exact oneLt_str q
  | false=>exact kat_one _ _ (lt_str q)
theorem HC {Q:Bool->Shared->Prop}:∀{as bs:List Key}{us vs:List Value} (i:Nat),as.map c8=bs.map c8->Vals (as.map kV) us->Vals (bs.map kV) vs->Q (eO as bs) s->KatLex prog w A true false Q (us.zip vs) i s
 | [],[],_,_,_,_,.nil,.nil,q=>kat_nil q
 | [],_::_,_,_,_,k,_,_,_=>by cases k
 | _::_,[],_,_,_,k,_,_,_=>by cases k
 | a::as,b::bs,_,_,i,k,.cons ra rs,.cons rb rt,q=>by
  have k1:c8 a=c8 b:=(List.cons.inj k).1;refine kat_cons (QD k1 ra rb ?_);have q':Q (if a=b then eO as bs else eV a b) s:=q
  by_cases z:a=b
  ·rw[if_pos z]at q';rw[decide_eq_true z];exact kat_yes (HC (i+1) (List.cons.inj k).2 rs rt q')
  ·rw[if_neg z]at q';rw[decide_eq_false z];exact kat_no (PP k1 ra rb q' _)
end
abbrev KRows (H:Hp):List V->List (List Key)->Prop:=Paired fun v r=>∃p,v= .ref p/\H p=some (.tup (r.map kV))
theorem KRows.map {H H':Hp}(f:∀p xs,H p=some (.tup xs)->H' p=some (.tup xs)):∀{vs:List V}{rs:List (List Key)},KRows H vs rs->KRows H' vs rs
 | _,_,.nil=> .nil
 | _,_,.cons ⟨p,e,h⟩ r=> .cons ⟨p,e,f _ _ h⟩ (KRows.map f r)
theorem KRows.same {H H':Hp}{vs:List V}{rs:List (List Key)} (x:KRows H vs rs) (s:Same H H'):KRows H' vs rs:=x.map fun p xs h=>s _ _ h
theorem KRows.get {H:Hp}:∀{vs:List V}{rs:List (List Key)}{i:Nat}{v:V},KRows H vs rs->vs[i]? =some v->∃p r,v= .ref p/\rs[i]? =some r/\H p=some (.tup (r.map kV))
 | _,_,0,_,.cons ⟨p,e,h⟩ _,z=>by cases z;exact⟨p,_,e,rfl,h⟩
 | _,_,i+1,_,.cons _ t,z=>KRows.get (i:=i) t (by simpa using z)
 | _,_,_,_,.nil,z=>by simp at z
def lU (rs:List (List Key))(i j:Nat):Bool:=eO (rs.getD i []) (rs.getD j [])
def DP (rs:List (List Key))(vs:List V):List V:=bW .non (lU rs) vs
section
variable {X:Cx}{pins:List (Addr×Obj)}{σ:St}{H:Hp}{s:Shared}
theorem vE (I:Inv X pins σ H s){p:Addr}{r:List Key} (e:H p=some (.tup (r.map kV))):∃(o:Obj) (us:List Value) (n:Nat),s.heap.get? p=some o/\o.cls= .type "tuple" /\o.data= .seq us.toArray n/\Vals (r.map kV) us:=by
 obtain⟨_,its,r',o,h1,h2,n,h3⟩:=(show ObjOk X.prog X.w H s.heap p (.tup (r.map kV)) from I.hok p _ e)
 exact⟨o,its,n,h1,h2,h3,r'⟩
theorem wD (I:Inv X pins σ H s){sh:List Bool}{T:Value}{h':Heap} (kp:∀b o,s.heap.get? b=some o->h'.get? b=some o) (hT:∀(k:Key) (u:Value),sh.head? =some (c8 k)->RelV (kV k) u->Looks (model X.prog X.w) h' (typeOf u) T) :
  ∀{vs:List V}{rs:List (List Key)}{us:List Value},KRows H vs rs->Vals vs us->(∀r∈rs,r.map c8=sh)->sh≠[]->∃fs,KatTups h' us fs/\fs.length=us.length/\∀v∈fs,Looks (model X.prog X.w) h' (typeOf v) T
 | _,_,_,.nil,.nil,_,_=>⟨[],trivial,rfl,fun _ z=>nomatch z⟩
 | _::_,r::_,_::_,.cons ⟨p,hv,e⟩ q,.cons rv rt,hs,hn=>by
  obtain⟨fs,f1,f2,f3⟩:=wD I kp hT q rt (fun r hr=>hs r (List.mem_cons_of_mem _ hr)) hn;subst hv;cases rv;have hr:=hs r (.head _);cases r with
  | nil=>exact absurd hr.symm hn
  | cons k ks =>
   obtain⟨o,us,n,o1,o2,o3,o4⟩:=vE I e;cases o4 with
   | cons r1 r2 =>
    rename_i u us;refine⟨u::fs,KatTups.cons (kp _ _ o1) o2 o3 (by simp) f1,by simp[f2],fun v hv=> ?_⟩;rcases List.mem_cons.mp hv with rfl|hv
    ·exact hT k _ (by rw[←hr];rfl) r1
    ·exact f3 v hv
def CQ (K:PySem.W.Frag):List V->Hp->VK->Prop:=fun xs H Q=>∃p vs rs sh,xs=[.ref p]/\SqL K H p vs/\KRows H vs rs/\vs.length<64/\(∀r∈rs,r.map c8=sh)/\sh≠[]/\∀l,H l=none->Q (.ref l) (upd H l (.lst (DP rs vs)))
theorem o6 {xs:List V}{us:List Value} (c:Nat->Nat->Bool) (r:Vals xs us):Vals (bW .non c xs) (bW Value.none c us):=by
 have hl:=r.length;unfold bW;rw[hl]
 split
 ·exact r
 ·have hp:=dA (n:=us.length) c (by lia);have hm:∀i∈(aP c (kas_sort us.length)).toList,i<us.length:=fun i hi=>by
   have h:=hp.mem_iff.mp (Array.mem_toList_iff.mp hi)
   simpa using h
  revert hm;generalize (aP c (kas_sort us.length)).toList=l;intro hm
  induction l with
  | nil=>exact .nil
  | cons i l ih =>
   refine .cons ?_ (ih fun j hj=>hm j (List.mem_cons_of_mem _ hj));have hi:=hm i (.head _);have hx:xs[i]? =some (xs[i]'(by lia)):=List.getElem?_eq_getElem _;obtain⟨u,hu,ru⟩:=r.get hx;show RelV (xs.getD i .non) (us.getD i Value.none);rw[List.getD_eq_getElem?_getD,List.getD_eq_getElem?_getD,hx,hu];exact ru
theorem pY:cJ X (.builtin "sorted") (CQ X.K):=by
 intro pins s σ H xs us Q I r h;obtain⟨p,vs,rs,sh,rfl,hq,kr,h64,hs,hn,q⟩:=h;obtain⟨u,rfl,rx⟩:=fT r;cases rx;obtain⟨its,rv,pl,hz⟩:=I.list hq;have hl:=rv.length;have hT:∃T:Value,(T==T)=true/\(T !=Value.type "tuple")=true/\∀(h':Heap) (k:Key) (u:Value),sh.head? =some (c8 k)->RelV (kV k) u->Looks (model X.prog X.w) h' (typeOf u) T:=by
  cases sh with
  | nil=>exact absurd rfl hn
  | cons b sh =>
   cases b with
   | true =>
    refine⟨.type "int",rfl,by decide,fun h' k u hk ru=> ?_⟩;cases k with
    | inl i=>obtain⟨t,rfl⟩:=ru;exact Looks.of_pure rfl
    | inr x=>cases hk
   | false =>
    refine⟨.type "str",rfl,by decide,fun h' k u hk ru=> ?_⟩;cases k with
    | inl i=>cases hk
    | inr x=>obtain⟨t,rfl⟩:=ru;exact Looks.of_pure rfl
 obtain⟨T,t1,t2,t3⟩:=hT;refine F2 (lU rs) (tuples' true) pl.isList (by lia) (fun h2 h' kp R hR=> ?_) (fun h2 h' kp i j hi hj C hC=> ?_) fun D h' e hD kp o'=> ?_
 ·obtain⟨fs,f1,f2,f3⟩:=wD I kp (fun k u=>t3 h' k u) kr rv hs hn;refine kat_kind (s:={ s with heap:=h' }) f1 (by lia) f3 t1 ?_;rw[t2];exact hR
 ·obtain⟨p1,r1,x1,y1,z1⟩:=kr.get (i:=i) (List.getElem?_eq_getElem (by lia));obtain⟨p2,r2,x2,y2,z2⟩:=kr.get (i:=j) (List.getElem?_eq_getElem (by lia));obtain⟨u1,v1,w1⟩:=rv.get (List.getElem?_eq_getElem (show i<vs.length by lia));obtain⟨u2,v2,w2⟩:=rv.get (List.getElem?_eq_getElem (show j<vs.length by lia));rw[x1]at w1;rw[x2]at w2;cases w1;cases w2;obtain⟨o1,us1,n1,g1,c1,d1,l1⟩:=vE I z1;obtain⟨o2,us2,n2,g2,c2,d2,l2⟩:=vE I z2;have s1:=hs r1 (List.mem_of_getElem? y1);have s2:=hs r2 (List.mem_of_getElem? y2);have e1:=l1.length;have e2:=l2.length;rw[List.length_map]at e1 e2;have e3:r1.length=r2.length:=by rw[←List.length_map (f:=c8),s1,←s2,List.length_map]
  unfold kas_ask;rw[List.getD_eq_getElem?_getD,List.getD_eq_getElem?_getD,v1,v2];refine kat_lt (s:={ s with heap:=h' }) (kp _ _ g1) d1 (kp _ _ g2) d2 ?_;rw[show decide (us1.toArray.size<us2.toArray.size)=false from decide_eq_false (by rw[List.size_toArray,List.size_toArray];lia)];refine HC 0 (s1.trans s2.symm) l1 l2 ?_;have ec:lU rs i j=eO r1 r2:=by
   unfold lU;rw[List.getD_eq_getElem?_getD,List.getD_eq_getElem?_getD,y1,y2];rfl
  rw[ec]at hC;exact hC
 ·exact⟨.ref D,_,I.laid (t':=s.toks) kp hD (show ObjOk X.prog X.w _ h' _ (.lst _) from⟨by rw[mJ];exact hz,_,e,o6 _ rv,o'⟩),rfl,q _ (I.hok.fresh hD)⟩
end
end L2
namespace L2
open PySem PySem.W PyProof.Rows
section
variable {prog:Program}{w:World}{A:Around}{E:Value->Shared->Prop}{s:Shared}{d it:Addr}{o:Obj}{es:Array DictEntry}{ep i:Nat}
theorem zU {Q:Value->Shared->Prop}(hd:(d==sysModules)=false)(ho:s.heap.get? d=some o)(hc:o.ExactDict)(hq:o.data= .dict es ep)
  (k:Q (.ref s.heap.objs.size) { s with heap:=s.heap.push { cls:= .type "dict_keyiterator",data:= .fields #[.ref d,.int 0 0,.int es.size 0,.int ep 0] } }):wpAny (model prog w) A (pyIter (.ref d)) Q E s:=by
 have T:s.TypeIs (.ref d) "dict" :=⟨o,ho,hc.1⟩
 refine wpAny_pyIter_slot T F.slot_dict_iter (wpAny_call_entry F.slot_dict_iter T F.entry_dict_iter ?_ (F.args_dict_iter_1 _));unfold Builtin.«dict.__iter__» Builtin.Dict.dictSlotNone;refine wpAny_bind (wpAny_bind (wpAny_notOrdered_dict T (wpAny_pure ?_)));show wpAny _ A.in1 (Builtin.Dict.showsAll d >>= _) _ _ s;unfold Builtin.Dict.showsAll;rw[if_neg (fun z=>by rw[hd]at z;cases z)];refine wpAny_bind (wpAny_pure (wpAny_bind (wpAny_dictEntries ho hq (wpAny_bind (wpAny_dictEpoch ho hq ?_)))));exact wpAny_bind (wpAny_newObj_type (wpAny_pure ⟨_,rfl,"dict_keyiterator",_,⟨_,Heap.get?_push_size _ rfl,rfl⟩,F.slot_dict_keyiterator_next.lookup,k⟩))
theorem K6 {Q:Option Value->Shared->Prop}{e:DictEntry} (hit:s.heap.IsKeyIter it d i es.size ep) (ho:s.heap.get? d=some o) (hq:o.data= .dict es ep) (hx:es[i]? =some e)
  (k:∀h',h'.IsKeyIter it d (i+1) es.size ep->Heap.SameBut it s.heap h'->Q (some e.key) { s with heap:=h' }):wpAny (model prog w) A (pyNext (.ref it)) Q E s:=by
 obtain⟨oi,hi,ci,di⟩:=id hit;have T:=hit.typeIs;unfold pyNext;refine wpAny_bind (wpAny_attempt (wpAny_callSpecial?_slot (name:=Str.ofString "__next__") T F.slot_dict_keyiterator_next (wpAny_call_entry F.slot_dict_keyiterator_next T F.entry_dict_keyiterator_next ?_ (F.args_dict_keyiterator_next_1 _))));refine wpAny_bind (wpAny_pure (wpAny_bind (wpAny_bind ?_)))
 first|refine wpAny_bind (wpAny_typeNameOfWhole_keyiter T (wpAny_pure (wpAny_bind (wpAny_fieldsOf hi di ?_))))|refine wpAny_bind (wpAny_typeNameOf_keyiter T (wpAny_pure (wpAny_bind (wpAny_fieldsOf hi di ?_))))
 simp only[show Builtin.Dict_items.ownsTuple "dict_keyiterator" =false by decide,Bool.false_eq_true,if_false];show wpAny _ A.in1 (if (Value.ref d==Value.none)=true then _ else _) _ _ s;rw[if_neg (show ¬(Value.ref d==Value.none)=true from Bool.false_ne_true)];refine wpAny_bind (wpAny_pure (wpAny_bind (wpAny_dictEntries ho hq ?_)));rw[if_neg (by simp)];refine wpAny_bind (wpAny_pure (wpAny_bind (wpAny_dictEpoch ho hq ?_)));rw[if_neg (by simp)];refine wpAny_pure ?_;simp only[show ¬((i:Int)<0) from by lia,if_false,Int.toNat_natCast,hx];refine wpAny_bind ?_
 first|refine wpAny_bind (wpAny_typeNameOfWhole_keyiter T (wpAny_pure (wpAny_bind (wpAny_isOneOf_keyiter T ?_))))|refine wpAny_bind (wpAny_typeNameOf_keyiter T (wpAny_pure (wpAny_bind (wpAny_isOneOf_keyiter T ?_))))
 show wpAny _ A.in1 (setField (.ref it) 1 (rawInt ((i:Int)+1)) >>= _) _ _ s;refine wpAny_bind (wpAny_setField hi di (by simp) ?_);have H2:(s.heap.update it (Obj.mapFields (·.setIfInBounds 1 (rawInt ((i:Int)+1))))).IsKeyIter it d (i+1) es.size ep :=
  ⟨_,Heap.get?_update_self _ hi (Obj.isFreed_of_fields (Obj.data_mapFields di _)),(Obj.cls_mapFields ..).trans ci,(Obj.data_mapFields di _).trans (by simp[rawInt])⟩
 refine wpAny_bind (wpAny_holding (wpAny_bind (wpAny_isOneOf_keyiter (s:={ s with heap:=s.heap.update it (Obj.mapFields (·.setIfInBounds 1 (rawInt ((i:Int)+1)))) }) H2.typeIs ?_)));show wpAny _ A.in1 (pure e.key) _ _ _;exact wpAny_pure (wpAny_pure ⟨_,rfl,wpAny_pure (k _ H2 (Heap.SameBut.update ..))⟩)
theorem NV {Q:Option Value->Shared->Prop}(hh:A.handled=none)(hit:s.heap.IsKeyIter it d i es.size ep)(ho:s.heap.get? d=some o)(hq:o.data= .dict es ep)(hx:es.size<=i)
  (k:∀h',Heap.ExtBut it s.heap h'->Q none { s with heap:=h' }):wpAny (model prog w) A (pyNext (.ref it)) Q E s:=by
 obtain⟨oi,hi,ci,di⟩:=id hit;have T:=hit.typeIs;unfold pyNext;refine wpAny_bind (wpAny_attempt (wpAny_callSpecial?_slot (name:=Str.ofString "__next__") T F.slot_dict_keyiterator_next (wpAny_call_entry F.slot_dict_keyiterator_next T F.entry_dict_keyiterator_next ?_ (F.args_dict_keyiterator_next_1 _))));refine wpAny_bind (wpAny_pure (wpAny_bind (wpAny_bind ?_)))
 first|refine wpAny_bind (wpAny_typeNameOfWhole_keyiter T (wpAny_pure (wpAny_bind (wpAny_fieldsOf hi di ?_))))|refine wpAny_bind (wpAny_typeNameOf_keyiter T (wpAny_pure (wpAny_bind (wpAny_fieldsOf hi di ?_))))
 simp only[show Builtin.Dict_items.ownsTuple "dict_keyiterator" =false by decide,Bool.false_eq_true,if_false];show wpAny _ A.in1 (if (Value.ref d==Value.none)=true then _ else _) _ _ s;rw[if_neg (show ¬(Value.ref d==Value.none)=true from Bool.false_ne_true)];refine wpAny_bind (wpAny_pure (wpAny_bind (wpAny_dictEntries ho hq ?_)));rw[if_neg (by simp)];refine wpAny_bind (wpAny_pure (wpAny_bind (wpAny_dictEpoch ho hq ?_)));rw[if_neg (by simp)];refine wpAny_pure ?_;simp only[show ¬((i:Int)<0) from by lia,if_false,Int.toNat_natCast,Array.getElem?_eq_none hx];refine wpAny_bind ?_
 first|refine wpAny_bind (wpAny_typeNameOfWhole_keyiter T (wpAny_pure ?_))|refine wpAny_bind (wpAny_typeNameOf_keyiter T (wpAny_pure ?_))
 show wpAny _ A.in1 (setField (.ref it) 0 .none >>= _) _ _ s;refine wpAny_bind (wpAny_setField hi di (by simp) ?_);show wpAny _ A.in1 (newExc (.type "StopIteration") [] >>= _) _ _ _;refine wpAny_bind ?_;simp only[newExc,newTuple];refine wpAny_bind (wpAny_newObj_type (wpAny_bind (m:=firstArgMember _ _) (wpAny_of_eq (a:=Value.none) (by first|rfl|(simp only[firstArgMember];rfl)) (wpAny_newObj_type ?_ (by size_fits)))) (by size_fits));simp only[raiseNew];refine wpAny_bind (wpAny_handled ?_);rw[show A.in1.handled=none from hh];refine wpAny_bind (wpAny_pure (wpAny_throw ?_));refine wpAny_bind (wpAny_isInstance (b:=true) (T:= "StopIteration") ⟨_,Heap.get?_push_size _ rfl,rfl⟩ isSubtype_stop ?_);exact wpAny_pure (k _ (((Heap.SameBut.update ..).extBut.push _).push _))
end
end L2
namespace L2
open PySem PySem.W PyProof.Rows
def Itk (a:Addr)(o:Obj)(kvs:List (Key×V)):It :=
 ⟨fun i H=>H a=some (.frz o (.dK kvs))/\i<kvs.length,fun i H x H'=>H'=H/\∃k v,kvs[i]? =some (k,v)/\x=kV k,fun i H=>H a=some (.frz o (.dK kvs))/\kvs.length<=i⟩
section
variable {X:Cx}{tg:Expr}
theorem Inv.freeze {pins:List (Addr×Obj)}{σ:St}{H:Hp}{s:Shared}{a:Addr}{u:HO}{o:Obj} (I:Inv X pins σ H s) (mu:Mut (some u)) (e:H a=some u) (ho:s.heap.get? a=some o) (new:ObjOk X.prog X.w (upd H a (.frz o u)) s.heap a (.frz o u)):Inv X pins σ (upd H a (.frz o u)) s :=
 I.write (t':=s.toks) (h':=s.heap) (by rw[e];exact mu) (.inl rfl) (fun b u _ z=>z) ⟨_,ho⟩ new
end
end L2
namespace L2
open PySem PySem.W PyProof.Rows
def jO (n:Nat)(lo hi st:Option Int):List Nat:=sliceRange (sliceBounds lo hi st n).1 (sliceBounds lo hi st n).2.1 (sliceBounds lo hi st n).2.2
def qP (xs:List V)(lo hi st:Option Int):List V:=(jO xs.length lo hi st).filterMap (xs[·]?)
theorem F7 (xs:List V)(lo hi st:Option Int):(qP xs lo hi st).length<=(jO xs.length lo hi st).length:=List.length_filterMap_le _ _
theorem wG {xs:List V}{us:List Value} (r:Vals xs us):∀l:List Nat,Vals (l.filterMap (xs[·]?)) (l.filterMap (us[·]?))
 | []=> .nil
 | i::l=>by
  have ih:=wG r l;have hl:=r.length
  by_cases hi:i<xs.length
  ·have e:xs[i]? =some xs[i]:=List.getElem?_eq_getElem hi;obtain⟨u,e2,ru⟩:=r.get e;rw[List.filterMap_cons_some e,List.filterMap_cons_some e2];exact .cons ru ih
  ·rw[List.filterMap_cons_none (List.getElem?_eq_none (by lia)),List.filterMap_cons_none (List.getElem?_eq_none (by lia))];exact ih
def KJ (K:PySem.W.Frag)(x:V)(lo hi st:Option Int)(H:Hp)(Q:VK):Prop:=∃a xs,x= .ref a/\SqL K H a xs/\st≠some 0/\(jO xs.length lo hi st).length<=sizeLine/\∀p,H p=none->Q (.ref p) (upd H p (.lst (qP xs lo hi st)))
def RJ (K:PySem.W.Frag)(te:TE)(tl th ts:TO):TE:=fun σ H Q=>te σ H fun x H1=>tl σ H1 fun l H2=>th σ H2 fun u H3=>ts σ H3 fun c H4=>KJ K x l u c H4 Q
section
variable {X:Cx}{e c:Expr}{te:TE}{lo hi:Option Expr}{tl th ts:TO}{pos p2:Pos}
theorem gL (he:PE X e te)(hl:PO X lo tl)(hu:PO X hi th)(hc:PO X (some c) ts):PE X (.Subscript e (.Slice lo hi (some c) p2) pos) (RJ X.K te tl th ts):=by
 intro pins s σ H Q I h;refine Subscript_ (thn (he pins s σ H _ I h) fun v s1 ⟨x,H1,I1,r1,q1⟩=> ?_);refine wpAny_Slice (thn (hl pins s1 σ H1 _ I1 q1) fun vl s2 ⟨l,H2,I2,pl,q2⟩=>thn (hu pins s2 σ H2 _ I2 q2) fun vu s3 ⟨u,H3,I3,pu,q3⟩=>thn (hc pins s3 σ H3 _ I3 q3) fun vs s4 ⟨st,H4,I4,ps,q4⟩=> ?_);have I5:Inv X pins σ H4 { s4 with heap:=s4.heap.push { cls:= .type "slice",data:= .fields #[vl,vu,vs] } }:=I4.kept (t':=s4.toks) fun b ob q=>Heap.get?_push_of_some _ q;obtain⟨a,xs,rfl,hx,h0,hz,q⟩:=q4;cases r1;obtain⟨its,r,ht,hzs⟩:=I5.list hx;have hlen:=r.length;show wpAny (model X.prog X.w) X.A (subscriptTail e (.Slice lo hi (some c) p2) (.ref a) (.ref s4.heap.objs.size)) (EP X pins σ Q) X.xe { s4 with heap:=s4.heap.push { cls:= .type "slice",data:= .fields #[vl,vu,vs] } };refine tail_any (T:= "list") (ops:=[.ref a,.ref s4.heap.objs.size]) ht.isList.typeIs slot_list_getitem.lookup ?_ (by with_unfolding_all rfl);refine wpAny_getItem_list_slice ht.isList (Heap.IsSliceOf.new ..) pl pu ps h0 ?_ (by rw[List.size_toArray]<;>lia);have ep:slicePick its.toArray l u st=((jO xs.length l u st).filterMap (its[·]?)).toArray:=by
  unfold slicePick jO;rw[List.size_toArray,←hlen];rw[show (fun x:Nat=>its.toArray[x]?)=fun x=>its[x]? from funext fun i=>by simp]
 rw[ep];refine⟨.ref _,_,I5.laid (t':=s4.toks) (o:= .lst (qP xs l u st)) (fun b ob q=>Heap.get?_push_of_some _ q) (Nat.le_refl _) ?_,rfl,q _ (I5.hok.fresh (Nat.le_refl _))⟩;exact⟨Nat.le_trans (F7 xs l u st) hz,_,0,wG r _,Heap.get?_push_size _ rfl⟩
end
def qX:V->Bool
 | .ref _=>true
 | x=>tD x
section
variable {X:Cx}
end
section
variable {X:Cx}{pins:List (Addr×Obj)}{σ:St}{H:Hp}{s:Shared}
end
section
variable {X:Cx}
end
end L2
namespace L2
open PySem PySem.W PyProof.Rows
section
variable {K:PySem.W.Frag}{ti:TT}{te:TE}{σ:St}{ci:List Nat}{rest:St}{fin:List V->Hp->Prop}{H:Hp}{a:Addr}
end
end L2
namespace L2
open PySem PySem.W PyProof.Rows
theorem oX:bootBuiltins "sorted" =some (.builtin "sorted"):=by decide +kernel
theorem Room.units1 {k:Nat}{A:Around} (r:Room k A):A.units+1<cLine:=by have:=r.un;lia
section
variable {K:PySem.W.Frag}{H:Hp}{Q:VK}
theorem j0 {a:Addr}{xs:List V}{lo hi st:Option Int} (e:SqL K H a xs) (h0:st≠some 0) (hz:(jO xs.length lo hi st).length<=sizeLine) (k:∀p H',H p=none->Same H H'->H' p=some (.lst (qP xs lo hi st))->Q (.ref p) H'):KJ K (.ref a) lo hi st H Q:=⟨a,xs,rfl,e,h0,hz,fE k⟩
end
section
variable {H:Hp}{Q:VK}{σ:St}
end
end L2
namespace L2
open PySem PySem.W PyProof.Rows
section
variable {X:Cx}{K:PySem.W.Frag}
theorem g0 {es:List Expr}{k:Nat}{t:TGs}{n:Nat}{pos:Pos} (hc:X.calm=true) (h:PGs X es t) (hK:X.K=K:=by rfl)
  (hn:(assignEach es X.env).length=n:=by rfl)(hst:(assignEach es X.env).findIdx? (·.1)=none:=by rfl):PG X (.Tuple es k pos) (zM K n t):=by
 subst hK;exact mR hc h hn hst
end
def L0 (nx:St->Hp->Prop)(σ:St)(x v:V):VK:=fun y H3=>∃a H4,x= .ref a/\DPut H3 a y v H4/\nx σ H4
def LH (Q:VK)(x:V):VK:=fun y H2=>∃a v,x= .ref a/\fV H2 a y (some v)/\Q v H2
section
variable {K:PySem.W.Frag}{H:Hp}{Q:VK}{σ:St}{nx rt bk ct:St->Hp->Prop}
theorem OD {td ty tv:TE}{nx:St->Hp->Prop}{rt:VK}{bk ct:St->Hp->Prop} (h:tv σ H fun v H1=>td σ H1 fun x H2=>ty σ H2 (L0 nx σ x v)):LF td ty tv ⟨nx,rt,bk,ct⟩ σ H:=h
theorem M9 {td ty:TE}(h:td σ H fun x H1=>ty σ H1 (LH Q x)):LI td ty σ H Q:=h
theorem UL {te:TE}{tl th ts:TO} (h:te σ H fun x H1=>tl σ H1 fun l H2=>th σ H2 fun u H3=>ts σ H3 fun c H4=>KJ K x l u c H4 Q):RJ K te tl th ts σ H Q:=h
theorem pR {p:Addr}{xs:List V}{i:Int} (e:SqL K H p xs) (h0:0<=i) (h1:i<xs.length) (h:∀v∈xs,Q v H):DG K (.ref p) (.int i) H Q:=by
 have hl:i.toNat<xs.length:=by lia
 have e1:=mU (xs:=xs) (j:=i.toNat) (v:=xs[i.toNat]) (List.getElem?_eq_getElem hl);rw[show ((i.toNat:Nat):Int)=i by lia]at e1;exact⟨p,xs,i,_,rfl,rfl,e,e1,h _ (List.getElem_mem hl)⟩
end
end L2
namespace L2
open PySem PySem.W PyProof.Rows
theorem oU:entryFor table "dict_itemiterator.__iter__" =some Builtin.«dict_keyiterator.__iter__»:=entryFor_alias (id':= "dict_keyiterator.__iter__") (by kernel_rfl) rfl (by decide +kernel) (by kernel_rfl)
theorem uO {P:Program}{w:World}{k:Key}{u:Value} (h:(aU P w).is k u=true):RelV (kV k) u:=by
 rcases cI h with⟨i,t,rfl,rfl⟩|⟨x,t,rfl,rfl⟩
 ·exact⟨t,rfl⟩
 ·exact⟨t,rfl⟩
theorem sV {κ:Type}{kvs:List (κ×V)}{vs:List (κ×Value)}{i:Nat} (h:KV kvs vs) (hi:i<kvs.length):∃k v u,kvs[i]? =some (k,v)/\vs[i]? =some (k,u)/\RelV v u:=by
 induction h generalizing i with
 | nil=>exact absurd hi (Nat.not_lt_zero _)
 | @cons x y l m h t ih =>
  cases i with
  | zero=>exact⟨x.1,x.2,y.2,rfl,by rw[h.1];rfl,h.2⟩
  | succ i=>exact ih (Nat.lt_of_succ_lt_succ hi)
theorem vZ {P:Program}{w:World}{κ:Type} [DecidableEq κ] {knd:KeyKind P w κ}:∀{es:List DictEntry}{kvs:List (κ×Value)}{i:Nat}{k:κ}{u:Value},Pairs knd es kvs->kvs[i]? =some (k,u)->∃e,es[i]? =some e/\knd.is k e.key=true/\e.val=u
 | _,_,0,_,_,.cons h1 h2 _,z=>by cases z;exact⟨_,rfl,h1,h2⟩
 | _,_,i+1,_,_,.cons _ _ t,z=>by
  obtain⟨e,e1,e2⟩:=vZ (i:=i) t (by simpa using z);exact⟨e,by simpa using e1,e2⟩
 | _,_,_,_,_,.nil,z=>by simp at z
theorem C4 {P:Program}{w:World}{K:PySem.W.Frag}{tg:Expr} (a it:Addr) {o:Obj}{es:Array DictEntry}{ep:Nat} (kvs:List (Key×V)) (hd:o.data= .dict es ep) (hz:es.size=kvs.length) :
  nF P w K tg (Itk a o kvs) [it] it (fun i h=>h.IsKeyIter it a i es.size ep) where
 mem:=by simp
 obj:=fun i h st b hb=>by
  have e:b=it:=by simpa using hb
  subst e;obtain⟨ob,e,c,d⟩:=st;exact⟨ob,e,fun v z=>by rw[d]at z;cases z⟩
 keep:=fun i h h' st k=>st.at fun ob e=>k it (by simp) ob e
 item:=by
  intro X hP hw hK hc i pins s σ H E I hf st hg;subst hP hw hK;obtain⟨ha,hi⟩:=hg;obtain⟨ho,z,y,vs,r,o',es',ep',h1,h2,h3,h4,h5,h6⟩:=(show ObjOk X.prog X.w H s.heap a (.frz o (.dK kvs)) from I.hok a _ ha)
  rw[ho]at h1;cases h1;rw[hd]at h3;cases h3;obtain⟨k,v,u,e1,e2,e3⟩:=sV r hi;obtain⟨e,f6,f7,f8⟩:=vZ h5 e2;obtain⟨f0,f1,f2,f3,f4,f5⟩:=hf it (by simp);refine K6 st ho hd (e:=e) (by simpa using f6) fun h' st' sb=> ?_;have I1:Inv X pins σ H { s with heap:=h' }:=I.turned (t':=s.toks) (fun b o hb e=>(sb.2 b hb).trans e) f0 f1 f3 f4 f5;exact⟨_,rfl,letGo_keyiter (s':={ s with heap:=h' }) st' ⟨kV k,H,I1,uO f7,⟨rfl,k,v,e1,rfl⟩,st',fun b hb=>(hf b hb).1⟩⟩
 done:=by
  intro X hP hw hK hc i pins s σ H E I hf st hg;subst hP hw hK;obtain⟨ha,hi⟩:=hg;obtain⟨ho,hok⟩:=(show ObjOk X.prog X.w H s.heap a (.frz o (.dK kvs)) from I.hok a _ ha)
  obtain⟨f0,f1,f2,f3,f4,f5⟩:=hf it (by simp);exact NV (I.ok.hd hc) st ho hd (by lia) fun h' eb=>⟨rfl,I.turned (t':=s.toks) (fun b o hb e=>eb b o hb e) f0 f1 f3 f4 f5⟩
 self:=fun _ _ _ _ _ st h=>wpAny_pyIter_keyiter st h
def GU (td:TE):TI:=fun σ H R=>td σ H fun x H1=>∃a kvs,x= .ref a/\H1 a=some (.dK kvs)/\∀o,R (Itk a o kvs) (upd H1 a (.frz o (.dK kvs)))
section
variable {X:Cx}{tg:Expr}
theorem rT {l:Expr}{td:TE} (hl:PE X l td):PI X tg l (GU td):=by
 intro pins s σ H R I h;refine thn (hl pins s σ H _ I h) fun v s1 ⟨x,H1,I1,r1,q1⟩=> ?_;obtain⟨a,kvs,rfl,hq,q⟩:=q1;cases r1;obtain⟨z,y,vs,r,o,es,ep,h1,h2,h3,h4,h5,h6⟩:=(show ObjOk X.prog X.w H1 s1.heap a (.dK kvs) from I1.hok a _ hq)
 have hz:es.size=kvs.length:=by rw[r.length,←h5.length];simp
 have new:ObjOk X.prog X.w (upd H1 a (.frz o (.dK kvs))) s1.heap a (.frz o (.dK kvs)):=⟨h1,z,y,vs,r,o,es,ep,h1,h2,h3,h4,h5,h6⟩
 have I2:Inv X pins σ (upd H1 a (.frz o (.dK kvs))) s1:=I1.freeze trivial hq h1 new;refine zU y h1 h2 h3 ?_;refine⟨s1.heap.objs.size,[s1.heap.objs.size],_,_,upd H1 a (.frz o (.dK kvs)),rfl,I2.kept (t':=s1.toks) fun b o e=>Heap.get?_push_of_some _ e,C4 a _ kvs h3 hz,⟨_,Heap.get?_push_size _ rfl,rfl,rfl⟩,fun b hb=> ?_,q o⟩;have e:b=s1.heap.objs.size:=by simpa using hb
 subst e;exact I2.fpOk (Nat.le_refl _) (I2.hok.fresh (Nat.le_refl _))
end
def Iti (a:Addr)(o:Obj)(kvs:List (Key×V)):It :=
 ⟨fun i H=>H a=some (.frz o (.dK kvs))/\i<kvs.length,fun i H x H'=>∃k v q,kvs[i]? =some (k,v)/\x= .ref q/\H q=none/\H'=upd H q (.tup [kV k,v]),fun i H=>H a=some (.frz o (.dK kvs))/\kvs.length<=i⟩
theorem A7 {P:Program}{w:World}{K:PySem.W.Frag}{elts:List Expr}{x1:Nat}{tpos:Pos} (a it:Addr) {o:Obj}{es:Array DictEntry}{ep:Nat} (kvs:List (Key×V)) (hd:o.data= .dict es ep) :
  nF P w K (.Tuple elts x1 tpos) (Iti a o kvs) [it] it (fun i h=>∃ok ov,IsItemIter h it a i kvs.length ep ok ov) where
 mem:=by simp
 obj:=fun i h st b hb=>by
  have e:b=it:=by simpa using hb
  subst e;obtain⟨ok,ov,e⟩:=st;exact⟨_,e,fun v z=>by cases z⟩
 keep:=fun i h h' st k=>let ⟨ok,ov,e⟩:=st;⟨ok,ov,k it (by simp) _ e⟩
 item:=by
  intro X hP hw hK hc i pins s σ H E I hf st hg;subst hP hw hK;obtain⟨ha,hi⟩:=hg;obtain⟨ok,ov,st⟩:=st;obtain⟨ho,z,y,vs,r,o',es',ep',h1,h2,h3,h4,h5,h6⟩:=(show ObjOk X.prog X.w H s.heap a (.frz o (.dK kvs)) from I.hok a _ ha)
  rw[ho]at h1;cases h1;rw[hd]at h3;cases h3;obtain⟨k,v,u,e1,e2,e3⟩:=sV r hi;obtain⟨f0,f1,f2,f3,f4,f5⟩:=hf it (by simp);have hl:=r.length;refine wpAny_pyNext_items_item (knd:=aU X.prog X.w) (kvs:=vs) (by rw[←hl];exact st) ⟨o,es,ho,h2,hd,h4,h5,h6⟩ e2 fun key h' kk st' ht hs kp=> ?_;refine⟨_,rfl,?_⟩;refine wpAny_letOwnedTupleGo_items (s:={ s with heap:=h' }) st' fun h'' st'' sb=> ?_;have hq:H s.heap.objs.size=none:=I.hok.fresh (Nat.le_refl _);have hne:s.heap.objs.size≠it:=fun z=>by
   have:=Heap.lt_size (show s.heap.get? it=some _ from st);rw[z]at this;exact Nat.lt_irrefl _ this
  have tup:Vals [kV k,v] [key,u]:= .cons (uO kk) (.cons e3 .nil);have I1:Inv X pins σ (upd H s.heap.objs.size (.tup [kV k,v])) { s with heap:=s.heap.push { cls:= .type "tuple",data:= .seq #[key,u] } } :=
   I.laid (t':=s.toks) (fun b u e=>Heap.get?_push_of_some _ e) (Nat.le_refl _) ⟨(show 2<=sizeLine by rw[sizeLine_eq];decide),[key,u],tup,⟨_,Heap.get?_push_size _ rfl,rfl,0,rfl⟩⟩
  have n0:upd H s.heap.objs.size (.tup [kV k,v]) it=none:=by rw[aJ (Ne.symm hne)];exact f0
  have I2:Inv X pins σ (upd H s.heap.objs.size (.tup [kV k,v])) { s with heap:=h'' }:=Inv.turned (s:={ s with heap:=s.heap.push { cls:= .type "tuple",data:= .seq #[key,u] } }) (h':=h'') (t':=s.toks) (it:=it) I1 (fun b o hb e=>by
   rcases Heap.get?_push_cases e with⟨rfl,rfl⟩|e
   ·exact(sb.2 _ hb).trans ht
   ·exact(sb.2 b hb).trans (kp b o hb e)) n0 f1 f3 f4 f5
  exact⟨.ref s.heap.objs.size,_,I2,rfl,⟨k,v,_,e1,rfl,hq,rfl⟩,⟨key,u,by rw[hl];exact st''⟩,fun b hb=>by
   have e:b=it:=by simpa using hb
   rw[e];exact n0⟩
 done:=by
  intro X hP hw hK hc i pins s σ H E I hf st hg;subst hP hw hK;obtain⟨ha,hi⟩:=hg;obtain⟨ok,ov,st⟩:=st;obtain⟨ho,z,y,vs,r,o',es',ep',h1,h2,h3,h4,h5,h6⟩:=(show ObjOk X.prog X.w H s.heap a (.frz o (.dK kvs)) from I.hok a _ ha)
  rw[ho]at h1;cases h1;rw[hd]at h3;cases h3;have hl:=r.length;obtain⟨f0,f1,f2,f3,f4,f5⟩:=hf it (by simp);exact wpAny_pyNext_items_end (knd:=aU X.prog X.w) (kvs:=vs) (I.ok.hd hc) (by rw[←hl];exact st) ⟨o,es,ho,h2,hd,h4,h5,h6⟩ (List.getElem?_eq_none (by lia)) fun h' eb=>⟨rfl,I.turned (t':=s.toks) (fun b o hb e=>eb b o hb e) f0 f1 f3 f4 f5⟩
 self:=fun A i s Q E st h=>by
  obtain⟨ok,ov,st⟩:=st;have T:s.TypeIs (.ref it) "dict_itemiterator" :=⟨_,st,rfl⟩
  refine wpAny_pyIter_slot T F.slot_dict_itemiterator_iter (wpAny_call_entry F.slot_dict_itemiterator_iter T oU ?_ (F.args_dict_itemiterator_iter_1 _));show wpAny _ _ (ret (.ref it)) _ _ s;exact wpAny_pure ⟨_,rfl,"dict_itemiterator",_,T,F.slot_dict_itemiterator_next.lookup,h⟩
def CU (td:TE):TI:=fun σ H R=>td σ H fun x H1=>∃a kvs,x= .ref a/\H1 a=some (.dK kvs)/\∀o,R (Iti a o kvs) (upd H1 a (.frz o (.dK kvs)))
section
variable {X:Cx}
theorem v8 {l:Expr}{td:TE}{elts:List Expr}{x1:Nat}{tpos apos cpos:Pos} (hl:PE X l td) (hbase:attributeBase l "items" X.env (eval l X.env)=eval l X.env:=by rfl) (hline:(apos.endLine==cpos.line)=true:=by rfl) :
  PI X (.Tuple elts x1 tpos) (.Call (.Attribute l "items" apos) [] [] cpos) (CU td):=by
 intro pins s σ H R I h;refine wpAny_Call_method0_late hbase hline (thn (hl pins s σ H _ I h) fun v s1 ⟨x,H1,I1,r1,q1⟩=> ?_);obtain⟨a,kvs,rfl,hq,q⟩:=q1;cases r1;obtain⟨t1,t2,_⟩:=zE I1 (.inl ⟨kvs,.inl hq⟩);refine⟨"dict","dict.items",F.plainAttrs_dict,F.slot_dict_items,F.type_dict_items,t1,t2,Calls.callWith_builtin rfl (PySem.evalArgs_none ?_)⟩;obtain⟨z,y,vs,r,o,es,ep,h1,h2,h3,h4,h5,h6⟩:=(show ObjOk X.prog X.w H1 s1.heap a (.dK kvs) from I1.hok a _ hq)
 have hL:=r.length;refine call_meetsIn F.slot_dict_items t1 F.entry_dict_items (F.args_dict_items_1 _) (meets_dict_items (aU X.prog X.w) a y) ⟨⟨vs,o,es,ep,h1,h2,h3,h4,h5,h6⟩,?_⟩;have new:ObjOk X.prog X.w (upd H1 a (.frz o (.dK kvs))) s1.heap a (.frz o (.dK kvs)):=⟨h1,z,y,vs,r,o,es,ep,h1,h2,h3,h4,h5,h6⟩
 have I2:Inv X pins σ (upd H1 a (.frz o (.dK kvs))) s1:=I1.freeze trivial hq h1 new;have I3:Inv X pins σ (upd H1 a (.frz o (.dK kvs))) { s1 with heap:=s1.heap.push { cls:= .type "dict_items",data:= .fields #[.ref a] } }:=I2.kept (t':=s1.toks) fun b o e=>Heap.get?_push_of_some _ e;refine wpAny_pyIter_items (knd:=aU X.prog X.w) (kvs:=vs) (ep:=ep) ⟨_,Heap.get?_push_size _ rfl,rfl,rfl⟩ ⟨o,es,Heap.get?_push_of_some _ h1,h2,h3,h4,h5,h6⟩ ?_;refine⟨_,[_],_,_,upd H1 a (.frz o (.dK kvs)),rfl,I3.kept (t':=s1.toks) fun b o e=>Heap.get?_push_of_some _ e,A7 a _ kvs h3,⟨.none,.none,by rw[hL];exact Heap.get?_push_size _ rfl⟩,fun b hb=> ?_,q o⟩;obtain rfl:=List.mem_singleton.mp hb;exact I3.fpOk (Nat.le_refl _) (I3.hok.fresh (Nat.le_refl _))
end
end L2
namespace L2
open PySem PySem.W PyProof.Rows
section
variable {X:Cx}{pins:List (Addr×Obj)}{σ:St}{H:Hp}{s:Shared}{a:Addr}{o:Obj}{u:HO}
theorem Inv.thaw (I:Inv X pins σ H s)(h0:∀o u,X.H₀ a≠some (.frz o u))(e:H a=some (.frz o u)):Inv X pins σ (upd H a u) s:=by
 have nn:∀b,H b=none->b≠a:=fun b n z=>by rw[z,e]at n;cases n
 have no:∀b c,H b=some (.own c)->b≠a:=fun b c n z=>by rw[z,e]at n;cases n
 have nt:∀b xs,H b=some (.tup xs)->b≠a:=fun b c n z=>by rw[z,e]at n;cases n
 refine⟨I.ok,I.os,I.bare,⟨I.base.keep,I.base.slot,fun b ob q n hx=> ?_,I.base.there,fun b xs q=> ?_,fun b ob xs q=> ?_,fun b ps q=> ?_⟩,I.loc,I.cell,?_,fun x c ec=> ?_,fun p hp=> ?_,fun b v q=> ?_,I.len⟩
 ·have z:=I.base.free b ob q n hx;rw[aJ (nn b z)];exact z
 ·have z:=I.base.tups b xs q;rw[aJ (nt b xs z)];exact z
 ·have z:=I.base.frzs b ob xs q;have hb:b≠a:=fun y=>h0 ob xs (by rw[←y];exact q);rw[aJ hb];exact z
 ·obtain⟨more,z⟩:=I.base.tbls b ps q;refine⟨more,?_⟩;rw[aJ (fun y=>by rw[y,e]at z;cases z)];exact z
 ·rw[aJ (nn _ I.free)];exact I.free
 ·rw[aJ (nn _ (I.freeC x c ec))];exact I.freeC x c ec
 ·obtain⟨p1,p2,p3⟩:=I.pin p hp;exact⟨p1,by rw[aJ (nn _ p2)];exact p2,p3⟩
 ·have so:∀b c,H b=some (.own c)->upd H a u b=some (.own c):=fun b c z=>by rw[aJ (no b c z)];exact z
  have st:∀b xs,H b=some (.tup xs)->upd H a u b=some (.tup xs):=fun b c z=>by rw[aJ (nt b c z)];exact z
  by_cases hb:b=a
  ·subst hb;rw[aV]at q;cases q;obtain⟨_,z⟩:=(show ObjOk X.prog X.w H s.heap b (.frz o u) from I.hok b _ e)
   exact z.stay (fun _ _ _ q=>q) (fun c z=>so c b z) st
  ·rw[aJ hb]at q;exact(I.hok b v q).stay (fun _ _ _ q=>q) (fun c z=>so c b z) st
theorem Inv.wasFree (I:Inv X pins σ H s)(h:∀o u,H a≠some (.frz o u)):∀o u,X.H₀ a≠some (.frz o u):=fun o u z=>h o u (I.base.frzs a o u z)
end
def fJ (a:Addr)(R:Hp->Prop):Hp->Prop:=fun H=>∃o u,H a=some (.frz o u)/\R (upd H a u)
def LS (te:TE):TE:=fun σ H Q=>∃a,(∀o u,H a≠some (.frz o u))/\te σ H fun x=>fJ a (Q x)
def LZ (ts:TS):TS:=fun D σ H=>∃a,(∀o u,H a≠some (.frz o u))/\ts ⟨fun σ'=>fJ a (D.nx σ'),fun v=>fJ a (D.rt v),fun σ'=>fJ a (D.bk σ'),fun σ'=>fJ a (D.ct σ')⟩ σ H
section
variable {X:Cx}
theorem qI {e:Expr}{te:TE} (he:PE X e te):PE X e (LS te):=by
 intro pins s σ H Q I h;obtain⟨a,h0,h⟩:=h;refine thn (he pins s σ H _ I h) fun v s1 ⟨x,H1,I1,r1,o,u,e,q⟩=> ?_;exact⟨x,_,I1.thaw (I.wasFree h0) e,r1,q⟩
theorem NS {st:Stmt}{ts:TS} (he:PS X st ts):PS X st (LZ ts):=by
 intro pins s σ H D I h;obtain⟨a,h0,h⟩:=h;refine thn (he pins s σ H _ I h) fun f s1 z=> ?_;cases f with
 | next=>obtain⟨σ1,H1,I1,o,u,e,q⟩:=z;exact⟨σ1,_,I1.thaw (I.wasFree h0) e,q⟩
 | brk=>obtain⟨σ1,H1,I1,o,u,e,q⟩:=z;exact⟨σ1,_,I1.thaw (I.wasFree h0) e,q⟩
 | cont=>obtain⟨σ1,H1,I1,o,u,e,q⟩:=z;exact⟨σ1,_,I1.thaw (I.wasFree h0) e,q⟩
 | ret v=>obtain⟨x,σ1,H1,I1,r,o,u,e,q⟩:=z;exact⟨x,σ1,_,I1.thaw (I.wasFree h0) e,r,q⟩
end
end L2
namespace L2
open PySem PySem.W PyProof.Rows
theorem zN:∀bs:List Bool,((List.range bs.length).any fun i=>bs.getD i false)=bs.any id
 | []=>rfl
 | b::bs=>by
  rw[List.length_cons,List.range_succ_eq_map,List.any_cons,List.any_map,List.any_cons,←zN bs];rfl
theorem tE:∀{ns:List Int}{us:List Value},Vals (ns.map V.int) us->∃xs:List (Int×Tok),us=xs.map (fun p=>Value.int p.1 p.2)/\ns=xs.map (·.1)
 | [],_,.nil=>⟨[],rfl,rfl⟩
 | n::ns,_,.cons r t=>by
  obtain⟨xs,rfl,rfl⟩:=tE t;obtain⟨tk,rfl⟩:=r;exact⟨(n,tk)::xs,rfl,rfl⟩
section
variable {X:Cx}
def SJ (K:PySem.W.Frag):List V->Hp->VK->Prop:=fun xs H Q=>∃(p:Addr) (bs:List Bool),xs=[.ref p]/\SqL K H p (bs.map V.bl)/\Q (.bl (bs.any id)) H
theorem vS (hc:X.calm=true):cJ X (.builtin "any") (SJ X.K):=by
 intro pins s σ H xs us Q I r h;obtain⟨p,bs,rfl,hq,q⟩:=h;obtain⟨u,rfl,rx⟩:=fT r;cases rx;obtain⟨its,r',pl,hz⟩:=I.list hq;have hl:=pl.isList;have hlt:p<s.heap.objs.size:=by obtain⟨_,e,_⟩:=hl;exact Heap.lt_size e
 have hlen:bs.length=its.length:=by have:=r'.length;rw[List.length_map]at this;exact this
 refine call_any_walk (wpAny_pyIter_list hl ?_);refine⟨s.heap.objs.size,_,_,its.toArray.size,_,_,fun i=>bs.getD i false,rfl,Walks.list (show X.A.in1.handled=none from I.ok.hd hc) s.heap.objs.size p (Nat.ne_of_lt hlt) its.toArray,⟨⟨_,Heap.get?_push_size _ rfl,rfl,rfl⟩,hl.push _⟩,?_,?_⟩
 ·intro i v s' Q' E' hi hQ;have hi':its[i]? =some v:=by simpa using hi
  have hib:i<bs.length:=by rw[hlen];exact(List.getElem?_eq_some_iff.mp hi').1
  obtain⟨u,hu,ru⟩:=r'.get (i:=i) (x:=V.bl bs[i]) (by rw[List.getElem?_map,List.getElem?_eq_getElem hib];rfl);rw[hi']at hu;cases hu;have:v=Value.bool bs[i]:=ru;subst this;refine wpAny_truthy_bool ?_;have eb:bs.getD i false=bs[i]:=by rw[List.getD_eq_getElem?_getD,List.getElem?_eq_getElem hib];rfl
  have hQ':Q' (bs.getD i false) s':=hQ;rw[eb]at hQ';exact hQ'
 ·intro h' tk hk;have eany:(List.range its.toArray.size).any (fun i=>bs.getD i false)=bs.any id:=by
   rw[List.size_toArray,←hlen];exact zN bs
  rw[eany];refine⟨.bl (bs.any id),H,?_,rfl,q⟩;have I1:Inv X pins σ H { s with heap:=s.heap.push { cls:= .type "list_iterator",data:= .fields #[.ref p,.int 0 0] },toks:=s.toks }:=I.kept fun b u e=>Heap.get?_push_of_some _ e;obtain⟨f0,f1,f2,f3,f4,f5⟩:=I.fpOk (Nat.le_refl _) (I.hok.fresh (Nat.le_refl _));exact I1.turned (fun b o hb e=>hk b o (by simpa using hb) e) f0 f1 f3 f4 f5
def JZ (K:PySem.W.Frag):List V->Hp->VK->Prop:=fun xs H Q=>∃(p:Addr) (ns:List Int),xs=[.ref p]/\SqL K H p (ns.map V.int)/\Q (.int ns.sum) H
theorem wA (hc:X.calm=true):cJ X (.builtin "sum") (JZ X.K):=by
 intro pins s σ H xs us Q I r h;obtain⟨p,ns,rfl,hq,q⟩:=h;obtain⟨u,rfl,rx⟩:=fT r;cases rx;obtain⟨its,r',pl,hz⟩:=I.list hq;obtain⟨zs,rfl,rfl⟩:=tE r';have hl:s.heap.IsList p (intItems zs.toArray):=by
  have:=pl.isList
  simpa [intItems] using this
 refine sum_intListG (I.ok.hd hc) hl fun h' tk t' hk=> ?_;have e2:preSum (numAt zs.toArray) zs.toArray.size=(zs.map (·.1)).sum:=by
  rw[preSum_eq,List.take_of_length_le (by simp)]
 rw[e2];exact⟨.int (zs.map (·.1)).sum,H,I.kept hk,⟨t',rfl⟩,q⟩
end
section
variable {K:PySem.W.Frag}{H:Hp}{Q:VK}
theorem GC {p:Addr}{bs:List Bool} (e:SqL K H p (bs.map V.bl)) (h:Q (.bl (bs.any id)) H):SJ K [.ref p] H Q:=⟨p,bs,rfl,e,h⟩
theorem FS {p:Addr}{ns:List Int} (e:SqL K H p (ns.map V.int)) (h:Q (.int ns.sum) H):JZ K [.ref p] H Q:=⟨p,ns,rfl,e,h⟩
end
theorem FH:bootBuiltins "any" =some (.builtin "any"):=by decide +kernel
theorem y8:bootBuiltins "sum" =some (.builtin "sum"):=by decide +kernel
end L2
namespace L2
open PySem PySem.W PyProof.Rows
theorem MP:typeLookup (.type "list") "keys" =pure none:=by rw[typeLookup_type,builtinLookup_eq_fast];kernel_rfl
theorem M8:typeLookup (.type "list") "__getattr__" =pure none:=by rw[typeLookup_type,builtinLookup_eq_fast];kernel_rfl
theorem zF:isSubtype (.type "AttributeError") (.type "AttributeError")=pure true:=by rw[isSubtype_type];kernel_rfl
theorem KR:((Manifest.find? "AttributeError").elim false fun t=>t.mro.contains "StopIteration" ||t.mro.contains "SystemExit")=false:=by decide +kernel
section
variable {prog:Program}{w:World}{A:Around}{E:Value->Shared->Prop}{s:Shared}
theorem HM {α:Type}{v:Value}{a:Addr}{Q:α->Shared->Prop} (hh:A.handled=none)
  (k:∀e h' tk' o,h'.get? e=some o->o.cls= .type "AttributeError" ->(∀b o,s.heap.get? b=some o->h'.get? b=some o)->E (.ref e) { s with heap:=h',toks:=tk' }) :
  wpAny (model prog w) A (do
   let e ←newExc (.type "AttributeError") [v];let l ←mkText "keys"
   noteAttr e (.ref a) l
   raiseNew e) Q E s:=by
 unfold newExc newTuple;refine wpAny_bind (wpAny_bind (wpAny_newObj_type (wpAny_bind (m:=firstArgMember _ _) (wpAny_of_eq (a:=Value.none) (by simp only[firstArgMember,KR];rfl) (wpAny_newObj_type ?_ (by size_fits)))) (by size_fits)));refine wpAny_bind (wpAny_mkText ?_);refine wpAny_bind ?_;unfold noteAttr;refine wpAny_bind ?_;unfold lacksNameAndObj;have e1:(#[Value.ref s.heap.objs.size,.none,.none,.none,.bool false,.none]++ownMembersOf (.type "AttributeError") [v]:Array Value)= #[Value.ref s.heap.objs.size,.none,.none,.none,.bool false,.none,unsetMember,unsetMember]:=rfl;rw[e1];generalize hs:s.heap.push { cls:=Value.type "tuple",data:=Data.seq #[v] }=h1;have ho:(h1.push { cls:= .type "AttributeError",data:= .fields #[Value.ref s.heap.objs.size,.none,.none,.none,.bool false,.none,unsetMember,unsetMember] }).get? h1.objs.size=some { cls:= .type "AttributeError",data:= .fields #[Value.ref s.heap.objs.size,.none,.none,.none,.bool false,.none,unsetMember,unsetMember] }:=Heap.get?_push_size _ rfl;refine wpAny_bind (wpAny_isInstance (b:=true) (T:= "AttributeError") ⟨_,ho,rfl⟩ zF ?_);refine wpAny_bind (wpAny_load ho ?_);refine wpAny_pure ?_;refine wpAny_bind (wpAny_rule ?_);refine wpAny_bind (wpAny_typeOf (T:= "AttributeError") ⟨_,ho,rfl⟩ ?_);unfold layMembers;refine wpAny_bind (wpAny_load ho ?_);refine wpAny_update ho ?_;simp only[raiseNew];refine wpAny_bind (wpAny_handled ?_);rw[hh];refine wpAny_bind (wpAny_pure (wpAny_throw ?_));refine k h1.objs.size _ _ _ (Heap.get?_update_self _ ho (Obj.isFreed_of_fields (Obj.data_mapFields rfl _))) (Obj.cls_mapFields ..) fun b o e=> ?_;have hb:b≠h1.objs.size:=fun z=>by
  have h2:h1.objs.size=s.heap.objs.size+1:=by rw[←hs];simp[Heap.push]
  have h3:=Heap.lt_size e;rw[z,h2]at h3;exact absurd h3 (Nat.not_lt.mpr (Nat.le_succ _))
 exact(Heap.get?_update_other _ _ (Ne.symm hb)).trans (Heap.get?_push_of_some _ (by rw[←hs];exact Heap.get?_push_of_some _ e))
theorem CZ {a:Addr}{its:Array Value}{n:Nat}{tk:Tok}{Q:Fin->Shared->Prop} (hh:A.handled=none) (hx:s.heap.get? a=some { cls:= .type "list",data:= .seq its n })
  (k:∀e h' tk' o,h'.get? e=some o->o.cls= .type "AttributeError" ->(∀b o,s.heap.get? b=some o->h'.get? b=some o)->E (.ref e) { s with heap:=h',toks:=tk' }) :
  wpAny (model prog w) A (Builtin.«object.__getattribute__» ⟨[.ref a,.str "keys" tk],[]⟩) Q E s:=by
 obtain⟨h,g,d,t,os⟩:=s;have hT:(⟨h,g,d,t,os⟩:Shared).TypeIs (.ref a) "list" :=⟨_,hx,rfl⟩
 have f4:=MP
 repeat (any_goals (first|assumption|wp_step))
 refine wpAny_bind (wpAny_mkStr ?_ (by rw[sizeLine_eq];decide +kernel));exact HM hh fun e h' tk' o e1 e2 e3=>k e h' tk' o e1 e2 e3
theorem E9 {a:Addr}{its:Array Value}{n:Nat}{tk:Tok}{R:Result->Shared->Prop} (hh:A.handled=none) (hx:s.heap.get? a=some { cls:= .type "list",data:= .seq its n })
  (k:∀e h' tk' o,h'.get? e=some o->o.cls= .type "AttributeError" ->(∀b o,s.heap.get? b=some o->h'.get? b=some o)->R (.error (.ref e)) { s with heap:=h',toks:=tk' }) :
  codeAny (model prog w) A (.call (.builtin "list.__getattribute__") ⟨[.ref a,.str "keys" tk],[]⟩) R s:=by
 obtain⟨h,g,d,t,os⟩:=s;exact codeAny_call_builtin F.slot_list_getattribute.plain F.entry_list_ga (F.slot_list_getattribute.check _ _ _ _ _ _ _ _ (show (⟨h,g,d,t,os⟩:Shared).TypeIs (.ref a) "list" from⟨_,hx,rfl⟩) (F.args_list_getattribute_2 _ _) (CZ hh hx k))
theorem OF {a:Addr}{its:Array Value}{n:Nat}{Q:Option Value->Shared->Prop} (hh:A.handled=none) (hx:s.heap.get? a=some { cls:= .type "list",data:= .seq its n })
  (k:∀h' tk',(∀b o,s.heap.get? b=some o->h'.get? b=some o)->Q none { s with heap:=h',toks:=tk' }):wpAny (model prog w) A (getAttr? (.ref a) "keys") Q E s:=by
 obtain⟨h,g,d,t,os⟩:=s;have hT:(⟨h,g,d,t,os⟩:Shared).TypeIs (.ref a) "list" :=⟨_,hx,rfl⟩
 have f2:=F.slot_list_getattribute.lookup;have f3:=F.slot_list_getattribute.bind (.ref a);unfold getAttr? getAttrBy?
 repeat (any_goals (first|assumption|wp_step))
 refine E9 hh hx fun e h' tk' o e1 e2 e3=> ?_;have hE:(⟨h',g,d,tk',os⟩:Shared).TypeIs (.ref e) "AttributeError" :=⟨_,e1,e2⟩
 show wpAny (model prog w) A (getattributeRaised (Value.ref a) (Value.str (Str.ofString "keys") t) (.type "list") (.ref e) none false false) _ _ (⟨h',g,d,tk',os⟩:Shared);unfold getattributeRaised;refine wpAny_bind (wpAny_isInstance (b:=true) hE zF ?_);show wpAny (model prog w) A (typeLookup (.type "list") "__getattr__" >>= fun x=>hookOrError (Value.ref a) (Value.str (Str.ofString "keys") t) (.ref e) false false x) _ _ (⟨h',g,d,tk',os⟩:Shared);rw[M8];refine wpAny_bind (wpAny_pure ?_);refine wpAny_throw ?_;refine wpAny_bind (wpAny_isInstance (b:=true) hE zF ?_);exact wpAny_pure (k h' tk' e3)
end
end L2
namespace L2
open PySem PySem.W PyProof.Rows
theorem mP:entryFor table "dict.update.loop" =some Builtin.«dict.update.loop»:=entryFor_of_tree (by kernel_rfl)
theorem fS:plainId "dict.update.loop" =true:=by decide +kernel
def F0 {κ:Type}[DecidableEq κ](kvs ps:List (κ×Value)):List (κ×Value):=ps.foldl (fun acc p=>stored acc p.1 p.2) kvs
theorem DR {κ:Type}[DecidableEq κ](kvs:List (κ×Value))(k:κ)(v:Value):(stored kvs k v).length<=kvs.length+1:=by
 unfold stored
 split
 ·rw[List.length_map];exact Nat.le_succ _
 ·rw[List.length_append];exact Nat.le_refl _
section
variable {prog:Program}{w:World}{A:Around}{E:Value->Shared->Prop}{κ:Type} [DecidableEq κ] {knd:KeyKind prog w κ}{I d:Addr}{fp wr:List Addr}{n:Nat}{P:Nat->Value->Prop}{St:Nat->Heap->Prop}{R:Result->Shared->Prop}
def TY (knd:KeyKind prog w κ)(d:Addr)(wr:List Addr)(P:Nat->Value->Prop)(ps:List (κ×Value))(h:Heap):Prop :=
 ∀i v,P i v->∃(q:Addr) (o:Obj) (key:Value) (k:κ) (u:Value) (c:Nat),v= .ref q/\q∉wr/\q≠d/\h.get? q=some o/\o.cls= .type "tuple" /\o.data= .seq #[key,u] c/\knd.is k key=true/\ps[i]? =some (k,u)
theorem KG (W:Walks prog w A.in1 I fp wr n P St)(hdf:d∉fp)(ps:List (κ×Value))(hn:ps.length=n)(hsz:n<=sizeLine) :
  ∀(k i:Nat) (s:Shared) (kvs:List (κ×Value)),n - i=k->i<=n->St i s.heap->kvs.length<=i->s.heap.DictOf knd d kvs->TY knd d wr P ps s.heap →
  (∀h' tk,h'.DictOf knd d (F0 kvs (ps.drop i))->(∀b o,b∉wr->b≠d->s.heap.get? b=some o->h'.get? b=some o)->R (.ok (.ret .none)) { s with heap:=h',toks:=tk }) →
  codeAny (model prog w) A (.builtin "dict.update.loop" ⟨[.ref d,.ref I,rawInt i,.none],[]⟩) R s:=by
 have hdw:d∉wr:=fun h=>hdf (W.sub _ h);intro k
 induction k with
 | zero =>
  intro i s kvs hk hi hst hl hd hrow hR;have hin:i=n:=by lia
  subst hin;refine codeAny_builtin mP ?_;rw[Around.under_plainId fS _];show wpAny _ A.in1 (pyNext (.ref I) >>= _) _ _ s;refine wpAny_bind (W.done s _ _ hst fun h' tk hk'=> ?_);show wpAny _ _ (Builtin.Dict.addKeywords d [] >>= _) _ _ _;refine wpAny_bind (wpAny_pure (wpAny_pure (hR h' tk ?_ fun b o hb _ e=>hk' b o hb e)));rw[List.drop_of_length_le (by lia)];exact hd.at fun o e=>hk' d o hdw e
 | succ k ih =>
  intro i s kvs hk hi hst hl hd hrow hR;have hlt:i<n:=by lia
  refine codeAny_builtin mP ?_;rw[Around.under_plainId fS _];show wpAny _ A.in1 (pyNext (.ref I) >>= _) _ _ s;refine wpAny_bind (W.item i s _ _ hlt hst fun v h' tk hP hst' hk'=> ?_);obtain⟨q,o,key,kk,u,c,rfl,hqw,hqd,ho,hc,hdt,his,hps⟩:=hrow i v hP;have ho':=hk' q o hqw ho;refine wpAny_bind (wpAny_holding (wpAny_bind (wpAny_tryCatch ?_)));unfold Builtin.Dict.pairItems;refine wpAny_bind (wpAny_typeOf (T:= "tuple") ⟨o,ho',hc⟩ ?_);rw[if_pos (by rfl)];refine wpAny_bind (wpAny_seqItems ho' hdt (wpAny_pure ?_));have hd':h'.DictOf knd d kvs:=hd.at fun o e=>hk' d o hdw e;refine wpAny_holding (wpAny_dictSet_pairs his hd' (fun h2 hd2 sb=> ?_) (by lia));have keep:∀b o,b∉wr->b≠d->s.heap.get? b=some o->h2.get? b=some o:=fun b o hb hbd e=>(sb.2 b hbd).trans (hk' b o hb e);refine wpAny_pure ⟨plainId_quiet fS _,ih (i+1) _ (stored kvs kk u) (by lia) hlt (W.frame _ _ _ hst' fun b hb o e=>(sb.2 b (fun z=>hdf (z▸hb))).trans e) (Nat.le_trans (DR ..) (by lia)) hd2 (fun j v hj=> ?_) fun h3 tk3 hd3 hk3=> ?_⟩
  ·obtain⟨q,o,key,kk,u,c,e1,e2,e3,e4,e5⟩:=hrow j v hj;exact⟨q,o,key,kk,u,c,e1,e2,e3,keep q o e2 e3 e4,e5⟩
  ·refine hR h3 tk3 ?_ fun b o hb hbd e=>hk3 b o hb hbd (keep b o hb hbd e);have ed:ps.drop i=(kk,u)::ps.drop (i+1):=by
    have hi2:i<ps.length:=by lia
    rw[List.drop_eq_getElem_cons hi2];have:=(List.getElem?_eq_some_iff.mp hps).2;rw[this]
   rw[ed];exact hd3
end
end L2
namespace L2
open PySem PySem.W PyProof.Rows
section
variable {prog:Program}{w:World}{A:Around}{E:Value->Shared->Prop}{κ:Type} [DecidableEq κ] {knd:KeyKind prog w κ}{s:Shared}{l:Addr}{its:Array Value}{c:Nat}
theorem HA {ps:List (κ×Value)}{Q:Value->Shared->Prop} (hh:A.handled=none) (hl:s.heap.get? l=some { cls:= .type "list",data:= .seq its c }) (hsz:its.size<=sizeLine) (hlen:ps.length=its.size)
  (hrow:∀(i:Nat) (v:Value),its[i]? =some v->∃(q:Addr) (o:Obj) (key:Value) (k:κ) (u:Value) (c:Nat),v= .ref q/\s.heap.get? q=some o/\o.cls= .type "tuple" /\o.data= .seq #[key,u] c/\knd.is k key=true/\ps[i]? =some (k,u))
  (h:∀h' tk,h'.DictOf knd s.heap.objs.size (F0 [] ps)->(∀b o,s.heap.get? b=some o->h'.get? b=some o)->Q (.ref s.heap.objs.size) { s with heap:=h',toks:=tk }) :
  wpAny (model prog w) A (call (.type "dict") [.ref l]) Q E s:=by
 refine callType_codes (Q₁:=fun obj s₁=>obj= .ref s.heap.objs.size/\s₁={ s with heap:=s.heap.push { cls:= .type "dict",data:= .dict #[] } }) F.kt_called_dict (F.kt_typeCall_dict_1 _) F.entry_dict_init (kt_code_dict_new _ ⟨rfl,rfl⟩) ?_;rintro obj s₁ ⟨rfl,rfl⟩;have hnew:(s.heap.push { cls:= .type "dict",data:= .dict #[] }).DictOf knd s.heap.objs.size []:=Heap.DictOf.new s.heap;have hl':(s.heap.push { cls:= .type "dict",data:= .dict #[] }).get? l=some { cls:= .type "list",data:= .seq its c }:=Heap.get?_push_of_some _ hl;refine⟨hnew.typeIs,F.args_dict_init_2 _ _,?_⟩;unfold Builtin.«dict.__init__»;refine wpAny_bind ?_;unfold Builtin.Dict.selfAndRest;refine wpAny_bind (wpAny_notOrdered_dict hnew.typeIs ?_);show wpAny _ _ (pure (s.heap.objs.size,[Value.ref l])) _ _ _;refine wpAny_pure ?_;show wpAny _ _ (Builtin.Dict.updateFrom "dict.__init__" s.heap.objs.size (.ref l) [] .none) _ _ _;unfold Builtin.Dict.updateFrom;refine wpAny_bind (wpAny_typeOf (T:= "list") ⟨_,hl',rfl⟩ ?_);rw[if_pos (by decide)];refine wpAny_bind (OF hh hl' fun h1 t1 kp1=> ?_);rw[if_pos (show (none:Option Value).isNone=true from rfl)];refine wpAny_bind (wpAny_rule ?_);have hl1:=kp1 _ _ hl';have isl:h1.IsList l its:=⟨_,hl1,rfl,_,rfl⟩
 have lt1:∀b o,s.heap.get? b=some o->b≠h1.objs.size:=fun b o e z=>by
  have:=Heap.lt_size (kp1 b o (Heap.get?_push_of_some _ e));rw[z]at this;exact Nat.lt_irrefl _ this
 have hdI:s.heap.objs.size≠h1.objs.size:=fun z=>by
  have:=Heap.lt_size (kp1 _ _ (Heap.get?_push_size s.heap (o:={ cls:= .type "dict",data:= .dict #[] }) rfl));rw[z]at this;exact Nat.lt_irrefl _ this
 have hdl:∀b o,s.heap.get? b=some o->b≠s.heap.objs.size:=fun b o e z=>by
  have:=Heap.lt_size e;rw[z]at this;exact Nat.lt_irrefl _ this
 refine wpAny_bind (wpAny_pyIter_list isl ?_);refine wpAny_pure ⟨plainId_quiet fS _,?_⟩;have W:=Walks.list (prog:=prog) (w:=w) (A:=A.in1.in1) hh h1.objs.size l (lt1 _ _ hl) its;refine KG (knd:=knd) W (by simp only[List.mem_cons,List.not_mem_nil,or_false,not_or];exact⟨hdI,Ne.symm (hdl _ _ hl)⟩) ps hlen hsz its.size 0 _ [] (Nat.sub_zero _) (Nat.zero_le _) ⟨⟨_,Heap.get?_push_size _ rfl,rfl,rfl⟩,isl.push _⟩ (Nat.le_refl _) ((hnew.at fun o e=>kp1 _ o e).push _) (fun i v hi=> ?_) fun h' tk hd hk=> ?_
 ·obtain⟨q,o,key,k,u,c',e1,e2,e3,e4,e5,e6⟩:=hrow i v hi;refine⟨q,o,key,k,u,c',e1,?_,hdl _ _ e2,Heap.get?_push_of_some _ (kp1 _ _ (Heap.get?_push_of_some _ e2)),e3,e4,e5,e6⟩;simp only[List.mem_cons,List.not_mem_nil,or_false];exact lt1 _ _ e2
 ·refine⟨rfl,h h' tk hd fun b o e=>hk b o ?_ (hdl _ _ e) (Heap.get?_push_of_some _ (kp1 _ _ (Heap.get?_push_of_some _ e)))⟩;simp only[List.mem_cons,List.not_mem_nil,or_false];exact lt1 _ _ e
end
end L2
namespace L2
open PySem PySem.W PyProof.Rows
abbrev yF (H:Hp):List V->List (Key×V)->Prop:=Paired fun v p=>∃q,v= .ref q/\H q=some (.tup [kV p.1,p.2])
section
variable {X:Cx}{pins:List (Addr×Obj)}{σ:St}{H:Hp}{s:Shared}
theorem JQ (I:Inv X pins σ H s){q:Addr}{k:Key}{x:V} (e:H q=some (.tup [kV k,x])):∃(o:Obj) (key u:Value) (n:Nat),s.heap.get? q=some o/\o.cls= .type "tuple" /\o.data= .seq #[key,u] n/\(aU X.prog X.w).is k key=true/\RelV x u:=by
 obtain⟨_,us,r,o,h1,h2,n,h3⟩:=(show ObjOk X.prog X.w H s.heap q (.tup [kV k,x]) from I.hok q _ e)
 cases r with
 | @cons _ key _ _ r1 r =>
  cases r with
  | @cons _ u _ _ r2 r =>
   cases r;exact⟨o,key,u,n,h1,h2,h3,nU r1,r2⟩
theorem tT (I:Inv X pins σ H s):∀{vs:List V}{ps:List (Key×V)}{us:List Value},yF H vs ps->Vals vs us →
  ∃rs:List (Key×Value),KV ps rs/\rs.length=us.length/\∀(i:Nat) (v:Value),us[i]? =some v->∃(q:Addr) (o:Obj) (key:Value) (k:Key) (u:Value) (c:Nat),v= .ref q/\s.heap.get? q=some o/\o.cls= .type "tuple" /\o.data= .seq #[key,u] c/\(aU X.prog X.w).is k key=true/\rs[i]? =some (k,u)
 | _,_,_,.nil,.nil=>⟨[],.nil,rfl,fun i v z=>by simp at z⟩
 | _::_,(k,x)::_,_::us,.cons ⟨q,e,hq⟩ t,.cons r rt=>by
  obtain⟨rs,h1,h2,h3⟩:=tT I t rt;obtain⟨o,key,u,n,o1,o2,o3,o4,o5⟩:=JQ I hq;subst e;cases r;refine⟨(k,u)::rs,.cons ⟨rfl,o5⟩ h1,by simp[h2],fun i v z=> ?_⟩;cases i with
  | zero=>cases z;exact⟨q,o,key,k,u,n,rfl,o1,o2,o3,o4,rfl⟩
  | succ i =>
   obtain⟨q,o,key,k,u,c,w1⟩:=h3 i v (by simpa using z);exact⟨q,o,key,k,u,c,by simpa using w1⟩
def FA:List V->Hp->VK->Prop:=fun xs H Q=>∃p vs ps,xs=[.ref p]/\Rd H p (.lst vs)/\yF H vs ps/\∀l,H l=none->Q (.ref l) (upd H l (.dK (hJ [] ps)))
theorem DF (hc:X.calm=true):cJ X (.type "dict") FA:=by
 intro pins s σ H xs us Q I r h;obtain⟨p,vs,ps,rfl,hq,pr,q⟩:=h;obtain⟨u,rfl,rx⟩:=fT r;cases rx;obtain⟨z,its,n,rv,e⟩:=(show ObjOk X.prog X.w H s.heap p (.lst vs) from hq.ok I.hok)
 obtain⟨rs,h1,h2,h3⟩:=tT I pr rv;have hl:=rv.length;have hlp:=h1.length;refine HA (knd:=aU X.prog X.w) (ps:=rs) (I.ok.hd hc) e (by rw[List.size_toArray];lia) (by rw[List.size_toArray];exact h2) (fun i v hv=>h3 i v (by simpa using hv)) fun h' tk hd kp=> ?_;have lm:(hJ [] ps).length<=sizeLine:=Nat.le_trans (oO ps []) (by simp;lia);have nm:(s.heap.objs.size==sysModules)=false:=by
  have:=I.big;simp only[beq_eq_false_iff_ne];exact fun z=>by rw[z]at this;exact Nat.lt_irrefl _ this
 exact⟨.ref _,_,I.laid (t':=tk) kp (Nat.le_refl _) (HD lm nm (KV.merge h1 .nil) hd),rfl,q _ (I.hok.fresh (Nat.le_refl _))⟩
end
end L2
namespace L2
open PySem PySem.W PyProof.Rows
section
variable {prog:Program}{w:World}{A:Around}{E:Value->Shared->Prop}{s:Shared}{d it:Addr}{o:Obj}{es:Array DictEntry}{ep i:Nat}{k0 v0:Value}
end
end L2
namespace L2
open PySem PySem.W PyProof.Rows
section
variable {prog:Program}{w:World}{A:Around}{E:Value->Shared->Prop}{s:Shared}{d it:Addr}{o:Obj}{es:Array DictEntry}{ep i:Nat}
end
section
variable {X:Cx}
end
end L2
namespace L2
open PySem PySem.W PyProof.Rows
section
variable (r:Nat->Int)
def rk (p:Array Nat)(i:Nat):Int:=r (p.getD i 0)
def Asc (p:Array Nat)(m:Nat):Prop:=∀i j,i<=j->j<m->rk r p i<=rk r p j
def cR (i j:Nat):Bool:=decide (r i<r j)
variable {r}{p:Array Nat}
theorem kB {p q:Array Nat}{i j:Nat} (h:p[i]? =q[j]?):rk r p i=rk r q j:=by
 unfold rk;rw[Array.getD_eq_getD_getElem?,Array.getD_eq_getD_getElem?,h]
theorem v4 {src d:Nat}(hs:src<p.size)(hd:d<=src)(k:Nat):rk r (bubble p src d) k=if k=src - d then rk r p src else if src - d<k/\k<=src then rk r p (k - 1) else rk r p k:=by
 have e:=getElem?_bubble hs d hd k
 split
 ·rename_i h;rw[if_pos h]at e;exact kB e
 ·rename_i h;rw[if_neg h]at e
  split
  ·rename_i h2;rw[if_pos h2]at e;exact kB e
  ·rename_i h2;rw[if_neg h2]at e;exact kB e
theorem iJ {α β:Type}(c:Nat->Nat->Bool)(f:α->KasT β):∀t:KasT α,aP c (t.bind f)=aP c (f (aP c t))
 | .ret _=>rfl
 | .ask i j k=>iJ c f (k (c i j))
theorem sF {k:Nat}(hk:Asc r p k):∀(f a b:Nat),a<=b->b<=k->b - a<=f->(∀i,i<a->rk r p i<=rk r p k)->(∀i,b<=i->i<k->rk r p k<rk r p i) →
  aP (cR r) (kas_place p k f a b)<=k/\(∀i,i<aP (cR r) (kas_place p k f a b)->rk r p i<=rk r p k)/\∀i,aP (cR r) (kas_place p k f a b)<=i->i<k->rk r p k<rk r p i
 | 0,a,b,h1,h2,h3,h4,h5=>by
  have e:aP (cR r) (kas_place p k 0 a b)=a:=rfl;rw[e];exact⟨by lia,h4,fun i hi=>h5 i (by lia)⟩
 | f+1,a,b,h1,h2,h3,h4,h5=>by
  unfold kas_place
  by_cases hab:a≥b
  ·rw[if_pos hab];show a<=k/\(∀i,i<a->_)/\∀i,a<=i->i<k->_;exact⟨by lia,h4,fun i hi=>h5 i (by lia)⟩
  ·rw[if_neg hab];have ea:aP (cR r) (KasT.ask (p.getD k 0) (p.getD ((a+b)/2) 0) fun c=>if c=true then kas_place p k f a ((a+b)/2) else kas_place p k f ((a+b)/2+1) b) =
    aP (cR r) (if cR r (p.getD k 0) (p.getD ((a+b)/2) 0)=true then kas_place p k f a ((a+b)/2) else kas_place p k f ((a+b)/2+1) b):=rfl
   rw[ea]
   by_cases hc:cR r (p.getD k 0) (p.getD ((a+b)/2) 0)=true
   ·rw[if_pos hc];have hc':rk r p k<rk r p ((a+b)/2):=of_decide_eq_true hc;refine sF hk f a ((a+b)/2) (by lia) (by lia) (by lia) h4 fun i hi hik=> ?_;have:=hk ((a+b)/2) i hi hik
    lia
   ·rw[if_neg hc];have hc':¬rk r p k<rk r p ((a+b)/2):=fun z=>hc (decide_eq_true z);refine sF hk f ((a+b)/2+1) b (by lia) h2 (by lia) (fun i hi=> ?_) h5;have:=hk i ((a+b)/2) (by lia) (by lia)
    lia
theorem DI {k l:Nat}(hs:k<p.size)(hk:Asc r p k)(hl:l<=k)(h1:∀i,i<l->rk r p i<=rk r p k)(h2:∀i,l<=i->i<k->rk r p k<rk r p i):Asc r (bubble p k (k - l)) (k+1):=by
 intro i j hij hj;rw[v4 hs (by lia),v4 hs (by lia),show k - (k - l)=l by lia]
 by_cases e1:i=l
 ·rw[if_pos e1]
  by_cases e2:j=l
  ·rw[if_pos e2];exact Int.le_refl _
  ·rw[if_neg e2];rw[if_pos (by lia)];have:=h2 (j - 1) (by lia) (by lia)
   lia
 ·rw[if_neg e1]
  by_cases e2:j=l
  ·rw[if_pos e2,if_neg (by lia)];exact h1 i (by lia)
  ·rw[if_neg e2]
   by_cases e3:l<i
   ·rw[if_pos (by lia),if_pos (by lia)];exact hk (i - 1) (j - 1) (by lia) (by lia)
   ·rw[if_neg (by lia)]
    by_cases e4:l<j
    ·rw[if_pos (by lia)];exact hk i (j - 1) (by lia) (by lia)
    ·rw[if_neg (by lia)];exact hk i j hij (by lia)
theorem GS {n:Nat}:∀(f:Nat) {p:Array Nat} (k:Nat),p.size=n->k+f=n->Asc r p k->Asc r (aP (cR r) (kas_bin f p k)) n
 | 0,p,k,hs,hk,h=>by
  have e:k=n:=by lia
  rw[←e];exact h
 | f+1,p,k,hs,hk,h=>by
  unfold kas_bin;rw[iJ];obtain⟨h1,h2,h3⟩:=sF h k 0 k (Nat.zero_le _) (Nat.le_refl _) (by lia) (fun i hi=>by lia) (fun i h1 h2=>by lia);exact GS f (k+1) ((bubble_size _ _ _).trans hs) (by lia) (DI (by lia) h h1 h2 h3)
theorem zQ:∀(f k:Nat),1<=k->Asc r p k->k<=aP (cR r) (kas_asc p f k)/\aP (cR r) (kas_asc p f k)<=k+f/\Asc r p (aP (cR r) (kas_asc p f k))/\(aP (cR r) (kas_asc p f k)<k+f->rk r p (aP (cR r) (kas_asc p f k))<rk r p (aP (cR r) (kas_asc p f k) - 1))
 | 0,k,h0,h=>by
  show k<=k/\k<=k+0/\Asc r p k/\(k<k+0->_);exact⟨Nat.le_refl _,Nat.le_refl _,h,fun z=>by lia⟩
 | f+1,k,h0,h=>by
  unfold kas_asc;have ea:aP (cR r) (KasT.ask (p.getD k 0) (p.getD (k - 1) 0) fun c=>if c=true then .ret k else kas_asc p f (k+1))=aP (cR r) (if cR r (p.getD k 0) (p.getD (k - 1) 0)=true then .ret k else kas_asc p f (k+1)):=rfl;rw[ea]
  by_cases hc:cR r (p.getD k 0) (p.getD (k - 1) 0)=true
  ·rw[if_pos hc];show k<=k/\k<=k+(f+1)/\Asc r p k/\(k<k+(f+1)->rk r p k<rk r p (k - 1));exact⟨Nat.le_refl _,by lia,h,fun _=>of_decide_eq_true hc⟩
  ·rw[if_neg hc];have hc':¬rk r p k<rk r p (k - 1):=fun z=>hc (decide_eq_true z);have h':Asc r p (k+1):=fun i j hij hj=>by
    by_cases e:j=k
    ·subst e
     by_cases e2:i=j
     ·subst e2;exact Int.le_refl _
     ·have:=h i (j - 1) (by lia) (by lia)
      lia
    ·exact h i j hij (by lia)
   obtain⟨a1,a2,a3,a4⟩:=zQ f (k+1) (by lia) h';exact⟨by lia,by lia,a3,fun z=>a4 (by lia)⟩
end
end L2
namespace L2
open PySem PySem.W PyProof.Rows
section
variable {r:Nat->Int}{p:Array Nat}
def Dif (r:Nat->Int)(p:Array Nat):Prop:=∀i j,i<p.size->j<p.size->rk r p i=rk r p j->i=j
def Dsc (r:Nat->Int)(p:Array Nat)(m:Nat):Prop:=∀i j,i<j->j<m->rk r p j<rk r p i
theorem FP {m:Nat}(hm:m<=p.size)(k:Nat):rk r (kas_rev p 0 m) k=if k<m then rk r p (m - 1 - k) else rk r p k:=by
 have e:=getElem?_mirror_all (i:=0) hm k
 split
 ·rename_i h;rw[if_pos ⟨Nat.zero_le _,h⟩,Nat.zero_add]at e;exact kB e
 ·rename_i h;rw[if_neg (by lia)]at e;exact kB e
theorem BV (hd:Dif r p):∀(f k:Nat),1<=k->k+f<=p.size->Dsc r p k->∃m,aP (cR r) (kas_desc f p k 0)=(p,m,0)/\k<=m/\m<=k+f/\Dsc r p m
 | 0,k,h0,h1,h=>⟨k,rfl,Nat.le_refl _,Nat.le_refl _,h⟩
 | f+1,k,h0,h1,h=>by
  unfold kas_desc
  by_cases hc:cR r (p.getD k 0) (p.getD (k - 1) 0)=true
  ·have hc':rk r p k<rk r p (k - 1):=of_decide_eq_true hc;have h':Dsc r p (k+1):=fun i j hij hj=>by
    by_cases e:j=k
    ·subst e
     by_cases e2:i=j - 1
     ·subst e2;exact hc'
     ·have:=h i (j - 1) (by lia) (by lia)
      lia
    ·exact h i j hij (by lia)
   obtain⟨m,e,a1,a2,a3⟩:=BV hd f (k+1) (by lia) (by lia) h';refine⟨m,?_,by lia,by lia,a3⟩;rw[←e];show aP (cR r) (if cR r (p.getD k 0) (p.getD (k - 1) 0)=true then _ else _)=_;rw[if_pos hc];rfl
  ·have hc':¬rk r p k<rk r p (k - 1):=fun z=>hc (decide_eq_true z);have hn:rk r p (k - 1)<rk r p k:=by
    have h2:rk r p (k - 1)≠rk r p k:=fun z=>by
     have:=hd (k - 1) k (by lia) (by lia) z
     lia
    lia
   refine⟨k,?_,Nat.le_refl _,by lia,h⟩;show aP (cR r) (if cR r (p.getD k 0) (p.getD (k - 1) 0)=true then _ else _)=_;rw[if_neg hc];show aP (cR r) (if cR r (p.getD (k - 1) 0) (p.getD k 0)=true then _ else _)=_;rw[if_pos (show cR r (p.getD (k - 1) 0) (p.getD k 0)=true from decide_eq_true hn)];rfl
theorem IK {m n:Nat}(h1:1<=m)(hm:m<=n)(hs:p.size=n)(h:Dsc r p m):∃a q,aP (cR r) (kas_tail3 m n p)=(a,q)/\a<=n/\q.size=n/\Asc r q a:=by
 have hasc:Asc r (kas_rev p 0 m) m:=fun i j hij hj=>by
  rw[FP (by lia),FP (by lia),if_pos (by lia),if_pos hj]
  by_cases e:i=j
  ·subst e;exact Int.le_refl _
  ·exact Int.le_of_lt (h (m - 1 - j) (m - 1 - i) (by lia) (by lia))
 obtain⟨a1,a2,a3,_⟩:=zQ (n - m) m h1 hasc;refine⟨_,kas_rev p 0 m,by unfold kas_tail3;rw[iJ];rfl,by lia,(mirror_size _ _ _ _).trans hs,a3⟩
theorem JW {n:Nat}(hn:1<=n)(hs:p.size=n)(hd:Dif r p):∃a q,aP (cR r) (kas_count n p)=(a,q)/\a<=n/\q.size=n/\Asc r q a:=by
 have h0:Asc r p 1:=fun i j hij hj=>by
  have:i=j:=by lia
  subst this;exact Int.le_refl _
 obtain⟨a1,a2,a3,a4⟩:=zQ (n - 1) 1 (Nat.le_refl _) h0;unfold kas_count;rw[iJ];generalize aP (cR r) (kas_asc p (n - 1) 1)=k at a1 a2 a3 a4 ⊢
 by_cases e1:k=n
 ·rw[if_pos (by rw[e1];exact beq_self_eq_true _)];exact⟨k,p,rfl,by lia,hs,a3⟩
 ·rw[if_neg (by rw[beq_iff_eq];exact e1)]
  by_cases e2:k>1
  ·rw[if_pos e2];have hlt:rk r p 0<rk r p (k - 1):=by
    have h2:=a3 0 (k - 1) (Nat.zero_le _) (by lia);have h3:rk r p 0≠rk r p (k - 1):=fun z=>by
     have:=hd 0 (k - 1) (by lia) (by lia) z
     lia
    lia
   refine⟨k,p,?_,by lia,hs,a3⟩;show aP (cR r) (if cR r (p.getD 0 0) (p.getD (k - 1) 0)=true then _ else _)=_;rw[if_pos (show cR r (p.getD 0 0) (p.getD (k - 1) 0)=true from decide_eq_true hlt)];rfl
  ·rw[if_neg e2];have ek:k=1:=by lia
   subst ek;have h10:rk r p 1<rk r p 0:=a4 (by lia);unfold kas_descPart;rw[iJ];obtain⟨m,e,b1,b2,b3⟩:=BV hd (n - (1+1)) (1+1) (by lia) (by lia) (fun i j hij hj=>by
    have:i=0/\j=1:=by lia
    rw[this.1,this.2];exact h10)
   rw[e];have hmn:m<=n:=by
    have:2<=n:=by lia
    lia
   exact IK (p:=p) (m:=m) (n:=n) (by lia) hmn hs b3
theorem KS {n:Nat}(hn:1<=n)(hr:∀i j,i<n->j<n->r i=r j->i=j):Asc r (aP (cR r) (kas_sort n)) n:=by
 unfold kas_sort;rw[iJ];have hs:(List.range n).toArray.size=n:=by simp
 have eg:∀i,i<n->(List.range n).toArray.getD i 0=i:=fun i hi=>by simp[Array.getD,hi]
 obtain⟨a,q,e,h1,h2,h3⟩:=JW (r:=r) hn hs (fun i j hi hj z=>by
  unfold rk at z;rw[hs]at hi hj;rw[eg i hi,eg j hj]at z;exact hr i j hi hj z)
 rw[e]
 by_cases hlt:a<n
 ·show Asc r (aP (cR r) (if a<n then _ else _)) n;rw[if_pos hlt];refine GS _ _ h2 (by lia) fun i j hij hj=> ?_
  by_cases ha:a=0
  ·have:i=j:=by lia
   subst this;exact Int.le_refl _
  ·exact h3 i j hij (by lia)
 ·show Asc r (aP (cR r) (if a<n then _ else _)) n;rw[if_neg hlt];have:a=n:=by lia
  rw[←this];exact h3
end
end L2
namespace L2
open PySem PySem.W PyProof.Rows
theorem wR {α:Type}{n:Nat}{R:α->Prop}{c c':Nat->Nat->Bool} (h:∀i j,i<n->j<n->c i j=c' i j):∀{t:KasT α},KasIn n R t->aP c t=aP c' t
 | .ret _,_=>rfl
 | .ask i j k,q=>by
  show aP c (k (c i j))=aP c' (k (c' i j));rw[h i j q.1 q.2.1];exact wR h (q.2.2 _)
theorem v9 {α:Type}{p q:α->Bool}:∀{l:List α},(∀y∈l,p y=true->q y=true)->(∃x∈l,q x=true/\p x=false)->l.countP p<l.countP q
 | [],_,⟨x,hx,_⟩=>nomatch hx
 | a::l,h,⟨x,hx,h1,h2⟩=>by
  have hl:l.countP p<=l.countP q:=List.countP_mono_left fun y hy=>h y (List.mem_cons_of_mem _ hy);rcases List.mem_cons.mp hx with e|hx
  ·subst e;rw[List.countP_cons_of_pos h1,List.countP_cons_of_neg (by rw[h2];exact Bool.false_ne_true)]
   lia
  ·have ih:=v9 (fun y hy=>h y (List.mem_cons_of_mem _ hy)) ⟨x,hx,h1,h2⟩;cases hp:p a with
   | true =>
    rw[List.countP_cons_of_pos hp,List.countP_cons_of_pos (h a (.head _) hp)]
    lia
   | false =>
    rw[List.countP_cons_of_neg (by rw[hp];exact Bool.false_ne_true)];cases hq:q a with
    | true=>rw[List.countP_cons_of_pos hq];lia
    | false=>rw[List.countP_cons_of_neg (by rw[hq];exact Bool.false_ne_true)];exact ih
structure Ord {α:Type}(lt:α->α->Bool)(l:List α):Prop where
 irr:∀x∈l,lt x x=false
 tr:∀x∈l,∀y∈l,∀z∈l,lt x y=true->lt y z=true->lt x z=true
 tot:∀x∈l,∀y∈l,x≠y->lt x y=true∨lt y x=true
section
variable {α:Type}{lt:α->α->Bool}{l:List α}{d:α}
theorem c9 {i:Nat}(h:i<l.length):l.getD i d∈l:=by
 rw[List.getD_eq_getElem?_getD,List.getElem?_eq_getElem h];exact List.getElem_mem h
theorem nX (nd:l.Nodup){i j:Nat}(hi:i<l.length)(hj:j<l.length)(e:l.getD i d=l.getD j d):i=j:=by
 rw[List.getD_eq_getElem?_getD,List.getElem?_eq_getElem hi,List.getD_eq_getElem?_getD,List.getElem?_eq_getElem hj]at e;have hp:=List.pairwise_iff_getElem.mp nd;rcases Nat.lt_trichotomy i j with h|h|h
 ·exact absurd e (hp i j hi hj h)
 ·exact h
 ·exact absurd e.symm (hp j i hj hi h)
theorem E8 (o:Ord lt l)(nd:l.Nodup)(h2:2<=l.length):∀i j,i<j->j<l.length->lt (l.getD ((aP (fun i j=>lt (l.getD i d) (l.getD j d)) (kas_sort l.length)).getD i 0) d) (l.getD ((aP (fun i j=>lt (l.getD i d) (l.getD j d)) (kas_sort l.length)).getD j 0) d)=true:=by
 let r:Nat->Int:=fun i=>((l.countP fun y=>lt y (l.getD i d):Nat):Int)
 have hlt:∀i j,i<l.length->j<l.length->lt (l.getD i d) (l.getD j d)=true->r i<r j:=fun i j hi hj h=>by
  have:=v9 (l:=l) (p:=fun y=>lt y (l.getD i d)) (q:=fun y=>lt y (l.getD j d)) (fun y hy h'=>o.tr y hy _ (c9 hi) _ (c9 hj) h' h) ⟨l.getD i d,c9 hi,h,o.irr _ (c9 hi)⟩;exact Int.ofNat_lt.mpr this
 have hrc:∀i j,i<l.length->j<l.length->(fun i j=>lt (l.getD i d) (l.getD j d)) i j=cR r i j:=fun i j hi hj=>by
  show lt (l.getD i d) (l.getD j d)=decide (r i<r j);cases e:lt (l.getD i d) (l.getD j d) with
  | true=>rw[decide_eq_true (hlt i j hi hj e)]
  | false =>
   rw[decide_eq_false];intro z
   by_cases e2:l.getD i d=l.getD j d
   ·rw[nX nd hi hj e2]at z;exact absurd z (Int.lt_irrefl _)
   ·rcases o.tot _ (c9 hi) _ (c9 hj) e2 with h|h
    ·rw[h]at e;cases e
    ·have:=hlt j i hj hi h
     lia
 have hinj:∀i j,i<l.length->j<l.length->r i=r j->i=j:=fun i j hi hj e=>by
  by_cases e2:l.getD i d=l.getD j d
  ·exact nX nd hi hj e2
  ·rcases o.tot _ (c9 hi) _ (c9 hj) e2 with h|h
   ·have:=hlt i j hi hj h;lia
   ·have:=hlt j i hj hi h;lia
 rw[wR hrc (u3 (by lia))];have hs:=KS (n:=l.length) (by lia) hinj;have hp:=dA (n:=l.length) (cR r) (by lia);generalize aP (cR r) (kas_sort l.length)=q at hs hp;intro i j hij hj;have hqs:q.size=l.length:=by have:=hp.size_eq;simpa using this
 have li:=hp.lt (by lia) i;have lj:=hp.lt (by lia) j;have hne:q.getD i 0≠q.getD j 0:=fun z=>by
  have hnd:q.toList.Nodup:=by
   have h1:=Array.perm_iff_toList_perm.mp hp;exact h1.nodup_iff.mpr (by simpa using List.nodup_range)
  have ei:q.getD i 0=q.toList.getD i 0:=by simp[Array.getD,List.getD_eq_getElem?_getD,show i<q.size by lia]
  have ej:q.getD j 0=q.toList.getD j 0:=by simp[Array.getD,List.getD_eq_getElem?_getD,show j<q.size by lia]
  rw[ei,ej]at z;have:=nX hnd (by rw[Array.length_toList];lia) (by rw[Array.length_toList];lia) z
  lia
 have hle:=hs i j (by lia) (by lia);have e3:l.getD (q.getD i 0) d≠l.getD (q.getD j 0) d:=fun z=>hne (nX nd li lj z);rcases o.tot _ (c9 li) _ (c9 lj) e3 with h|h
 ·exact h
 ·have:=hlt _ _ lj li h;unfold rk at hle
  lia
theorem pI (c:Nat->Nat->Bool):(bW d c l).Perm l:=by
 unfold bW
 split
 ·exact List.Perm.refl _
 ·have h:=Array.perm_iff_toList_perm.mp (dA (n:=l.length) c (by lia));refine(h.map fun i=>l.getD i d).trans ?_;have e:((List.range l.length).toArray.toList.map fun i=>l.getD i d)=l:=by
   apply List.ext_getElem?
   intro i
   by_cases hi:i<l.length
   ·simp[hi,List.getD_eq_getElem?_getD]
   ·simp[hi]
  rw[e]
theorem EA (o:Ord lt l)(nd:l.Nodup):(bW d (fun i j=>lt (l.getD i d) (l.getD j d)) l).Pairwise fun x y=>lt x y=true:=by
 unfold bW
 split
 ·rename_i h
  match l,h with
  | [],_=>exact .nil
  | [x],_=>exact List.pairwise_singleton _ _
 ·rename_i h;have ha:=E8 (d:=d) o nd (by lia);have hp:=dA (n:=l.length) (fun i j=>lt (l.getD i d) (l.getD j d)) (by lia);generalize aP (fun i j=>lt (l.getD i d) (l.getD j d)) (kas_sort l.length)=q at ha hp;have hqs:q.size=l.length:=by have:=hp.size_eq;simpa using this
  rw[List.pairwise_iff_getElem];intro i j hi hj hij;rw[List.length_map,Array.length_toList]at hi hj;have:=ha i j hij (by lia)
  simpa [Array.getD,hi,hj] using this
theorem CP:∀{l k:List α},(∀x∈l,lt x x=false)->(∀x∈l,∀y∈l,∀z∈l,lt x y=true->lt y z=true->lt x z=true)->l.Perm k->l.Pairwise (fun x y=>lt x y=true)->k.Pairwise (fun x y=>lt x y=true)->l=k
 | [],k,_,_,hp,_,_=>(List.nil_perm.mp hp).symm
 | a::l,[],_,_,hp,_,_=>nomatch (List.perm_nil.mp hp)
 | a::l,b::k,hi,ht,hp,h1,h2=>by
  have ha:a∈b::k:=hp.mem_iff.mp (.head _);have hb:b∈a::l:=hp.mem_iff.mpr (.head _);have e:a=b:=by
   rcases List.mem_cons.mp ha with e|ha'
   ·exact e
   ·rcases List.mem_cons.mp hb with e|hb'
    ·exact e.symm
    ·have q1:=(List.pairwise_cons.mp h2).1 a ha';have q2:=(List.pairwise_cons.mp h1).1 b hb';have:=ht a (.head _) b hb a (.head _) q2 q1;rw[hi a (.head _)]at this;cases this
  subst e;rw[CP (fun x hx=>hi x (List.mem_cons_of_mem _ hx)) (fun x hx y hy z hz=>ht x (List.mem_cons_of_mem _ hx) y (List.mem_cons_of_mem _ hy) z (List.mem_cons_of_mem _ hz)) (List.perm_cons a |>.mp hp) (List.pairwise_cons.mp h1).2 (List.pairwise_cons.mp h2).2]
end
end L2
namespace L2
open PySem PySem.W PyProof.Rows
def ltS (x y:Str):Bool:=decide (x.cps.toList<y.cps.toList)
theorem K4 {x y:Str}(h:x.cps.toList=y.cps.toList):x=y:=by
 cases x;cases y
 congr 1
 exact Array.toList_inj.mp h
theorem NR (x:Str):ltS x x=false:=decide_eq_false (List.lt_irrefl _)
theorem R0 {x y z:Str}(h1:ltS x y=true)(h2:ltS y z=true):ltS x z=true:=decide_eq_true (List.lt_trans (of_decide_eq_true h1) (of_decide_eq_true h2))
theorem OQ {x y:Str}(h:x≠y):ltS x y=true∨ltS y x=true:=by
 by_cases h1:x.cps.toList<y.cps.toList
 ·exact .inl (decide_eq_true h1)
 ·by_cases h2:y.cps.toList<x.cps.toList
  ·exact .inr (decide_eq_true h2)
  ·exact absurd (K4 (List.le_antisymm (List.not_lt.mp h2) (List.not_lt.mp h1))) h
def yG (ss:List Str):List Str:=bW Str.empty (fun i j=>ltS (ss.getD i Str.empty) (ss.getD j Str.empty)) ss
theorem EK (ss:List Str):(yG ss).Perm ss:=pI _
theorem BB {α β:Type}(f:α->β)(d:α)(e:β)(c:Nat->Nat->Bool)(l:List α):bW e c (l.map f)=(bW d c l).map f:=by
 unfold bW;rw[List.length_map]
 split
 ·rfl
 ·rename_i h;rw[List.map_map]
  apply List.map_congr_left
  intro i hi;have h':=(dA (n:=l.length) c (by lia)).mem_iff.mp (Array.mem_toList_iff.mp hi);have hl:i<l.length:=by simpa using h'
  show (l.map f).getD i e=f (l.getD i d);rw[List.getD_eq_getElem?_getD,List.getD_eq_getElem?_getD,List.getElem?_map,List.getElem?_eq_getElem hl];rfl
section
variable {X:Cx}
end
def tH (rs:List (List Key)):Prop:=∃sh,∀r∈rs,r.map c8=sh
theorem GM (a:Key):eV a a=false:=by
 cases a with
 | inl i=>exact decide_eq_false (Int.lt_irrefl _)
 | inr x=>exact NR x
theorem K7 {a b c:Key}(h1:eV a b=true)(h2:eV b c=true):eV a c=true:=by
 cases a<;>cases b<;>cases c<;>first|(cases h1;done)|(cases h2;done)|skip
 ·exact decide_eq_true (Int.lt_trans (of_decide_eq_true h1) (of_decide_eq_true h2))
 ·exact R0 h1 h2
theorem FZ {a b:Key}(k:c8 a=c8 b)(h:a≠b):eV a b=true∨eV b a=true:=by
 cases a<;>cases b<;>first|(cases k;done)|skip
 ·rename_i i j;have hij:i≠j:=fun z=>h (by rw[z]);rcases Int.lt_or_gt_of_ne hij with z|z
  ·exact .inl (decide_eq_true z)
  ·exact .inr (decide_eq_true z)
 ·rename_i x y;exact OQ fun z=>h (by rw[z])
theorem sK:∀a:List Key,eO a a=false
 | []=>rfl
 | a::as=>by
  show (if a=a then eO as as else eV a a)=false;rw[if_pos rfl];exact sK as
theorem z9:∀{a b:List Key},a.map c8=b.map c8->a≠b->eO a b=true∨eO b a=true
 | [],[],_,h=>absurd rfl h
 | [],_::_,k,_=>by cases k
 | _::_,[],k,_=>by cases k
 | a::as,b::bs,k,h=>by
  show (if a=b then eO as bs else eV a b)=true∨(if b=a then eO bs as else eV b a)=true
  by_cases e:a=b
  ·subst e;rw[if_pos rfl,if_pos rfl];exact z9 (List.cons.inj k).2 fun z=>h (by rw[z])
  ·rw[if_neg e,if_neg (fun z=>e z.symm)];exact FZ (List.cons.inj k).1 e
theorem uF:∀{a b c:List Key},eO a b=true->eO b c=true->eO a c=true
 | [],_,_,h,_=>by cases h
 | _::_,[],_,h,_=>by cases h
 | _::_,_::_,[],_,h=>by cases h
 | a::as,b::bs,c::cs,h1,h2=>by
  have h1':(if a=b then eO as bs else eV a b)=true:=h1;have h2':(if b=c then eO bs cs else eV b c)=true:=h2;show (if a=c then eO as cs else eV a c)=true
  by_cases e1:a=b
  ·subst e1;rw[if_pos rfl]at h1'
   by_cases e2:a=c
   ·subst e2;rw[if_pos rfl]at h2' ⊢;exact uF h1' h2'
   ·rw[if_neg e2]at h2' ⊢;exact h2'
  ·rw[if_neg e1]at h1'
   by_cases e2:b=c
   ·subst e2;rw[if_neg e1];exact h1'
   ·rw[if_neg e2]at h2';have h3:=K7 h1' h2'
    by_cases e3:a=c
    ·subst e3;rw[GM]at h3;cases h3
    ·rw[if_neg e3];exact h3
theorem KF {rs:List (List Key)}(h:tH rs):Ord eO rs:=⟨fun x _=>sK x,fun _ _ _ _ _ _ h1 h2=>uF h1 h2,fun x hx y hy e=>by
 obtain⟨sh,h⟩:=h;exact z9 ((h x hx).trans (h y hy).symm) e⟩
def jR (rs:List (List Key)):List (List Key):=bW [] (lU rs) rs
theorem tV (rs:List (List Key)):(jR rs).Perm rs:=pI _
theorem yX {rs:List (List Key)}(h:tH rs)(nd:rs.Nodup):(jR rs).Pairwise fun x y=>eO x y=true:=EA (d:=[]) (KF h) nd
theorem D8 {rs ks:List (List Key)}(h:tH rs)(nd:rs.Nodup)(p:rs.Perm ks):jR rs=jR ks:=by
 have h2:tH ks:=let ⟨sh,q⟩:=h;⟨sh,fun r hr=>q r (p.mem_iff.mpr hr)⟩;exact CP (lt:=eO) (fun x _=>sK x) (fun _ _ _ _ _ _ a b=>uF a b) (((tV rs).trans p).trans (tV ks).symm) (yX h nd) (yX h2 (p.nodup_iff.mp nd))
theorem EF {H:Hp}{vs:List V}{rs:List (List Key)} (k:KRows H vs rs):KRows H (DP rs vs) (jR rs):=by
 have hl:vs.length=rs.length:=Paired.length k;unfold DP jR bW;rw[hl]
 split
 ·exact k
 ·have hp:=dA (n:=rs.length) (lU rs) (by lia);have hm:∀i∈(aP (lU rs) (kas_sort rs.length)).toList,i<rs.length:=fun i hi=>by
   have h:=hp.mem_iff.mp (Array.mem_toList_iff.mp hi)
   simpa using h
  revert hm;generalize (aP (lU rs) (kas_sort rs.length)).toList=l;intro hm
  induction l with
  | nil=>exact .nil
  | cons i l ih =>
   refine .cons ?_ (ih fun j hj=>hm j (List.mem_cons_of_mem _ hj));have hi:=hm i (.head _);obtain⟨p,r,e1,e2,e3⟩:=k.get (i:=i) (v:=vs.getD i .non) (by rw[List.getD_eq_getElem?_getD,List.getElem?_eq_getElem (by lia)];rfl);refine⟨p,e1,?_⟩;show H p=some (.tup ((rs.getD i []).map kV));rw[List.getD_eq_getElem?_getD,e2];exact e3
end L2
namespace L2
open PySem PySem.W PyProof.Rows
section
variable {X:Cx}{pins:List (Addr×Obj)}{σ:St}{H:Hp}{s:Shared}
end
end L2
namespace L2
open PySem PySem.W PyProof.Rows
section
variable {X:Cx}
end
end L2
namespace L2
open PySem PySem.W PyProof.Rows
theorem Paired.snoc {α β:Type}{F:α->β->Prop}:∀{l:List α}{m:List β}{a:α}{b:β},Paired F l m->F a b->Paired F (l++[a]) (m++[b])
 | _,_,_,_,.nil,h=> .cons h .nil
 | _,_,_,_,.cons r t,h=> .cons r (Paired.snoc t h)
theorem Paired.at2 {α β:Type}{F:α->β->Prop}:∀{l:List α}{m:List β}{i:Nat}{a:α}{b:β},Paired F l m->l[i]? =some a->m[i]? =some b->F a b
 | _,_,0,_,_,.cons r _,h1,h2=>by cases h1;cases h2;exact r
 | _,_,i+1,_,_,.cons _ t,h1,h2=>Paired.at2 (i:=i) t (by simpa using h1) (by simpa using h2)
 | _,_,_,_,_,.nil,h1,_=>by simp at h1
theorem nP {α:Type}{J:It}{g:TG}{ti:TT}{te:TE}{σ0:St}{fin:List V->Hp->Prop}{H:Hp} (xs:List α) (c:α->Bool) (P:α->V->Hp->Prop) (hm:∀x y H1 H2,P x y H1->Same H1 H2->P x y H2) (hn:xs.length<=sizeLine)
  (hgo:∀i H1,Same H H1->i<xs.length->J.go i H1)(hst:∀H1,Same H H1->J.stop xs.length H1)
  (hb:∀i x H1,xs[i]? =some x->Same H H1->∀v H',J.yld i H1 v H'->Same H1 H'/\∃σ2:St,σ2.length=σ0.length/\(∀(j:Nat) v,σ0[j]? =some (some v)->σ2[j]? =some (some v))/\(∀R:St->Hp->Prop,R σ2 H'->g v σ0 H' R) ∧
   (∀R:Bool->Hp->Prop,(∀H2,Same H' H2->R (c x) H2)->ti σ2 H' R)/\(c x=true->∀H2,Same H' H2->∀R:VK,(∀y H3,P x y H3->Same H2 H3->R y H3)->te σ2 H2 R))
  (hf:∀ys H1,Same H H1->Paired (fun x y=>P x y H1) (xs.filter c) ys->fin ys H1):d3 J g ti te σ0 fin H:=by
 refine⟨fun i m ys H1=>i+m=xs.length/\Same H H1/\Paired (fun x y=>P x y H1) ((xs.take i).filter c) ys,⟨xs.length,by lia,Same.refl _,.nil⟩,?_⟩;rintro i m ys H1 ⟨e1,s1,pr⟩;cases m with
 | zero =>
  have ei:i=xs.length:=by lia
  subst ei;rw[List.take_length]at pr;exact .inl ⟨hst H1 s1,hf ys H1 s1 pr⟩
 | succ m =>
  have hi:i<xs.length:=by lia
  refine .inr ⟨hgo i H1 s1 hi,fun v H' y=> ?_⟩;have ex:xs[i]? =some xs[i]:=List.getElem?_eq_getElem hi;have etake:xs.take (i+1)=xs.take i++[xs[i]]:=by rw[List.take_succ,ex];rfl
  have hlen:ys.length<=i:=by
   rw[←Paired.length pr];exact Nat.le_trans (List.length_filter_le _ _) (by rw[List.length_take];lia)
  obtain⟨s2,σ2,l2,c2,hg,ht,he⟩:=hb i xs[i] H1 ex s1 v H' y;refine hg _ ⟨⟨l2,c2⟩,ht _ fun H2 s3=> ?_⟩;cases hc:c xs[i] with
  | true =>
   show te σ2 H2 _;refine he hc H2 s3 _ fun y H3 py s4=>⟨by lia,m,by lia,by lia,((s1.trans s2).trans s3).trans s4,?_⟩
   rw[etake,List.filter_append,List.filter_cons_of_pos hc];exact Paired.snoc (Paired.imp' (fun a b h=>hm a b _ _ h ((s2.trans s3).trans s4)) pr) py
  | false =>
   show ∃m',_;refine⟨m,by lia,by lia,(s1.trans s2).trans s3,?_⟩;rw[etake,List.filter_append,List.filter_cons_of_neg (by rw[hc];exact Bool.false_ne_true),List.filter_nil,List.append_nil];exact Paired.imp' (fun a b h=>hm a b _ _ h (s2.trans s3)) pr
section
variable {K:PySem.W.Frag}{ti:TT}{te:TE}{σ:St}{ci:List Nat}{rest:St}{fin:List V->Hp->Prop}{H:Hp}{a:Addr}
theorem P4 {n:Nat}(hr:ci.map (fun i=>(σ[i]?).join)=rest):bK n ci σ=List.replicate n none++rest:=by unfold bK;rw[hr]
theorem jV {α:Type}{vs:List V}{xs:List α} (f1 f2:α->V) (c:α->Bool) (P:α->V->Hp->Prop) (hm:∀x y H1 H2,P x y H1->Same H1 H2->P x y H2) (hn:xs.length<=sizeLine) (hr:ci.map (fun i=>(σ[i]?).join)=rest) (hl:SqL K H a vs)
  (hv:Paired (fun v x=>∃q,v= .ref q/\H q=some (.tup [f1 x,f2 x])) vs xs)
  (ht:∀x H1,x∈xs->Same H H1->∀R:Bool->Hp->Prop,(∀H2,Same H1 H2->R (c x) H2)->ti (some (f1 x)::some (f2 x)::rest) H1 R)
  (he:∀x H1,x∈xs->c x=true->Same H H1->∀R:VK,(∀y H2,P x y H2->Same H1 H2->R y H2)->te (some (f1 x)::some (f2 x)::rest) H1 R)
  (hf:∀ys H1,Same H H1->Paired (fun x y=>P x y H1) (xs.filter c) ys->fin ys H1):d3 (Itl K a) (zM K 2 (qJ (cF 0) (qJ (cF 1) DY))) ti te (bK 2 ci σ) fin H:=by
 have e0:bK 2 ci σ=none::none::rest:=P4 hr;rw[e0];have hlen:vs.length=xs.length:=Paired.length hv;refine nP xs c P hm hn (fun i H1 s hi=>⟨vs,vs[i],s.seq hl,List.getElem?_eq_getElem (by lia)⟩) (fun H1 s=>⟨vs,s.seq hl,by lia⟩) (fun i x H1 hx s1 v H' y=> ?_) hf;obtain⟨rfl,e2⟩:=y;have ev:=e2 vs (s1.seq hl);obtain⟨q,rfl,hq⟩:∃q,v= .ref q/\H q=some (.tup [f1 x,f2 x]):=Paired.at2 hv ev hx;have hmem:=List.mem_of_getElem? hx;refine⟨Same.refl _,some (f1 x)::some (f2 x)::rest,rfl,fun j v hv=> ?_,fun R h=>⟨q,[f1 x,f2 x],rfl,.inl (.inl (s1 _ _ hq)),rfl,f1 x,[f2 x],rfl,f2 x,[],rfl,rfl,h⟩,fun R h=>ht x _ hmem s1 R h,fun hc H2 s2 R h=>he x H2 hmem hc (s1.trans s2) R h⟩
 match j,hv with
 | 0,hv=>cases hv
 | 1,hv=>cases hv
 | j+2,hv=>exact hv
end
end L2
namespace L2
open PySem PySem.W PyProof.Rows
section
variable {K:PySem.W.Frag}{ti:TT}{te:TE}{σ:St}{ci:List Nat}{rest:St}{fin:List V->Hp->Prop}{H:Hp}{a:Addr}
theorem kF {H:Hp}{q:Addr}{o:HO} (h:H q=none):Same H (upd H q o):=fun b u e=>by
 have:b≠q:=fun z=>by rw[z,h]at e;cases e
 rw[aJ this];exact e
theorem E3 {kvs:List (Key×V)}{o:Obj} (c:Key×V->Bool) (P:Key×V->V->Hp->Prop) (hm:∀x y H1 H2,P x y H1->Same H1 H2->P x y H2) (hn:kvs.length<=sizeLine) (hr:ci.map (fun i=>(σ[i]?).join)=rest) (h0:H a=some (.frz o (.dK kvs)))
  (ht:∀x H1,x∈kvs->Same H H1->∀R:Bool->Hp->Prop,(∀H2,Same H1 H2->R (c x) H2)->ti (some (kV x.1)::rest) H1 R)
  (he:∀x H1,x∈kvs->c x=true->Same H H1->∀R:VK,(∀y H2,P x y H2->Same H1 H2->R y H2)->te (some (kV x.1)::rest) H1 R)
  (hf:∀ys H1,Same H H1->Paired (fun x y=>P x y H1) (kvs.filter c) ys->fin ys H1):d3 (Itk a o kvs) (cF 0) ti te (bK 1 ci σ) fin H:=by
 rw[zX hr];refine nP kvs c P hm hn (fun i H1 s hi=>⟨s _ _ h0,hi⟩) (fun H1 s=>⟨s _ _ h0,Nat.le_refl _⟩) (fun i x H1 hx s1 v H' y=> ?_) hf;obtain⟨rfl,k,u,e2,rfl⟩:=y;rw[hx]at e2;cases e2;have hmem:=List.mem_of_getElem? hx;refine⟨Same.refl _,some (kV k)::rest,rfl,fun j v hv=> ?_,fun R h=>h,fun R h=>ht _ _ hmem s1 R h,fun hc H2 s2 R h=>he _ H2 hmem hc (s1.trans s2) R h⟩;cases j with
 | zero=>cases hv
 | succ j=>exact hv
end
section
variable {σ:St}{H:Hp}{g:TG}{tb:TS}{nx bk ct:St->Hp->Prop}{rt:VK}
theorem IZ {p:Addr}{o:Obj} (kvs:List (Key×V)) (Pv:Nat->St->Hp->Prop) (h0:Pv 0 σ H) (hl:∀i σ H,Pv i σ H->H p=some (.frz o (.dK kvs)))
  (hs:∀i k v σ H,kvs[i]? =some (k,v)->Pv i σ H->g (kV k) σ H fun σ2 H2=>tb ⟨Pv (i+1),rt,nx,Pv (i+1)⟩ σ2 H2)(hd:∀σ H,Pv kvs.length σ H->nx σ H):zL (Itk p o kvs) g tb ⟨nx,rt,bk,ct⟩ σ H:=by
 refine⟨fun i m σ H=>m=kvs.length - i/\i<=kvs.length/\Pv i σ H,⟨kvs.length,by simp,Nat.zero_le _,h0⟩,?_⟩;rintro i m σ H ⟨rfl,hi,q⟩
 by_cases hlt:i<kvs.length
 ·refine .inr ⟨⟨hl i σ H q,hlt⟩,Pv (i+1),fun σ' H' p'=>⟨kvs.length - (i+1),by lia,rfl,hlt,p'⟩,fun x H' y=> ?_⟩;obtain⟨rfl,k,v,e,rfl⟩:=y;exact hs i k v σ _ e q
 ·have e:i=kvs.length:=by lia
  subst e;exact .inl ⟨⟨hl _ σ H q,Nat.le_refl _⟩,hd σ H q⟩
end
def GG (R:It->Hp->Prop):VK:=fun x H1=>∃a kvs,x= .ref a/\H1 a=some (.dK kvs)/\∀o,R (Itk a o kvs) (upd H1 a (.frz o (.dK kvs)))
def BQ (R:It->Hp->Prop):VK:=fun x H1=>∃a kvs,x= .ref a/\H1 a=some (.dK kvs)/\∀o,R (Iti a o kvs) (upd H1 a (.frz o (.dK kvs)))
def QM (Q:VK)(y:V):VK:=fun x H2=>∃a o,x= .ref a/\fV H2 a y o/\Q (.bl o.isSome) H2
def CL (Q:VK)(y:V):VK:=fun x H2=>∃a o,x= .ref a/\fV H2 a y o/\Q (.bl (!o.isSome)) H2
def GL (σ:St)(ty tx:TE)(Q:VK):VK:=fun x H1=>∃a,x= .ref a/\IsD H1 a/\ty σ H1 fun y H2=>tx σ H2 fun z H3=>∃o,fV H3 a y o/\Q (o.getD z) H3
def QC (a:Addr)(Q:VK)(y:V):VK:=fun z H3=>∃o,fV H3 a y o/\Q (o.getD z) H3
section
variable {K:PySem.W.Frag}{H:Hp}{Q:VK}{σ:St}{nx:St->Hp->Prop}{R:It->Hp->Prop}{td ty tx:TE}
theorem GT (h:td σ H (GG R)):GU td σ H R:=h
theorem C8 (h:td σ H (BQ R)):CU td σ H R:=h
theorem rW {p:Addr}{kvs:List (Key×V)} (e:H p=some (.dK kvs)) (h:∀o H',SameBut p H H'->H' p=some (.frz o (.dK kvs))->R (Itk p o kvs) H'):GG R (.ref p) H:=⟨p,kvs,rfl,e,fun o=>h o _ SameBut.upd aV⟩
theorem wL {p:Addr}{kvs:List (Key×V)} (e:H p=some (.dK kvs)) (h:∀o H',SameBut p H H'->H' p=some (.frz o (.dK kvs))->R (Iti p o kvs) H'):BQ R (.ref p) H:=⟨p,kvs,rfl,e,fun o=>h o _ SameBut.upd aV⟩
theorem PV (h:ty σ H fun y H1=>td σ H1 (QM Q y)):QO ty td σ H Q:=h
theorem FX (h:ty σ H fun y H1=>td σ H1 (CL Q y)):BP ty td σ H Q:=h
theorem M4 {p:Addr}{z:Str}{kvs:List (Key×V)} (e:Rd H p (.dK kvs)) (h:Q (.bl (bP kvs (.inr z)).isSome) H):QM Q (.str z) (.ref p) H:=⟨p,_,rfl,.inl ⟨kvs,.inr z,e,rfl,rfl⟩,h⟩
theorem tY {p:Addr}{z:Str}{kvs:List (Key×V)} (e:Rd H p (.dK kvs)) (h:Q (.bl (!(bP kvs (.inr z)).isSome)) H):CL Q (.str z) (.ref p) H:=⟨p,_,rfl,.inl ⟨kvs,.inr z,e,rfl,rfl⟩,h⟩
theorem nN {p:Addr}{v:V}{z:Str}{kvs:List (Key×V)} (e:H p=some (.dK kvs)) (hl:kvs.length<sizeLine) (h:∀H',SameBut p H H'->H' p=some (.dK (c7 kvs (.inr z) v))->nx σ H'):L0 nx σ (.ref p) v (.str z) H :=
 ⟨p,_,rfl,DPut.k (k:= .inr z) e hl,h _ SameBut.upd aV⟩
theorem kA {p:Addr}{v:V}{z:Str}{kvs:List (Key×V)} (e:Rd H p (.dK kvs)) (hv:bP kvs (.inr z)=some v) (h:Q v H):LH Q (.ref p) (.str z) H:=⟨p,v,rfl,.inl ⟨kvs,.inr z,e,rfl,hv.symm⟩,h⟩
theorem JF (h:∀p H',H p=none->Same H H'->H' p=some (.dK [])->Q (.ref p) H'):GQ σ H Q:=fE h
theorem IR (h:td σ H (GL σ ty tx Q)):HE td ty tx σ H Q:=h
theorem KY {p:Addr}{vs:List V}{ps:List (Key×V)} (e:H p=some (.lst vs)) (r:yF H vs ps) (h:∀l H',H l=none->Same H H'->H' l=some (.dK (hJ [] ps))->Q (.ref l) H'):FA [.ref p] H Q:=⟨p,vs,ps,rfl,.inl e,r,fE h⟩
theorem yT {p:Addr}{vs:List V}{rs:List (List Key)}{sh:List Bool} (e:SqL K H p vs) (kr:KRows H vs rs) (hl:vs.length<64) (hs:∀r∈rs,r.map c8=sh) (hn:sh≠[]) (h:∀l ws H',H l=none->Same H H'->H' l=some (.lst ws)->KRows H' ws (jR rs)->Q (.ref l) H'):CQ K [.ref p] H Q :=
 ⟨p,vs,rs,sh,rfl,e,kr,hl,hs,hn,fE fun l H' n S e=>h l _ H' n S e ((EF kr).same S)⟩
theorem oA {te:TE}{p:Addr}{u:HO} (e:H p=some u) (nf:∀o x,u≠ .frz o x) (h:te σ H fun x=>fJ p (Q x)):LS te σ H Q:=⟨p,fun o x z=>nf o x (by rw[e]at z;exact Option.some.inj z),h⟩
theorem JR {ts:TS}{bk ct:St->Hp->Prop}{rt:VK}{p:Addr}{u:HO} (e:H p=some u) (nf:∀o x,u≠ .frz o x) (h:ts ⟨fun σ'=>fJ p (nx σ'),fun v=>fJ p (rt v),fun σ'=>fJ p (bk σ'),fun σ'=>fJ p (ct σ')⟩ σ H):LZ ts ⟨nx,rt,bk,ct⟩ σ H :=
 ⟨p,fun o x z=>nf o x (by rw[e]at z;exact Option.some.inj z),h⟩
theorem i3 {p:Addr}{o:Obj}{u:HO}{R:Hp->Prop} (e:H p=some (.frz o u)) (h:∀H',SameBut p H H'->H' p=some u->R H'):fJ p R H:=⟨o,u,e,h _ SameBut.upd aV⟩
theorem lQ {H Hf H1 H2:Hp}{p:Addr}{u:HO} (e:H p=some u) (a:SameBut p H Hf) (b:SameBut p Hf H1) (c:SameBut p H1 H2) (e2:H2 p=some u):Same H H2:=fun x o z=>by
 by_cases hx:x=p
 ·subst hx;rw[e]at z;cases z;exact e2
 ·exact c x o (b x o (a x o z hx) hx) hx
end
section
variable {X:Cx}{K:PySem.W.Frag}
theorem uZ {e:Expr}{ta:TE}{f:Str}{pos:Pos} (he:PE X e ta) (hb:attributeBase e f X.env (eval e X.env)=eval e X.env) (hK:X.K=K:=by rfl):PE X (.Attribute e f pos) (JD K ta f):=by
 subst hK;exact bO he hb
end
end L2
namespace L2
open PySem PySem.W PyProof.Rows
section
variable {K:PySem.W.Frag}{ti:TT}{te:TE}{σ:St}{ci:List Nat}{rest:St}{fin:List V->Hp->Prop}{H:Hp}{a:Addr}{α:Type}
theorem u8 {vs:List V}{xs:List α} (F:V->α->Prop) (c:α->Bool) (P:α->V->Hp->Prop) (hm:∀x y H1 H2,P x y H1->Same H1 H2->P x y H2) (hn:xs.length<=sizeLine) (hr:ci.map (fun i=>(σ[i]?).join)=rest) (hl:SqL K H a vs) (hv:Paired F vs xs)
  (ht:∀v x H1,F v x->x∈xs->Same H H1->∀R:Bool->Hp->Prop,(∀H2,Same H1 H2->R (c x) H2)->ti (some v::rest) H1 R)
  (he:∀v x H1,F v x->x∈xs->c x=true->Same H H1->∀R:VK,(∀y H2,P x y H2->Same H1 H2->R y H2)->te (some v::rest) H1 R)
  (hf:∀ys H1,Same H H1->Paired (fun x y=>P x y H1) (xs.filter c) ys->fin ys H1):d3 (Itl K a) (cF 0) ti te (bK 1 ci σ) fin H:=by
 rw[zX hr];have hlen:vs.length=xs.length:=Paired.length hv;refine nP xs c P hm hn (fun i H1 s hi=>⟨vs,vs[i],s.seq hl,List.getElem?_eq_getElem (by lia)⟩) (fun H1 s=>⟨vs,s.seq hl,by lia⟩) (fun i x H1 hx s1 v H' y=> ?_) hf;obtain⟨rfl,e2⟩:=y;have ev:=e2 vs (s1.seq hl);have hF:=Paired.at2 hv ev hx;have hmem:=List.mem_of_getElem? hx;refine⟨Same.refl _,some v::rest,rfl,fun j v hv=> ?_,fun R h=>h,fun R h=>ht v x _ hF hmem s1 R h,fun hc H2 s2 R h=>he v x H2 hF hmem hc (s1.trans s2) R h⟩;cases j with
 | zero=>cases hv
 | succ j=>exact hv
theorem BY {kvs:List (Key×V)}{o:Obj}{xs:List α} (F:Key×V->α->Prop) (c:α->Bool) (P:α->V->Hp->Prop) (hm:∀x y H1 H2,P x y H1->Same H1 H2->P x y H2) (hn:xs.length<=sizeLine) (hr:ci.map (fun i=>(σ[i]?).join)=rest) (h0:H a=some (.frz o (.dK kvs))) (hv:Paired F kvs xs)
  (ht:∀e x H1,F e x->x∈xs->Same H H1->∀R:Bool->Hp->Prop,(∀H2,Same H1 H2->R (c x) H2)->ti (some (kV e.1)::some e.2::rest) H1 R)
  (he:∀e x H1,F e x->x∈xs->c x=true->Same H H1->∀R:VK,(∀y H2,P x y H2->Same H1 H2->R y H2)->te (some (kV e.1)::some e.2::rest) H1 R)
  (hf:∀ys H1,Same H H1->Paired (fun x y=>P x y H1) (xs.filter c) ys->fin ys H1):d3 (Iti a o kvs) (zM K 2 (qJ (cF 0) (qJ (cF 1) DY))) ti te (bK 2 ci σ) fin H:=by
 have e0:bK 2 ci σ=none::none::rest:=P4 hr;rw[e0];have hlen:kvs.length=xs.length:=Paired.length hv;refine nP xs c P hm hn (fun i H1 s hi=>⟨s _ _ h0,by lia⟩) (fun H1 s=>⟨s _ _ h0,by lia⟩) (fun i x H1 hx s1 v H' y=> ?_) hf;obtain⟨k,u,q,e2,rfl,hq,rfl⟩:=y;have hF:=Paired.at2 hv e2 hx;have hmem:=List.mem_of_getElem? hx;have sq:Same H1 (upd H1 q (.tup [kV k,u])):=kF hq;refine⟨sq,some (kV k)::some u::rest,rfl,fun j v hv=> ?_,fun R h=>⟨q,[kV k,u],rfl,.inl (.inl aV),rfl,kV k,[u],rfl,u,[],rfl,rfl,h⟩,fun R h=>ht _ x _ hF hmem (s1.trans sq) R h,fun hc H2 s2 R h=>he _ x H2 hF hmem hc ((s1.trans sq).trans s2) R h⟩
 match j,hv with
 | 0,hv=>cases hv
 | 1,hv=>cases hv
 | j+2,hv=>exact hv
end
theorem eA {α:Type}{f:α->V}:∀{l:List α}{ys:List V},Paired (fun x y=>y=f x) l ys->ys=l.map f
 | _,_,.nil=>rfl
 | _,_,.cons h t=>by rw[h,eA t];rfl
theorem eU {α:Type}(l:List α):l.filter (fun _=>true)=l:=by simp
end L2
namespace L2
open PySem PySem.W PyProof.Rows
theorem mH {κ:Type}[DecidableEq κ]:∀{kvs:List (κ×V)}{e:κ×V},(kvs.map (·.1)).Nodup->e∈kvs->bP kvs e.1=some e.2
 | a::l,e,nd,h=>by
  have nd':=List.pairwise_cons.mp nd;rcases List.mem_cons.mp h with rfl|h
  ·exact cY rfl
  ·rw[cQ (nd'.1 e.1 (List.mem_map.mpr ⟨e,h,rfl⟩))];exact mH nd'.2 h
end L2
namespace L2
open PySem PySem.W PyProof.Rows
theorem NE:typeLookup (.type "dict") "__len__" =pure (some (.builtin "dict.__len__")):=by rw[typeLookup_type,builtinLookup_eq_fast];kernel_rfl
section
variable {prog:Program}{w:World}{A:Around}{E:Value->Shared->Prop}{s:Shared}{d:Addr}{κ:Type} [DecidableEq κ] {knd:KeyKind prog w κ}{ps:List (κ×Value)}{ep:Nat}
theorem GZ (T:s.TypeIs (.ref d) "dict"){Q:Bool->Shared->Prop}(h:Q false s):wpAny (model prog w) A (Builtin.List.listLengthHint (.ref d)) Q E s:=by
 unfold Builtin.List.listLengthHint;refine wpAny_bind (wpAny_specialOf T NE ?_);generalize q:("dict.__len__" :String)=i0
 wp_delta
 rw[show splitId i0=some ("dict","__len__") from by subst q;decide +kernel];subst q;refine wpAny_bind (wpAny_isInstance (T:= "dict") (b:=true) T (by rw[isSubtype_type];kernel_rfl) (wpAny_ite_split (fun z=>absurd z (by decide)) (fun _=>wpAny_ite_split (fun _=> ?_) (fun z=>absurd (by decide +kernel) z))));exact wpAny_bind (wpAny_typeOf T (wpAny_pure h))
theorem BD {R:Result->Shared->Prop}(hh:A.handled=none)(hm:s.heap.DictAt knd d ps ep)(hd0:(d==sysModules)=false)(S:Addr)(hSd:S≠d)(c0:Nat)(hS:s.heap.get? S=some { cls:= .type "list",data:= .seq #[] c0 })(hn:ps.length<=sizeLine)
  (k:∀h' tk acc c,(∀b o,b≠S->s.heap.get? b=some o->h'.get? b=some o)->h'.get? S=some { cls:= .type "list",dict:=none,data:= .seq acc c,slots:= #[] }->ItemsOf (fun i v=>∃k x,ps[i]? =some (k,x)/\knd.is k v=true) acc ps.length->R (.ok (.ret .none)) { s with heap:=h',toks:=tk }) :
  wpAny (model prog w) A.in1 (Builtin.List.listExtendWith (.ref S) (.ref d) .none) (fun fin s'=>match fin with| .done f=>R (.ok f) s'| .again c'=>c'.quiet=true/\codeAny (model prog w) A c' R s') (fun e s'=>R (.error e) s') s:=by
 obtain⟨o,es,ho,hc,hq,hk,hp,hnd⟩:=id hm;have T:s.TypeIs (.ref d) "dict" :=⟨o,ho,hc.1⟩
 have lS:S<s.heap.objs.size:=Heap.lt_size hS;have ld:d<s.heap.objs.size:=Heap.lt_size ho;have hsz:es.size=ps.length:=by rw[←hp.length];simp
 have W:=(Walks.dictKeys (prog:=prog) (w:=w) (knd:=knd) (A:=A.in1) hh s.heap.objs.size d (Nat.ne_of_lt ld) ps ep).toS;have run:∀(h:Heap) (c1 tk:Nat),h.IsKeyIter s.heap.objs.size d 0 ps.length ep->(∀b u,b≠S->s.heap.get? b=some u->h.get? b=some u)->h.get? S=some { cls:= .type "list",data:= .seq #[] c1 } →
   codeAny (model prog w) A (.builtin "list.extend.loop" ⟨[.ref S,.ref s.heap.objs.size,.none],[]⟩) R { s with heap:=h,toks:=tk }:=by
  intro h c1 tk hit kp hS1;refine codeAny_extend_loopS W hn S (by simp only[List.mem_cons,List.not_mem_nil,or_false,not_or];exact⟨Nat.ne_of_lt lS,hSd⟩) .none ps.length 0 _ #[] c1 rfl (Nat.zero_le _) ⟨hit,o,es,kp d o (Ne.symm hSd) ho,hc,hq,hk,hp,hnd⟩ hS1 (ItemsOf.nil _) fun s' acc c' mv hS2 hacc=> ?_;rw[Moved.eq_with mv];refine k s'.heap s'.toks acc c' (fun b u hb e=>mv.heap b u (fun z=> ?_) (kp b u hb e)) hS2 hacc;rcases List.mem_cons.mp z with z|z
  ·exact hb z
  ·have:=Heap.lt_size e;rw[List.mem_singleton.mp z]at this;exact Nat.lt_irrefl _ this
 unfold Builtin.List.listExtendWith;refine wpAny_bind (wpAny_typeOf (T:= "dict") T ?_);simp only[show Builtin.List.listSameRef (.ref S) (.ref d)=false by simp[Builtin.List.listSameRef,hSd],show (Value.type "dict" ==Value.type "list")=false by decide,show (Value.type "dict" ==Value.type "tuple")=false by decide,Bool.or_false,Bool.false_eq_true,if_false];refine wpAny_bind (zU hd0 ho hc hq ?_);have hS1:=Heap.get?_push_of_some { cls:= .type "dict_keyiterator",data:= .fields #[.ref d,.int 0 0,.int es.size 0,.int ep 0] } hS;refine wpAny_bind (wpAny_holding (GZ ⟨o,Heap.get?_push_of_some _ ho,hc.1⟩ ?_));have hit:(s.heap.push { cls:= .type "dict_keyiterator",data:= .fields #[.ref d,.int 0 0,.int es.size 0,.int ep 0] }).IsKeyIter s.heap.objs.size d 0 ps.length ep:=⟨_,Heap.get?_push_size _ rfl,rfl,by rw[hsz];rfl⟩
 refine wpAny_ite_split (fun z=> ?_) (fun _=>wpAny_pure ⟨plainId_quiet F.plain_extend_loop _,run _ c0 _ hit (fun b u _ e=>Heap.get?_push_of_some _ e) hS1⟩);refine wpAny_bind (wpAny_rule (wpAny_bind ?_));show wpAny _ A.in1 (updateSeq S (·.push .none) >>= fun _=>updateSeq S (·.pop)) _ _ _;have u1:=Heap.get?_update_self (Obj.mapSeq (·.push Value.none)) hS1 rfl;have u2:=Heap.get?_update_self (Obj.mapSeq (·.pop)) u1 rfl;refine wpAny_bind (wpAny_updateSeq hS1 rfl (wpAny_updateSeq (hz:=by seq_fits) u1 rfl (wpAny_pure ⟨plainId_quiet F.plain_extend_loop _,run _ _ _ ?_ (fun b u hb e=> ?_) u2⟩)))
 ·exact hit.at fun u e=>(Heap.get?_update_other _ _ (Nat.ne_of_lt lS)).trans ((Heap.get?_update_other _ _ (Nat.ne_of_lt lS)).trans e)
 ·exact(Heap.get?_update_other _ _ (Ne.symm hb)).trans ((Heap.get?_update_other _ _ (Ne.symm hb)).trans (Heap.get?_push_of_some _ e))
theorem FU {Q:Value->Shared->Prop}(hh:A.handled=none)(hm:s.heap.DictAt knd d ps ep)(hd0:(d==sysModules)=false)(hn:ps.length<=sizeLine)
  (k:∀h' tk acc c,(∀b o,s.heap.get? b=some o->h'.get? b=some o)->h'.get? s.heap.objs.size=some { cls:= .type "list",dict:=none,data:= .seq acc c,slots:= #[] }->ItemsOf (fun i v=>∃k x,ps[i]? =some (k,x)/\knd.is k v=true) acc ps.length->Q (.ref s.heap.objs.size) { s with heap:=h',toks:=tk }) :
  wpAny (model prog w) A (call (.type "list") [.ref d]) Q E s:=by
 refine callType_codes (Q₁:=fun x s1=>x= .ref s.heap.objs.size/\s1={ s with heap:=s.heap.push { cls:= .type "list",data:= .seq #[] } }) F.called_list (F.typeCall_list_1 _) F.entry_list_init (code_list_new _ ⟨rfl,rfl⟩) ?_;rintro x s1 ⟨rfl,rfl⟩;have hS:(s.heap.push { cls:= .type "list",data:= .seq #[] }).get? s.heap.objs.size=some { cls:= .type "list",data:= .seq #[] }:=Heap.get?_push_size _ rfl;have hm1:(s.heap.push { cls:= .type "list",data:= .seq #[] }).DictAt knd d ps ep:=hm.at' fun o e=>Heap.get?_push_of_some _ e;have hdS:s.heap.objs.size≠d:=fun z=>by
  obtain⟨o,_,ho,_⟩:=hm;have:=Heap.lt_size ho;rw[←z]at this;exact Nat.lt_irrefl _ this
 refine⟨⟨_,hS,rfl⟩,F.args_list_init_2 _ _,?_⟩;show wpAny _ A.in1.in1 (Builtin.List.listItems (.ref s.heap.objs.size) >>= fun old=>Builtin.List.listUpdate (.ref s.heap.objs.size) (fun _=> #[]) >>= fun _=>letGo old.toList.reverse >>= fun _=>Builtin.List.listExtendWith (.ref s.heap.objs.size) (.ref d) .none) _ _ _;refine wpAny_bind ?_;unfold Builtin.List.listItems;refine wpAny_bind (wpAny_seqItems hS rfl (wpAny_pure ?_));show wpAny _ A.in1.in1 (updateSeq s.heap.objs.size (fun _=> #[]) >>= fun _=>letGo (#[]:Array Value).toList.reverse >>= fun _=>Builtin.List.listExtendWith (.ref s.heap.objs.size) (.ref d) .none) _ _ _;have u1:=Heap.get?_update_self (Obj.mapSeq (fun _=>(#[]:Array Value))) hS rfl;have kp:∀b o,b≠s.heap.objs.size->(s.heap.push { cls:= .type "list",data:= .seq #[] }).get? b=some o->((s.heap.push { cls:= .type "list",data:= .seq #[] }).update s.heap.objs.size (Obj.mapSeq (fun _=>(#[]:Array Value)))).get? b=some o:=fun b o hb e=>(Heap.get?_update_other _ _ (Ne.symm hb)).trans e;refine wpAny_bind (wpAny_updateSeq hS rfl (wpAny_bind (wpAny_letGo ?_)));refine BD (A:=A.in1) hh (hm1.at' fun o e=>kp d o (Ne.symm hdS) e) hd0 _ hdS _ u1 hn fun h' tk acc c kk hS' hacc=> ?_;exact⟨rfl,k h' tk acc c (fun b o e=>kk b o (Nat.ne_of_lt (Heap.lt_size e)) (kp b o (Nat.ne_of_lt (Heap.lt_size e)) (Heap.get?_push_of_some _ e))) hS' hacc⟩
end
section
variable {X:Cx}
def GK:List V->Hp->VK->Prop:=fun xs H Q=>∃p kvs,xs=[.ref p]/\Rd H p (.dK kvs)/\∀l,H l=none->Q (.ref l) (upd H l (.lst (kvs.map fun e=>kV e.1)))
theorem xM {P:Program}{w:World}{kvs:List (Key×V)}{rs:List (Key×Value)} (r:KV kvs rs) {acc:Array Value} (h:ItemsOf (fun i v=>∃k x,rs[i]? =some (k,x)/\(aU P w).is k v=true) acc rs.length):Vals (kvs.map fun e=>kV e.1) acc.toList:=by
 have e0:acc.toList.length=rs.length:=by rw[Array.length_toList];exact h.1
 refine y9 (by rw[List.length_map,e0];exact r.length) fun i x u h1 h2=> ?_;obtain⟨k,y,e1,e2⟩:=h.2 i u (by simpa using h2);rw[List.getElem?_map]at h1;obtain⟨e,he,rfl⟩:=Option.map_eq_some_iff.mp h1;have hi:i<kvs.length:=(List.getElem?_eq_some_iff.mp he).1;obtain⟨k',v',u',f1,f2,f3⟩:=sV r hi;rw[he]at f1;cases f1;rw[e1]at f2;cases f2;exact uO e2
theorem sZ (hc:X.calm=true):cJ X (.type "list") GK:=by
 intro pins s σ H xs us Q I r h;obtain⟨p,kvs,rfl,hq,q⟩:=h;obtain⟨u,rfl,rx⟩:=fT r;cases rx;obtain⟨z,y,rs,kv,o,es,ep,h1,h2,h3,h4,h5,h6⟩:=iU I.hok hq;have hl:=kv.length;refine FU (knd:=aU X.prog X.w) (ps:=rs) (ep:=ep) (I.ok.hd hc) ⟨o,es,h1,h2,h3,h4,h5,h6⟩ y (by lia) fun h' tk acc c kp hS hacc=> ?_;exact⟨.ref _,_,I.laid (t':=tk) kp (Nat.le_refl _) (show ObjOk X.prog X.w _ h' _ (.lst (kvs.map fun e=>kV e.1)) from⟨by rw[List.length_map];exact z,acc.toList,c,xM kv hacc,by rw[Array.toArray_toList];exact hS⟩),rfl,q _ (I.hok.fresh (Nat.le_refl _))⟩
end
end L2
namespace L2
open PySem PySem.W PyProof.Rows
def qR (v d:Addr):HO:= .ext fun h=>h.IsValuesView v d
def EC (Q:VK):VK:=fun x H1=>∃a kvs,x= .ref a/\Rd H1 a (.dK kvs)/\∀v,H1 v=none->Q (.ref v) (upd H1 v (qR v a))
def L9 (td:TE):TE:=fun σ H Q=>td σ H (EC Q)
section
variable {X:Cx}
theorem DS {l:Expr}{td:TE}{apos cpos:Pos} (hl:PE X l td) (hbase:attributeBase l "values" X.env (eval l X.env)=eval l X.env:=by rfl) (hline:(apos.endLine==cpos.line)=true:=by rfl) :
  PE X (.Call (.Attribute l "values" apos) [] [] cpos) (L9 td):=by
 intro pins s σ H Q I h;refine wpAny_Call_method0_late hbase hline (thn (hl pins s σ H _ I h) fun v s1 ⟨x,H1,I1,r1,q1⟩=> ?_);obtain⟨a,kvs,rfl,hq,q⟩:=q1;cases r1;obtain⟨t1,t2,_⟩:=zE I1 (.inl ⟨kvs,hq⟩);refine⟨"dict","dict.values",F.plainAttrs_dict,F.slot_dict_values,F.type_dict_values,t1,t2,Calls.callWith_builtin rfl (PySem.evalArgs_none ?_)⟩;obtain⟨z,y,vs,r,o,es,ep,h1,h2,h3,h4,h5,h6⟩:=iU I1.hok hq;refine call_meetsIn F.slot_dict_values t1 F.entry_dict_values (F.args_dict_values_1 _) (meets_dict_values (aU X.prog X.w) a y) ⟨⟨vs,o,es,ep,h1,h2,h3,h4,h5,h6⟩,?_⟩;have hv:(s1.heap.push { cls:= .type "dict_values",data:= .fields #[.ref a] }).IsValuesView s1.heap.objs.size a:=⟨_,Heap.get?_push_size _ rfl,rfl,rfl⟩
 refine⟨.ref s1.heap.objs.size,_,I1.laid (t':=s1.toks) (fun b u e=>Heap.get?_push_of_some _ e) (Nat.le_refl _) (show ObjOk X.prog X.w _ _ _ (qR s1.heap.objs.size a) from⟨hv,⟨_,Heap.get?_push_size _ rfl⟩,fun g1 g2 p k=> ?_⟩),rfl,q _ (I1.hok.fresh (Nat.le_refl _))⟩;obtain⟨o,e,c⟩:=p;exact⟨o,k o e,c⟩
theorem z7 (ns:List Int):∀j,j<=ns.length->preSum (fun i=>ns.getD i 0) j=(ns.take j).sum
 | 0,_=>by simp[preSum]
 | j+1,h=>by
  rw[preSum,z7 ns j (by lia),List.take_succ,List.getElem?_eq_getElem (by lia),List.sum_append];rw[List.getD_eq_getElem?_getD,List.getElem?_eq_getElem (by lia)];simp
theorem MY (ns:List Int):preSum (fun i=>ns.getD i 0) ns.length=ns.sum:=by rw[z7 ns _ (Nat.le_refl _),List.take_length]
def LW:List V->Hp->VK->Prop:=fun xs H Q=>∃(v d:Addr) (kvs:List (Key×V)) (ns:List Int),xs=[.ref v]/\H v=some (qR v d)/\Rd H d (.dK kvs)/\kvs.map (·.2)=ns.map V.int/\Q (.int ns.sum) H
theorem F1 (hc:X.calm=true):cJ X (.builtin "sum") LW:=by
 intro pins s σ H xs us Q I r h;obtain⟨v,d,kvs,ns,rfl,hv,hq,hns,q⟩:=h;obtain⟨u,rfl,rx⟩:=fT r;cases rx;obtain⟨hview,_,_⟩:=(show ObjOk X.prog X.w H s.heap v (qR v d) from I.hok v _ hv)
 have hview:s.heap.IsValuesView v d:=hview;obtain⟨z,y,rs,kv,o,es,ep,h1,h2,h3,h4,h5,h6⟩:=iU I.hok hq;have hl:=kv.length;have hln:kvs.length=ns.length:=by have:=congrArg List.length hns;rwa [List.length_map,List.length_map]at this
 have ld:d<s.heap.objs.size:=Heap.lt_size h1;have hm:s.heap.DictAt (aU X.prog X.w) d rs ep:=⟨o,es,h1,h2,h3,h4,h5,h6⟩
 refine call_sum_walkG (wpAny_pyIter_values hview hm ?_);refine⟨s.heap.objs.size,_,_,rs.length,_,_,fun i=>ns.getD i 0,rfl,Walks.dictValues (knd:=aU X.prog X.w) (show X.A.in1.handled=none from I.ok.hd hc) s.heap.objs.size d (Nat.ne_of_lt ld) rs ep,⟨⟨_,Heap.get?_push_size _ rfl,rfl,rfl⟩,hm.at' fun o e=>Heap.get?_push_of_some _ e⟩,?_,?_,?_⟩
 ·intro b hb;simp only[List.mem_cons,List.not_mem_nil,or_false]at hb;have hsz:(s.heap.push { cls:= .type "dict_valueiterator",data:= .fields #[.ref d,.int 0 0,.int rs.length 0,.int ep 0] }).objs.size=s.heap.objs.size+1:=by simp[Heap.push]
  rcases hb with rfl|rfl
  ·show s.heap.objs.size<_;rw[hsz];exact Nat.lt_succ_self _
  ·show b<_;rw[hsz];exact Nat.lt_succ_of_lt ld
 ·rintro i u ⟨kk,hk⟩;have hi:i<kvs.length:=by rw[hl];exact(List.getElem?_eq_some_iff.mp hk).1
  obtain⟨k',v',u',f1,f2,f3⟩:=sV kv hi;rw[hk]at f2;cases f2;have e1:(kvs.map (·.2))[i]? =some v':=by rw[List.getElem?_map,f1];rfl
  rw[hns,List.getElem?_map]at e1;obtain⟨n,hn,rfl⟩:=Option.map_eq_some_iff.mp e1;obtain⟨t,rfl⟩:=f3;refine⟨t,?_⟩;show Value.int n t=Value.int (ns.getD i 0) t;rw[List.getD_eq_getElem?_getD,hn];rfl
 ·intro h' tk t' hk;have e2:preSum (fun i=>ns.getD i 0) rs.length=ns.sum:=by
   rw[←hl,hln];exact MY ns
  rw[e2];have I1:Inv X pins σ H { s with heap:=s.heap.push { cls:= .type "dict_valueiterator",data:= .fields #[.ref d,.int 0 0,.int rs.length 0,.int ep 0] },toks:=s.toks }:=I.kept fun b u e=>Heap.get?_push_of_some _ e;obtain⟨f0,f1,f2,f3,f4,f5⟩:=I.fpOk (Nat.le_refl _) (I.hok.fresh (Nat.le_refl _));exact⟨.int ns.sum,H,I1.turned (fun b o hb e=>hk b o (by simpa using hb) e) f0 f1 f3 f4 f5,⟨t',rfl⟩,q⟩
end
end L2
namespace L2
open PySem PySem.W PyProof.Rows
section
variable {X:Cx}{pins:List (Addr×Obj)}{σ:St}{H:Hp}{s:Shared}{h':Heap}
theorem Inv.turns {t':Nat}{ch:List Addr} (I:Inv X pins σ H s) (k:∀b o,b∉ch->s.heap.get? b=some o->h'.get? b=some o) (hf:∀b∈ch,fH X pins H b):Inv X pins σ H { s with heap:=h',toks:=t' }:=by
 have nit:∀b u,H b=some u->b∉ch:=fun b u e z=>by have:=(hf b z).1;rw[e]at this;cases this
 refine I.step (g':=s.gens) (d':=s.drawn) (ch:=ch) (fun b hb=> ?_) (fun b o _ _ hc e _=>k b o hc e) (fun b o _ _ hc e _=>⟨o.slots,k b o hc e⟩) (fun _ _ _ _ n=>n) (fun b o hc e=>⟨o,k b o hc e⟩) (fun _ _ e=>e) (fun _ _ _ e=>e) (fun b ps e=>⟨#[],by rw[e];simp⟩) (fun m hm=> ?_) (fun b u e=> ?_) I.bare
 ·obtain⟨f0,f1,f2,f3,f4,f5⟩:=hf b hb;exact⟨f3,f1,f4,f5⟩
 ·obtain⟨o,es,ep,ho,r⟩:=hm;exact⟨o,es,ep,k _ o (fun z=>(hf _ z).2.1 rfl) ho,r⟩
 ·refine(I.hok b u e).stay (fun c v hc q=>k c v ?_ q) (fun _ q=>q) fun _ _ q=>q;rcases hc with z|z
  ·rw[z];exact nit b u e
  ·exact nit c _ z
end
def Ite (K:PySem.W.Frag)(a:Addr):It :=
 ⟨fun i H=>∃xs x,SqL K H a xs/\xs[i]? =some x,fun i H x H'=>∃q,x= .ref q/\H q=none/\∀xs,SqL K H a xs->∃y,xs[i]? =some y/\H'=upd H q (.tup [.int i,y]),fun i H=>∃xs,SqL K H a xs/\xs.length<=i⟩
theorem FN {P:Program}{w:World}{K:PySem.W.Frag}{elts:List Expr}{x1:Nat}{tpos:Pos} (a e it:Addr) (hne:e≠it) :
  nF P w K (.Tuple elts x1 tpos) (Ite K a) [e,it] e (fun i h=>(∃old,IsEnum h e it i old)/\h.IsListIter it a i) where
 mem:=by simp
 obj:=fun i h st b hb=>by
  obtain⟨⟨old,e1⟩,o2,e2,c2,d2⟩:=st;simp only[List.mem_cons,List.not_mem_nil,or_false]at hb;rcases hb with rfl|rfl
  ·exact⟨_,e1,fun v z=>by cases z⟩
  ·exact⟨o2,e2,fun v z=>by rw[d2]at z;cases z⟩
 keep:=fun i h h' st k=>⟨let ⟨old,e1⟩:=st.1;⟨old,k e (by simp) _ e1⟩,st.2.at fun o q=>k it (by simp) o q⟩
 item:=by
  intro X hP hw hK hc i pins s σ H E I hf st hg;subst hP hw hK;obtain⟨xs,x,hq,hx⟩:=hg;obtain⟨⟨old,st1⟩,st2⟩:=st;obtain⟨its,rv,p,hz⟩:=I.list hq;obtain⟨u,hu,ru⟩:=rv.get hx;refine wpAny_pyNext_enum_item st1 st2 p.isList (x:=u) (by simpa using hu) hne fun h1 heo hit1 ht1 hz1 hk1=> ?_;refine⟨_,rfl,?_⟩;refine wpAny_letOwnedTupleGo_enum (s:={ s with heap:=h1,toks:=s.toks+1 }) heo fun h2 he2 sb2=> ?_;have hq0:H s.heap.objs.size=none:=I.hok.fresh (Nat.le_refl _);have le1:e<s.heap.objs.size:=Heap.lt_size st1;have li1:it<s.heap.objs.size:=by obtain⟨o,q,_⟩:=st2;exact Heap.lt_size q
  have I1:Inv X pins σ (upd H s.heap.objs.size (.tup [.int i,x])) { s with heap:=s.heap.push { cls:= .type "tuple",data:= .seq #[.int i s.toks,u] } } :=
   I.laid (t':=s.toks) (fun b u e=>Heap.get?_push_of_some _ e) (Nat.le_refl _) ⟨(show 2<=sizeLine by rw[sizeLine_eq];decide),[.int i s.toks,u],.cons ⟨_,rfl⟩ (.cons ru .nil),⟨_,Heap.get?_push_size _ rfl,rfl,0,rfl⟩⟩
  have hf':∀b∈[e,it],fH X pins (upd H s.heap.objs.size (.tup [.int i,x])) b:=fun b hb=>by
   obtain⟨f0,f1⟩:=hf b hb;refine⟨?_,f1⟩;simp only[List.mem_cons,List.not_mem_nil,or_false]at hb;rcases hb with rfl|rfl
   ·rw[aJ (Nat.ne_of_lt le1)];exact f0
   ·rw[aJ (Nat.ne_of_lt li1)];exact f0
  have I2:Inv X pins σ (upd H s.heap.objs.size (.tup [.int i,x])) { s with heap:=h2,toks:=s.toks+1 }:=Inv.turns (s:={ s with heap:=s.heap.push { cls:= .type "tuple",data:= .seq #[.int i s.toks,u] } }) (h':=h2) (t':=s.toks+1) I1 (fun c o hb q=>by
   simp only[List.mem_cons,List.not_mem_nil,or_false,not_or]at hb;rcases Heap.get?_push_cases q with⟨rfl,rfl⟩|q
   ·exact(sb2.2 _ hb.1).trans ht1
   ·exact(sb2.2 c hb.1).trans (hk1 c o hb.1 hb.2 q)) hf'
  refine⟨.ref s.heap.objs.size,_,I2,rfl,⟨_,rfl,hq0,fun ys hy=>⟨x,by rw[I.list_inj hy hq];exact hx,rfl⟩⟩,⟨⟨u,?_⟩,hit1.at fun o q=>(sb2.2 it (Ne.symm hne)).trans q⟩,fun b hb=>(hf' b hb).1⟩;rw[show ((i+1:Nat):Int)=(i:Int)+1 by lia];exact he2
 done:=by
  intro X hP hw hK hc i pins s σ H E I hf st hg;subst hP hw hK;obtain⟨xs,hq,hx⟩:=hg;obtain⟨⟨old,st1⟩,st2⟩:=st;obtain⟨its,rv,p,hz⟩:=I.list hq;have hl:=rv.length;obtain⟨f0,f1,f2,f3,f4,f5⟩:=hf it (by simp);exact wpAny_pyNext_enum_end (I.ok.hd hc) st1 st2 p.isList (by simp;lia) fun h' eb=>⟨rfl,I.turned (t':=s.toks) (fun b o hb q=>eb b o hb q) f0 f1 f3 f4 f5⟩
 self:=fun A i s Q E st h=>by
  obtain⟨⟨old,st1⟩,_⟩:=st;exact wpAny_pyIter_enum st1 h
theorem y7:bootBuiltins "enumerate" =some (.type "enumerate"):=by decide +kernel
def MB (K:PySem.W.Frag)(ta:TA):TI:=fun σ H R=>ta σ H fun vs H1=>∃b xs,vs=[.ref b]/\SqL K H1 b xs/\R (Ite K b) H1
section
variable {X:Cx}
theorem vA {a:Expr}{ta:TA}{p pos:Pos}{elts:List Expr}{x1:Nat}{tpos:Pos} (hg:Gl X "enumerate") (hm:X.mg "enumerate" =none) (ha:PA X [a] ta) (hs:starEach [a] X.env=[(false,eval a X.env)]:=by rfl):PI X (.Tuple elts x1 tpos) (.Call (.Name "enumerate" p) [a] [] pos) (MB X.K ta):=by
 intro pins s σ H R I h;refine Call_ (mT I hg hm y7 (PyProof.Rows.callWith_type1 (thn (ha pos pins s σ H _ I h) fun us s1 ⟨vs,H1,I1,r1,q1⟩=> ?_) hs rfl));obtain⟨b,xs,rfl,hq,q⟩:=q1;obtain⟨u,rfl,rx⟩:=fT r1;cases rx;obtain⟨its,rv,pl,hz⟩:=I1.list hq;refine call_enumerate_list pl.isList fun h' he hit hsz kp=> ?_;refine wpAny_pyIter_enum (s:={ s1 with heap:=h' }) he ?_;have I2:Inv X pins σ H1 { s1 with heap:=h' }:=I1.kept (t':=s1.toks) kp;refine⟨s1.heap.objs.size+1,[s1.heap.objs.size+1,s1.heap.objs.size],_,_,H1,rfl,I2,FN b _ _ (Nat.succ_ne_self _),⟨⟨.none,he⟩,hit⟩,fun c hc=> ?_,q⟩;simp only[List.mem_cons,List.not_mem_nil,or_false]at hc;rcases hc with rfl|rfl
 ·exact I1.fpOk (Nat.le_succ _) (I1.hok.fresh (Nat.le_succ _))
 ·exact I1.fpOk (Nat.le_refl _) (I1.hok.fresh (Nat.le_refl _))
end
end L2
namespace L2
open PySem PySem.W PyProof.Rows
def QI (σ:St)(tv:TE)(rd:V->V->Hp->VK->Prop)(nx:St->Hp->Prop)(x:V):VK:=fun y H2=>∃a v,x= .ref a/\fV H2 a y (some v)/\tv σ H2 fun y2 H3=>rd v y2 H3 fun z H4=>∃H5,DPut H4 a y z H5/\nx σ H5
def R1 (σ:St)(p:Addr)(k:V)(nx:St->Hp->Prop):VK:=fun z H4=>∃H5,DPut H4 p k z H5/\nx σ H5
section
variable {K:PySem.W.Frag}{H:Hp}{Q:VK}{σ:St}{nx:St->Hp->Prop}{td ty tv:TE}{rd:V->V->Hp->VK->Prop}{rt:VK}{bk ct:St->Hp->Prop}{R:It->Hp->Prop}
theorem MI (h:td σ H fun x H1=>ty σ H1 (QI σ tv rd nx x)):LR td ty tv rd ⟨nx,rt,bk,ct⟩ σ H:=h
theorem IB {p:Addr}{z:Str}{kvs:List (Key×V)}{v:V} (e:Rd H p (.dK kvs)) (hv:bP kvs (.inr z)=some v) (h:tv σ H fun y2 H3=>rd v y2 H3 (R1 σ p (.str z) nx)):QI σ tv rd nx (.ref p) (.str z) H:=⟨p,v,rfl,.inl ⟨kvs,.inr z,e,rfl,hv.symm⟩,h⟩
theorem M6 {p:Addr}{z:Str}{kvs:List (Key×V)}{v:V} (e:H p=some (.dK kvs)) (hl:kvs.length<sizeLine) (h:∀H',SameBut p H H'->H' p=some (.dK (c7 kvs (.inr z) v))->nx σ H'):R1 σ p (.str z) nx v H:=⟨_,DPut.k (k:= .inr z) e hl,h _ SameBut.upd aV⟩
theorem AB {p:Addr}{kvs:List (Key×V)} (e:Rd H p (.dK kvs)) (h:∀l H',H l=none->Same H H'->H' l=some (.lst (kvs.map fun e=>kV e.1))->Q (.ref l) H'):GK [.ref p] H Q:=⟨p,kvs,rfl,e,fE h⟩
def L3 (K:PySem.W.Frag)(R:It->Hp->Prop):List V->Hp->Prop:=fun vs H1=>∃b xs,vs=[.ref b]/\SqL K H1 b xs/\R (Ite K b) H1
theorem JL {ta:TA}(h:ta σ H (L3 K R)):MB K ta σ H R:=h
theorem FF {b:Addr}{xs:List V} (e:SqL K H b xs) (h:R (Ite K b) H):L3 K R [.ref b] H:=⟨b,xs,rfl,e,h⟩
theorem EY {l b:Addr}{xs zs:List V} (e:H l=some (.lst xs)) (e2:H b=some (.lst zs)) (hz:xs.length+zs.length<=sizeLine) (h:∀H',SameBut l H H'->H' l=some (.lst (xs++zs))->Q .non H'):BX (.ref l) [.ref b] H Q:=⟨l,b,xs,zs,rfl,rfl,e,e2,hz,h _ SameBut.upd aV⟩
theorem OC (h:td σ H (EC Q)):L9 td σ H Q:=h
theorem KN {a:Addr}{kvs:List (Key×V)} (e:Rd H a (.dK kvs)) (h:∀v H',H v=none->Same H H'->H' v=some (qR v a)->Q (.ref v) H'):EC Q (.ref a) H :=
 ⟨a,kvs,rfl,e,fun v hv=>h v _ hv (kF hv) aV⟩
theorem N1 {v d:Addr}{kvs:List (Key×V)}{ns:List Int} (e:H v=some (qR v d)) (e2:Rd H d (.dK kvs)) (hn:kvs.map (·.2)=ns.map V.int) (h:Q (.int ns.sum) H):LW [.ref v] H Q:=⟨v,d,kvs,ns,rfl,e,e2,hn,h⟩
theorem uM {g:TG}{tb:TS}{a:Addr} (xs:List V) (Pv:Nat->St->Hp->Prop) (h0:Pv 0 σ H) (hl:∀i σ H,Pv i σ H->SqL K H a xs)
  (hs:∀i x σ H q H',xs[i]? =some x->Pv i σ H->H q=none->Same H H'->H' q=some (.tup [.int i,x])->g (.ref q) σ H' fun σ2 H2=>tb ⟨Pv (i+1),rt,nx,Pv (i+1)⟩ σ2 H2)(hd:∀σ H,Pv xs.length σ H->nx σ H):zL (Ite K a) g tb ⟨nx,rt,bk,ct⟩ σ H:=by
 refine⟨fun i m σ H=>m=xs.length - i/\i<=xs.length/\Pv i σ H,⟨xs.length,by simp,Nat.zero_le _,h0⟩,?_⟩;rintro i m σ H ⟨rfl,hi,p⟩;have q:=hl i σ H p
 by_cases hlt:i<xs.length
 ·refine .inr ⟨⟨xs,xs[i],q,by simp[hlt]⟩,Pv (i+1),fun σ' H' p'=>⟨xs.length - (i+1),by lia,rfl,hlt,p'⟩,fun x H' y=> ?_⟩;obtain⟨r,rfl,hr,hy⟩:=y;obtain⟨y,e1,rfl⟩:=hy xs q;exact hs i y σ H r _ e1 p hr (kF hr) aV
 ·have e:i=xs.length:=by lia
  subst e;exact .inl ⟨⟨xs,q,Nat.le_refl _⟩,hd σ H p⟩
end
def bH (ps:List (Str×Int))(z:Str):Int:=((ps.filter fun p=>decide (p.1=z)).map (·.2)).sum
theorem pT (ps:List (Str×Int))(p:Str×Int)(z:Str):bH (ps++[p]) z=bH ps z+if p.1=z then p.2 else 0:=by
 unfold bH;rw[List.filter_append,List.map_append,List.sum_append]
 congr 1
 by_cases h:p.1=z
 ·rw[if_pos h];simp[h]
 ·rw[if_neg h];simp[h]
end L2
namespace L2
open PySem PySem.W PyProof.Rows
end L2
namespace L2
open PySem PySem.W PyProof.Rows PySem.Calls
section
variable {prog:Program}{w:World}{A:Around}{E:Value->Shared->Prop}{s:Shared}{d v:Addr}{o:Obj}{es:Array DictEntry}{ep:Nat}
end
section
variable {X:Cx}
end
section
variable {K:PySem.W.Frag}{H:Hp}{Q:VK}{σ:St}{td:TE}
end
end L2
namespace L2
open PySem PySem.W PyProof.Rows
def gM (z:Str)(n:Nat):Str:=⟨(List.replicate n z.cps).foldl (·++·) #[]⟩
theorem AD:∀(l:List (Array Nat)) (a:Array Nat),(l.foldl (·++·) a).toList=a.toList++(l.map Array.toList).flatten
 | [],a=>by simp
 | x::l,a=>by rw[List.foldl_cons,AD l];simp
theorem pC (z:Str)(n:Nat):(gM z n).cps.toList=(List.replicate n z.cps.toList).flatten:=by
 unfold gM;rw[AD];simp
theorem yZ (c n:Nat):(gM ⟨#[c]⟩ n).cps.toList=List.replicate n c:=by
 rw[pC]
 induction n with
 | zero=>rfl
 | succ n ih=>rw[List.replicate_succ,List.flatten_cons,ih,List.replicate_succ];rfl
theorem pJ (c n:Nat):(gM ⟨#[c]⟩ n).length=n:=by
 show (gM ⟨#[c]⟩ n).cps.size=n;rw[←Array.length_toList,yZ,List.length_replicate]
def LK:R2:=fun x y H Q=>∃z n,x= .str z/\y= .int n/\0<=n/\n<=1000/\z.length<=1000/\Q (.str (gM z n.toNat)) H
section
variable {X:Cx}
theorem NF:OpR X (binaryOp .Mult) LK:=by
 intro pins s σ H x y v u Q I rx ry h;obtain⟨z,n,rfl,rfl,h0,h1,h2,q⟩:=h;obtain⟨t,rfl⟩:=rx;obtain⟨t',rfl⟩:=ry;have hl:z.length * n.toNat<=1000 * 1000:=Nat.mul_le_mul h2 (by lia);refine P.mul_str ?_ (fun h3 _=> ?_) (fun _ _=> ?_) ?_
 ·rw[decide_eq_false (by lia),decide_eq_false (by lia)];rfl
 ·have h4:(1000:Int)<=(2^63 - 1)/n:=Int.le_ediv_of_mul_le (by lia) (by lia)
  lia
 ·exact decide_eq_false (by rw[sizeLine_eq];lia)
 ·by_cases h3:n<1
  ·rw[if_pos h3];have e:gM z n.toNat=Str.empty:=by rw[show n.toNat=0 by lia];rfl
   rw[e]at q;exact⟨by decide,⟨.str Str.empty,H,I.tok _,⟨_,rfl⟩,q⟩⟩
  ·rw[if_neg h3]
   by_cases h4:(n==1||z.length==0)=true
   ·rw[if_pos h4];have e:gM z n.toNat=z:=by
     apply BN
     rw[pC];rcases (Bool.or_eq_true _ _).mp h4 with h5|h5
     ·rw[show n.toNat=1 by have:=eq_of_beq h5;lia];simp
     ·have h6:z.cps.toList=[]:=by
       have:z.length=0:=eq_of_beq h5;exact List.length_eq_zero_iff.mp (by rw[Array.length_toList];exact this)
      rw[h6];simp
    rw[e]at q;exact⟨.str z,H,I,⟨_,rfl⟩,q⟩
   ·rw[if_neg h4];exact⟨(by
     show (gM z n.toNat).cps.size<=sizeLine;rw[←Array.length_toList,pC,List.length_flatten,List.map_replicate,List.sum_replicate_nat,Array.length_toList,sizeLine_eq];have hl':n.toNat * z.cps.size<=1000 * 1000:=by rw[Nat.mul_comm];exact hl
     lia),⟨.str (gM z n.toNat),H,I.tok _,⟨_,rfl⟩,q⟩⟩
end
section
variable {X:Cx}{P:Program}{w:World}{K:PySem.W.Frag}{mg:Str->Option Value}{base:Heap}{k':Nat}{o e:Expr}{es:List Expr}{m:Str}{ta:TE}{t:TA}{apos pos:Pos}
theorem FT (k:Nat){pl:Sem Bool}(hr:Room k' X.A)(ho:PE X o ta)(ha:PA X (e::es) t)(hk:k<=k':=by decide)(hst:starEach (e::es) X.env=(false,eval e X.env)::starEach es X.env:=by rfl)(hpl:(backTo pos (starEach es X.env)).any (·.1)=false:=by rfl)
  (ht:eval (.Call (.Attribute o m apos) (e::es) [] pos) X.env=(do let ov ←eval o X.env;standAt apos.atName;let (f,first) ←holding [ov] (getMethod ov m pl);callWith pos f first (backTo pos (starEach (e::es) X.env)) (backToKw pos (keywordEach [] X.env))):=by rfl)
  (h1:X.prog=P:=by rfl)(h2:X.w=w:=by rfl)(h3:X.K=K:=by rfl)(h4:X.mg=mg:=by rfl)(h5:X.base=base:=by rfl):PE X (.Call (.Attribute o m apos) (e::es) [] pos) (tMD (fun C sp=>Mc P w K mg base C m k sp) m ta t):=by
 subst h1 h2 h3 h4 h5;exact d5 k hr ho ha hk hst hpl ht
end
theorem NB {H:Hp}{Q:VK}{z:Str}{n:Int} (h0:0<=n) (h1:n<=1000) (h2:z.length<=1000) (h:Q (.str (gM z n.toNat)) H):LK (.str z) (.int n) H Q:=⟨z,n,rfl,rfl,h0,h1,h2,h⟩
end L2
namespace L2
open PySem PySem.W PyProof.Rows
theorem Room.units9 {k:Nat}{A:Around} (r:Room k A):A.units+9<cLine:=by have:=r.un;have:cLine=9900:=rfl;lia
def DeepEq (K:PySem.W.Frag)(H:Hp):Nat->V->V->Prop
 | 0,x,y=>x=y/\qX x=true
 | n+1,x,y=>(x=y/\qX x=true)∨(∃a b xs ys,x= .ref a/\y= .ref b/\SqL K H a xs/\SqL K H b ys/\Paired (DeepEq K H n) xs ys)∨(∃a b xs ys,x= .ref a/\y= .ref b/\H a=some (.tup xs)/\H b=some (.tup ys)/\Paired (DeepEq K H n) xs ys)
theorem wF {A:Around}{s:Shared}{x:V}{u v:Value} (h:qX x=true) (ru:RelV x u) (rv:RelV x v):SeqAt.EqAt A s u v true:=by
 have base:tD x=true->SeqAt.EqAt A s u v true:=fun hx=>by
  have:=Q8 (A:=A) (s:=s) ru rv hx hx;rw[KO hx]at this;exact this
 cases x<;>first|(cases ru;cases rv;exact SeqAt.EqAt.same _)|exact base h
theorem kG {A:Around}{s:Shared}{F:V->V->Prop} (hF:∀x y u v,F x y->RelV x u->RelV y v->SeqAt.EqAt A s u v true):∀{xs ys:List V}{us ws:List Value},Paired F xs ys->Vals xs us->Vals ys ws->∀j (h1:j<us.length) (h2:j<ws.length),SeqAt.EqAt A s us[j] ws[j] true
 | _,_,_,_,.nil,.nil,.nil,j,h1,_=>absurd h1 (Nat.not_lt_zero _)
 | _,_,_,_,.cons h _,.cons r1 _,.cons r2 _,0,_,_=>hF _ _ _ _ h r1 r2
 | _,_,_,_,.cons _ t,.cons _ t1,.cons _ t2,j+1,h1,h2=>kG hF t t1 t2 j (Nat.lt_of_succ_lt_succ h1) (Nat.lt_of_succ_lt_succ h2)
section
variable {X:Cx}{pins:List (Addr×Obj)}{σ:St}{H:Hp}{s:Shared}
theorem qF (I:Inv X pins σ H s):∀(n:Nat) (A:Around),A.units+n<cLine->∀x y u v,DeepEq X.K H n x y->RelV x u->RelV y v->SeqAt.EqAt A s u v true
 | 0,A,hu,x,y,u,v,h,ru,rv=>by obtain⟨rfl,h⟩:=h;exact wF h ru rv
 | n+1,A,hu,x,y,u,v,h,ru,rv=>by
  rcases h with⟨rfl,h⟩|⟨a,b,xs,ys,rfl,rfl,ha,hb,pr⟩|⟨a,b,xs,ys,rfl,rfl,ha,hb,pr⟩
  ·exact wF h ru rv
  ·cases ru;cases rv
   by_cases hab:a=b
   ·subst hab;exact SeqAt.EqAt.same _
   ·obtain⟨its,r,pl,hz⟩:=I.list ha;obtain⟨its2,r2,pl2,_⟩:=I.list hb;have hl:its.length=its2.length:=by rw[←r.length,←r2.length];exact Paired.length pr
    have:=SeqAt.EqAt.of_refs hab (SeqAt.RcAt.lists (A:=A) (e:=fun _=>true) pl.isList pl2.isList (by simpa using hl) (by lia) fun j h1 h2=>by
     have h1':j<its.length:=by simpa using h1
     have h2':j<its2.length:=by simpa using h2
     have:=kG (A:=A.in1) (qF I n A.in1 (by show A.units+1+n<cLine;lia)) pr r r2 j h1' h2'
     simpa using this)
    rw[nZ]at this;exact this
  ·cases ru;cases rv
   by_cases hab:a=b
   ·subst hab;exact SeqAt.EqAt.same _
   ·obtain⟨_,its,r,o1,g1,c1,n1,d1⟩:=(show ObjOk X.prog X.w H s.heap a (.tup xs) from I.hok a _ ha)
    obtain⟨_,its2,r2,o2,g2,c2,n2,d2⟩:=(show ObjOk X.prog X.w H s.heap b (.tup ys) from I.hok b _ hb)
    have hl:its.length=its2.length:=by rw[←r.length,←r2.length];exact Paired.length pr
    have:=SeqAt.EqAt.of_refs hab (SeqAt.RcAt.tuples (A:=A) (e:=fun _=>true) ⟨o1,g1,c1,n1,d1⟩ ⟨o2,g2,c2,n2,d2⟩ (by lia) fun j h1 h2=>by
     have h1':j<its.length:=by simpa using h1
     have h2':j<its2.length:=by simpa using h2
     have:=kG (A:=A.in1) (qF I n A.in1 (by show A.units+1+n<cLine;lia)) pr r r2 j h1' h2'
     simpa using this)
    simpa [nZ,hl] using this
end
section
variable {X:Cx}
def yN (K:PySem.W.Frag)(r:Bool):R2:=fun x y H Q=>∃a b xs ys,x= .ref a/\y= .ref b/\SqL K H a xs/\SqL K H b ys/\Paired (DeepEq K H 4) xs ys/\Q (.bl r) H
theorem pB (hu:X.A.units+9<cLine):OpR X (compareOp .Eq) (yN X.K true):=by
 intro pins s σ H x y v u Q I rx ry h;obtain⟨a,b,xs,ys,rfl,rfl,ha,hb,pr,q⟩:=h;cases rx;cases ry;obtain⟨its,r,pl,hz⟩:=I.list ha;obtain⟨its2,r2,pl2,_⟩:=I.list hb;have hl:its.length=its2.length:=by rw[←r.length,←r2.length];exact Paired.length pr
 refine SeqAt.eq_listAt (e:=fun _=>true) pl.isList pl2.isList (by simpa using hl) (by lia) (fun j h1 h2=> ?_) ⟨.bl true,H,I,by rw[nZ];rfl,q⟩;have:=kG (A:=X.A.in1) (qF I 4 X.A.in1 (by show X.A.units+1+4<cLine;lia)) pr r r2 j (by simpa using h1) (by simpa using h2)
 simpa using this
theorem zW (hu:X.A.units+9<cLine):OpR X (compareOp .NotEq) (yN X.K false):=by
 intro pins s σ H x y v u Q I rx ry h;obtain⟨a,b,xs,ys,rfl,rfl,ha,hb,pr,q⟩:=h;cases rx;cases ry;obtain⟨its,r,pl,hz⟩:=I.list ha;obtain⟨its2,r2,pl2,_⟩:=I.list hb;have hl:its.length=its2.length:=by rw[←r.length,←r2.length];exact Paired.length pr
 refine SeqAt.RcNeAt.lists (e:=fun _=>true) pl.isList pl2.isList (by simpa using hl) (by lia) (fun j h1 h2=> ?_) X.prog X.w X.xe _ ⟨.bl false,H,I,by rw[nZ];rfl,q⟩;have:=kG (A:=X.A.in1) (qF I 4 X.A.in1 (by show X.A.units+1+4<cLine;lia)) pr r r2 j (by simpa using h1) (by simpa using h2)
 simpa using this
end
section
variable {K:PySem.W.Frag}{H H':Hp}{Q:VK}
theorem fL {a b:Addr}{xs ys:List V}{r:Bool} (ha:SqL K H a xs) (hb:SqL K H b ys) (pr:Paired (DeepEq K H 4) xs ys) (h:Q (.bl r) H):yN K r (.ref a) (.ref b) H Q:=⟨a,b,xs,ys,rfl,rfl,ha,hb,pr,h⟩
theorem DeepEq.self {n:Nat}{x:V} (h:qX x=true):DeepEq K H n x x:=by cases n with|zero=>exact⟨rfl,h⟩|succ n=>exact .inl ⟨rfl,h⟩
theorem DeepEq.tup {n:Nat}{a b:Addr}{xs ys:List V} (ha:H a=some (.tup xs)) (hb:H b=some (.tup ys)) (pr:Paired (DeepEq K H n) xs ys):DeepEq K H (n+1) (.ref a) (.ref b):= .inr (.inr ⟨a,b,xs,ys,rfl,rfl,ha,hb,pr⟩)
theorem dZ {n:Nat}:∀{xs:List V},xs.all qX=true->Paired (DeepEq K H n) xs xs
 | [],_=> .nil
 | x::xs,h=>by
  rw[List.all_cons,Bool.and_eq_true]at h;exact .cons (DeepEq.self h.1) (dZ h.2)
end
section
variable {H:Hp}{Q:VK}{σ:St}{ty tx:TE}
theorem wK {p:Addr}{kvs:List (Key×V)} (e:Rd H p (.dK kvs)) (h:ty σ H fun y H2=>tx σ H2 (QC p Q y)):GL σ ty tx Q (.ref p) H:=⟨p,rfl,.inl ⟨kvs,e⟩,h⟩
theorem z3 {p:Addr}{z:Str}{d:V}{kvs:List (Key×V)} (e:Rd H p (.dK kvs)) (h:Q ((bP kvs (.inr z)).getD d) H):QC p Q (.str z) d H:=⟨_,.inl ⟨kvs,.inr z,e,rfl,rfl⟩,h⟩
end
end L2
namespace L2
open PySem PySem.W PyProof.Rows
section
variable {H:Hp}{Q:VK}
end
end L2
namespace L2
open PySem PySem.Spec PyProof.Rows
section
variable {X:Cx}{args:Arguments}{body:Expr}{lsc:Scope}{pos:Pos}{y:Str}{c cL PL:Addr}
end
section
variable {K:PySem.W.Frag}{ti:TT}{te:TE}{σ:St}{ci:List Nat}{rest:St}{fin:List V->Hp->Prop}{H:Hp}{a:Addr}{α:Type}
end
end L2
namespace L2
open PySem PySem.W PyProof.Rows
section
variable {X:Cx}{pins:List (Addr×Obj)}{σ:St}{H:Hp}{s:Shared}
end
open Classical in
section
variable {X:Cx}{K:PySem.W.Frag}
open Classical in
open Classical in
open Classical in
end
end L2
namespace L2
open PySem PySem.W PyProof.Rows
section
variable {K:PySem.W.Frag}{ti:TT}{te:TE}{σ:St}{ci:List Nat}{rest:St}{fin:List V->Hp->Prop}{H:Hp}{a:Addr}
end
end L2
namespace L2
open PySem PySem.W PyProof.Rows
section
variable {X:Cx}
end
end L2
namespace L2
open PySem PySem.W PyProof.Rows
section
variable {X:Cx}{ek ev:Expr}{tk tv:TE}{pos:Pos}
end
end L2
namespace L2
open PySem PySem.W PyProof.Rows
section
variable {K:Frag}{x qual:Str}{st:Stmt}{f:Addr}
end
end L2
namespace L2
open PySem PySem.W PyProof.Rows
section
variable {prog:Program}{w:World}{A:Around}{E:Value->Shared->Prop}{s:Shared}{κ:SortKind}{D:Keyed->Prop}{ρ:Keyed->Int}{st:SortSt}
end
end L2
namespace L2
open PySem PySem.W PyProof.Rows
section
variable {ρ:Keyed->Int}
variable {all o p ra rb:List Keyed}
end
end L2
namespace L2
open PySem PySem.W PyProof.Rows
section
variable {prog:Program}{w:World}{A:Around}{E:Value->Shared->Prop}{s:Shared}{κ:SortKind}{D:Keyed->Prop}{ρ:Keyed->Int}{st:SortSt}
end
end L2
namespace L2
open PySem PySem.W PyProof.Rows
section
variable {prog:Program}{w:World}{A:Around}{E:Value->Shared->Prop}{s:Shared}{κ:SortKind}{D:Keyed->Prop}{ρ:Keyed->Int}{st:SortSt}
end
end L2
namespace L2
open PySem PySem.W PyProof.Rows
section
variable {prog:Program}{w:World}{A:Around}{E:Value->Shared->Prop}{s:Shared}{κ:SortKind}{D:Keyed->Prop}{ρ:Keyed->Int}{st:SortSt}
end
end L2
namespace L2
open PySem PySem.W PyProof.Rows
section
variable {prog:Program}{w:World}{A:Around}{E:Value->Shared->Prop}{s:Shared}{κ:SortKind}{D:Keyed->Prop}{ρ:Keyed->Int}{st:SortSt}
end
end L2
namespace L2
open PySem PySem.W PyProof.Rows
section
variable {prog:Program}{w:World}{A:Around}{E:Value->Shared->Prop}{s:Shared}{κ:SortKind}{D:Keyed->Prop}{ρ:Keyed->Int}{st:SortSt}
end
end L2
namespace L2
open PySem PySem.W PyProof.Rows
section
variable {prog:Program}{w:World}{A:Around}{E:Value->Shared->Prop}{s:Shared}{κ:SortKind}{D:Keyed->Prop}{ρ:Keyed->Int}{st:SortSt}{a₀:Array Keyed}
end
end L2
namespace L2
open PySem PySem.W PyProof.Rows
section
variable {prog:Program}{w:World}{A:Around}{E:Value->Shared->Prop}{s:Shared}{κ:SortKind}{D:Keyed->Prop}{ρ:Keyed->Int}{st:SortSt}{a₀:Array Keyed}
end
end L2
namespace L2
open PySem PySem.W PyProof.Rows PySem.Calls
section
variable {prog:Program}{w:World}{A:Around}{E:Value->Shared->Prop}{s:Shared}{α:Type}{f:Value->α}{lt:α->α->Bool}{d:α}{l:List α}
end
end L2
namespace L2
open PySem PySem.W PyProof.Rows PySem.Calls
section
variable {X:Cx}{H:Hp}
end
end L2
namespace L2
open PySem PySem.W PyProof.Rows
section
variable {prog:Program}{w:World}{A:Around}{E:Value->Shared->Prop}{s:Shared}
end
open Sem (wp) in
open AutoSeq1 (wpAny_loadPart') in
section
variable {prog:Program}{w:World}{A:Around}{E:Value->Shared->Prop}{s:Shared}
end
end L2
namespace L2
open PySem PySem.W PyProof.Rows
section
variable {prog:Program}{w:World}{A:Around}{E:Value->Shared->Prop}{s:Shared}
end
section
variable {X:Cx}
end
end L2
namespace L2
open PySem PySem.W PyProof.Rows
section
variable {K:PySem.W.Frag}{H:Hp}{σ:St}{Q:VK}{R:It->Hp->Prop}{nx bk ct:St->Hp->Prop}{rt:VK}
end
theorem fK (xs:List V):qP xs none none (some (-1))=xs.reverse:=by
 unfold qP jO;rw[krv_bounds];show (sliceRange ((xs.length:Int) - 1) (-1) (-1)).filterMap (xs[·]?)=_;rw[krv_sliceRange,krv_range,List.filterMap_reverse]
 congr 1
 have h:=krv_all xs.toArray
 simpa using h
theorem fO (n:Nat):(jO n none none (some (-1))).length=n:=by
 unfold jO;rw[krv_bounds];show (sliceRange ((n:Int) - 1) (-1) (-1)).length=_;rw[krv_sliceRange,List.length_map,List.length_range]
end L2
namespace L2
open PySem PySem.W PyProof.Rows
section
variable {prog:Program}{w:World}{A:Around}{E:Value->Shared->Prop}{s:Shared}
variable {κ:Type}[DecidableEq κ]{knd:HeapKind prog w κ}
end
section
variable {A:Around}{s:Shared}
end
section
variable {prog:Program}{w:World}{A:Around}{E:Value->Shared->Prop}{s:Shared}
variable {κ:Type}[DecidableEq κ]{knd:HeapKind prog w κ}
end
section
variable {X:Cx}{pins:List (Addr×Obj)}{σ:St}{H:Hp}{s:Shared}
end
section
variable {X:Cx}
theorem wQ {K:PySem.W.Frag}{H:Hp}{n:Nat}:∀{vs ws:List V}{rs:List (List Key)},KRows H vs rs->KRows H ws rs->Paired (DeepEq K H (n+1)) vs ws
 | _,_,_,.nil,.nil=> .nil
 | _,_,r::_,.cons ⟨p,e1,h1⟩ t1,.cons ⟨q,e2,h2⟩ t2=>by
  subst e1;subst e2;refine .cons (DeepEq.tup h1 h2 (dZ ?_)) (wQ t1 t2);rw[List.all_eq_true];intro v hv;obtain⟨k,_,rfl⟩:=List.mem_map.mp hv;cases k<;>rfl
end
section
variable {X:Cx}
end
end L2
namespace L2
open PySem PySem.Spec PyProof.Rows
section
variable {P:Program}{w:World}
end
section
variable {P:Program}{w:World}{K:PySem.W.Frag}{mg:Str->Option Value}{base:Heap}
end
section
variable {X:Cx}{args:Arguments}{body:Expr}{lsc:Scope}{pos:Pos}{cs:List (Str×Addr)}{cL PL:Addr}
end
section
variable {P:Program}{w:World}{K:PySem.W.Frag}{mg:Str->Option Value}{base:Heap}
end
end L2
namespace L2
open PySem PySem.W PyProof.Rows
section
variable {P:Program}{w:World}{K:PySem.W.Frag}{mg:Str->Option Value}{base:Heap}
end
end L2
namespace L2
open PySem PySem.W PyProof.Rows
end L2
namespace L2
open PySem PySem.W PyProof.Rows
section
variable {X:Cx}{rest a:List Stmt}{u v:j7->(St->V->Hp->Prop)->St->Hp->Prop}{c:Expr}{tc:TT}{pos:Pos}
end
end L2
namespace L2
open PySem PySem.W PyProof PyProof.Rows
section
variable {X:Cx}{pins:List (Addr×Obj)}{σ:St}{H:Hp}{s:Shared}{a:Addr}{k:Option Str}{v:V}{u r:Value}{A:Around}{E:Value->Shared->Prop}{kvs:List (Option Str×V)}
end
section
variable {X:Cx}{o i value:Expr}{pos pos':Pos}{td ty tv:TE}
end
section
variable {X:Cx}
end
section
variable {P:Program}{w:World}{H:Hp}{Q:VK}{σ:St}{nx bk ct:St->Hp->Prop}{rt:VK}{R:It->Hp->Prop}{td ty tv:TE}{p:Addr}{kvs:List (Option Str×V)}{v:V}
end
end L2
namespace L2
open PySem PySem.W PyProof PyProof.Rows
end L2
namespace L2
open PySem PySem.W PyProof.Rows PySem.Calls
section
variable {prog:Program}{w:World}{A:Around}{E:Value->Shared->Prop}{s:Shared}
def txt:Value->Str
 | .str x _=>x
 | _=>Str.empty
def TxE (w:World)(es:List (Int×Value)):Prop:=∀e∈es,∃x t,e=(hashStr w x,Value.str x t)
def eI (ss:List Str)(x:Str):List Str:=if x∈ss then ss else ss++[x]
def tsO (w:World)(ss:List Str)(o:Obj):Prop:=o.ExactSet/\∃es ep t,o.data= .set es ep t/\TxE w es.toList/\List.Perm (es.toList.map fun e=>txt e.2) ss/\t.fits es.size=true/\t.led=(!w.params.followText "set-order")/\(t.plain=true->es.size=0)
theorem TxE.el {l:List (Int×Value)}(h:TxE w l):ElemsOf (aU prog w) l:=fun e he=>by
 obtain⟨x,t,rfl⟩:=h e he;exact⟨⟨.inr x,iW prog w x t,rfl⟩,rfl⟩
theorem TxE.mem {l:List (Int×Value)}(h:TxE w l){x:Str}:(∃e∈l,(aU prog w).is (.inr x) e.2=true)↔x∈l.map fun e=>txt e.2:=by
 rw[List.mem_map]
 constructor
 ·rintro ⟨e,he,hi⟩;obtain⟨y,t,rfl⟩:=h e he;obtain⟨t2,e2⟩:=Value.isStrOf_shape (show Value.isStrOf x (.str y t)=true from hi);injection e2 with e2 _;exact⟨_,he,e2⟩
 ·rintro ⟨e,he,rfl⟩;obtain⟨y,t,rfl⟩:=h e he;exact⟨_,he,iW prog w y t⟩
theorem OT (t:SetTable)(es:Array (Int×Value))(h:Int)(x:Value):(layNew t es h x).2.1.led=t.led:=by
 unfold layNew
 split
 ·show (SetTable.orStandIn _ _).led=_;unfold SetTable.orStandIn
  split<;>rfl
 ·rfl
theorem GB (t:SetTable)(es:Array (Int×Value))(n:Nat):(relayAll t es n).2.1.led=t.led/\((relayAll t es n).2.1.plain=true->t.plain=true):=by
 unfold relayAll
 split
 ·rename_i t' order q;have q2:t'.led=t.led/\t'.plain=t.plain:=by
   simp only[SetTable.relaid,SetTable.laid,Option.bind_eq_bind,Option.bind_eq_some_iff]at q;obtain⟨_,_,q⟩:=q;simp only[pure,Option.some.injEq,Prod.mk.injEq]at q;obtain⟨q,_⟩:=q;subst q;exact⟨rfl,rfl⟩
  dsimp only
  split
  ·exact⟨q2.1,fun z=>q2.2▸z⟩
  ·exact⟨rfl,fun z=>absurd z (by simp[SetTable.standIn])⟩
 ·exact⟨rfl,fun z=>absurd z (by simp[SetTable.standIn])⟩
theorem BU {g:Bool->Sem Unit}(hg:∀(b:Bool) (s1:Shared) (Z:Unit->Shared->Prop),Z () s1->wpAny (model prog w) A (g b) Z E s1){a:Addr}{o:Obj}{es:Array (Int×Value)}{ep:Nat}{t:SetTable} (ho:s.heap.get? a=some o) (x0:o.ExactSet) (hd:o.data= .set es ep t)
  {ss:List Str}{e1:Array (Int×Value)}{t2:SetTable} (te:TxE w e1.toList) (pm:List.Perm (e1.toList.map fun e=>txt e.2) ss) (hz:e1.size<scanBound) (hf:t2.fits e1.size=true) (ld:t2.led=(!w.params.followText "set-order")) (pl:t2.plain=false) {wd:Bool}{R:Option Bool->Shared->Prop}
  (k:∀h' o',Heap.SameBut a s.heap h'->h'.get? a=some o'->tsO w ss o'->R (some true) { s with heap:=h' }) :
  wpAny (model prog w) A (do
    storeSet a e1 t2
    if (!wd&&t2.tooFull)=true then do
      g (relayAll t2 e1 (SetTable.grown e1.size)).2.2
      storeSet a (relayAll t2 e1 (SetTable.grown e1.size)).1 (relayAll t2 e1 (SetTable.grown e1.size)).2.1
      pure (some true)
     else pure (some true)) R E s:=by
 refine wpAny_bind (wpAny_storeSet_of ho hd ?_ (fits_of_scanBound hz));have hq:=Heap.get?_update_self (Obj.putSet e1 t2) ho (by rw[putSet_of e1 t2 hd];rfl);rw[putSet_of e1 t2 hd]at hq;have sb:=Heap.SameBut.update s.heap a (Obj.putSet e1 t2)
 split
 ·have p2:=relayAll_perm t2 e1 (SetTable.grown e1.size);have f2:=relayAll_fits t2 e1 (SetTable.grown e1.size);obtain⟨l2,l3⟩:=GB t2 e1 (SetTable.grown e1.size);generalize relayAll t2 e1 (SetTable.grown e1.size)=r at p2 f2 l2 l3 ⊢;obtain⟨e2,t3,gv⟩:=r
  dsimp only at p2 f2 l2 l3 ⊢
  have z2:e2.size=e1.size:=by rw[←Array.length_toList,p2.length_eq,Array.length_toList]
  refine wpAny_bind (hg _ _ _ (wpAny_bind (wpAny_storeSet_of hq rfl ?_ (fits_of_scanBound (by rw[z2];exact hz)))));have hq2:=Heap.get?_update_self (Obj.putSet e2 t3) hq rfl;exact wpAny_pure (k _ _ (sb.trans (Heap.SameBut.update _ a _)) hq2 ⟨x0,e2,_,t3,rfl,fun e he=>te e (p2.mem_iff.mp he),(p2.map _).trans pm,f2,l2.trans ld,fun z=>absurd (l3 z) (by rw[pl];exact Bool.false_ne_true)⟩)
 ·exact wpAny_pure (k _ _ sb hq ⟨x0,e1,_,t2,rfl,te,pm,hf,ld,fun z=>absurd z (by rw[pl];exact Bool.false_ne_true)⟩)
theorem SF {a:Addr}{o:Obj}{ss:List Str}{x:Str}{tk:Tok}{Q:Bool->Shared->Prop} (ho:s.heap.get? a=some o) (hs:tsO w ss o) (hz:ss.length+1<scanBound)
  (k:∀b h' o',Heap.SameBut a s.heap h'->h'.get? a=some o'->tsO w (eI ss x) o'->Q b { s with heap:=h' }):wpAny (model prog w) A (setAddHashed a (.str x tk) (hashStr w x)) Q E s:=by
 obtain⟨x0,es,ep,t,hd,te,pm,hf,ld,pl⟩:=id hs;have hn:es.size=ss.length:=by rw[←pm.length_eq,List.length_map,Array.length_toList]
 have el:ElemsOf (aU prog w) es.toList:=te.el;have hk:=iW prog w x tk;unfold setAddHashed setAddHashedIn;refine wpAny_holding (wpAny_bind (wpAny_setState_of ho hd hf ?_))
 dsimp only
 rw[byScan_of (knd:=aU prog w) (x:=Value.str x tk) rfl (by lia) el];simp only[↓reduceIte];unfold setAddByScan;refine wpAny_bind (wpAny_bind (wpAny_rule (wpAny_bind (wpAny_setScan_of (knd:=aU prog w) (k:= .inr x) hk ho hd hf el ?_))));cases hr:List.findIdx? (fun e=>(aU prog w).is (.inr x) e.2) es.toList with
 | some j =>
  dsimp only
  obtain⟨hj,hp,_⟩:=List.findIdx?_eq_some_iff_getElem.mp hr;have hm:x∈ss:=pm.mem_iff.mp (te.mem.mp ⟨es.toList[j],List.getElem_mem hj,hp⟩);have e0:s={ s with heap:=s.heap }:=by cases s;rfl
  rw[e0];exact wpAny_pure (wpAny_pure (k _ _ o (Heap.SameBut.refl a s.heap) ho (by rw[eI,if_pos hm];exact hs)))
 | none =>
  dsimp only
  have hm:x∉ss:=fun hm=>by
   obtain⟨e,he,hi⟩:=(te.mem (prog:=prog)).mpr (pm.mem_iff.mpr hm);have:=List.findIdx?_eq_none_iff.mp hr e he;rw[hi]at this;cases this
  have gw:∀(b:Bool) {s1:Shared}{Z:Unit->Shared->Prop},Z () s1->wpAny (model prog w) A (match b with|true=>rule "set.scan.the-table-gave-way" |false=>pure ()) Z E s1:=fun b s1 Z q=>by
   cases b<;>first|exact wpAny_pure q|exact wpAny_rule q
  have p1:=layNew_perm t es (hashStr w x) (.str x tk);have f1:=layNew_fits t es (hashStr w x) (.str x tk);have l1:=OT t es (hashStr w x) (.str x tk);generalize layNew t es (hashStr w x) (.str x tk)=L at p1 f1 l1 ⊢;obtain⟨e1,t1,wd,gv⟩:=L
  dsimp only at p1 f1 l1 ⊢
  rw[Array.toList_push]at p1;have z1:e1.size=es.size+1:=by rw[←Array.length_toList,p1.length_eq,List.length_append,Array.length_toList];rfl
  have te1:TxE w e1.toList:=fun e he=>by
   rcases List.mem_append.mp (p1.mem_iff.mp he) with h|h
   ·exact te e h
   ·rw[List.mem_singleton.mp h];exact⟨x,tk,rfl⟩
  have pm1:List.Perm (e1.toList.map fun e=>txt e.2) (eI ss x):=by
   rw[eI,if_neg hm];refine(p1.map _).trans ?_;rw[List.map_append];exact pm.append_right _
  refine wpAny_bind (gw _ ?_)
  split
  ·refine wpAny_bind ?_;rw[hashByValue_scannable 8 (x:=Value.str x tk) rfl];refine wpAny_pure ?_;simp only[show plainKind (Value.str x tk)=false from rfl,Bool.false_eq_true,if_false];refine BU ?_ ho x0 hd te1 pm1 (by lia) (SetTable.fits_plain_off f1) (l1.trans ld) rfl ?_
   ·intro b s1 Z q;cases b<;>first|exact wpAny_pure q|exact wpAny_rule q
   ·intro h' o' sb e q;exact wpAny_pure (k _ h' o' sb e q)
  ·rename_i hp;refine wpAny_bind (wpAny_pure ?_);simp only[↓reduceIte];refine BU ?_ ho x0 hd te1 pm1 (by lia) f1 (l1.trans ld) (by cases hq:t1.plain with|true=>exact absurd hq hp|false=>rfl) ?_
   ·intro b s1 Z q;cases b<;>first|exact wpAny_pure q|exact wpAny_rule q
   ·intro h' o' sb e q;exact wpAny_pure (k _ h' o' sb e q)
theorem HV (ss:List Str)(x:Str):(eI ss x).length<=ss.length+1:=by
 unfold eI;split
 ·lia
 ·rw[List.length_append];exact Nat.le_refl _
theorem pH (xs:List Str)(ss:List Str):(xs.foldl eI ss).length<=ss.length+xs.length:=by
 induction xs generalizing ss with
 | nil=>exact Nat.le_refl _
 | cons x xs ih =>
  have h1:=ih (eI ss x);have h2:=HV ss x;rw[List.foldl_cons,List.length_cons]
  lia
variable {R:Result->Shared->Prop}
theorem MF {I:Addr}{fp wr:List Addr}{n:Nat}{P:Nat->Value->Prop}{St:Nat->Heap->Prop} (W:Walks prog w A.in1 I fp wr n P St) (S:Addr) (nS:S∉fp) (xs:List Str) (hn:n=xs.length) (hv:∀i v,P i v->∃x t,xs[i]? =some x/\v= .str x t) (hz:n+1<scanBound) :
  ∀(m i:Nat) (s:Shared) (o:Obj),n - i=m->i<=n->St i s.heap->s.heap.get? S=some o->tsO w ((xs.take i).foldl eI []) o →
   (∀h' tk o',(∀b u,b≠S->b∉wr->s.heap.get? b=some u->h'.get? b=some u)->h'.get? S=some o'->tsO w (xs.foldl eI []) o'->R (.ok (.ret .none)) { s with heap:=h',toks:=tk }) →
   codeAny (model prog w) A (.builtin "set.update.loop" ⟨[.ref S,.ref I],[]⟩) R s:=by
 have nW:S∉wr:=fun z=>nS (W.sub _ z);intro m
 induction m with
 | zero =>
  intro i s o e1 e2 st ho ts k;obtain rfl:i=n:=by lia
  refine codeAny_builtin PyProof.Rows.F.entry_set_update_loop ?_;rw[Around.under_plainId PyProof.Rows.F.plain_set_update_loop _];show wpAny _ A.in1 (pyNext (.ref I) >>= _) _ _ s;refine wpAny_bind (W.done s _ _ st fun h' tk kp=> ?_);show wpAny _ A.in1 (ret Value.none) _ _ _;rw[hn,List.take_length]at ts;exact wpAny_pure (k h' tk o (fun b u _ hb e=>kp b u hb e) (kp S o nW ho) ts)
 | succ m ih =>
  intro i s o e1 e2 st ho ts k;have lt:i<n:=by lia
  refine codeAny_builtin PyProof.Rows.F.entry_set_update_loop ?_;rw[Around.under_plainId PyProof.Rows.F.plain_set_update_loop _];show wpAny _ A.in1 (pyNext (.ref I) >>= _) _ _ s;refine wpAny_bind (W.item i s _ _ lt st fun v h1 t1 hP st1 kp=> ?_);obtain⟨x,t,hx,rfl⟩:=hv i v hP;show wpAny _ A.in1 (holding [Value.str x t] (setAdd S (.str x t)) >>= _) _ _ _;unfold setAdd;refine wpAny_bind (wpAny_holding (wpAny_holding (wpAny_bind (wpAny_pyHash_str ?_))));have hl:((xs.take i).foldl eI []).length+1<scanBound:=by
   have h1:=pH (xs.take i) [];rw[List.length_take,List.length_nil]at h1
   lia
  refine SF (s:={ s with heap:=h1,toks:=t1+1 }) (kp S o nW ho) ts hl fun b h2 o2 sb e q=> ?_;refine wpAny_pure ⟨plainId_quiet PyProof.Rows.F.plain_set_update_loop _,ih (i+1) _ o2 (by lia) lt (W.frame _ h1 _ st1 fun b hb u eu=> ?_) e ?_ fun h3 t3 o3 k3 e3 q3=> ?_⟩
  ·rw[sb.2 b (fun z=>nS (by rw[←z];exact hb))];exact eu
  ·rw[List.take_succ,hx,List.foldl_append];exact q
  ·exact k h3 t3 o3 (fun b u hb hw eu=>k3 b u hb hw (by rw[sb.2 b hb];exact kp b u hw eu)) e3 q3
end
end L2
namespace L2
open PySem PySem.W PyProof.Rows PySem.Calls
section
variable {prog:Program}{w:World}{A:Around}{E:Value->Shared->Prop}{s:Shared}
def lY (w:World):Obj:={ cls:= .type "set",dict:=none,data:= .set #[] 0 (.fresh 0 0 (!w.params.followText "set-order")) }
theorem P9:tsO w [] (lY w):=⟨⟨rfl,rfl,rfl⟩,#[],0,_,rfl,fun e he=>by simp at he,.nil,rfl,rfl,fun _=>rfl⟩
theorem P0 (a:Value){Z:Value->Shared->Prop}(h:Z (.ref s.heap.objs.size) { s with heap:=s.heap.push (lY w) }):codeAny (model prog w) A (.call (.builtin "set.__new__") ⟨[.type "set",a],[]⟩) (wants Z E) s:=by
 refine codeAny_of_tree (show wpAny _ A.in1 (checkBuiltinCall "set.__new__" ⟨[.type "set",a],[]⟩ >>= fun _=>again (.builtin "set.__new__" ⟨[.type "set",a],[]⟩)) _ _ s from wpAny_bind (wpAny_of_eq (PySem.F.newCall_set_1 a) (wpAny_pure ⟨plainId_quiet PySem.F.plain_set_new _,codeAny_builtin PySem.F.entry_set_new ?_⟩)));rw[Around.under_plainId PySem.F.plain_set_new _];unfold Builtin.«set.__new__» Builtin.Frozenset.newClass;have sub0:=sub_set_self;obtain⟨hp,g,d,tk,os⟩:=s
 dsimp only;wp_walk;refine wpAny_askSetting (wpAny_pure ?_)
 dsimp only;simp only[newObj];refine wpAny_bind (wpAny_alloc (wpAny_pure ?_))
 exact wpAny_pure h
theorem FK {l:Addr}{us:List Value}{xs:List Str}{Q:Value->Shared->Prop} (hh:A.handled=none) (hl:s.heap.IsList l us.toArray) (rv:Vals (xs.map V.str) us) (hz:xs.length+1<scanBound)
  (k:∀h' tk o',(∀b u,s.heap.get? b=some u->h'.get? b=some u)->h'.get? s.heap.objs.size=some o'->tsO w (xs.foldl eI []) o'->Q (.ref s.heap.objs.size) { s with heap:=h',toks:=tk }):wpAny (model prog w) A (call (.type "set") [.ref l]) Q E s:=by
 obtain⟨c0,tl,m1⟩:=PySem.F.called_set.mro;have m2:=PySem.F.called_set.made;have m3:=PySem.F.called_set.sub;have m4:=PySem.F.called_set.notType;have m5:=PySem.F.called_set.canCreate;have m6:=PySem.F.typeCall_set_1 (.ref l);refine wpAny_call (codeAny_of_tree (show wpAny _ _ (callAny (.type "set") _) _ _ _ from wpAny_pure ⟨Code.quiet_builtin _ (by decide +kernel),codeAny_builtin PySem.F.entry_type_call ?_⟩));rw[Around.under_plain (weight_type_call_type "set" [.ref l] []) rfl]
 repeat (any_goals (first|assumption|wp_step))
 refine codeAny_mono (P0 (.ref l) (E:=E) (Z:=fun obj s1=>obj= .ref s.heap.objs.size/\s1={ s with heap:=s.heap.push (lY w) }) ⟨rfl,rfl⟩) fun r s1 hr=> ?_;cases r with
 | error e=>exact hr
 | ok fl =>
  cases fl with
  | ret obj =>
   obtain⟨rfl,rfl⟩:=hr;have hS:(s.heap.push (lY w)).get? s.heap.objs.size=some (lY w):=Heap.get?_push_size _ rfl;have hT:Shared.TypeIs { s with heap:=s.heap.push (lY w) } (.ref s.heap.objs.size) "set" :=⟨_,hS,rfl⟩
   have m7:=PySem.F.called_set.init.lookup;have m8:=PySem.F.called_set.init.bind (.ref s.heap.objs.size)
   repeat (any_goals (first|assumption|wp_step))
   refine codeAny_mono (codeAny_call_builtin (R:=wants (fun r s2=>r= .none/\Q (.ref s.heap.objs.size) s2) E) PySem.F.called_set.init.plain PySem.F.entry_set_init (check_set_init_1 hT ?_)) fun r2 s2 hr2=> ?_
   rotate_left
   ·cases r2 with
    | error e=>exact hr2
    | ok f2 =>
     cases f2 with
     | ret r =>
      obtain⟨rfl,q⟩:=hr2
      repeat (any_goals (first|assumption|wp_step))
     | _=>exact hr2.elim
   obtain⟨ol,hol,hcl,nl,hdl⟩:=hl;obtain⟨ocls,odict,odata,oslots⟩:=ol;simp only at hcl hdl;subst hcl hdl;have hol2:(s.heap.push (lY w)).get? l=some { cls:= .type "list",dict:=odict,data:= .seq us.toArray nl,slots:=oslots }:=Heap.get?_push_of_some _ hol;have b1:=PySem.F.sub_list_set;have b2:=PySem.F.sub_list_frozenset;have b3:(Value.type "list" ==Value.type "dict")=false:=by decide
   have hl1:(s.heap.push (lY w)).IsList l us.toArray:=⟨_,hol2,rfl,nl,rfl⟩
   unfold Builtin.«set.__init__» noKeywords Builtin.Frozenset.updateFrom;generalize hPI:pyIter=PI
   wp_walk
   subst hPI;refine wpAny_pyIter_list hl1 (wpAny_bind (wpAny_runValue ?_));have lS:l<s.heap.objs.size:=Heap.lt_size hol;have h3:A.in1.in1.in1.handled=none:=by simp[hh]
   have hlen:=rv.length;rw[List.length_map]at hlen;have nI:l≠(s.heap.push (lY w)).objs.size:=by rw[Heap.size_push];exact Nat.ne_of_lt (Nat.lt_succ_of_lt lS)
   refine MF (Walks.list h3 _ l nI us.toArray) s.heap.objs.size (by
    rw[Heap.size_push];simp only[List.mem_cons,List.not_mem_nil,or_false,not_or];exact⟨Nat.ne_of_lt (Nat.lt_succ_self _),Nat.ne_of_gt lS⟩) xs (by rw[List.size_toArray];lia) (fun i v hv=> ?_) (by rw[List.size_toArray];lia) _ 0 _ (lY w) rfl (Nat.zero_le _) ⟨⟨_,Heap.get?_push_size _ rfl,rfl,rfl⟩,hl1.push _⟩ (Heap.get?_push_of_some _ hS) P9 fun h' tk o' kp e q=> ?_
   ·rw[←Array.getElem?_toList]at hv;have hi:i<xs.length:=by have:=(List.getElem?_eq_some_iff.mp hv).1;simp at this;lia
    obtain⟨u,e,t,rfl⟩:=rv.get (i:=i) (x:=V.str xs[i]) (by rw[List.getElem?_map,List.getElem?_eq_getElem hi];rfl);rw[show us.toArray.toList=us from rfl,e]at hv;cases hv;exact⟨_,t,List.getElem?_eq_getElem hi,rfl⟩
   ·show wpAny _ _ _ _ _ _;refine wpAny_pure (show wpAny _ _ (ret Value.none) _ _ _ from wpAny_pure ⟨rfl,k h' tk o' (fun b u eu=> ?_) e q⟩);have b4:=Heap.lt_size eu;exact kp b u (Nat.ne_of_lt b4) (by rw[List.mem_singleton,Heap.size_push];exact Nat.ne_of_lt (Nat.lt_succ_of_lt b4)) (Heap.get?_push_of_some _ (Heap.get?_push_of_some _ eu))
  | _=>exact hr.elim
end
end L2
namespace L2
open PySem PySem.W PyProof.Rows PySem.Calls
theorem FI:Manifest.owners.lookup (String.ofList ['r','o','t','a','r','e','t','i','_','t','e','s'].reverse)=some Manifest.sig_set_iterator:=by kernel_rfl
theorem slot_sn:Slot "set_iterator" "__next__" "set_iterator.__next__" :=
 .of (owner:= "set_iterator") (n:= "__next__") (by rw[typeLookup_type,builtinLookup_eq_fast];kernel_rfl) (by decide +kernel) (by decide +kernel) (by decide +kernel) (by first|exact .inl (by decide +kernel)|exact .inr (by decide +kernel)) (by rw[isSubtype_type];kernel_rfl)
theorem tP:entryFor table "set_iterator.__next__" =some Builtin.«set_iterator.__next__»:=entryFor_of_tree (by kernel_rfl)
theorem qG (a:Value):argsOk "set_iterator.__next__" ⟨[a],[]⟩:=by
 unfold argsOk;rw[signature?_of (id:= "set_iterator.__next__") (n:=['_','_','t','x','e','n','_','_']) (o:=['r','o','t','a','r','e','t','i','_','t','e','s']) (by kernel_rfl) FI];kernel_rfl
theorem B1:Slot "set_iterator" "__iter__" "set_iterator.__iter__" :=
 .of (owner:= "set_iterator") (n:= "__iter__") (by rw[typeLookup_type,builtinLookup_eq_fast];kernel_rfl) (by decide +kernel) (by decide +kernel) (by decide +kernel) (by first|exact .inl (by decide +kernel)|exact .inr (by decide +kernel)) (by rw[isSubtype_type];kernel_rfl)
theorem PY:entryFor table "set_iterator.__iter__" =some Builtin.«dict_keyiterator.__iter__»:=entryFor_alias (id':= "dict_keyiterator.__iter__") (by kernel_rfl) (by first|rfl|decide +kernel) (by decide +kernel) (by kernel_rfl)
theorem MX (a:Value):argsOk "set_iterator.__iter__" ⟨[a],[]⟩:=by
 unfold argsOk;rw[signature?_of (id:= "set_iterator.__iter__") (n:=['_','_','r','e','t','i','_','_']) (o:=['r','o','t','a','r','e','t','i','_','t','e','s']) (by kernel_rfl) FI];kernel_rfl
theorem MH:entryFor table "set.__iter__" =some Builtin.«frozenset.__iter__»:=entryFor_alias (id':= "frozenset.__iter__") (by kernel_rfl) (by first|rfl|decide +kernel) (by decide +kernel) (by kernel_rfl)
theorem QV:typeLookup (.type "set") "__len__" =pure (some (.builtin "set.__len__")):=by rw[typeLookup_type,builtinLookup_eq_fast];kernel_rfl
section
variable {prog:Program}{w:World}{A:Around}{E:Value->Shared->Prop}{s:Shared}{r:Addr}
theorem NC {Q:Bool->Shared->Prop}(hT:s.TypeIs (.ref r) "set")(h:Q false s):wpAny (model prog w) A (Builtin.List.listLengthHint (.ref r)) Q E s:=by
 unfold Builtin.List.listLengthHint;refine wpAny_bind (wpAny_specialOf hT QV ?_);generalize hid:("set.__len__" :String)=id0;wp_delta;rw[show splitId id0=some ("set","__len__") from by subst hid;decide +kernel];subst hid;refine wpAny_bind (wpAny_isInstance (T:= "set") (b:=true) hT (by rw[isSubtype_type];kernel_rfl) (wpAny_ite_split (fun hab=>absurd hab (by decide)) (fun _=>wpAny_ite_split (fun _=> ?_) (fun hab=>absurd (by decide +kernel) hab))));exact wpAny_bind (wpAny_typeOf hT (wpAny_pure h))
def SetIt (h:Heap)(it a:Addr)(f:Value)(i n ep:Nat):Prop:=∃o,h.get? it=some o/\o.cls= .type "set_iterator" /\o.data= .fields #[f,rawInt i,.ref a,rawInt n,rawInt ep]
variable {it a:Addr}{f:Value}{i n ep:Nat}{o:Obj}{es:Array (Int×Value)}{t:SetTable}
theorem SetIt.ty (x:SetIt s.heap it a f i n ep):s.TypeIs (.ref it) "set_iterator" :=let ⟨o,h,c,_⟩:=x;⟨o,h,c⟩
theorem SetIt.put {j:Nat}{v:Value}{f2:Value}{i2:Nat}{h:Heap} (x:SetIt h it a f i n ep) (hj:j<5) (e:(#[f,rawInt i,.ref a,rawInt n,rawInt ep]:Array Value).setIfInBounds j v= #[f2,rawInt i2,.ref a,rawInt n,rawInt ep]):SetIt (h.update it (Obj.mapFields (·.setIfInBounds j v))) it a f2 i2 n ep:=by
 obtain⟨oi,hi,ci,di⟩:=x;exact⟨_,Heap.get?_update_self _ hi (Obj.isFreed_of_fields (Obj.data_mapFields di _)),(Obj.cls_mapFields ..).trans ci,(Obj.data_mapFields di _).trans (by rw[←e])⟩
theorem QX {Q:Option Value->Shared->Prop}{k0 k1:Nat}{v:Value} (x:SetIt s.heap it a (rawInt k0) i es.size ep) (ho:s.heap.get? a=some o) (hd:o.data= .set es ep t) (hf:t.fits es.size=true)
  (hN:∀{B:Around}{E1:Value->Shared->Prop}{Z:Option (Value×Nat)->Shared->Prop},Z (some (v,k1)) s->wpAny (model prog w) B (setNext a k0 i ep) Z E1 s)(k:∀h',SetIt h' it a (rawInt k1) (i+1) es.size ep->Heap.SameBut it s.heap h'->Q (some v) { s with heap:=h' }):wpAny (model prog w) A (pyNext (.ref it)) Q E s:=by
 obtain⟨oi,hi,ci,di⟩:=id x;unfold pyNext;refine wpAny_bind (wpAny_attempt (wpAny_callSpecial?_slot (name:=Str.ofString "__next__") x.ty slot_sn (wpAny_call_entry slot_sn x.ty tP ?_ (qG _))));refine wpAny_bind (wpAny_pure (wpAny_bind (wpAny_fieldsOf hi di ?_)));show wpAny _ A.in1 (setEntries a >>= _) _ _ s;refine wpAny_bind (wpAny_setEntries_of ho hd hf ?_);rw[if_neg (by simp)];show wpAny _ A.in1 (setNext a (k0:Int).toNat (i:Int).toNat (ep:Int).toNat >>= _) _ _ s;rw[Int.toNat_natCast,Int.toNat_natCast,Int.toNat_natCast];refine wpAny_bind (hN ?_);have x1:=x.put (j:=0) (v:=rawInt k1) (f2:=rawInt k1) (i2:=i) (by decide) rfl;have x2:=x1.put (j:=1) (v:=rawInt ((i:Int)+1)) (f2:=rawInt k1) (i2:=i+1) (by decide) rfl;refine wpAny_bind (wpAny_setField hi di (by simp) (wpAny_bind ?_));obtain⟨o1,hi1,_,di1⟩:=x1;refine wpAny_setField hi1 di1 (by simp) (wpAny_pure ⟨_,rfl,wpAny_pure (k _ x2 ((Heap.SameBut.update ..).trans (Heap.SameBut.update ..)))⟩)
theorem RO {Q:Option Value->Shared->Prop}{k0:Nat} (hh:A.handled=none) (x:SetIt s.heap it a (rawInt k0) i es.size ep) (ho:s.heap.get? a=some o) (hd:o.data= .set es ep t) (hf:t.fits es.size=true)
  (hN:∀{B:Around}{E1:Value->Shared->Prop}{Z:Option (Value×Nat)->Shared->Prop},Z none s->wpAny (model prog w) B (setNext a k0 i ep) Z E1 s)(k:∀h',Heap.ExtBut it s.heap h'->Q none { s with heap:=h' }):wpAny (model prog w) A (pyNext (.ref it)) Q E s:=by
 obtain⟨oi,hi,ci,di⟩:=id x;unfold pyNext;refine wpAny_bind (wpAny_attempt (wpAny_callSpecial?_slot (name:=Str.ofString "__next__") x.ty slot_sn (wpAny_call_entry slot_sn x.ty tP ?_ (qG _))));refine wpAny_bind (wpAny_pure (wpAny_bind (wpAny_fieldsOf hi di ?_)));show wpAny _ A.in1 (setEntries a >>= _) _ _ s;refine wpAny_bind (wpAny_setEntries_of ho hd hf ?_);rw[if_neg (by simp)];show wpAny _ A.in1 (setNext a (k0:Int).toNat (i:Int).toNat (ep:Int).toNat >>= _) _ _ s;rw[Int.toNat_natCast,Int.toNat_natCast,Int.toNat_natCast];refine wpAny_bind (hN ?_);refine wpAny_bind (wpAny_setField hi di (by simp) ?_);show wpAny _ A.in1 (newExc (.type "StopIteration") [] >>= _) _ _ _;refine wpAny_bind ?_;simp only[newExc,newTuple];refine wpAny_bind (wpAny_newObj_type (wpAny_bind (m:=firstArgMember _ _) (wpAny_of_eq (a:=Value.none) (by first|rfl|(simp only[firstArgMember];rfl)) (wpAny_newObj_type ?_ (by size_fits)))) (by size_fits));simp only[raiseNew];refine wpAny_bind (wpAny_handled ?_);rw[show A.in1.handled=none from hh];refine wpAny_bind (wpAny_pure (wpAny_throw ?_));refine wpAny_bind (wpAny_isInstance (b:=true) (T:= "StopIteration") ⟨_,Heap.get?_push_size _ rfl,rfl⟩ isSubtype_stop ?_);exact wpAny_pure (k _ (((Heap.SameBut.update ..).extBut.push _).push _))
variable {tp:Addr}{ot:Obj}{ps:List Nat}{ec:Nat}
theorem QY {Q:Option Value->Shared->Prop}{p:Nat}{hv:Int}{v:Value} (x:SetIt s.heap it a (.ref tp) i es.size ep) (ho:s.heap.get? a=some o) (hd:o.data= .set es ep t) (hf:t.fits es.size=true) (hp:s.heap.get? tp=some ot) (hq:ot.data= .seq (ps.map fun (j:Nat)=>rawInt j).toArray ec)
  (hi0:ps[i]? =some p)(hx:es[p]? =some (hv,v))(k:∀h',SetIt h' it a (.ref tp) (i+1) es.size ep->Heap.SameBut it s.heap h'->Q (some v) { s with heap:=h' }):wpAny (model prog w) A (pyNext (.ref it)) Q E s:=by
 obtain⟨oi,hi,ci,di⟩:=id x;unfold pyNext;refine wpAny_bind (wpAny_attempt (wpAny_callSpecial?_slot (name:=Str.ofString "__next__") x.ty slot_sn (wpAny_call_entry slot_sn x.ty tP ?_ (qG _))));refine wpAny_bind (wpAny_pure (wpAny_bind (wpAny_fieldsOf hi di ?_)));show wpAny _ A.in1 (setEntries a >>= _) _ _ s;refine wpAny_bind (wpAny_setEntries_of ho hd hf ?_);rw[if_neg (by simp)];show wpAny _ A.in1 (seqItems? (.ref tp) >>= _) _ _ s;refine wpAny_bind (wpAny_seqItems hp hq ?_);have e1:(ps.map fun (j:Nat)=>rawInt j).toArray[(i:Int).toNat]? =some (rawInt p):=by
  rw[Int.toNat_natCast,List.getElem?_toArray,List.getElem?_map,hi0];rfl
 dsimp only
 rw[e1];show wpAny _ A.in1 (setNextDrawn a (p:Int).toNat (ep:Int).toNat >>= _) _ _ s;rw[Int.toNat_natCast,Int.toNat_natCast];unfold setNextDrawn;refine wpAny_bind (wpAny_bind (wpAny_setState_of ho hd hf ?_))
 dsimp only
 rw[if_neg (by simp),hx]
 dsimp only
 have x2:=x.put (j:=1) (v:=rawInt ((i:Int)+1)) (f2:= .ref tp) (i2:=i+1) (by decide) rfl;refine wpAny_pure (wpAny_bind (wpAny_setField hi di (by simp) (wpAny_pure ⟨_,rfl,wpAny_pure (k _ x2 (Heap.SameBut.update ..))⟩)))
theorem RM {Q:Option Value->Shared->Prop}(hh:A.handled=none)(x:SetIt s.heap it a (.ref tp) i es.size ep)(ho:s.heap.get? a=some o)(hd:o.data= .set es ep t)(hf:t.fits es.size=true)(hp:s.heap.get? tp=some ot)(hq:ot.data= .seq (ps.map fun (j:Nat)=>rawInt j).toArray ec)
  (hi0:ps.length<=i)(k:∀h',Heap.ExtBut it s.heap h'->Q none { s with heap:=h' }):wpAny (model prog w) A (pyNext (.ref it)) Q E s:=by
 obtain⟨oi,hi,ci,di⟩:=id x;unfold pyNext;refine wpAny_bind (wpAny_attempt (wpAny_callSpecial?_slot (name:=Str.ofString "__next__") x.ty slot_sn (wpAny_call_entry slot_sn x.ty tP ?_ (qG _))));refine wpAny_bind (wpAny_pure (wpAny_bind (wpAny_fieldsOf hi di ?_)));show wpAny _ A.in1 (setEntries a >>= _) _ _ s;refine wpAny_bind (wpAny_setEntries_of ho hd hf ?_);rw[if_neg (by simp)];show wpAny _ A.in1 (seqItems? (.ref tp) >>= _) _ _ s;refine wpAny_bind (wpAny_seqItems hp hq ?_);have e1:(ps.map fun (j:Nat)=>rawInt j).toArray[(i:Int).toNat]? =none:=by
  rw[Int.toNat_natCast,List.getElem?_toArray,List.getElem?_map,List.getElem?_eq_none hi0];rfl
 dsimp only
 rw[e1];have x1:=x.put (j:=0) (v:=rawInt 0) (f2:=rawInt 0) (i2:=i) (by decide) rfl;obtain⟨o1,hi1,_,di1⟩:=x1;refine wpAny_bind (wpAny_setField hi di (by simp) (wpAny_bind (wpAny_setField hi1 di1 (by simp) ?_)));show wpAny _ A.in1 (newExc (.type "StopIteration") [] >>= _) _ _ _;refine wpAny_bind ?_;simp only[newExc,newTuple];refine wpAny_bind (wpAny_newObj_type (wpAny_bind (m:=firstArgMember _ _) (wpAny_of_eq (a:=Value.none) (by first|rfl|(simp only[firstArgMember];rfl)) (wpAny_newObj_type ?_ (by size_fits)))) (by size_fits));simp only[raiseNew];refine wpAny_bind (wpAny_handled ?_);rw[show A.in1.handled=none from hh];refine wpAny_bind (wpAny_pure (wpAny_throw ?_));refine wpAny_bind (wpAny_isInstance (b:=true) (T:= "StopIteration") ⟨_,Heap.get?_push_size _ rfl,rfl⟩ isSubtype_stop ?_);exact wpAny_pure (k _ ((((Heap.SameBut.update ..).trans (Heap.SameBut.update ..)).extBut.push _).push _))
theorem CJ {Q:Value->Shared->Prop}(x:SetIt s.heap it a f i n ep)(q:Q (.ref it) s):wpAny (model prog w) A (pyIter (.ref it)) Q E s:=by
 refine wpAny_pyIter_slot x.ty B1 (wpAny_call_entry B1 x.ty PY (show wpAny _ _ (ret (.ref it)) _ _ s from ?_) (MX _));exact wpAny_pure ⟨_,rfl,"set_iterator",_,x.ty,slot_sn.lookup,q⟩
end
end L2
namespace L2
open PySem PySem.W PyProof.Rows PySem.Calls
section
variable {prog:Program}{w:World}{A:Around}{E:Value->Shared->Prop}{s:Shared}{a:Addr}{o:Obj}
theorem mY {α:Type}:∀(l:List α) (i:Nat) (h:i<l.length),List.Perm (l[i]::l.eraseIdx i) l
 | [],i,h=>absurd h (Nat.not_lt_zero _)
 | x::l,0,h=> .rfl
 | x::l,i+1,h=>(List.Perm.swap _ _ _).trans (List.Perm.cons x (mY l i (Nat.lt_of_succ_lt_succ h)))
theorem MK {α:Type}(f:Nat->Nat):∀(n k:Nat) (l:List α) (out:Array α),l.length=n->List.Perm (pickOrder.go f n k l out).toList (out.toList++l):=by
 intro n
 induction n with
 | zero =>
  intro k l out h;rw[List.length_eq_zero_iff.mp h,List.append_nil];exact .rfl
 | succ n ih =>
  intro k l out h;have hi:f k%l.length<l.length:=Nat.mod_lt _ (by lia);unfold pickOrder.go;rw[List.getElem?_eq_getElem hi];refine(ih (k+1) _ _ (by rw[List.length_eraseIdx_of_lt hi];lia)).trans ?_;rw[Array.toList_push,List.append_assoc];exact List.Perm.append_left _ (mY _ _ hi)
theorem E5 {α:Type}(f:Nat->Nat)(xs:Array α):List.Perm (pickOrder f xs).toList xs.toList:=MK f xs.size 0 xs.toList #[] (Array.length_toList)
theorem ND {α:Type}:∀(n:Nat) (xs:List α) (s:Shared) (Q:List α->Shared->Prop),xs.length=n->(∀ys d,List.Perm ys xs->Q ys { s with drawn:=d })->wpAny (model prog w) A (drawOrder n xs) Q E s:=by
 intro n
 induction n with
 | zero =>
  intro xs s Q h k;rw[List.length_eq_zero_iff.mp h]at k ⊢;exact wpAny_pure (k [] s.drawn .rfl)
 | succ n ih =>
  intro xs s Q h k;cases xs with
  | nil=>cases h
  | cons x xs =>
   show wpAny (model prog w) A (choose .order (x::xs).length >>= _) Q E s;refine wpAny_bind (fun Γ p _=>(show _/\_ from⟨Nat.succ_ne_zero _,?_⟩));generalize hj:(model prog w).w.draws .order (s.drawn.get .order)%(x::xs).length=j;have hi:j<(x::xs).length:=by rw[←hj];exact Nat.mod_lt _ (Nat.succ_pos _)
   show wpAny (model prog w) A _ _ _ _;rw[List.getElem?_eq_getElem hi];refine wpAny_bind (ih _ _ _ (by rw[List.length_eraseIdx_of_lt hi];rw[h];rfl) fun ys d pm=>wpAny_pure (k _ d ?_));exact(List.Perm.cons _ pm).trans (mY _ _ hi)
theorem yL:∀{us:List Value},(∀u∈us,∃x t,u=Value.str x t)->Vals ((us.map txt).map V.str) us
 | [],_=> .nil
 | u::us,h=>by
  obtain⟨x,t,rfl⟩:=h u (.head _);exact .cons ⟨t,rfl⟩ (yL fun v hv=>h v (.tail _ hv))
variable {es:Array (Int×Value)}{ep:Nat}{t:SetTable}
theorem IU {Q:Bool->Shared->Prop}(ho:s.heap.get? a=some o)(hd:o.data= .set es ep t)(hf:t.fits es.size=true)(q:Q (!w.params.followText "set-order" &&(!t.plain&&decide (es.size>1))) s):wpAny (model prog w) A (setDrawn a) Q E s:=by
 unfold setDrawn setsByText;exact wpAny_bind (wpAny_setState_of ho hd hf (wpAny_bind (wpAny_bind (wpAny_askSetting (wpAny_pure (wpAny_pure q))))))
theorem z0 {Q:Nat->Shared->Prop}(ho:s.heap.get? a=some o)(hd:o.data= .set es ep t)(hf:t.fits es.size=true)(q:Q ep s):wpAny (model prog w) A (setEpoch a) Q E s:=wpAny_setEpoch_of ho hd hf q
theorem GX {Q:Option (Value×Nat)->Shared->Prop}{k0 i:Nat} (bt:w.params.followText "set-order" =true) (ho:s.heap.get? a=some o) (hd:o.data= .set es ep t) (hf:t.fits es.size=true) (q:Q (((pickOrder (w.params.setOrder a ep) es)[i]?).map fun e=>(e.2,k0)) s):wpAny (model prog w) A (setNext a k0 i ep) Q E s:=by
 unfold setNext setsByText;refine wpAny_bind (wpAny_setState_of ho hd hf (wpAny_bind (wpAny_bind (wpAny_askSetting (wpAny_pure ?_)))))
 dsimp only
 rw[show (model prog w).w.params.followText "set-order" =true from bt];simp only[bne_self_eq_false,Bool.false_eq_true,if_false,if_true];unfold setWalk setsByText;refine wpAny_bind (wpAny_bind (wpAny_setState_of ho hd hf (wpAny_bind (wpAny_bind (wpAny_askSetting (wpAny_pure ?_))))))
 dsimp only
 rw[show (model prog w).w.params.followText "set-order" =true from bt];simp only[if_true];exact wpAny_bind (wpAny_askSetting (wpAny_pure (wpAny_pure q)))
theorem JC {Q:Option (Value×Nat)->Shared->Prop}{k0 i:Nat} (bt:w.params.followText "set-order" =false) (ho:s.heap.get? a=some o) (hd:o.data= .set es ep t) (hf:t.fits es.size=true) (ld:t.led=true) (h1:es.size<=1) (q:Q (match es[SetTable.below t.place k0]?,t.place[SetTable.below t.place k0]? with|some (_,x),some j=>some (x,j+1)|_,_=>none) s):wpAny (model prog w) A (setNext a k0 i ep) Q E s:=by
 unfold setNext setsByText;refine wpAny_bind (wpAny_setState_of ho hd hf (wpAny_bind (wpAny_bind (wpAny_askSetting (wpAny_pure ?_)))))
 dsimp only
 rw[show (model prog w).w.params.followText "set-order" =false from bt];simp only[Bool.false_eq_true,if_false];show wpAny (model prog w) A (if (!t.plain&&decide (es.size>1))=true then _ else _) _ _ _;rw[if_neg (by rw[decide_eq_false (by lia),Bool.and_false];exact Bool.false_ne_true)];show wpAny (model prog w) A ((if (!t.led&& !es.isEmpty)=true then _ else pure ()) >>= _) _ _ _;rw[if_neg (by rw[ld];exact Bool.false_ne_true)];exact wpAny_bind (wpAny_pure (wpAny_pure q))
theorem FO {it:Addr}{us:List Value}{sl:Nat->Nat} (hh:A.handled=none) (ne:a≠it) (hd:o.data= .set es ep t) (hf:t.fits es.size=true) (hl:us.length=es.size)
  (hN:∀i {s:Shared}{B:Around}{E1:Value->Shared->Prop}{Z:Option (Value×Nat)->Shared->Prop},i<=es.size->s.heap.get? a=some o->Z ((us[i]?).map fun v=>(v,sl (i+1))) s->wpAny (model prog w) B (setNext a (sl i) i ep) Z E1 s) :
  Walks prog w A it [it,a] [it] es.size (fun i v=>us[i]? =some v) (fun i h=>SetIt h it a (rawInt (sl i)) i es.size ep/\h.get? a=some o) where
 sub:=fun b hb=>by rw[List.mem_singleton.mp hb];exact .head _
 frame:=fun _ _ _ st hk=>⟨let ⟨q,h1,h2⟩:=st.1;⟨q,hk it (.head _) q h1,h2⟩,hk a (.tail _ (.head _)) _ st.2⟩
 item:=fun i s Q E hi st hQ=>by
  have hx:us[i]? =some us[i]:=List.getElem?_eq_getElem (by lia);refine QX (v:=us[i]) (k1:=sl (i+1)) st.1 st.2 hd hf (fun {B E1 Z} z=>hN i (Nat.le_of_lt hi) st.2 (by rw[hx];exact z)) fun h' x sb=> ?_;exact hQ _ h' s.toks hx ⟨x,(sb.2 a ne).trans st.2⟩ fun b o hb e=>(sb.2 b fun z=>hb (by rw[z];exact .head _)).trans e
 done:=fun s Q E st hQ=>RO hh st.1 st.2 hd hf (fun {B E1 Z} z=>hN es.size (Nat.le_refl _) st.2 (by rw[List.getElem?_eq_none (by lia)];exact z)) fun h' eb=>hQ h' s.toks fun b o hb e=>eb b o (fun z=>hb (by rw[z];exact .head _)) e
 self:=fun _ _ _ _ st hQ=>CJ st.1 hQ
theorem II {it tp:Addr}{ot:Obj}{ps:List Nat}{ec:Nat}{us:List Value} (hh:A.handled=none) (ne:a≠it) (ne2:tp≠it) (hd:o.data= .set es ep t) (hf:t.fits es.size=true) (hq:ot.data= .seq (ps.map fun (j:Nat)=>rawInt j).toArray ec) (hl:ps.length=es.size) (hu:us=ps.map fun j=>(es.getD j (0,.none)).2) (hb:∀p∈ps,p<es.size) :
  Walks prog w A it [it,a,tp] [it] es.size (fun i v=>us[i]? =some v) (fun i h=>SetIt h it a (.ref tp) i es.size ep/\h.get? a=some o/\h.get? tp=some ot) where
 sub:=fun b hb=>by rw[List.mem_singleton.mp hb];exact .head _
 frame:=fun _ _ _ st hk=>⟨let ⟨q,h1,h2⟩:=st.1;⟨q,hk it (.head _) q h1,h2⟩,hk a (.tail _ (.head _)) _ st.2.1,hk tp (.tail _ (.tail _ (.head _))) _ st.2.2⟩
 item:=fun i s Q E hi st hQ=>by
  have hi2:i<ps.length:=by lia
  have hx:ps[i]? =some ps[i]:=List.getElem?_eq_getElem hi2;have hj:=hb _ (List.getElem_mem hi2);have he:es[ps[i]]? =some (es[ps[i]].1,es[ps[i]].2):=Array.getElem?_eq_getElem hj;refine QY st.1 st.2.1 hd hf st.2.2 hq hx he fun h' x sb=> ?_;refine hQ _ h' s.toks ?_ ⟨x,(sb.2 a ne).trans st.2.1,(sb.2 tp ne2).trans st.2.2⟩ fun b o hb e=>(sb.2 b fun z=>hb (by rw[z];exact .head _)).trans e;rw[hu,List.getElem?_map,hx,Option.map_some,Array.getD,dif_pos hj];rfl
 done:=fun s Q E st hQ=>RM hh st.1 st.2.1 hd hf st.2.2 hq (by lia) fun h' eb=>hQ h' s.toks fun b o hb e=>eb b o (fun z=>hb (by rw[z];exact .head _)) e
 self:=fun _ _ _ _ st hQ=>CJ st.1 hQ
theorem NW {Q:Value->Shared->Prop}{ss:List Str} (hh:A.handled=none) (ho:s.heap.get? a=some o) (ts:tsO w ss o) (hz:ss.length<scanBound)
  (k:∀(h':Heap) d (I:Addr) (fp:List Addr) (zs:List Str) (us:List Value) (St:Nat->Heap->Prop),(∀b u,s.heap.get? b=some u->h'.get? b=some u)->s.heap.objs.size<=I->(∀b∈fp,b=a∨s.heap.objs.size<=b)->List.Perm zs ss->Vals (zs.map V.str) us->Walks prog w A I fp [I] ss.length (fun i v=>us[i]? =some v) St->St 0 h'->Q (.ref I) { s with heap:=h',drawn:=d }) :
  wpAny (model prog w) A (pyIter (.ref a)) Q E s:=by
 obtain⟨x0,es,ep,t,hd,te,pm,hf,ld,pl⟩:=id ts;have hn:es.size=ss.length:=by rw[←pm.length_eq,List.length_map,Array.length_toList]
 rw[←hn]at k;have hT:s.TypeIs (.ref a) "set" :=⟨_,ho,x0.1⟩
 refine wpAny_pyIter_slot hT PySem.F.slot_set_iter (wpAny_call_entry PySem.F.slot_set_iter hT MH ?_ (PySem.F.args_set_iter_1 _));unfold Builtin.«frozenset.__iter__» Builtin.Frozenset.slot0 Builtin.Frozenset.sizeOf;refine wpAny_bind (wpAny_bind (wpAny_pure (wpAny_pure (wpAny_bind (wpAny_bind (wpAny_setEntries_of ho hd hf (wpAny_pure (wpAny_bind (IU ho hd hf ?_)))))))));have hgo:∀us:List Value,List.Perm us (es.toList.map (·.2))->List.Perm (us.map txt) ss/\Vals ((us.map txt).map V.str) us:=fun us p=>by
  refine⟨((p.map txt).trans (by rw[List.map_map];exact .rfl)).trans pm,yL fun u hu=> ?_⟩;obtain⟨e,he,rfl⟩:=List.mem_map.mp (p.mem_iff.mp hu);obtain⟨x,t,rfl⟩:=te e he;exact⟨x,t,rfl⟩
 have la:a<s.heap.objs.size:=Heap.lt_size ho
 split
 ·rename_i hb;simp only[Bool.and_eq_true,decide_eq_true_eq]at hb;refine wpAny_bind (ND _ _ _ _ (List.length_range) fun ps d pp=> ?_);have hpl:ps.length=es.size:=by rw[pp.length_eq,List.length_range]
  have hz2:(ps.map fun (j:Nat)=>rawInt j).length<=sizeLine:=by rw[List.length_map,hpl,hn];exact fits_of_scanBound hz
  refine wpAny_bind (wpAny_newObj_type ?_ (by simpa [sizeOk] using hz2));have ho1:=Heap.get?_push_of_some { cls:= .type "tuple",data:= .seq (ps.map fun (j:Nat)=>rawInt j).toArray } ho;refine wpAny_bind (z0 ho1 hd hf (wpAny_bind (wpAny_newObj_type (wpAny_pure ⟨_,rfl,"set_iterator",_,⟨_,Heap.get?_push_size _ rfl,rfl⟩,slot_sn.lookup,?_⟩))));have hp:List.Perm (ps.map fun j=>(es.getD j (0,.none)).2) (es.toList.map (·.2)):=by
   refine(pp.map _).trans ?_;have e:((List.range es.size).map fun j=>(es.getD j (0,Value.none)).2)=es.toList.map (·.2):=by
    refine List.ext_getElem (by simp) fun i h1 h2=> ?_;have hi:i<es.size:=by simpa using h1
    simp[Array.getD,hi]
   rw[e]
  obtain⟨g1,g2⟩:=hgo _ hp;have hs1:(s.heap.push { cls:= .type "tuple",data:= .seq (ps.map fun (j:Nat)=>rawInt j).toArray }).objs.size=s.heap.objs.size+1:=Heap.size_push ..;refine k _ d _ _ _ _ _ (fun b u e=>Heap.get?_push_of_some _ (Heap.get?_push_of_some _ e)) ?_ ?_ g1 g2 (II (it:=(s.heap.push { cls:= .type "tuple",data:= .seq (ps.map fun (j:Nat)=>rawInt j).toArray }).objs.size) (tp:=s.heap.objs.size) hh ?_ ?_ hd hf rfl hpl rfl fun p hp=>List.mem_range.mp (pp.mem_iff.mp hp)) ⟨⟨_,Heap.get?_push_size _ rfl,rfl,rfl⟩,Heap.get?_push_of_some _ ho1,Heap.get?_push_of_some _ (Heap.get?_push_size _ rfl)⟩
  ·show s.heap.objs.size<=(s.heap.push _).objs.size;rw[Heap.size_push];lia
  ·intro b hb;rcases List.mem_cons.mp hb with rfl|hb
   ·right;show s.heap.objs.size<=(s.heap.push _).objs.size
    rw[Heap.size_push];lia
   ·rcases List.mem_cons.mp hb with rfl|hb
    ·exact .inl rfl
    ·rw[List.mem_singleton.mp hb];exact .inr (Nat.le_refl _)
  ·rw[Heap.size_push];exact Nat.ne_of_lt (Nat.lt_succ_of_lt la)
  ·rw[Heap.size_push];exact Nat.ne_of_lt (Nat.lt_succ_self _)
 ·rename_i hb;refine wpAny_bind (wpAny_pure (wpAny_bind (z0 ho hd hf (wpAny_bind (wpAny_newObj_type (wpAny_pure ⟨_,rfl,"set_iterator",_,⟨_,Heap.get?_push_size _ rfl,rfl⟩,slot_sn.lookup,?_⟩))))));have fin:∀(us:List Value) (sl:Nat->Nat),sl 0=0->List.Perm us (es.toList.map (·.2))->Walks prog w A s.heap.objs.size [s.heap.objs.size,a] [s.heap.objs.size] es.size (fun i v=>us[i]? =some v) (fun i h=>SetIt h s.heap.objs.size a (rawInt (sl i)) i es.size ep/\h.get? a=some o)->Q (.ref s.heap.objs.size) { s with heap:=s.heap.push { cls:= .type "set_iterator",data:= .fields [rawInt 0,rawInt 0,.ref a,rawInt es.size,rawInt ep].toArray } }:=fun us sl h0 hp wk=>by
   obtain⟨g1,g2⟩:=hgo _ hp;refine k _ s.drawn _ _ _ _ _ (fun b u e=>Heap.get?_push_of_some _ e) (Nat.le_refl _) (fun b hb=> ?_) g1 g2 wk ⟨⟨_,Heap.get?_push_size _ rfl,rfl,?_⟩,Heap.get?_push_of_some _ ho⟩
   ·rcases List.mem_cons.mp hb with rfl|hb
    ·exact .inr (Nat.le_refl _)
    ·exact .inl (List.mem_singleton.mp hb)
   ·rw[h0];rfl
  cases hbt:w.params.followText "set-order" with
  | true =>
   have pk:=E5 (w.params.setOrder a ep) es;refine fin ((pickOrder (w.params.setOrder a ep) es).toList.map (·.2)) (fun _=>0) rfl (pk.map _) (FO hh (Nat.ne_of_lt la) hd hf (by rw[List.length_map,pk.length_eq,Array.length_toList]) fun i {s2 B E1 Z} hi e z=>GX hbt e hd hf ?_);rw[List.getElem?_map,Option.map_map,Array.getElem?_toList]at z;exact z
  | false =>
   rw[hbt]at hb ld;have h1:es.size<=1:=by
    refine Nat.le_of_not_lt fun h=>hb ?_;have:t.plain=false:=by
     cases hp:t.plain with
     | true=>have:=pl hp;lia
     | false=>rfl
    rw[this,decide_eq_true h];rfl
   have hfz:t.place.size=es.size:=by
    simp only[SetTable.fits,Bool.and_eq_true,beq_iff_eq]at hf;exact hf.1
   refine fin (es.toList.map (·.2)) (fun i=>if i=0 then 0 else t.place.getD 0 0+1) rfl .rfl (FO hh (Nat.ne_of_lt la) hd hf (by rw[List.length_map,Array.length_toList]) fun i {s2 B E1 Z} hi e z=>JC hbt e hd hf ld h1 ?_);have ha:∀{α:Type} (xs:Array α),xs.size=1->∃x,xs= #[x]:=fun xs h=>by
    obtain⟨l⟩:=xs
    match l,h with
    | [x],_=>exact⟨x,rfl⟩
   by_cases h0:es.size=0
   ·have he:es= #[]:=Array.eq_empty_of_size_eq_zero h0;rw[he]at z ⊢
    simpa using z
   ·obtain⟨e1,he⟩:=ha es (by lia);obtain⟨j,hj⟩:=ha t.place (by lia);rw[hj]at z ⊢;rw[he]at z hi ⊢;have hi2:i=0∨i=1:=by simp at hi;lia
    rcases hi2 with rfl|rfl
    ·simpa [SetTable.below,SetTable.below.go] using z
    ·simpa [SetTable.below,SetTable.below.go] using z
end
end L2
namespace L2
open PySem PySem.W PyProof.Rows PySem.Calls
section
variable {prog:Program}{w:World}{A:Around}{E:Value->Shared->Prop}{s:Shared}{a:Addr}{o:Obj}{ss:List Str}
theorem FB {R:Result->Shared->Prop}(hh:A.handled=none)(ho:s.heap.get? a=some o)(ts:tsO w ss o)(hz:ss.length<scanBound)(S:Addr)(nS:S≠a)(res:Value)(c0:Nat)(hS:s.heap.get? S=some { cls:= .type "list",data:= .seq #[] c0 })
  (k:∀h' tk d (acc:Array Value) c zs us,(∀b u,b≠S->s.heap.get? b=some u->h'.get? b=some u)->h'.get? S=some { cls:= .type "list",dict:=none,data:= .seq acc c,slots:= #[] }->List.Perm zs ss->Vals (zs.map V.str) us->acc.toList=us->R (.ok (.ret res)) { s with heap:=h',toks:=tk,drawn:=d }) :
  wpAny (model prog w) A.in1 (Builtin.List.listExtendWith (.ref S) (.ref a) res) (fun fin s'=>match fin with| .done f=>R (.ok f) s'| .again c'=>c'.quiet=true/\codeAny (model prog w) A c' R s') (fun e s'=>R (.error e) s') s:=by
 have x0:=ts.1;have lS:S<s.heap.objs.size:=Heap.lt_size hS;unfold Builtin.List.listExtendWith;refine wpAny_bind (wpAny_typeOf (T:= "set") ⟨_,ho,x0.1⟩ ?_);have h1:Builtin.List.listSameRef (.ref S) (.ref a)=false:=by simp[Builtin.List.listSameRef,nS]
 simp only[h1,show (Value.type "set" ==Value.type "list")=false by decide,show (Value.type "set" ==Value.type "tuple")=false by decide,Bool.or_false,Bool.false_eq_true,if_false];refine wpAny_bind (NW hh ho ts hz fun h1 d I fp zs us St kp lI hfp pz rz W st=> ?_);have nI:S∉fp:=fun z=>(hfp S z).elim nS fun q=>Nat.not_le_of_lt lS q;have lz:us.length=ss.length:=by rw[←rz.length,List.length_map,pz.length_eq]
 have key:∀(h:Heap) (c1 tk:Nat),St 0 h->(∀b u,b≠S->s.heap.get? b=some u->h.get? b=some u)->h.get? S=some { cls:= .type "list",data:= .seq #[] c1 }->codeAny (model prog w) A (.builtin "list.extend.loop" ⟨[.ref S,.ref I,res],[]⟩) R { s with heap:=h,toks:=tk,drawn:=d }:=by
  intro h c1 tk st0 k0 hS1;refine codeAny_extend_loopS W.toS (fits_of_scanBound hz) S nI res _ 0 _ #[] c1 rfl (Nat.zero_le _) st0 hS1 (ItemsOf.nil _) fun s2 acc c2 hm hS2 hacc=> ?_;rw[Moved.eq_with hm];refine k s2.heap s2.toks d acc c2 zs us (fun b u hb e=>hm.heap b u (fun z=> ?_) (k0 b u hb e)) hS2 pz rz ?_
  ·rcases List.mem_cons.mp z with z|z
   ·exact hb z
   ·rw[List.mem_singleton.mp z]at e;exact Nat.not_le_of_lt (Heap.lt_size e) lI
  ·refine List.ext_getElem? fun i=> ?_
   by_cases hi:i<ss.length
   ·have hi2:i<acc.size:=by rw[hacc.1];exact hi
    rw[Array.getElem?_toList,Array.getElem?_eq_getElem hi2];exact(hacc.2 i _ (Array.getElem?_eq_getElem hi2)).symm
   ·rw[List.getElem?_eq_none (l:=acc.toList) (by rw[Array.length_toList,hacc.1];lia),List.getElem?_eq_none (l:=us) (by lia)]
 have hS1:=kp S _ hS;refine wpAny_bind (wpAny_holding (NC (s:={ s with heap:=h1,drawn:=d }) ⟨_,kp a _ ho,x0.1⟩ ?_));refine wpAny_ite_split (fun _=> ?_) (fun _=>wpAny_pure ⟨plainId_quiet PySem.F.plain_extend_loop _,key _ c0 _ st (fun b u _ e=>kp b u e) hS1⟩);refine wpAny_bind (wpAny_rule (wpAny_bind ?_));show wpAny _ _ (updateSeq S (·.push .none) >>= fun _=>updateSeq S (·.pop)) _ _ _;refine wpAny_bind (wpAny_updateSeq hS1 rfl ?_);have hS2:=Heap.get?_update_self (Obj.mapSeq (·.push Value.none)) hS1 rfl;refine wpAny_updateSeq (hz:=by seq_fits) hS2 rfl ?_;have hS3:=Heap.get?_update_self (Obj.mapSeq (·.pop)) hS2 rfl;refine wpAny_pure ⟨plainId_quiet PySem.F.plain_extend_loop _,key _ _ _ ?_ (fun b u hb e=> ?_) hS3⟩
 ·refine W.frame 0 _ _ st fun b hb u e=> ?_;have hbS:b≠S:=fun z=>nI (z▸hb);exact(Heap.get?_update_other _ _ (Ne.symm hbS)).trans ((Heap.get?_update_other _ _ (Ne.symm hbS)).trans e)
 ·exact(Heap.get?_update_other _ _ (Ne.symm hb)).trans ((Heap.get?_update_other _ _ (Ne.symm hb)).trans (kp b u e))
theorem C5 {F:List Value->Shared->Prop}(hh:A.handled=none)(ho:s.heap.get? a=some o)(ts:tsO w ss o)(hz:ss.length<scanBound)
  (fin:∀(g:Heap) (t:Nat) d zs us,(∀b u,s.heap.get? b=some u->g.get? b=some u)->s.heap.objs.size<g.objs.size->List.Perm zs ss->Vals (zs.map V.str) us->F us { s with heap:=g,toks:=t,drawn:=d }):wpAny (model prog w) A (collect (.ref a)) F E s:=by
 have la:a<s.heap.objs.size:=Heap.lt_size ho;unfold collect;refine wpAny_bind (wpAny_runValue (codeAny_builtin entry_proto_collect' ?_));rw[Around.under_plainId PySem.F.plain_proto_collect _];show wpAny _ A.in1 (newList [] >>= fun x=>again (.builtin "list.__iadd__" ⟨[x,.ref a],[]⟩)) _ _ s;refine wpAny_bind (wpAny_newObj_type (wpAny_pure ⟨plainId_quiet PySem.F.plain_list_iadd _,codeAny_builtin entry_list_iadd' ?_⟩));rw[Around.under_plainId PySem.F.plain_list_iadd _];have e0:(s.heap.push { cls:= .type "list",data:= .seq ([]:List Value).toArray }).get? s.heap.objs.size=some { cls:= .type "list",data:= .seq #[] }:=Heap.get?_push_size _ rfl;have go:=FB (prog:=prog) (A:=A) (s:={ s with heap:=s.heap.push { cls:= .type "list",data:= .seq ([]:List Value).toArray } }) (R:=fun (z:Result) (s2:Shared)=>∃(g:Heap) (t:Nat) (d:Drawn) (xs:Array Value) (c:Nat) (zs:List Str) (us:List Value),z= .ok (.ret (.ref s.heap.objs.size))/\s2={ s with heap:=g,toks:=t,drawn:=d }/\(∀b u,s.heap.get? b=some u->g.get? b=some u)/\g.get? s.heap.objs.size=some { cls:= .type "list",dict:=none,data:= .seq xs c,slots:= #[] }/\List.Perm zs ss/\Vals (zs.map V.str) us/\xs.toList=us)
  hh (Heap.get?_push_of_some _ ho) ts hz s.heap.objs.size (Nat.ne_of_gt la) (.ref s.heap.objs.size) 0 e0 (fun g t d xs c zs us kp hx pz rz ez=>⟨g,t,d,xs,c,zs,us,rfl,rfl,fun b u q=>kp b u (Nat.ne_of_lt (Heap.lt_size q)) (Heap.get?_push_of_some _ q),hx,pz,rz,ez⟩)
 have last:∀(g:Heap) (t:Nat) (d:Drawn) (xs:Array Value) (c:Nat) zs us,(∀b u,s.heap.get? b=some u->g.get? b=some u)->g.get? s.heap.objs.size=some { cls:= .type "list",dict:=none,data:= .seq xs c,slots:= #[] }->List.Perm zs ss->Vals (zs.map V.str) us->xs.toList=us->wpAny (model prog w) A (load s.heap.objs.size >>= fun o=>match o.data with| .seq ys _=>pure ys.toList|_=>unsupported "internal:collect") F E { s with heap:=g,toks:=t,drawn:=d }:=fun g t d xs c zs us kp hx pz rz ez =>
  wpAny_bind (wpAny_load hx (wpAny_pure (by rw[ez];exact fin g t d zs us kp (Heap.lt_size hx) pz rz)))
 refine wpAny_mono go (fun z s2 y=> ?_) (fun z s2 y=>by obtain⟨_,_,_,_,_,_,_,y,_⟩:=y;cases y);cases z with
 | done f=>obtain⟨g,t,d,xs,c,zs,us,y,rfl,kp,hx,pz,rz,ez⟩:=y;cases y;exact last g t d xs c zs us kp hx pz rz ez
 | again c1=>exact⟨y.1,codeAny_mono y.2 fun q s3 y=>by obtain⟨g,t,d,xs,c,zs,us,rfl,rfl,kp,hx,pz,rz,ez⟩:=y;exact last g t d xs c zs us kp hx pz rz ez⟩
end
end L2
namespace L2
open PySem PySem.W PyProof.Rows PySem.Calls
section
variable {X:Cx}
def sT (w:World)(a:Addr)(ss:List Str):HO:= .ext fun h=>∃o,h.get? a=some o/\tsO w ss o
theorem RC {P:Program}{w:World}{H:Hp}{h:Heap}{a:Addr}{ss:List Str}{o:Obj} (e:h.get? a=some o) (t:tsO w ss o):ObjOk P w H h a (sT w a ss):=by
 refine⟨⟨o,e,t⟩,⟨o,e⟩,fun h1 h2 y k=> ?_⟩;obtain⟨o,e,t⟩:=y;exact⟨o,k o e,t⟩
def MA (w:World):List V->Hp->VK->Prop:=fun xs H Q=>∃(l:Addr) (zs:List Str),xs=[.ref l]/\H l=some (.lst (zs.map V.str))/\zs.length<64/\∀p,H p=none->Q (.ref p) (upd H p (sT w p (zs.foldl eI [])))
def FW (w:World):List V->Hp->VK->Prop:=fun xs H Q=>∃(a:Addr) (ss:List Str),xs=[.ref a]/\H a=some (sT w a ss)/\ss.length<64/\∀(l:Addr) (zs:List Str),List.Perm zs ss->H l=none->Q (.ref l) (upd H l (.lst (zs.map V.str)))
theorem HB (hc:X.calm=true):cJ X (.type "set") (MA X.w):=by
 intro pins s σ H xs us Q I r h;obtain⟨l,zs,rfl,hl,n64,q⟩:=h;obtain⟨u,rfl,rx⟩:=fT r;cases rx;obtain⟨its,rv,pl,hz⟩:=I.list (.inl (.inl hl));refine FK (xs:=zs) (I.ok.hd hc) pl.isList rv (by unfold scanBound;lia) fun h' tk o' kp e t=> ?_;exact⟨.ref s.heap.objs.size,_,I.laid (t':=tk) kp (Nat.le_refl _) (RC e t),rfl,q _ (I.hok.fresh (Nat.le_refl _))⟩
theorem zC (hc:X.calm=true):cJ X (.builtin "sorted") (FW X.w):=by
 intro pins s σ H xs us Q I r h;obtain⟨a,ss,rfl,ha,n64,q⟩:=h;obtain⟨u,rfl,rx⟩:=fT r;cases rx;obtain⟨o,ho,ts⟩:=(show ObjOk X.prog X.w H s.heap a (sT X.w a ss) from I.hok a _ ha).1;refine Calls.call_function_entry kind_sorted plain_sorted entry_sorted (args_sorted1 _) ?_;unfold Builtin.«sorted»;refine wpAny_bind (m:=checkCount "sorted" 1 1 _) (wpAny_pure (wpAny_bind (C5 (I.ok.hd hc) ho ts (by unfold scanBound;lia) fun g tk d zs vs kp lg pz rz=> ?_)));have lz:vs.length=ss.length:=by rw[←rz.length,List.length_map,pz.length_eq]
 have lzs:zs.length=ss.length:=pz.length_eq;have hat:∀i,i<vs.length->∃t,vs[i]? =some (.str (zs.getD i Str.empty) t):=fun i hi=>by
  have hi':i<zs.length:=by lia
  obtain⟨u,e,t,rfl⟩:=rz.get (i:=i) (x:=V.str (zs.getD i Str.empty)) (by rw[List.getElem?_map,List.getD_eq_getElem?_getD,List.getElem?_eq_getElem hi'];rfl);exact⟨t,e⟩
 have hz64:vs.length<=sizeLine:=by rw[sizeLine_eq];lia
 refine wpAny_bind (wpAny_newList ?_ hz64);have oD:(g.push (seqObj "list" vs.toArray 0)).get? g.objs.size=some (seqObj "list" vs.toArray 0):=Heap.get?_push_size _ rfl;have kD:∀h',jU g.objs.size (g.push (seqObj "list" vs.toArray 0)) h'->∀b o,s.heap.get? b=some o->h'.get? b=some o:=fun h' k b o e =>
  k b o (Nat.ne_of_lt (Heap.lt_size (kp b o e))) (Heap.get?_push_of_some _ (kp b o e))
 refine wpAny_bind (wpAny_holding (wpAny_call_entry slot_list_sort ⟨_,oD,rfl⟩ entry_list_sort ?body (args_list_sort _)))
 case body =>
  refine CI (s:={ s with heap:=g.push (seqObj "list" vs.toArray 0),toks:=tk,drawn:=d }) (fun i j=>ltS (zs.getD i Str.empty) (zs.getD j Str.empty)) oneType' oD (by lia) (fun h2 h' k R hR=> ?_) (fun h2 h' k i j hi hj C hC=> ?_) fun h' e k o'=> ?_
  ·refine kas_kind (T:= .type "str") h2 (fun v hv=> ?_) (by decide) rfl hR;obtain⟨i,hi,e⟩:=List.getElem_of_mem hv;obtain⟨t,e2⟩:=hat i hi;rw[List.getElem?_eq_getElem hi,e]at e2;cases e2;exact Looks.of_pure rfl
  ·obtain⟨t1,e1⟩:=hat i hi;obtain⟨t2,e2⟩:=hat j hj;unfold kas_ask;rw[List.getD_eq_getElem?_getD,List.getD_eq_getElem?_getD,e1,e2,keyLt'_oneType];exact oneLt_str hC
  ·have ev:=o6 (fun i j=>ltS (zs.getD i Str.empty) (zs.getD j Str.empty)) rz;rw[BB V.str Str.empty V.non]at ev;refine⟨_,rfl,wpAny_pure ⟨_,rfl,.ref g.objs.size,_,?_,rfl,q _ (yG zs) ?_ (I.hok.fresh (Nat.le_of_lt lg))⟩⟩
   ·have I2:=I.laid (t':=tk) (kD h' k) (Nat.le_of_lt lg) (show ObjOk X.prog X.w _ h' _ (.lst ((yG zs).map V.str)) from⟨by rw[List.length_map];unfold yG;rw[mJ];lia,_,e,ev,o'⟩);exact⟨I2.ok,I2.os,I2.bare,I2.base,I2.loc,I2.cell,I2.free,I2.freeC,I2.pin,I2.hok,I2.len⟩
   ·exact(EK zs).trans pz
variable {H:Hp}{Q:VK}{w:World}
theorem NQ {l:Addr}{zs:List Str} (e:H l=some (.lst (zs.map V.str))) (n:zs.length<64) (h:∀p H',H p=none->Same H H'->H' p=some (sT w p (zs.foldl eI []))->Q (.ref p) H'):MA w [.ref l] H Q :=
 ⟨l,zs,rfl,e,n,fun p hp=>h p _ hp (kF hp) aV⟩
theorem JU {a:Addr}{ss:List Str} (e:H a=some (sT w a ss)) (n:ss.length<64) (h:∀l zs H',List.Perm zs ss->H l=none->Same H H'->H' l=some (.lst (zs.map V.str))->Q (.ref l) H'):FW w [.ref a] H Q :=
 ⟨a,ss,rfl,e,n,fun l zs pz hl=>h l zs _ pz hl (kF hl) aV⟩
theorem RN:bootBuiltins "set" =some (.type "set"):=by decide +kernel
end
end L2
namespace L2
open PySem PySem.Spec PyProof.Rows
def bI (X:Cx)(scope:Scope)(cl:List (Str×Addr))(N:List Str)(y0:Str)(C:Addr)(s0:Shared)(H0:Hp)(fp:List Addr):Cx where
 prog:=X.prog
 w:=X.w
 K:=X.K
 mg:=X.mg
 base:=X.base
 A:=X.A
 N:=N
 s₀:=s0
 H₀:=H0
 env:=compEnvC scope ((y0,C+1)::cl) C X.env
 outer:=X.stack
 stack:=X.stack
 ex:=fp
 fn:=fun n=>n==y0
 calm:=X.calm
 pn:=[]
 xe:=fun _ _=>False
structure DW (X:Cx)(scope:Scope)(cl:List (Str×Addr))(N:List Str)(nl:Nat)(ci:List Nat)(y0:Str):Prop where
 kind:scope.kind= .function
 names:∀y∈scope.names,y.2= .local->scope.names.lookup y.1=some .local
 cf:∀n,cellsFrom n scope.names cl=(y0,n)::cl
 pc:∀h,pushCells h scope.names=h.push { cls:= .type "cell",data:= .cell none }
 clos:closureFor scope X.env=pure cl
 sub:∀n c,cl.lookup n=some c->X.env.cells.lookup n=some c
 ny:cl.lookup y0=none
 has:∀n,((relabel scope X.env).names.lookup n=some .cell∨(relabel scope X.env).names.lookup n=some .free)->n=y0∨∃c,cl.lookup n=some c
 len:N.length=nl+ci.length
 cap:∀(j i:Nat),ci[j]? =some i->∃n,N[nl+j]? =some n/\X.N[i]? =some n/\n≠y0/\(X.env.scope.names.lookup n=some .cell∨X.env.scope.names.lookup n=some .free) ∧
  ((relabel scope X.env).names.lookup n=some .cell∨(relabel scope X.env).names.lookup n=some .free)/\cl.lookup n=X.env.cells.lookup n
theorem gZ {y0 x:Str}{c0 c:Addr}{cl:List (Str×Addr)} (h:((y0,c0)::cl).lookup x=some c):(x=y0/\c0=c)∨(x≠y0/\cl.lookup x=some c):=by
 by_cases hx:x=y0
 ·subst hx;rw[List.lookup_cons,beq_self_eq_true]at h;exact .inl ⟨rfl,Option.some.inj h⟩
 ·have hb:(x==y0)=false:=by simpa using hx
  rw[List.lookup_cons,hb]at h;exact .inr ⟨hx,h⟩
theorem CM {y0 x:Str}{c0:Addr}{cl:List (Str×Addr)} (h:x≠y0):((y0,c0)::cl).lookup x=cl.lookup x:=by
 have hb:(x==y0)=false:=by simpa using h
 rw[List.lookup_cons,hb]
section
variable {M:Model}{A:Around}{E:Value->Shared->Prop}{s:Shared}
theorem JA {scope:Scope}{globals:Addr}{cl:List (Str×Addr)}{qual y0:Str}{env:Env}{Q:Env->Shared->Prop} (cf:∀n,cellsFrom n scope.names cl=(y0,n)::cl) (pc:∀h,pushCells h scope.names=h.push { cls:= .type "cell",data:= .cell none })
  (k:Q ({ scope,locals:=s.heap.objs.size,globals,cells:=(y0,s.heap.objs.size+1)::cl,qual,func:=none,code:=env.code,frame:=env.frame,builtins:=env.builtins }:Env) ({ s with heap:=(s.heap.push { cls:= .type "dict",data:= .dict #[] }).push { cls:= .type "cell",data:= .cell none } }:Shared)):wpAny M A (newFunctionEnv scope globals cl [] qual none .none (some env)) Q E s:=by
 simp only[newFunctionEnv,Option.isSome_some,if_true];refine wpAny_bind (wpAny_alloc (wpAny_bind (wpAny_layCells _ (fun name kind cells=>by cases hkc:kind==NameKind.cell<;>simp[hkc]) _ _ _ _ ?_)));rw[cf,pc,show ({ s with heap:=s.heap.push { cls:= .type "dict",data:= .dict #[] } }:Shared).heap.objs.size=s.heap.objs.size+1 from Heap.size_push ..];rw[List.forIn_nil];exact wpAny_bind (wpAny_pure (wpAny_pure k))
end
section
variable {X:Cx}{scope:Scope}{cl:List (Str×Addr)}{N:List Str}{nl:Nat}{ci:List Nat}{y0:Str}{pins:List (Addr×Obj)}{σ:St}{H2:Hp}{s2:Shared}{fp:List Addr}
theorem zA (B:DW X scope cl N nl ci y0)(I:Inv X pins σ H2 s2)(f2:∀b∈fp,fH X pins H2 b)(fo:∀b∈fp,∃o,s2.heap.get? b=some o){C:Addr}{h4:Heap}{t4:Nat}{m4:Str->Option Value} (hC:s2.heap.objs.size<=C) (hns:h4.Ns C m4) (hcc:h4.IsCell (C+1) none)
  (hk:∀b o,s2.heap.get? b=some o->h4.get? b=some o):Inv (bI X scope cl N y0 C s2 H2 fp) [] (bK nl ci σ) H2 { s2 with heap:=h4,toks:=t4 }:=by
 have lt2:∀b∈fp,b<s2.heap.objs.size:=fun b hb=>by obtain⟨o,e⟩:=fo b hb;exact Heap.lt_size e
 have ltc:∀x c,cl.lookup x=some c->c<s2.heap.objs.size:=fun x c e=>by obtain⟨v,o,ho,_⟩:=I.cell x c (B.sub x c e);exact Heap.lt_size ho
 have hC1:s2.heap.objs.size<=C+1:=Nat.le_succ_of_le hC;have ok:(bI X scope cl N y0 C s2 H2 fp).Ok:=by
  refine⟨I.ok.mod,B.kind,I.ok.glob,I.ok.blt,hC,fun x y c h1 h2=> ?_,fun x hx=> ?_,fun x c hf e=> ?_,I.ok.hd,I.ok.frames,.inl rfl,fun b hb=>⟨?_,?_⟩,I.bs,?_,fun b o e hb=> ?_,fun b hb z=> ?_,I.stack,I.stkFree⟩
  ·rcases gZ h1 with⟨e1,e2⟩|⟨e1,e2⟩<;>rcases gZ h2 with⟨e3,e4⟩|⟨e3,e4⟩
   ·rw[e1,e3]
   ·have:=ltc _ _ e4;exact absurd (Nat.lt_of_lt_of_le (e2▸this) hC1) (Nat.lt_irrefl _)
   ·have:=ltc _ _ e2;exact absurd (Nat.lt_of_lt_of_le (e4▸this) hC1) (Nat.lt_irrefl _)
   ·exact I.ok.inj x y c (B.sub x c e2) (B.sub y c e4)
  ·by_cases hy:x=y0
   ·subst hy;exact⟨C+1,by show List.lookup x ((x,C+1)::cl)=_;rw[List.lookup_cons,beq_self_eq_true]⟩
   ·obtain⟨c,e⟩:=(B.has x hx).resolve_left hy;exact⟨c,(CM hy).trans e⟩
  ·have hy:x=y0:=beq_iff_eq.mp (show (x==y0)=true from hf);rcases gZ e with⟨_,e2⟩|⟨e1,_⟩
   ·rw[←e2];exact hC1
   ·exact absurd hy e1
  ·exact Nat.ne_of_lt (Nat.lt_of_lt_of_le (lt2 b hb) hC)
  ·intro x c h;rcases gZ h with⟨_,e2⟩|⟨_,e2⟩
   ·rw[←e2];exact Nat.ne_of_gt (Nat.lt_of_lt_of_le (lt2 b hb) hC1)
   ·exact(f2 b hb).2.2.2.2.1 x c (B.sub x c e2)
  ·exact Nat.le_trans I.ok.bsz I.sz
  ·rcases (f2 b hb).2.2.2.1 with z|z
   ·exact I.ok.noex b o e z
   ·exact absurd (Nat.lt_of_lt_of_le (Heap.lt_size e) (Nat.le_trans I.ok.bsz z)) (Nat.lt_irrefl _)
  ·rcases List.mem_cons.mp (I.stkSub b z) with q|q
   ·exact(f2 b hb).2.1 q
   ·exact(f2 b hb).2.2.1 q
 refine⟨ok,rfl,I.bare,Un.kept hk,⟨m4,hns,fun k x v e1 e2 e3=> ?_⟩,fun x c e=> ?_,I.hok.fresh hC,fun x c e=> ?_,fun p hp=>(by cases hp),I.hok.kept hk,?_⟩
 ·obtain⟨j,i,rfl,hj,hσ⟩:=wN e2;obtain⟨n,hn1,hn2,hny,hk1,hk2,hl⟩:=B.cap j i hj;have en:x=n:=by
   have e1':N[nl+j]? =some x:=e1;rw[hn1]at e1';exact(Option.some.inj e1').symm
  subst en;obtain⟨m,hm,hloc⟩:=I.loc;have vis:Vis X.env.scope x:= .inr hk1;obtain⟨u,ru,lk⟩:=hloc i x v hn2 hσ vis;refine⟨u,ru,.inr ⟨hk2,?_⟩⟩;rcases lk with⟨kl,_⟩|⟨_,c,ec,hc⟩
  ·have kl':X.env.scope.names.lookup x=some .local:=kl;rcases hk1 with z|z<;>· rw[z]at kl';cases kl'
  ·refine⟨c,(CM hny).trans (hl.trans ec),?_⟩;obtain⟨o,ho,hd⟩:=hc;exact⟨o,hk _ _ ho,hd⟩
 ·rcases gZ e with⟨_,e2⟩|⟨_,e2⟩
  ·rw[←e2];exact⟨none,hcc⟩
  ·obtain⟨v,o,ho,hd⟩:=I.cell x c (B.sub x c e2);exact⟨v,o,hk _ _ ho,hd⟩
 ·rcases gZ e with⟨_,e2⟩|⟨_,e2⟩
  ·rw[←e2];exact I.hok.fresh hC1
  ·exact I.freeC x c (B.sub x c e2)
 ·show (bK nl ci σ).length=N.length;rw[pO,B.len]
theorem DU {C:Addr}{σ':St}{H':Hp}{s':Shared}{pb:List (Addr×Obj)} (I:Inv X pins σ H2 s2) (f2:∀b∈fp,fH X pins H2 b) (J:Inv (bI X scope cl N y0 C s2 H2 fp) pb σ' H' s'):Inv X pins σ H' s' :=
 I.call' J.os J.base J.hok J.bare fun b hb=>⟨(f2 b hb).2.2.2.1,(f2 b hb).2.1,(f2 b hb).2.2.2.2.1,(f2 b hb).2.2.2.2.2⟩
end
section
variable {X:Cx}{scope:Scope}{cl:List (Str×Addr)}{N:List Str}{nl:Nat}{ci:List Nat}{y0:Str}{tg elt iter:Expr}{ifs:List Expr}{pos:Pos}{wi:TI}{g:TG}{ti:TT}{te:TE}
theorem CY {pins:List (Addr×Obj)}{σ:St}{H2:Hp}{s2:Shared}{fp:List Addr}{it:Addr}{J:It}{tn:Nat->Heap->Prop}{E:Value->Shared->Prop}{RR:Value->Addr->Result->Shared->Prop}{fin:List V->Hp->Prop}
  (hc:X.calm=true)(B:DW X scope cl N nl ci y0)(hg:∀C s0 H0 fp,PG (bI X scope cl N y0 C s0 H0 fp) tg g)(hi:∀C s0 H0 fp,PF (bI X scope cl N y0 C s0 H0 fp) ifs ti)(he:∀C s0 H0 fp,PE (bI X scope cl N y0 C s0 H0 fp) elt te)
  (I2:Inv X pins σ H2 s2)(T:nF X.prog X.w X.K tg J fp it tn)(st2:tn 0 s2.heap)(f2:∀b∈fp,fH X pins H2 b)(hW:d3 J g ti te (bK nl ci σ) fin H2)
  (hfin:∀(D C:Addr) (s':Shared) (H':Hp) (ys:List V) (oC:Obj) (m:Str->Option Value),H' D=none->Inv X (pins++[(C,oC)]) σ (upd H' D (.lst ys)) s'->s'.heap.Ns C m->s2.heap.objs.size<=C->fin ys H'->RR (.ref D) C (.ok .next) s') :
  wpAny (model X.prog X.w) X.A (newList []) (fun acc s₃=>wpAny (model X.prog X.w) X.A (newFunctionEnv scope X.env.globals cl [] X.env.qual none .none (some X.env)) (fun cenv s₄ =>
   codeAny (model X.prog X.w) X.A (.compStart (.ListComp elt [⟨tg,iter,ifs,0⟩] scope pos) 0 (.ref it) acc { cenv with scope:=relabel scope X.env }) (RR acc cenv.locals) s₄) E s₃) E s2:=by
 obtain⟨W,⟨m0,w0⟩,turn⟩:=hW;refine wpAny_newObj_type (JA B.cf B.pc ?_)
 dsimp only
 generalize hH2:s2.heap.push { cls:= .type "list",dict:=none,data:= .seq ([]:List Value).toArray }=G2;have hCs:G2.objs.size=s2.heap.objs.size+1:=by rw[←hH2,Heap.size_push]
 generalize hh1:(G2.push { cls:= .type "dict",data:= .dict #[] }).push { cls:= .type "cell",data:= .cell none }=h1;have hns1:h1.Ns G2.objs.size fun _=>none:=by rw[←hh1];exact(Heap.Ns.new G2 (.type "dict")).keeps fun b o e=>Heap.get?_push_of_some _ e
 have hcl1:h1.IsCell (G2.objs.size+1) none:=by
  have:=Heap.get?_push_size (G2.push { cls:= .type "dict",data:= .dict #[] }) (o:={ cls:= .type "cell",data:= .cell none }) rfl;rw[Heap.size_push]at this;rw[←hh1];exact⟨_,this,rfl⟩
 generalize hCe:G2.objs.size=C at hns1 hcl1 hCs ⊢;have hDC:s2.heap.objs.size≠C:=by rw[hCs];exact Nat.ne_of_lt (Nat.lt_succ_self _)
 have hCle:s2.heap.objs.size<=C:=by rw[hCs];exact Nat.le_succ _
 have old:∀b o,s2.heap.get? b=some o->h1.get? b=some o:=fun b o e=>by rw[←hh1,←hH2];exact Heap.get?_push_of_some _ (Heap.get?_push_of_some _ (Heap.get?_push_of_some _ e))
 have hacc:h1.get? s2.heap.objs.size=some { cls:= .type "list",data:= .seq ([]:List Value).toArray 0 }:=by rw[←hh1,←hH2];exact Heap.get?_push_of_some _ (Heap.get?_push_of_some _ (Heap.get?_push_size _ rfl))
 have fo:∀b∈fp,∃o,s2.heap.get? b=some o:=fun b hb=>let ⟨o,e,_⟩:=T.obj 0 _ st2 b hb;⟨o,e⟩;have lt2:∀b∈fp,b<s2.heap.objs.size:=fun b hb=>let ⟨o,e⟩:=fo b hb;Heap.lt_size e;have hDfp:s2.heap.objs.size∉fp:=fun z=>Nat.lt_irrefl _ (lt2 _ z);have hCfp:C∉fp:=fun z=>Nat.lt_irrefl _ (Nat.lt_of_lt_of_le (lt2 _ z) hCle);generalize hDe:s2.heap.objs.size=D at hCs hDC hCle hacc hDfp lt2;have loop:∀s3:Shared,s3={ s2 with heap:=h1 } →
   codeAny (model X.prog X.w) X.A (.compLoop (.ListComp elt [⟨tg,iter,ifs,0⟩] scope pos) 0 (.ref it) (.ref D) (compEnvC scope ((y0,C+1)::cl) C X.env)) (RR (.ref D) C) s3:=by
  rintro s3 rfl;have I4:Inv (bI X scope cl N y0 C s2 H2 fp) [] (bK nl ci σ) H2 { s2 with heap:=h1 }:=zA B I2 f2 fo (by rw[hDe];exact hCle) hns1 hcl1 old;have fpk:∀{H':Hp},(∀b∈fp,H' b=none)->∀b∈fp,fH (bI X scope cl N y0 C s2 H2 fp) [] H' b:=fun hn b hb =>
   ⟨hn b hb,(I4.ok.exf b hb).1,I4.ok.exfs b hb,.inl hb,(I4.ok.exf b hb).2,fun p hp=>by cases hp⟩
  have hDX:∀x c,(bI X scope cl N y0 C s2 H2 fp).env.cells.lookup x=some c->c≠D:=fun x c e=>by
   rcases gZ e with⟨_,rfl⟩|⟨_,e⟩
   ·intro z;rw[←z]at hCs;lia
   ·obtain⟨v,o,ho,_⟩:=I2.cell x c (B.sub x c e);rw[←hDe];exact Nat.ne_of_lt (Heap.lt_size ho)
  have hDL:D≠(bI X scope cl N y0 C s2 H2 fp).env.locals:=hDC;have hDf:D∉(bI X scope cl N y0 C s2 H2 fp).fs:=fun z=>by
   rcases List.mem_cons.mp (I2.stkSub D z) with q|q
   ·exact Nat.lt_irrefl _ (by have:=I2.lt;rw[hDe,←q]at this;exact this)
   ·exact I2.nofs (by rw[hDe];exact Nat.le_refl _) q
  refine rP (fun n s'=>∃i ys its k H',W i n ys H'/\Inv (bI X scope cl N y0 C s2 H2 fp) [] (bK nl ci σ) H' s'/\tn i s'.heap/\(∀b∈fp,H' b=none)/\H' D=none ∧
   s'.heap.get? D=some { cls:= .type "list",data:= .seq its.toArray k }/\Vals ys its/\ys.length<=sizeLine) ?_ m0 ?_
  ·rintro n s' ⟨i,ys,its,k,H',w',I',st',fr',hD',eD,rv,hz⟩;have IP:Inv (bI X scope cl N y0 C s2 H2 fp) [(D,{ cls:= .type "list",data:= .seq its.toArray k })] (bK nl ci σ) H' s':=I'.pins_of fun p hp=>by
    obtain rfl:p=_:=by simpa using hp
    exact⟨eD,hD',hDL,hDf,fun v z=>by cases z⟩
   have fpD:∀{H'':Hp},(∀b∈fp,H'' b=none)->∀b∈fp,fH (bI X scope cl N y0 C s2 H2 fp) [(D,{ cls:= .type "list",data:= .seq its.toArray k })] H'' b:=fun hn b hb =>
    ⟨hn b hb,(I4.ok.exf b hb).1,I4.ok.exfs b hb,.inl hb,(I4.ok.exf b hb).2,fun p hp=>by
     obtain rfl:p=_:=by simpa [bI] using hp
     exact fun z=>hDfp ((show D=b from z)▸hb)⟩
   rcases turn i n ys H' w' with⟨stop,q⟩|⟨go,step⟩
   ·refine thn (T.done (bI X scope cl N y0 C s2 H2 fp) rfl rfl rfl hc i _ s' (bK nl ci σ) H' _ IP (fpD fr') st' stop) fun r s'' ⟨hr,I''⟩=> ?_;subst hr;have eD2:=(I''.pin (D,_) (List.mem_append_right _ List.mem_cons_self)).1;have J1:Inv (bI X scope cl N y0 C s2 H2 fp) [] (bK nl ci σ) (upd H' D (.lst ys)) s'' :=
     (I''.pins_of (pins':=[]) fun p hp=>by cases hp).track hD' eD2 rv hz (by show s2.heap.objs.size<=D;rw[hDe];exact Nat.le_refl _) hDL hDX fun p hp=>by cases hp
    have K1:Inv X pins σ (upd H' D (.lst ys)) s'':=DU I2 f2 J1;obtain⟨mC,nsC,_⟩:=J1.loc;obtain⟨oC,es,ep,hoC,hdC,rC⟩:=id nsC;refine hfin D C s'' H' ys oC mC hD' (K1.pins_of fun p hp=> ?_) nsC (by rw[hDe];exact hCle) q;rcases List.mem_append.mp hp with hp|hp
    ·exact K1.pin p (List.mem_append_right _ hp)
    ·obtain rfl:p=(C,oC):=by simpa using hp
     refine⟨hoC,J1.free,Nat.ne_of_gt (Nat.lt_of_lt_of_le I2.lt (by rw[hDe];exact hCle)),I2.nofs (by rw[hDe];exact hCle),fun v z=> ?_⟩;rw[hdC]at z;cases z
   ·refine thn (T.item (bI X scope cl N y0 C s2 H2 fp) rfl rfl rfl hc i _ s' (bK nl ci σ) H' _ IP (fpD fr') st' go) fun r s4 ⟨u,hr,h4⟩=> ?_;subst hr;refine thn h4 fun _ s5 ⟨x,H5,I5,r5,y5,st5,fr5⟩=> ?_;have I5':=I5.pinned (fpD fr5) (T.obj _ _ st5);refine wpAny_mono (hg C s2 H2 fp _ s5 (bK nl ci σ) H5 x u _ I5' r5 (step x H5 y5)) (fun _ s6 ⟨σ6,H6,I6,⟨hl6,hk6⟩,q6⟩=> ?_) fun _ _ f=>f.elim;refine wpAny_mono (hi C s2 H2 fp _ s6 σ6 H6 _ I6 q6) (fun b s7 ⟨H7,I7,q7⟩=> ?_) fun _ _ f=>f.elim;have pinD:∀{pp:List (Addr×Obj)}{σx:St}{Hx:Hp}{sx:Shared},Inv (bI X scope cl N y0 C s2 H2 fp) ([(D,({ cls:= .type "list",data:= .seq its.toArray k }:Obj))]++eZ fp s5.heap) σx Hx sx →
      sx.heap.get? D=some { cls:= .type "list",data:= .seq its.toArray k }/\Hx D=none/\tn (i+1) sx.heap/\(∀b∈fp,Hx b=none):=fun {pp σx Hx sx} Ix=>by
     refine⟨(Ix.pin (D,_) (List.mem_append_right _ (List.mem_append_left _ List.mem_cons_self))).1,(Ix.pin (D,_) (List.mem_append_right _ (List.mem_append_left _ List.mem_cons_self))).2.1,T.keep _ _ _ st5 fun b hb o e=>(Ix.pin (b,o) (List.mem_append_right _ (List.mem_append_right _ (d6 hb e)))).1,fun b hb=> ?_⟩;obtain⟨o,e,d⟩:=T.obj _ _ st5 b hb;exact(Ix.pin (b,o) (List.mem_append_right _ (List.mem_append_right _ (d6 hb e)))).2.1
    cases b with
    | false =>
     rw[if_neg Bool.false_ne_true]at q7 ⊢;obtain⟨m',hm',w7⟩:=q7;obtain⟨e7,n7,st7,fr7⟩:=pinD (pp:=[]) I7;exact⟨m',hm',i+1,ys,its,k,H7,w7,(I7.pins_of (pins':=[]) fun p hp=>by cases hp).weak hl6.symm hk6,st7,fr7,n7,e7,rv,hz⟩
    | true =>
     rw[if_pos rfl]at q7 ⊢;refine wpAny_mono (he C s2 H2 fp _ s7 σ6 H7 _ I7 q7) (fun y' s8 ⟨y,H8,I8,r8,hlt,m',hm',w8⟩=> ?_) fun _ _ f=>f.elim;obtain⟨e8,n8,st8,fr8⟩:=pinD (pp:=[]) I8;have I8f:Inv (bI X scope cl N y0 C s2 H2 fp) (eZ fp s5.heap) σ6 H8 s8:=I8.pins_of fun p hp=>I8.pin p (List.mem_append_right _ (List.mem_append_right _ hp));have I8t:=I8f.track n8 e8 rv hz (by show s2.heap.objs.size<=D;rw[hDe];exact Nat.le_refl _) hDL hDX fun p hp=>by
      have hp':p∈eZ fp s5.heap:=by simpa [bI] using hp
      exact fun z=>hDfp (z▸(o8 hp').1)
     refine wpAny_mono (dC (X:=bI X scope cl N y0 C s2 H2 fp) (eZ fp s5.heap) s8 σ6 _ (.ref D) [y] (.ref D) [y'] (fun _ H9=>H9=upd H8 D (.lst (ys++[y]))) I8t rfl (.cons r8 .nil)
      ⟨D,ys,y,rfl,rfl,aV,hlt,BT⟩) (fun _ s9 ⟨_,H9,I9,_,e9⟩=> ?_) fun _ _ f=>f.elim
     subst e9;obtain⟨hz9,its9,k9,rv9,e9⟩:=I9.hok D _ aV;have I9u:=I9.untrack n8;refine⟨m',hm',i+1,ys++[y],its9,k9,H8,w8,(I9u.pins_of (pins':=[]) fun p hp=>by cases hp).weak hl6.symm hk6,?_,fr8,n8,e9,rv9,hz9⟩;exact T.keep _ _ _ st5 fun b hb o e=>(I9u.pin (b,o) (List.mem_append_right _ (d6 hb e))).1
  ·exact⟨0,[],[],0,H2,w0,I4,T.keep _ _ _ st2 fun b hb o e=>old b o e,fun b hb=>(f2 b hb).1,I2.hok.fresh (by rw[hDe];exact Nat.le_refl _),hacc,.nil,Nat.zero_le _⟩
 exact codeAny_compStart_list (loop _ rfl) (T.self _ 0 _ _ _ (T.keep _ _ _ st2 fun b hb o e=>old b o e) (loop _ rfl))
theorem HP (hc:X.calm=true)(B:DW X scope cl N nl ci y0)(hp:PI X tg iter wi)(hg:∀C s0 H0 fp,PG (bI X scope cl N y0 C s0 H0 fp) tg g)(hi:∀C s0 H0 fp,PF (bI X scope cl N y0 C s0 H0 fp) ifs ti)
  (he:∀C s0 H0 fp,PE (bI X scope cl N y0 C s0 H0 fp) elt te)(hs:∀x,foldedSetIterable iter X.env x=pure x:=by intro _;rfl):PE X (.ListComp elt [⟨tg,iter,ifs,0⟩] scope pos) (yE wi nl ci g ti te):=by
 intro pins s σ H Q I h;rw[eval_ListComp];refine wpAny_comprehension_free (use:=none) rfl hs B.clos B.kind B.names (thn (hp pins s σ H _ I h) fun v s1 h1=>thn h1 fun itv s2 h2=> ?_);obtain⟨it,fp,tn,J,H2,e,I2,T,st2,f2,hW⟩:=h2;subst e;refine CY (RR:=fun acc C=>compPost (model X.prog X.w) X.A X.xe none (EP X pins σ Q) acc C) hc B hg hi he I2 T st2 f2 hW ?_;intro D C s' H' ys oC m hD K1 hn hC q;refine⟨m,hn,fun h' hs'=> ?_⟩;have hL:C≠X.env.locals:=(K1.pin (C,oC) (by simp)).2.2.1;have I9:Inv X pins σ (upd H' D (.lst ys)) { s' with heap:=h',toks:=s'.toks }:=K1.unpinned.turned (t':=s'.toks) (it:=C) (fun b o hb e=>hs'.extBut b o hb e) (K1.pin (C,oC) (by simp)).2.1 hL (.inr (Nat.le_trans I2.sz hC)) (fun x c e z=> ?_) fun p hp z=> ?_
 ·exact⟨.ref D,_,I9,rfl,q D hD⟩
 ·obtain⟨v,o,ho,_⟩:=I2.cell x c e;exact absurd (Nat.lt_of_lt_of_le (Heap.lt_size ho) (z▸hC)) (Nat.lt_irrefl _)
 ·exact absurd (Nat.lt_of_lt_of_le (Heap.lt_size (I2.pin p hp).1) (z▸hC)) (Nat.lt_irrefl _)
end
end L2
namespace L2
open PySem PySem.Spec PyProof.Rows
theorem wU {cs:List (Str×Addr)}:∀(ns:List (Str×NameKind)) (acc:List (Str×Addr)) (n:Str) (c:Addr),(fN ns cs acc).lookup n=some c->(n,NameKind.free)∈ns∨acc.lookup n=some c
 | [],acc,n,c,h=> .inr h
 | (m,k)::r,acc,n,c,h=>by
  have h':(fN r cs (if k== .free then (m,(cs.lookup m).getD 0)::acc else acc)).lookup n=some c:=h;rcases wU r _ n c h' with z|z
  ·exact .inl (List.mem_cons_of_mem _ z)
  ·by_cases hk:k= .free
   ·subst hk;rw[if_pos (beq_self_eq_true _)]at z;rcases gZ z with⟨e,_⟩|⟨_,e⟩
    ·rw[e];exact .inl List.mem_cons_self
    ·exact .inr e
   ·rw[if_neg (by simpa using hk)]at z;exact .inr z
theorem i7 {env:Env}{y0:Str}:∀{names:List (Str×NameKind)}{x:Str}{k':NameKind},(∀y∈names,y.2= .cell->y.1=y0)->(k'= .cell∨k'= .free) →
  (names.map fun (n,k)=>if (k==NameKind.free&&env.scope.kind== .function&&env.kindOf n==some .cell) then (n,NameKind.cell) else (n,k)).lookup x=some k'->x=y0∨(x,NameKind.free)∈names
 | [],_,_,_,_,h=>by simp at h
 | (n,k)::r,x,k',hn,hk',h=>by
  have h':List.lookup x ((if (k==NameKind.free&&env.scope.kind== .function&&env.kindOf n==some .cell)=true then (n,NameKind.cell) else (n,k))::r.map _)=some k':=h;cases hx:x==n with
  | true =>
   have e:x=n:=by simpa using hx
   subst e
   by_cases hf:k= .free
   ·subst hf;exact .inr List.mem_cons_self
   ·have hb:(k==NameKind.free)=false:=by simpa using hf
    simp only[hb,Bool.false_and,Bool.false_eq_true,if_false,List.lookup_cons,hx]at h';cases h';rcases hk' with z|z
    ·exact .inl (hn (x,k) List.mem_cons_self z)
    ·exact absurd z hf
  | false =>
   have h2:List.lookup x (r.map fun (n,k)=>if (k==NameKind.free&&env.scope.kind== .function&&env.kindOf n==some .cell) then (n,NameKind.cell) else (n,k))=some k':=by
    split at h'
    ·simp only[List.lookup_cons,hx]at h';exact h'
    ·simp only[List.lookup_cons,hx]at h';exact h'
   exact(i7 (fun y hy=>hn y (List.mem_cons_of_mem _ hy)) hk' h2).imp id (List.mem_cons_of_mem _)
def GA (xs:List (Str×NameKind))(XN:List Str)(ns:List (Str×NameKind))(N:List Str)(nl:Nat)(ci:List Nat)(y0:Str):Bool :=
 (ns.all fun y=>(y.2 != .cell||y.1==y0)&&(y.2 != .local||ns.lookup y.1==some .local)&&(y.2 != .free||(xs.lookup y.1==some .cell&&ns.lookup y.1==some .free&&y.1 !=y0))) &&
 (N.length==nl+ci.length) &&
 (List.range ci.length).all fun j=>match ci[j]?,N[nl+j]? with
  | some i,some n=>XN[i]? ==some n&&xs.lookup n==some .cell&&ns.lookup n==some .free&&n !=y0
  | _,_=>false
theorem VC {X:Cx}{scope:Scope}{N:List Str}{nl:Nat}{ci:List Nat} (y0:Str) (n0:Nat) (hX:X.env.cells=cellsFrom n0 X.env.scope.names []) (hkf:X.env.scope.kind= .function) (hk:scope.kind= .function)
  (h:GA X.env.scope.names X.N scope.names N nl ci y0=true)(cf:∀n,cellsFrom n scope.names (fN scope.names X.env.cells [])=(y0,n)::fN scope.names X.env.cells []:=by intro _;rfl)(pc:∀h,pushCells h scope.names=h.push { cls:= .type "cell",data:= .cell none }:=by intro _;rfl):DW X scope (fN scope.names X.env.cells []) N nl ci y0:=by
 unfold GA at h;rw[Bool.and_eq_true,Bool.and_eq_true]at h;obtain⟨⟨h1,h2⟩,h3⟩:=h;rw[List.all_eq_true]at h1;have h1':∀y∈scope.names,(y.2= .cell->y.1=y0)/\(y.2= .local->scope.names.lookup y.1=some .local)/\(y.2= .free->X.env.scope.names.lookup y.1=some .cell/\scope.names.lookup y.1=some .free/\y.1≠y0):=fun y hy=>by
  have q:=h1 y hy;simp only[Bool.and_eq_true,Bool.or_eq_true,bne_iff_ne,ne_eq,beq_iff_eq]at q;obtain⟨⟨q1,q2⟩,q3⟩:=q;exact⟨fun e=>q1.resolve_left fun z=>z e,fun e=>q2.resolve_left fun z=>z e,fun e=>let ⟨⟨a,b⟩,c⟩:=q3.resolve_left fun z=>z e;⟨a,b,c⟩⟩
 have hcs:∀y∈scope.names,y.2= .free->∃c,X.env.cells.lookup y.1=some c:=fun y hy e=>by
  rw[hX];exact nL ((h1' y hy).2.2 e).1
 refine⟨hk,fun y hy=>(h1' y hy).2.1,cf,pc,?_,?_,?_,?_,by simpa using h2,?_⟩
 ·unfold closureFor;refine(congrArg (fun m:Sem (List (Str×Addr))=>m >>= fun cs=>pure cs) (gG scope.names [] hcs)).trans ?_;rfl
 ·exact nC scope.names [] hcs fun n c z=>by cases z
 ·cases e:(fN scope.names X.env.cells []).lookup y0 with
  | none=>rfl
  | some c =>
   rcases wU scope.names [] y0 c e with z|z
   ·exact absurd rfl ((h1' _ z).2.2 rfl).2.2
   ·cases z
 ·intro n hn;have hm:n=y0∨(n,NameKind.free)∈scope.names:=by
   rcases hn with z|z
   ·exact i7 (fun y hy=>(h1' y hy).1) (.inl rfl) z
   ·exact i7 (fun y hy=>(h1' y hy).1) (.inr rfl) z
  refine hm.imp id fun hm=> ?_;obtain⟨c,e⟩:=hcs _ hm rfl;exact⟨c,(cT scope.names [] n hcs (.inl hm) fun c z=>by cases z).trans e⟩
 ·intro j i hj;have hjl:j<ci.length:=(List.getElem?_eq_some_iff.mp hj).1;rw[List.all_eq_true]at h3;have q:=h3 j (List.mem_range.mpr hjl);rw[hj]at q;cases e:N[nl+j]? with
  | none=>rw[e]at q;cases q
  | some n =>
   rw[e]at q;simp only[Bool.and_eq_true,beq_iff_eq,bne_iff_ne,ne_eq]at q;obtain⟨⟨⟨q1,q2⟩,q3⟩,q4⟩:=q;refine⟨n,rfl,q1,q4,.inl q2,.inl (dX hkf q3 q2),?_⟩;exact cT scope.names [] n hcs (.inl (PySem.mem_of_lookup q3)) fun c z=>by cases z
theorem VO {X:Cx}{scope:Scope}{N:List Str}{nl:Nat}{ci:List Nat} (hcs:∀y∈scope.names,y.2= .free->∃c,X.env.cells.lookup y.1=some c) (hkf:X.env.scope.kind= .function) (hk:scope.kind= .function)
  (h:tZ X.env.scope.names X.N scope.names N nl ci=true):Blk X scope (fN scope.names X.env.cells []) N nl ci:=by
 unfold tZ at h;rw[Bool.and_eq_true,Bool.and_eq_true]at h;obtain⟨⟨h1,h2⟩,h3⟩:=h;rw[List.all_eq_true]at h1;have h1':∀y∈scope.names,y.2≠ .cell/\(y.2= .local->scope.names.lookup y.1=some .local)/\(y.2= .free->X.env.scope.names.lookup y.1=some .cell/\scope.names.lookup y.1=some .free):=fun y hy=>by
  have q:=h1 y hy;simp only[Bool.and_eq_true,Bool.or_eq_true,bne_iff_ne,ne_eq,beq_iff_eq]at q;obtain⟨⟨q1,q2⟩,q3⟩:=q;exact⟨q1,fun e=>q2.resolve_left fun z=>z e,fun e=>q3.resolve_left fun z=>z e⟩
 refine⟨hk,fun y hy=>(h1' y hy).2.1,fun y hy=>(h1' y hy).1,?_,?_,?_,by simpa using h2,?_⟩
 ·unfold closureFor;refine(congrArg (fun m:Sem (List (Str×Addr))=>m >>= fun cs=>pure cs) (gG scope.names [] hcs)).trans ?_;rfl
 ·exact nC scope.names [] hcs fun n c z=>by cases z
 ·intro n hn;have hm:(n,NameKind.free)∈scope.names:=by
   rcases hn with z|z
   ·exact cN (fun y hy=>(h1' y hy).1) (.inl rfl) z
   ·exact cN (fun y hy=>(h1' y hy).1) (.inr rfl) z
  obtain⟨c,e⟩:=hcs _ hm rfl;exact⟨c,(cT scope.names [] n hcs (.inl hm) fun c z=>by cases z).trans e⟩
 ·intro j i hj;have hjl:j<ci.length:=(List.getElem?_eq_some_iff.mp hj).1;rw[List.all_eq_true]at h3;have q:=h3 j (List.mem_range.mpr hjl);rw[hj]at q;cases e:N[nl+j]? with
  | none=>rw[e]at q;cases q
  | some n =>
   rw[e]at q;simp only[Bool.and_eq_true,beq_iff_eq]at q;obtain⟨⟨q1,q2⟩,q3⟩:=q;refine⟨n,rfl,q1,.inl q2,.inl (dX hkf q3 q2),?_⟩;exact cT scope.names [] n hcs (.inl (PySem.mem_of_lookup q3)) fun c z=>by cases z
theorem VN {X:Cx}{scope sc2:Scope}{cl:List (Str×Addr)}{N N2:List Str}{y0:Str}{C:Addr}{s0:Shared}{H0:Hp}{fp:List Addr}{nl:Nat}{ci:List Nat} (hf:sc2.names.all (fun y=>y.2 != .free||y.1==y0)=true) (hkf:scope.kind= .function) (hk:sc2.kind= .function)
  (h:tZ (relabel scope X.env).names N sc2.names N2 nl ci=true):Blk (bI X scope cl N y0 C s0 H0 fp) sc2 (fN sc2.names ((y0,C+1)::cl) []) N2 nl ci :=
 VO (X:=bI X scope cl N y0 C s0 H0 fp) (fun y hy e=>by
  have q:=List.all_eq_true.mp hf y hy;simp only[Bool.or_eq_true,bne_iff_ne,ne_eq,beq_iff_eq]at q;have e1:=q.resolve_left fun z=>z e;rw[e1];exact⟨C+1,by show List.lookup y0 ((y0,C+1)::cl)=_;rw[List.lookup_cons,beq_self_eq_true]⟩) hkf hk h
end L2
namespace L2
def QR {α:Type}:Nat->(List α->Prop)->Prop
 | 0,p=>p []
 | n+1,p=>∀a,QR n (fun l=>p (a::l))
theorem aN {α:Type}:∀(n:Nat) (p:List α->Prop),QR n p->∀us:List α,us.length=n->p us
 | 0,_,h,[],_=>h
 | n+1,_,h,a::us,e=>aN n _ (h a) us (by simpa using e)
 | 0,_,_,_::_,e=>by simp at e
 | _+1,_,_,[],e=>by simp at e
end L2
namespace Prf
open PySem L2
set_option hygiene false
local macro_rules| `(tactic| walk_at"fs")=> `(tactic| exact⟨rfl,rfl,rfl,by decide +kernel,rfl,by decide +kernel,by decide +kernel⟩)
local macro_rules| `(tactic| walk_at"hu")=> `(tactic| (have hu0:=Room.units0 hr;have hu1:=Room.units1 hr;have hu9:=Room.units9 hr))
set_option hygiene true
def top (i:Nat):Stmt:=PySem.Challenge.pw_firstout_k14_whole_whatever_the_order.main.body.getD i (.Pass ⟨0,0,0,0⟩)
abbrev jX:Stmt:=top 0
abbrev dL:Stmt:=top 10
theorem sc_need_turns:aS ["first","last"] ["first","last"] (aC dL):=by walk_at"fs"
abbrev cA:Stmt:=top 11
theorem sc_need_each_once:aS ["names","seen","name"] ["names"] (aC cA):=by walk_at"fs"
abbrev b8:Stmt:=top 12
theorem sc_rooms_spoken_of:aS ["doors","people","names","door"] ["doors","people"] (aC b8):=by walk_at"fs"
abbrev dU:Stmt:=top 13
theorem sc_need_rooms:aS ["names","sizes","name"] ["names","sizes"] (aC dU):=by walk_at"fs"
abbrev cS:Stmt:=top 14
theorem sc_added_people:aS ["sizes","people","inside","room","number"] ["sizes","people"] (aC cS):=by walk_at"fs"
abbrev dS:Stmt:=top 15
theorem sc_need_space:aS ["sizes","people","inside"] ["sizes","people"] (aC dS):=by walk_at"fs"
abbrev bY:Stmt:=bZ (top 16) 0
theorem sc_House___init__:aS ["self","rooms","doors","people","last","first","sizes","door"] ["self","rooms","doors","people","last","first"] (aC bY):=by walk_at"fs"
abbrev c6:Stmt:=bZ (top 16) 1
theorem sc_House_rooms:aS ["self"] ["self"] (aC c6):=by walk_at"fs"
abbrev cZ:Stmt:=bZ (top 16) 2
theorem sc_House_doors:aS ["self"] ["self"] (aC cZ):=by walk_at"fs"
abbrev b6:Stmt:=bZ (top 16) 3
theorem sc_House_need_room:aS ["self","room"] ["self","room"] (aC b6):=by walk_at"fs"
abbrev c4:Stmt:=bZ (top 16) 4
theorem sc_House_holds:aS ["self","room"] ["self","room"] (aC c4):=by walk_at"fs"
abbrev c5:Stmt:=bZ (top 16) 5
theorem sc_House_found:aS ["self","room"] ["self","room"] (aC c5):=by walk_at"fs"
abbrev dM:Stmt:=bZ (top 16) 6
theorem sc_House_into:aS ["self","room"] ["self","room"] (aC dM):=by walk_at"fs"
abbrev b7:Stmt:=bZ (top 16) 7
theorem sc_House_from_room:aS ["self","room"] ["self","room"] (aC b7):=by walk_at"fs"
abbrev dR:Stmt:=bZ (top 16) 8
theorem sc_House_door:aS ["self","name"] ["self","name"] (aC dR):=by walk_at"fs"
abbrev dH:Stmt:=bZ (top 16) 9
theorem sc_House_lets:aS ["self","name","turn","door"] ["self","name","turn"] (aC dH):=by walk_at"fs"
abbrev cW:Stmt:=bZ (top 16) 10
theorem sc_House_total:aS ["self"] ["self"] (aC cW):=by walk_at"fs"
abbrev cX:Stmt:=bZ (top 16) 11
theorem sc_House_pairs:aS ["self","pairs","turn"] ["self"] (aC cX):=by walk_at"fs"
abbrev eW:Stmt:=top 18
theorem sc_is_whole:aS ["thing"] ["thing"] (aC eW):=by walk_at"fs"
abbrev fM:Stmt:=top 21
theorem sc_is_name:aS ["thing"] ["thing"] (aC fM):=by walk_at"fs"
abbrev eE:Stmt:=top 22
theorem sc_need_name:aS ["part","thing"] ["part","thing"] (aC eE):=by walk_at"fs"
abbrev dG:Stmt:=top 23
theorem sc_need_whole:aS ["part","thing","least"] ["part","thing","least"] (aC dG):=by walk_at"fs"
abbrev bX:Stmt:=bZ (top 24) 0
theorem sc_Door___init__:aS ["self","name","start","end","wide"] ["self","name","start","end","wide"] (aC bX):=by walk_at"fs"
abbrev eK:Stmt:=bZ (top 24) 1
theorem sc_Door_lets:aS ["self","turn"] ["self","turn"] (aC eK):=by walk_at"fs"
abbrev cO:Stmt:=bZ (top 24) 2
theorem sc_Door_is_exit:aS ["self"] ["self"] (aC cO):=by walk_at"fs"
abbrev eN:Stmt:=bZ (top 24) 3
abbrev cB:Stmt:=bZ (top 25) 0
theorem sc_Since___init__:aS ["self","name","start","end","wide","since"] ["self","name","start","end","wide","since"] (aC cB):=by walk_at"fs"
abbrev dJ:Stmt:=bZ (top 25) 1
theorem sc_Since_lets:aS ["self","turn"] ["self","turn"] (aC dJ):=by walk_at"fs"
abbrev dY:Stmt:=bZ (top 25) 2
abbrev cP:Stmt:=top 27
theorem sc__law_cell_at:aS ["_law_script","_law_k"] ["_law_script","_law_k"] (aC cP):=by walk_at"fs"
abbrev dO:Stmt:=top 28
theorem sc__law_drawn:aS ["_law_cell","_law_k","_law_number"] ["_law_cell","_law_k"] (aC dO):=by walk_at"fs"
abbrev dP:Stmt:=top 29
theorem sc__law_draws:aS ["_law_cell","_law_many","_law_way","_law_found","_law_k"] ["_law_cell","_law_many","_law_way"] (aC dP):=by walk_at"fs"
abbrev dN:Stmt:=top 30
theorem sc__law_rooms:aS ["_law_cell","_law_way","_law_rooms_here","_law_k","_law_number"] ["_law_cell","_law_way"] (aC dN):=by walk_at"fs"
abbrev dI:Stmt:=top 31
theorem sc__law_doors:aS ["_law_rooms_here","_law_cell","_law_first","_law_way","_law_doors_here","_law_k","_law_number","_law_start","_law_end","_law_name"] ["_law_rooms_here","_law_cell","_law_first","_law_way"] (aC dI):=by walk_at"fs"
abbrev cV:Stmt:=top 32
theorem sc__law_people:aS ["_law_rooms_here","_law_cell","_law_way","_law_people_here","_law_inside","_law_number","_law_name","_law_holds","_law_many"] ["_law_rooms_here","_law_cell","_law_way"] (aC cV):=by walk_at"fs"
abbrev c3:Stmt:=top 33
theorem sc__law_parted:aS ["_law_people_here","_law_cell","_law_way","_law_found","_law_draws_here","_law_k","_law_row","_law_part","_law_names"] ["_law_people_here","_law_cell","_law_way"] (aC c3):=by walk_at"fs"
abbrev dQ:Stmt:=top 34
theorem sc__law_alike:aS ["_law_house","_law_other","_law_turns","_law_name","_law_one","_law_two"] ["_law_house","_law_other","_law_turns"] (aC dQ):=by walk_at"fs"
abbrev iV:Stmt:=top 35
theorem sc_law:aS ["_law_script","_law_first","_law_last","_law_way","_law_rooms_here","_law_doors_here","_law_people_here","_law_house","_law_other","_law_turns","_law_again"] ["_law_script"] (aC iV):=by walk_at"fs"
theorem JG:("the first turn is below 0" :Str).length=25:=by rw[bR];rfl
theorem KH:("the last turn is below the first one" :Str).length=36:=by rw[bR];rfl
theorem HW:("a row of people is below 0" :Str).length=26:=by rw[bR];rfl
theorem IG:("more are in a room than it holds" :Str).length=32:=by rw[bR];rfl
theorem JP:("name" :Str).length=4:=by rw[bR];rfl
theorem HR:("start" :Str).length=5:=by rw[bR];rfl
theorem KU:("wide" :Str).length=4:=by rw[bR];rfl
theorem IX:("since" :Str).length=5:=by rw[bR];rfl
theorem HX:("d" :Str).length=1:=by rw[bR];rfl
theorem JM:(" is no name" :Str).length=11:=by rw[bR];rfl
theorem DZ:(" is no whole number from " :Str).length=25:=by rw[bR];rfl
theorem DA:(" on" :Str).length=3:=by rw[bR];rfl
theorem DQ:("end" :Str).length=3:=by rw[bR];rfl
theorem DV:("abcdefghijklmnopq" :Str).length=17:=by rw[bR];rfl
theorem D4:("a" :Str).length=1:=by rw[bR];rfl
theorem EG:("z" :Str).length=1:=by rw[bR];rfl
theorem DJ:("bcdfghjk" :Str).length=8:=by rw[bR];rfl
theorem D2:("o" :Str).length=1:=by rw[bR];rfl
structure DCls (K:W.Frag)(C:Addr):Prop where
 ic:ICls K C
 n_first:NoAttr K C "first"
 n_last:NoAttr K C "last"
 n_sizes:NoAttr K C "sizes"
 n_people:NoAttr K C "people"
 n_named_doors:NoAttr K C "named_doors"
 n_name:NoAttr K C "name"
 n_start:NoAttr K C "start"
 n_end:NoAttr K C "end"
 n_wide:NoAttr K C "wide"
 n_since:NoAttr K C "since"
set_option genInjectivity false in
set_option genSizeOfSpec false in
structure M (K:W.Frag)(mg:Str->Option Value) where
 CV:Addr
 CW:FuncData
 VW:FunV K "_wall" "_wall" jX CV CW
 VT:Binds K CW ["k"] []
 kS:Addr
 kK:FuncData
 iG:FunV K "need_turns" "need_turns" dL kS kK
 AH:Binds K kK ["first","last"] []
 gT:Addr
 gR:FuncData
 dW:FunV K "need_each_once" "need_each_once" cA gT gR
 sS:Binds K gR ["names"] []
 fX:Addr
 gA:FuncData
 eM:FunV K "rooms_spoken_of" "rooms_spoken_of" b8 fX gA
 rK:Binds K gA ["doors","people"] []
 kH:Addr
 lE:FuncData
 eQ:FunV K "need_rooms" "need_rooms" dU kH lE
 AU:Binds K lE ["names","sizes"] []
 iR:Addr
 iS:FuncData
 dF:FunV K "added_people" "added_people" cS iR iS
 vO:Binds K iS ["sizes","people"] []
 k7:Addr
 lA:FuncData
 iD:FunV K "need_space" "need_space" dS k7 lA
 AS:Binds K lA ["sizes","people"] []
 oM:Addr
 oK:FuncData
 jT:FunV K "is_whole" "is_whole" eW oM oK
 ER:Binds K oK ["thing"] []
 p4:Addr
 qD:FuncData
 lV:FunV K "is_name" "is_name" fM p4 qD
 HG:Binds K qD ["thing"] []
 l8:Addr
 l9:FuncData
 fF:FunV K "need_name" "need_name" eE l8 l9
 BM:Binds K l9 ["part","thing"] []
 kZ:Addr
 kW:FuncData
 eR:FunV K "need_whole" "need_whole" dG kZ kW
 AQ:Binds K kW ["part","thing","least"] []
 iP:Addr
 iN:FuncData
 bS:FunV K "_law_cell_at" "_law_cell_at" cP iP iN
 vQ:Binds K iN ["_law_script","_law_k"] []
 lG:Addr
 kP:FuncData
 iB:FunV K "_law_drawn" "_law_drawn" dO lG kP
 A5:Binds K kP ["_law_cell","_law_k"] []
 lB:Addr
 k8:FuncData
 b9:FunV K "_law_draws" "_law_draws" dP lB k8
 A1:Binds K k8 ["_law_cell","_law_many","_law_way"] []
 kU:Addr
 kQ:FuncData
 iE:FunV K "_law_rooms" "_law_rooms" dN kU kQ
 AE:Binds K kQ ["_law_cell","_law_way"] []
 kJ:Addr
 kR:FuncData
 iC:FunV K "_law_doors" "_law_doors" dI kJ kR
 AL:Binds K kR ["_law_rooms_here","_law_cell","_law_first","_law_way"] []
 jJ:Addr
 jE:FuncData
 gJ:FunV K "_law_people" "_law_people" cV jJ jE
 x6:Binds K jE ["_law_rooms_here","_law_cell","_law_way"] []
 jD:Addr
 jA:FuncData
 gK:FunV K "_law_parted" "_law_parted" c3 jD jA
 xQ:Binds K jA ["_law_people_here","_law_cell","_law_way"] []
 lD:Addr
 lF:FuncData
 iF:FunV K "_law_alike" "_law_alike" dQ lD lF
 A2:Binds K lF ["_law_house","_law_other","_law_turns"] []
 EQ:Addr
 EL:FuncData
 UT:FunV K "law" "law" iV EQ EL
 VY:Binds K EL ["_law_script"] []
 gP:Addr
 eY:FuncData
 sQ:FunV K "__init__" "House.__init__" bY gP eY
 sN:Binds K eY ["self","rooms","doors","people","last","first"] []
 jI:Addr
 jG:FuncData
 xZ:FunV K "rooms" "House.rooms" c6 jI jG
 yB:Binds K jG ["self"] []
 i9:Addr
 jF:FuncData
 x5:FunV K "doors" "House.doors" cZ i9 jF
 xT:Binds K jF ["self"] []
 gB:Addr
 fZ:FuncData
 rF:FunV K "need_room" "House.need_room" b6 gB fZ
 rL:Binds K fZ ["self","room"] []
 jK:Addr
 jC:FuncData
 xX:FunV K "holds" "House.holds" c4 jK jC
 xU:Binds K jC ["self","room"] []
 jL:Addr
 jH:FuncData
 yC:FunV K "found" "House.found" c5 jL jH
 x9:Binds K jH ["self","room"] []
 kM:Addr
 kN:FuncData
 AK:FunV K "into" "House.into" dM kM kN
 A4:Binds K kN ["self","room"] []
 fY:Addr
 gC:FuncData
 rH:FunV K "from_room" "House.from_room" b7 fY gC
 rG:Binds K gC ["self","room"] []
 kY:Addr
 lH:FuncData
 A0:FunV K "door" "House.door" dR kY lH
 AW:Binds K lH ["self","name"] []
 k6:Addr
 kT:FuncData
 AT:FunV K "lets" "House.lets" dH k6 kT
 AN:Binds K kT ["self","name","turn"] []
 jN:Addr
 jB:FuncData
 xW:FunV K "total" "House.total" cW jN jB
 xV:Binds K jB ["self"] []
 i8:Addr
 jM:FuncData
 x8:FunV K "pairs" "House.pairs" cX i8 jM
 x3:Binds K jM ["self"] []
 fI:Addr
 eB:FuncData
 lW:FunV K "__init__" "Door.__init__" bX fI eB
 lX:Binds K eB ["self","name","start","end","wide"] []
 mD:Addr
 mB:FuncData
 BK:FunV K "lets" "Door.lets" eK mD mB
 BJ:Binds K mB ["self","turn"] []
 fU:Addr
 iO:FuncData
 vK:FunV K "is_exit" "Door.is_exit" cO fU iO
 mV:Binds K iO ["self"] []
 qB:Addr
 qC:FuncData
 SN:FunV K "words" "Door.words" eN qB qC
 SQ:Binds K qC ["self"] []
 gU:Addr
 gQ:FuncData
 sM:FunV K "__init__" "Since.__init__" cB gU gQ
 sO:Binds K gQ ["self","name","start","end","wide","since"] []
 kO:Addr
 kX:FuncData
 AM:FunV K "lets" "Since.lets" dJ kO kX
 AX:Binds K kX ["self","turn"] []
 oS:Addr
 oR:FuncData
 PD:FunV K "words" "Since.words" dY oS oR
 PB:Binds K oR ["self"] []
 VV:mg "_wall" =some (.ref CV)
 AR:mg "need_turns" =some (.ref kS)
 sR:mg "need_each_once" =some (.ref gT)
 rJ:mg "rooms_spoken_of" =some (.ref fX)
 AY:mg "need_rooms" =some (.ref kH)
 vM:mg "added_people" =some (.ref iR)
 AV:mg "need_space" =some (.ref k7)
 EO:mg "is_whole" =some (.ref oM)
 HH:mg "is_name" =some (.ref p4)
 BL:mg "need_name" =some (.ref l8)
 A3:mg "need_whole" =some (.ref kZ)
 vP:mg "_law_cell_at" =some (.ref iP)
 AO:mg "_law_drawn" =some (.ref lG)
 AI:mg "_law_draws" =some (.ref lB)
 AF:mg "_law_rooms" =some (.ref kU)
 AG:mg "_law_doors" =some (.ref kJ)
 xS:mg "_law_people" =some (.ref jJ)
 x4:mg "_law_parted" =some (.ref jD)
 AZ:mg "_law_alike" =some (.ref lD)
 VX:mg "law" =some (.ref EQ)
 ES:∃ds,Vals [.int 0] ds/\Binds K eY ["self","rooms","doors","people","last","first"] ds
 HI:∃ds,Vals [.int 1] ds/\Binds K eB ["self","name","start","end","wide"] ds
 HK:∃ds,Vals [.non,.int 1] ds/\Binds K eB ["self","name","start","end","wide"] ds
 aH:Addr
 O4:mg "House" =some (.ref aH)
 eS:Addr
 HJ:mg "Door" =some (.ref eS)
 fG:Addr
 O7:mg "Since" =some (.ref fG)
 EM:Addr
 UU:mg "OutError" =some (.ref EM)
 LC:Addr
 VR:mg "NoDoor" =some (.ref LC)
 HF:Addr
 UZ:mg "NoHouse" =some (.ref HF)
 K8:Addr
 VQ:mg "NoTurn" =some (.ref K8)
 O8:Addr
 VU:mg "Twice" =some (.ref O8)
 K9:Addr
 VS:mg "NoRoom" =some (.ref K9)
 HL:Addr
 UY:mg "Unknown" =some (.ref HL)
 bF:DCls K aH
 LA:Mk K aH gP
 vI:eX K aH "rooms" jI
 vG:eX K aH "doors" i9
 qA:eX K aH "need_room" gB
 vJ:eX K aH "holds" jK
 vH:eX K aH "found" jL
 yA:eX K aH "into" kM
 p0:eX K aH "from_room" fY
 xY:eX K aH "door" kY
 xR:eX K aH "lets" k6
 vF:eX K aH "total" jN
 vL:eX K aH "pairs" i8
 mW:DCls K eS
 O5:Mk K eS fI
 AJ:eX K eS "lets" mD
 uE:eX K eS "is_exit" fU
 O9:eX K eS "words" qB
 kI:DCls K fG
 LB:Mk K fG gU
 yD:eX K fG "lets" kO
 O6:eX K fG "words" oS
 sU:eX K fG "is_exit" fU
 gS:W.specialIn K (.ref eS) "__getattribute__" =some (some (.builtin "type.__getattribute__"))/\W.readsIn K eS (.type "type")=true/\W.findCls K (.ref eS) (.type "type") "__init__" =some (.val (.ref fI))
 SO:mg "ValueError" =none
 MD:mg "any" =none
 vN:mg "range" =none
 l7:mg "enumerate" =none
 sP:mg "sorted" =none
 SR:mg "dict" =none
 pZ:mg "list" =none
 EN:mg "sum" =none
 lC:mg "isinstance" =none
 US:mg "int" =none
 UX:mg "str" =none
 UW:mg "all" =none
 q0:mg "len" =none
 UV:mg "set" =none
 UR:mg "max" =none
 SM:mg "bool" =none
 iQ:∃t:Tok,mg "LONGEST_NAME" =some (.int 8 t)
theorem gl_ {G:Prop}(h:∀G':Prop,G'=G->G'):G:=h G rfl
set_option hygiene false
local macro_rules| `(tactic| walk_at"g1")=> `(tactic| (refine gl_ ?_;intro G_ hG_))
local macro_rules| `(tactic| walk_at"g2")=> `(tactic| subst hG_)
local macro_rules| `(tactic| walk_at"cx")=> `(tactic| try dsimp only[cxK,cxP,cxW,cxM,cxB])
set_option hygiene true
local macro_rules| `(tactic| walk_at"hp")=> `(tactic| first|assumption|(refine' Same.at ?s ?h;(case s=>assumption);(case h=>walk_at"hp"))|(refine' SqL.of ?h;(case h=>walk_at"hp"))|(refine' SqT.of ?h;(case h=>walk_at"hp"))|(refine' Same.seq ?s ?h;(case s=>assumption);(case h=>walk_at"hp"))|(refine' Same.sqT ?s ?h;(case s=>assumption);(case h=>walk_at"hp")))
local macro_rules| `(tactic| walk_at"sm")=> `(tactic| first|assumption|exact Same.refl _|(refine' Same.snoc ?s ?h;(case s=>assumption);(case h=>walk_at"sm")))
local macro_rules| `(tactic| walk_at"sb")=> `(tactic| first|assumption|exact SameBut.refl|(refine' SameBut.snoc ?s ?h;(case s=>assumption);(case h=>walk_at"sb"))|(refine' SameBut.snocS ?s ?h;(case s=>assumption);(case h=>walk_at"sb")))
local macro_rules| `(tactic| walk_at"lk")=> `(tactic| first|assumption|exact QE|(with_reducible exact NM)|(refine' UE ?d ?h;(case d=>decide +kernel);(case h=>walk_at"lk")))
local macro_rules| `(tactic| walk_at"sz")=> `(tactic| first|with_reducible assumption|lia|omega|(simp only[eG,u0,JG,KH,HW,IG,JP,HR,KU,IX,HX,JM,DZ,DA,DQ,DV,D4,EG,DJ,D2,sizeLine_eq,List.length_cons,List.length_nil,List.length_append,List.length_map];done)|(simp only[eG,u0,JG,KH,HW,IG,JP,HR,KU,IX,HX,JM,DZ,DA,DQ,DV,D4,EG,DJ,D2,sizeLine_eq,List.length_cons,List.length_nil,List.length_append,List.length_map];omega)|(simp only[eG,u0,JG,KH,HW,IG,JP,HR,KU,IX,HX,JM,DZ,DA,DQ,DV,D4,EG,DJ,D2,sizeLine_eq,List.length_cons,List.length_nil,List.length_append,List.length_map]at *;omega))
local macro_rules| `(tactic| walk_at"sd")=> `(tactic| first|with_reducible assumption|lia|omega|decide)
local macro_rules| `(tactic| walk_at"dc")=> `(tactic| first|((with_reducible refine ICls.cl (DCls.ic ?_));assumption)|((with_reducible refine DCls.ic ?_);assumption)|((with_reducible refine DCls.n_first ?_);assumption)|((with_reducible refine DCls.n_last ?_);assumption)|((with_reducible refine DCls.n_sizes ?_);assumption)|((with_reducible refine DCls.n_people ?_);assumption)|((with_reducible refine DCls.n_named_doors ?_);assumption)|((with_reducible refine DCls.n_name ?_);assumption)|((with_reducible refine DCls.n_start ?_);assumption)|((with_reducible refine DCls.n_end ?_);assumption)|((with_reducible refine DCls.n_wide ?_);assumption)|((with_reducible refine DCls.n_since ?_);assumption))
local macro_rules| `(tactic| walk_at"rd1")=> `(tactic| first|(with_reducible first|refine RV ?_|refine Q9 ?_|refine VL ?_|refine UH ?_|refine TN ?_|refine SW ?_|refine S0 ?_|refine TD ?_|refine SS ?_|refine TK ?_|refine TV ?_|refine SZ ?_|refine UF ?_|refine ST ?_|refine RK ?_|refine rd_v11 ?_|refine rd_v12 ?_|refine MS ?_|refine RZ ?_|refine SV ?_|refine SY ?_|refine NK ?_|refine SU ?_|refine SG ?_|refine MR ?_|refine TF ?_|refine P2 ?_|refine UK ?_|refine EX ?_|refine yK ?_|refine OH ?_|refine OK ?_|refine UN ?_|refine TH ?_|refine SX ?_|refine TR ?_|refine UB ?_|refine UQ ?_|refine TW ?_|refine UO ?_|refine T0 ?_|refine TZ ?_|refine SA ?_|refine rd_s11 ?_|refine rd_s12 ?_|refine Q6 ?_|refine OV ?_|refine MJ ?_|refine rd_retN ?_|refine RU ?_|refine rd_and ?_|refine UD ?_|refine OE ?_|refine rd_orV ?_|refine rd_notV ?_|refine R9 ?_|refine rd_chain ?_|refine UA ?_|refine VG ?_|refine RW ?_|refine rd_eqB ?_|refine QZ ?_|refine rd_eqSN ?_|refine OJ ?_|refine rd_eqNN ?_|refine PJ ?_|refine rd_neB ?_|refine FC ?_|refine BW ?_|refine rd_isNN ?_|refine rd_isNS ?_|refine rd_isNI ?_|refine rd_isNR ?_|refine MQ ?_|refine OL ?_|refine rd_ntNI ?_|refine rd_ntNR ?_|refine NX ?_|refine rd_ntNV ?_|refine RH ?_|refine RI ?_|refine NU ?_|refine MT ?_|refine NZ ?_|refine rd_sl ?_|refine UI ?_|refine rd_bm0 ?_|refine rd_bmS ?_|refine rd_bm0I ?_|refine rd_isiII ?_|refine rd_isiIB ?_|refine rd_isiBB ?_|refine rd_isiBI ?_|refine rd_isiSS ?_|refine rd_isiNS ?_|refine OS ?_|refine rd_min2 ?_|refine rd_intB ?_|refine rd_intI ?_|refine FD ?_|refine N4 ?_|refine Q1 ?_|refine rd_gsub ?_|refine NY ?_|refine KZ ?_|refine RT ?_|refine ID ?_|refine rd_iTup ?_|refine KP ?_|refine HY ?_|refine rd_iStr ?_|refine rd_iStrV ?_|refine rd_break ?_|refine rd_cont ?_|refine rd_aug ?_)|((with_reducible refine' P7 ?s ?_);(case s=>decide))|((with_reducible refine' NO ?s ?_);(case s=>walk_at"sd");intro h0' h1')|((with_reducible refine' rd_repL ?e ?a ?b ?s ?_);(case e=>walk_at"hp");(case a=>decide);(case b=>decide);(case s=>first|(simp;done)|(simp[sizeLine_eq];done)|walk_at"sz");intro p' H' n' S' e')|((with_reducible refine' R8 ?s ?r ?_);(case s=>walk_at"sd");(case r=>walk_at"sd"))|((with_reducible refine' NA ?s ?r ?_);(case s=>walk_at"sd");(case r=>walk_at"sd"))|((with_reducible refine' N3 ?s ?r ?_);(case s=>walk_at"sd");(case r=>walk_at"sd"))|((with_reducible refine' OA ?s ?_);(case s=>walk_at"sz");intro p' H' n' S' e')|((with_reducible refine' MZ ?s ?_);(case s=>walk_at"sz");intro p' H' n' S' e')|((with_reducible refine ML ?_);intro p' H' n' S' e')|((with_reducible refine' NN ?e ?c ?n ?l ?_);(case e=>walk_at"hp");(case c=>walk_at"dc");(case n=>walk_at"dc");(case l=>walk_at"lk"))|((with_reducible refine' KI ?e ?c ?n ?l ?_);(case e=>walk_at"hp");(case c=>walk_at"dc");(case n=>walk_at"dc");(case l=>kernel_rfl);intro H' B' e')|((with_reducible refine' PK ?e ?l ?F ?_);(case e=>walk_at"hp");(case l=>walk_at"lk");(case F=>assumption))|((with_reducible refine' rd_isiC ?e ?i ?k ?_);(case e=>walk_at"hp");(case i=>walk_at"dc");(case k=>assumption))|((with_reducible refine' rd_ixL ?e ?l ?_);(case e=>walk_at"hp");(case l=>rfl))|((with_reducible refine' OM ?e ?s ?r ?_);(case e=>walk_at"hp");(case s=>walk_at"sd");(case r=>walk_at"sd");intro v' hv')|((with_reducible refine' rd_ix3i ?e ?s ?r ?_);(case e=>walk_at"hp");(case s=>walk_at"sd");(case r=>walk_at"sd");intro v' hv')|((with_reducible refine' rd_setLm ?e ?l ?_);(case e=>walk_at"hp");(case l=>rfl);intro H' B' e')|((with_reducible refine' M7 ?e ?_);(case e=>walk_at"hp"))|((with_reducible refine' rd_lenS ?e ?_);(case e=>walk_at"sz"))|((with_reducible refine' NJ ?e ?_);(case e=>walk_at"sz"))|((with_reducible refine' rd_slS ?e ?_);(case e=>walk_at"sz");intro hl')|((with_reducible refine' rd_slI ?e ?_);(case e=>walk_at"hp");intro p' H' n' S' e')|((with_reducible refine' rd_slL ?e ?_);(case e=>walk_at"hp");intro p' H' n' S' e')|((with_reducible refine' O1 ?e ?f ?s ?_);(case e=>walk_at"hp");(case f=>walk_at"hp");(case s=>walk_at"sz");intro p' H' n' S' e')|((with_reducible refine' GW ?e ?_);(case e=>walk_at"hp");intro p' H' n' S' e')|((with_reducible refine' QH ?e ?_);(case e=>walk_at"hp"))|((with_reducible refine' wE ?e ?_);(case e=>walk_at"hp"))|((with_reducible refine' FM ?s ?r ?_);(case s=>walk_at"sd");(case r=>walk_at"sd"))|((with_reducible refine' FY ?s ?r ?t ?u ?_);(case s=>walk_at"sd");(case r=>walk_at"sd");(case t=>walk_at"sd");(case u=>walk_at"sd"))|((with_reducible refine' rd_str ?s ?r ?_);(case s=>walk_at"sd");(case r=>walk_at"sd");intro hl')|((with_reducible refine' rd_gtupL ?e ?l ?_);(case e=>walk_at"hp");(case l=>rfl))|((with_reducible refine' N8 ?e ?l ?_);(case e=>walk_at"hp");(case l=>rfl))|((with_reducible refine' rd_ifP ?s ?_);(case s=>walk_at"sd"))|((with_reducible refine' SC ?s ?_);(case s=>walk_at"sd"))|((with_reducible refine' MU ?s ?_);(case s=>walk_at"sd"))|((with_reducible refine' rd_ifnN ?s ?_);(case s=>walk_at"sd")))
local macro_rules| `(tactic| walk_at"go")=> `(tactic| repeat walk_at"rd1")
local macro_rules| `(tactic| walk_at"gs")=> `(tactic| repeat ((fail_if_success (with_reducible refine KQ ?_));walk_at"rd1"))
local macro_rules| `(tactic| walk_at"nn")=> `(tactic| repeat first|exact nn_nil|refine nn_app ?_ ?_|refine nn_cons (by omega) ?_|exact nn_map (fun n=>by omega))
section
variable {P:Program}{w:World}{K:W.Frag}{mg:Str->Option Value}{base:Heap}
def RA:V->Bool
 | .int _=>true
 | _=>false
def sI (K:W.Frag):Sp:=fun vs H Q _=>∃x n,vs=[x]/\BTy K H x n/\Q (.bl (RA x)) H
theorem KA {H:Hp}{Q:VK}{E:XK}{i:Int} (h:Q (.bl true) H):sI K [.int i] H Q E:=⟨_,_,rfl,.int i,h⟩
theorem BI (m:M K mg):bD P w K mg base CX0 1 m.oM m.oK ["thing"] (sI K):=by
 refine m.jT.ok sc_is_whole (fun vs H Q E h=> ?_) (fun cdv A outer s H vs Q E hr h=> ?_)
 ·walk_at"g1";obtain⟨x,n,rfl,b,k⟩:=h;walk_at"g2";rfl
 ·walk_at"g1";obtain⟨x,n,rfl,b,k⟩:=h;walk_at"g2";have nd:=sc_is_whole.nd;walk_at"hu";refine⟨_,(aF (aW (pM (bV rY rfl m.lC i6 (aA (pv 0) (aA (DX rfl m.US Q7) aB))) (uA (Q2 (bV rY rfl m.lC i6 (aA (pv 0) (aA (DX rfl m.SM M1) aB)))))))),?_⟩;refine aO (σ:=[some (x)]) rfl ?_;walk_at"cx";refine⟨_,rfl,_,_,_,_,_,rfl,b.ty,rfl,EH b "int" (.inl rfl),_,rfl,?_⟩;refine uY (fun h1=>⟨_,rfl,_,_,_,_,_,rfl,b.ty,rfl,EH b "bool" (.inr (.inl rfl)),_,rfl,?_⟩) (fun h1=> ?_)
  ·cases b<;>first|exact k|exact absurd h1 (by decide)
  ·cases b<;>first|exact k|exact absurd (by decide) h1
theorem BC (m:M K mg):Fc P w K mg base "is_whole" 1 ["thing"] (sI K):=⟨_,_,m.EO,m.jT.kp,m.ER,BI m⟩
def nmB:V->Bool
 | .str z=>bQ z
 | _=>false
def vD (K:W.Frag):Sp:=fun vs H Q _=>∃x n,vs=[x]/\BTy K H x n/\(∀z,x= .str z->z.length<=1000)/\∀H',Same H H'->Q (.bl (nmB x)) H'
theorem NP {H:Hp}{Q:VK}{E:XK}{z:Str} (hz:bQ z=true) (h:∀H',Same H H'->Q (.bl true) H'):vD K [.str z] H Q E :=
 ⟨_,_,rfl,.str z,fun y e=>by cases e;exact Nat.le_trans (GY hz) (by decide),fun H' s=>by rw[show nmB (.str z)=true from hz];exact h H' s⟩
theorem le1 (a c:Nat):(!decide ([c]<[a]))=decide (a<=c):=by
 have:([c]<[a])↔c<a:=by
  constructor
  ·intro h;cases h with
   | rel h=>exact h
   | cons h=>cases h
  ·exact fun h=> .rel h
 by_cases h:c<a
 ·rw[decide_eq_true (this.mpr h),decide_eq_false (by lia)];rfl
 ·rw[decide_eq_false (fun z=>h (this.mp z)),decide_eq_true (by lia)];rfl
theorem TC:("a" :Str).cps.toList=[97]:=by decide +kernel
theorem UC:("z" :Str).cps.toList=[122]:=by decide +kernel
theorem wJ {α:Type}(p:α->Bool)(d:α):∀l:List α,((List.range l.length).map fun i=>p (l.getD i d)).all id=l.all p
 | []=>rfl
 | a::l=>by
  rw[List.length_cons,List.range_succ_eq_map,List.map_cons,List.all_cons,List.map_map,List.all_cons,←wJ p d l];rfl
theorem IF {H:Hp}{p:Addr}{o:HO} (h:H p=none):Same H (upd H p o):=fun b u e=>by rw[aJ (bB e h)];exact e
theorem DD (m:M K mg):bD P w K mg base CX0 1 m.p4 m.qD ["thing"] (vD K):=by
 refine m.lV.ok sc_is_name (fun vs H Q E h=> ?_) (fun cdv A outer s H vs Q E hr h=> ?_)
 ·walk_at"g1";obtain⟨x,n,rfl,b,hz,k⟩:=h;walk_at"g2";rfl
 ·walk_at"g1";obtain⟨x,n,rfl,b,hz,k⟩:=h;walk_at"g2";have nd:=sc_is_name.nd;walk_at"hu";obtain⟨tok_LONGEST_NAME,iQ⟩:=m.iQ;refine⟨_,(aD (cG (o9 (j9 (bV rY rfl m.lC i6 (aA (pv 0) (aA (DX rfl m.UX RB) aB))))) (aF (aW lJ)) bU)
   (aF (aW (pM (zO MC MC aE (bV G0 rfl m.q0 mN (aA (pv 0) aB)) (OU rfl iQ)) (uA (bV (KL rfl) rfl m.UW QG (aA (dD (N:=["sign"]) (nl:=1) (ci:=[]) rfl (blk (s.heap.objs.size+1) rfl rfl rfl (by kernel_rfl)) (QS (pv 0)) (fun _ _ _ _=>(aM (i:=0) (show (["sign"]:List Str).Nodup by decide +kernel) rfl (by walk_at"oi"))) (fun _ _ _ _=>fR) (fun _ _ _ _=>(zO GV GV fQ (pv 0) fQ))) aB))))))),?_⟩
  refine aO (σ:=[some (x)]) rfl ?_;walk_at"cx";refine⟨_,rfl,_,_,_,_,_,rfl,b.ty,rfl,EH b "str" (.inr (.inr rfl)),_,rfl,?_⟩;refine uY (fun h1=> ?_) (fun h1=> ?_)
  ·show Q (.bl false) H;cases b<;>first|exact k H (Same.refl H)|exact absurd h1 (by decide)
  ·have hs:∃z,x= .str z:=by
    cases b<;>first|exact⟨_,rfl⟩|exact absurd (by decide) h1
   obtain⟨z,rfl⟩:=hs;have hl:=hz z rfl;have hl':z.length<=sizeLine:=Nat.le_of_lt (EW hl);refine⟨_,rfl,z,rfl,hl',_,_,rfl,rfl,_,rfl,?_⟩;refine uY (fun h2=>⟨_,_,rfl,rfl,_,rfl,?_⟩) (fun h2=>⟨_,rfl,?_⟩)
   ·refine uY (fun h3=> ?_) (fun h3=> ?_)
    ·refine⟨_,rfl,z,rfl,?_⟩;refine O0 z.cps.size (fun i=> .bl (sgB (z.cps.toList.getD i 0))) hl' (fun H'=>H'=H) rfl (fun _ _=>rfl) (fun i _ hi _=>hi) ?_ ?_ ?_ ?_ ?_
     ·rintro i _ x H' hi rfl hq_;walk_at"g1";obtain⟨rfl,c,hc,rfl⟩:=hq_;walk_at"g2";refine⟨⟨rfl,fun j v hv=> ?_⟩,rfl,?_⟩
      ·match j,hv with
       | 0,hv=>cases hv
       | j+1,hv=>cases hv
      ·have hc':z.cps.toList.getD i 0=c:=by
        rw[List.getD_eq_getElem?_getD,Array.getElem?_toList,hc];rfl
       refine⟨_,rfl,_,_,rfl,rfl,_,rfl,?_⟩;rw[TC,hc'];refine uY (fun h4=>⟨_,_,rfl,rfl,?_,rfl⟩) (fun h4=>⟨?_,rfl⟩)
       ·have h4':97<=c:=by rw[show (⟨#[c]⟩:Str).cps.toList=[c] from rfl,le1]at h4;exact of_decide_eq_true h4
        rw[UC,show (⟨#[c]⟩:Str).cps.toList=[c] from rfl,le1];unfold sgB;rw[decide_eq_true h4',Bool.true_and]
       ·have h4':¬97<=c:=by rw[show (⟨#[c]⟩:Str).cps.toList=[c] from rfl,le1]at h4;exact fun z=>h4 (decide_eq_true z)
        unfold sgB;rw[decide_eq_false h4',Bool.false_and]
     ·exact fun _ _ _ _ f q=>f _ _ q
     ·rintro σ H Q Q' f hq_;walk_at"g1";obtain⟨v,e,i,j,e1,e2,k,e3,q⟩:=hq_;walk_at"g2";refine⟨v,e,i,j,e1,e2,k,e3,?_⟩;revert q
      split
      ·rintro hq_;walk_at"g1";obtain⟨i,j,e1,e2,q⟩:=hq_;walk_at"g2";exact⟨i,j,e1,e2,f _ _ q⟩
      ·exact fun q=>f _ _ q
     ·exact fun _ _ _ _ _ f q=>f _ _ q
     ·rintro _ rfl p hp;refine⟨p,(List.range z.cps.size).map (fun i=>sgB (z.cps.toList.getD i 0)),rfl,SqL.of ?_,?_⟩
      ·rw[aV,List.map_map];rfl
      ·have e:=wJ sgB 0 z.cps.toList;rw[Array.length_toList]at e;rw[e];have e2:nmB (.str z)=z.cps.toList.all sgB:=by
        show bQ z=_;unfold bQ;rw[show decide (1<=(z.length:Int))=true from h2,show decide ((z.length:Int)<=8)=true from h3];rfl
       rw[←e2];exact k _ (IF hp)
    ·have e2:nmB (.str z)=false:=by
      show bQ z=_;unfold bQ;rw[show decide ((z.length:Int)<=8)=false from by simpa using h3];simp
     have:=k H (Same.refl H);rw[e2]at this;exact this
   ·have e2:nmB (.str z)=false:=by
     show bQ z=_;unfold bQ;rw[show decide (1<=(z.length:Int))=false from by simpa using h2];simp
    have:=k H (Same.refl H);rw[e2]at this;exact this
theorem DT (m:M K mg):Fc P w K mg base "is_name" 1 ["thing"] (vD K):=⟨_,_,m.HH,m.lV.kp,m.HG,DD m⟩
local macro_rules| `(tactic| walk_at"rd1")=> `(tactic| first|(with_reducible refine KA ?_)|((with_reducible refine' NP ?s ?_);(case s=>assumption);intro H' S'))
inductive iA (K:W.Frag)(vs:List V)(H:Hp)(Q:VK)(E:XK):Prop
 | mk (part z:Str) (_:vs=[.str part,.str z]) (_:bQ z=true) (_:∀H',Same H H'->Q .non H'):iA K vs H Q E
theorem BA {H:Hp}{Q:VK}{E:XK}{part z:Str} (hz:bQ z=true) (h:∀H',Same H H'->Q .non H'):iA K [.str part,.str z] H Q E:=⟨_,_,rfl,hz,h⟩
theorem z5 (m:M K mg):bD P w K mg base CX0 2 m.l8 m.l9 ["part","thing"] (iA K):=by
 refine m.fF.ok sc_need_name (fun vs H Q E h=> ?_) (fun cdv A outer s H vs Q E hr h=> ?_)
 ·walk_at"g1";obtain⟨part,z,rfl,hz,k⟩:=h;walk_at"g2";rfl
 ·walk_at"g1";obtain⟨part,z,rfl,hz,k⟩:=h;walk_at"g2";have nd:=sc_need_name.nd;walk_at"hu";have lV:= @DT P w K mg base m;refine⟨_,(aF (cG (o9 (j9 (b5 lV hr (aA (pv 1) aB)))) (aF eT) bU)),?_⟩;refine aO (σ:=[some (.str part),some (.str z)]) rfl ?_;walk_at"cx";walk_at"go";exact k _ (by walk_at"sm")
theorem yR (m:M K mg):Fc P w K mg base "need_name" 2 ["part","thing"] (iA K):=⟨_,_,m.BL,m.fF.kp,m.BM,z5 m⟩
inductive gH (K:W.Frag)(vs:List V)(H:Hp)(Q:VK)(E:XK):Prop
 | mk (part:Str) (i l:Int) (_:vs=[.str part,.int i,.int l]) (_:l<=i) (_:Q .non H):gH K vs H Q E
theorem zY {H:Hp}{Q:VK}{E:XK}{part:Str}{i l:Int} (hz:l<=i) (h:Q .non H):gH K [.str part,.int i,.int l] H Q E:=⟨_,_,_,rfl,hz,h⟩
theorem w9 (m:M K mg):bD P w K mg base CX0 2 m.kZ m.kW ["part","thing","least"] (gH K):=by
 refine m.eR.ok sc_need_whole (fun vs H Q E h=> ?_) (fun cdv A outer s H vs Q E hr h=> ?_)
 ·walk_at"g1";obtain⟨part,i,l,rfl,hz,k⟩:=h;walk_at"g2";rfl
 ·walk_at"g1";obtain⟨part,i,l,rfl,hz,k⟩:=h;walk_at"g2";have nd:=sc_need_whole.nd;walk_at"hu";have jT:= @BC P w K mg base m;refine⟨_,(aF (cG (PW.pt (nM (o9 (j9 (b5 jT hr (aA (pv 1) aB)))) (kE (bL qV (pv 1) (pv 2) (bC _))))) (aF eT) bU)),?_⟩;refine aO (σ:=[some (.str part),some (.int i),some (.int l)]) rfl ?_;walk_at"cx";walk_at"go";exact k
theorem oP (m:M K mg):Fc P w K mg base "need_whole" 2 ["part","thing","least"] (gH K):=⟨_,_,m.A3,m.eR.kp,m.AQ,w9 m⟩
local macro_rules| `(tactic| walk_at"rd1")=> `(tactic| first|((with_reducible refine' BA ?s ?_);(case s=>assumption);intro H' S')|((with_reducible refine' zY ?s ?_);(case s=>walk_at"sd")))
abbrev pD (n s e w:V):List (Str×V):=cH "wide" w (cH "end" e (cH "start" s (cH "name" n [])))
def oE (e:V):Prop:=e= .non∨∃z,e= .str z/\bQ z=true
inductive eP (K:W.Frag)(vs:List V)(H:Hp)(Q:VK)(E:XK):Prop
 | mk (p C dx:Addr) (n s:Str) (e:V) (wd:Int) (_:vs=[.ref p,.str n,.str s,e,.int wd]) (_:DCls K C) (_:H p=some (.ins C dx [])) (_:bQ n=true) (_:bQ s=true) (_:oE e) (_:0<=wd) (_:∀H',SameBut p H H'->H' p=some (.ins C dx (pD (.str n) (.str s) e (.int wd)))->Q .non H'):eP K vs H Q E
theorem rN {H:Hp}{Q:VK}{E:XK}{p C dx:Addr}{n s:Str}{e:V}{wd:Int} (dc:DCls K C) (hp:H p=some (.ins C dx [])) (hn:bQ n=true) (hs:bQ s=true) (he:oE e) (hw:0<=wd)
  (k:∀H',SameBut p H H'->H' p=some (.ins C dx (pD (.str n) (.str s) e (.int wd)))->Q .non H'):eP K [.ref p,.str n,.str s,e,.int wd] H Q E:=⟨_,_,_,_,_,_,_,rfl,dc,hp,hn,hs,he,hw,k⟩
theorem kC (m:M K mg):bD P w K mg base CX0 3 m.fI m.eB ["self","name","start","end","wide"] (eP K):=by
 refine m.lW.ok sc_Door___init__ (fun vs H Q E h=> ?_) (fun cdv A outer s H vs Q E hr h=> ?_)
 ·walk_at"g1";obtain⟨p,C,dx,n,st,e,wd,rfl,dc,hp,hn,hs,he,hw,k⟩:=h;walk_at"g2";rfl
 ·walk_at"g1";obtain⟨p,C,dx,n,st,e,wd,rfl,dc,hp,hn,hs,he,hw,k⟩:=h;walk_at"g2";have nd:=sc_Door___init__.nd;walk_at"hu";have fF:= @yR P w K mg base m;have eR:= @oP P w K mg base m;refine⟨_,(aD (bM (b5 fF hr (aA fQ (aA (pv 1) aB))))
   (aD (bM (b5 fF hr (aA fQ (aA (pv 2) aB))))
   (aD (cG (bL MM (pv 3) zH (bC _)) (aF (bM (b5 fF hr (aA fQ (aA (pv 3) aB))))) bU)
   (aD (bM (b5 eR hr (aA fQ (aA (pv 4) (aA aE aB)))))
   (aD (gD (pv 0) (pv 1) rfl)
   (aD (gD (pv 0) (pv 2) rfl)
   (aD (gD (pv 0) (pv 3) rfl)
   (aF (gD (pv 0) (pv 4) rfl))))))))),?_⟩
  refine aO (σ:=[some (.ref p),some (.str n),some (.str st),some (e),some (.int wd)]) rfl ?_;walk_at"cx";rcases he with rfl|⟨z,rfl,hz⟩
  ·walk_at"go";exact k _ (by walk_at"sb") (by assumption)
  ·walk_at"go";exact k _ (by walk_at"sb") (by assumption)
theorem GI (m:M K mg):Kc P w K mg base "Door" m.eS 3 [] (eP K):=⟨_,_,_,_,m.HJ,m.O5,.nil,m.lX,kC m⟩
theorem oT (m:M K mg):Dc P w K mg base "Door" "__init__" 3 (eP K):=⟨_,_,_,_,m.HJ,m.gS.1,m.gS.2.1,m.gS.2.2,m.lW.kp,m.lX,kC m⟩
theorem HQ {H:Hp}{Q:VK}{E:XK}{C:Addr}{vs dvs:List V}{n s:Str}{e:V}{wd:Int} (ev:vs++dvs=[.str n,.str s,e,.int wd]) (dc:DCls K C) (hn:bQ n=true) (hs:bQ s=true) (he:oE e) (hw:0<=wd)
  (k:∀p dx H',H p=none->Same H H'->H' p=some (.ins C dx (pD (.str n) (.str s) e (.int wd)))->Q (.ref p) H'):sY C (eP K) dvs E Q vs H :=
 yV (fun p dx H0 Q' h k' s0=>by rw[ev];exact rN dc h hn hs he hw k') k
local macro_rules| `(tactic| walk_at"rd1")=> `(tactic| ((with_reducible refine' HQ ?v ?d ?hn ?hs ?he ?hw ?_);(case v=>rfl);(case d=>assumption);(case hn=>assumption);(case hs=>assumption);(case he=>first|assumption|exact .inl rfl|exact .inr ⟨_,rfl,by assumption⟩);(case hw=>walk_at"sd");intro p' dx' H' n' S' e'))
inductive gY (K:W.Frag)(vs:List V)(H:Hp)(Q:VK)(E:XK):Prop
 | mk (p C dx:Addr) (fs:List (Str×V)) (e:V) (_:vs=[.ref p]) (_:DCls K C) (_:H p=some (.ins C dx fs)) (_:fs.lookup ("end" :Str)=some e) (_:Q (.bl (decide (e= .non))) H):gY K vs H Q E
theorem OW {H:Hp}{Q:VK}{E:XK}{p C dx:Addr}{fs:List (Str×V)} (hp:H p=some (.ins C dx fs)) (dc:DCls K C) (l:fs.lookup ("end" :Str)=some .non) (k:Q (.bl true) H):gY K [.ref p] H Q E:=⟨_,_,_,_,_,rfl,dc,hp,l,k⟩
theorem OB {H:Hp}{Q:VK}{E:XK}{p C dx:Addr}{fs:List (Str×V)}{z:Str} (hp:H p=some (.ins C dx fs)) (dc:DCls K C) (l:fs.lookup ("end" :Str)=some (.str z)) (k:Q (.bl false) H):gY K [.ref p] H Q E :=
 ⟨_,_,_,_,_,rfl,dc,hp,l,by rw[decide_eq_false (fun z=>by cases z)];exact k⟩
theorem lL (m:M K mg):bD P w K mg base CX0 1 m.fU m.iO ["self"] (gY K):=by
 refine m.vK.ok sc_Door_is_exit (fun vs H Q E h=> ?_) (fun cdv A outer s H vs Q E hr h=> ?_)
 ·walk_at"g1";obtain⟨p,C,dx,fs,e,rfl,dc,hp,l,k⟩:=h;walk_at"g2";rfl
 ·walk_at"g1";obtain⟨p,C,dx,fs,e,rfl,dc,hp,l,k⟩:=h;walk_at"g2";have nd:=sc_Door_is_exit.nd;walk_at"hu";refine⟨_,(aF (aW (gW SD (bO (pv 0) rfl) zH (bC _)))),?_⟩;refine aO (σ:=[some (.ref p)]) rfl ?_;walk_at"cx";walk_at"go";exact k
theorem tS (m:M K mg):Mc P w K mg base m.eS "is_exit" 1 (gY K):=⟨_,_,_,m.mW.ic.cl,m.uE,m.mV,lL m⟩
theorem r9 (m:M K mg):Mc P w K mg base m.fG "is_exit" 1 (gY K):=⟨_,_,_,m.kI.ic.cl,m.sU,m.mV,lL m⟩
local macro_rules| `(tactic| walk_at"rd1")=> `(tactic| first|((with_reducible refine' OW ?e ?d ?l ?_);(case e=>walk_at"hp");(case d=>assumption);(case l=>walk_at"lk"))|((with_reducible refine' OB ?e ?d ?l ?_);(case e=>walk_at"hp");(case d=>assumption);(case l=>walk_at"lk")))
inductive hV (K:W.Frag)(vs:List V)(H:Hp)(Q:VK)(E:XK):Prop
 | mk (p C dx:Addr) (fs:List (Str×V)) (t wd:Int) (_:vs=[.ref p,.int t]) (_:DCls K C) (_:H p=some (.ins C dx fs)) (_:fs.lookup ("wide" :Str)=some (.int wd)) (_:Q (.int wd) H):hV K vs H Q E
theorem BF {H:Hp}{Q:VK}{E:XK}{p C dx:Addr}{fs:List (Str×V)}{t wd:Int} (hp:H p=some (.ins C dx fs)) (dc:DCls K C) (l:fs.lookup ("wide" :Str)=some (.int wd)) (k:Q (.int wd) H):hV K [.ref p,.int t] H Q E:=⟨_,_,_,_,_,_,rfl,dc,hp,l,k⟩
theorem yU (m:M K mg):bD P w K mg base CX0 1 m.mD m.mB ["self","turn"] (hV K):=by
 refine m.BK.ok sc_Door_lets (fun vs H Q E h=> ?_) (fun cdv A outer s H vs Q E hr h=> ?_)
 ·walk_at"g1";obtain⟨p,C,dx,fs,t,wd,rfl,dc,hp,l,k⟩:=h;walk_at"g2";rfl
 ·walk_at"g1";obtain⟨p,C,dx,fs,t,wd,rfl,dc,hp,l,k⟩:=h;walk_at"g2";have nd:=sc_Door_lets.nd;walk_at"hu";refine⟨_,(aF (aW (bO (pv 0) rfl))),?_⟩;refine aO (σ:=[some (.ref p),some (.int t)]) rfl ?_;walk_at"cx";walk_at"go";exact k
theorem AA (m:M K mg):Mc P w K mg base m.eS "lets" 1 (hV K):=⟨_,_,_,m.mW.ic.cl,m.AJ,m.BJ,yU m⟩
local macro_rules| `(tactic| walk_at"rd1")=> `(tactic| ((with_reducible refine' rN ?d ?e ?hn ?hs ?he ?hw ?_);(case d=>assumption);(case e=>walk_at"hp");(case hn=>assumption);(case hs=>assumption);(case he=>assumption);(case hw=>walk_at"sd");intro H' B' e'))
abbrev qE (n s e w i0:V):List (Str×V):=cH "since" i0 (pD n s e w)
inductive fA (K:W.Frag)(vs:List V)(H:Hp)(Q:VK)(E:XK):Prop
 | mk (p C dx:Addr) (n s:Str) (e:V) (wd i0:Int) (_:vs=[.ref p,.str n,.str s,e,.int wd,.int i0]) (_:DCls K C) (_:H p=some (.ins C dx [])) (_:bQ n=true) (_:bQ s=true) (_:oE e) (_:0<=wd) (_:0<=i0) (_:∀H',SameBut p H H'->H' p=some (.ins C dx (qE (.str n) (.str s) e (.int wd) (.int i0)))->Q .non H'):fA K vs H Q E
theorem yW {H:Hp}{Q:VK}{E:XK}{p C dx:Addr}{n s:Str}{e:V}{wd i0:Int} (dc:DCls K C) (hp:H p=some (.ins C dx [])) (hn:bQ n=true) (hs:bQ s=true) (he:oE e) (hw:0<=wd) (b0:0<=i0)
  (k:∀H',SameBut p H H'->H' p=some (.ins C dx (qE (.str n) (.str s) e (.int wd) (.int i0)))->Q .non H'):fA K [.ref p,.str n,.str s,e,.int wd,.int i0] H Q E:=⟨_,_,_,_,_,_,_,_,rfl,dc,hp,hn,hs,he,hw,b0,k⟩
theorem rA (m:M K mg):bD P w K mg base CX0 4 m.gU m.gQ ["self","name","start","end","wide","since"] (fA K):=by
 refine m.sM.ok sc_Since___init__ (fun vs H Q E h=> ?_) (fun cdv A outer s H vs Q E hr h=> ?_)
 ·walk_at"g1";obtain⟨p,C,dx,n,st,e,wd,i0,rfl,dc,hp,hn,hs,he,hw,b0,k⟩:=h;walk_at"g2";rfl
 ·walk_at"g1";obtain⟨p,C,dx,n,st,e,wd,i0,rfl,dc,hp,hn,hs,he,hw,b0,k⟩:=h;walk_at"g2";have nd:=sc_Since___init__.nd;walk_at"hu";have D_Door___init__:= @oT P w K mg base m;have eR:= @oP P w K mg base m;refine⟨_,(aD (bM (TQ D_Door___init__ hr (aA (pv 0) (aA (pv 1) (aA (pv 2) (aA (pv 3) (aA (pv 4) aB)))))))
   (aD (bM (b5 eR hr (aA fQ (aA (pv 5) (aA aE aB)))))
   (aF (gD (pv 0) (pv 5) rfl)))),?_⟩
  refine aO (σ:=[some (.ref p),some (.str n),some (.str st),some (e),some (.int wd),some (.int i0)]) rfl ?_;walk_at"cx";walk_at"go";exact k _ (by walk_at"sb") (by assumption)
theorem D1 (m:M K mg):Kc P w K mg base "Since" m.fG 4 [] (fA K):=⟨_,_,_,_,m.O7,m.LB,.nil,m.sO,rA m⟩
theorem F9 {H:Hp}{Q:VK}{E:XK}{C:Addr}{vs dvs:List V}{n s:Str}{e:V}{wd i0:Int} (ev:vs++dvs=[.str n,.str s,e,.int wd,.int i0]) (dc:DCls K C) (hn:bQ n=true) (hs:bQ s=true) (he:oE e) (hw:0<=wd) (b0:0<=i0)
  (k:∀p dx H',H p=none->Same H H'->H' p=some (.ins C dx (qE (.str n) (.str s) e (.int wd) (.int i0)))->Q (.ref p) H'):sY C (fA K) dvs E Q vs H :=
 yV (fun p dx H0 Q' h k' s0=>by rw[ev];exact yW dc h hn hs he hw b0 k') k
local macro_rules| `(tactic| walk_at"rd1")=> `(tactic| ((with_reducible refine' F9 ?v ?d ?hn ?hs ?he ?hw ?b0 ?_);(case v=>rfl);(case d=>assumption);(case hn=>assumption);(case hs=>assumption);(case he=>first|assumption|exact .inl rfl|exact .inr ⟨_,rfl,by assumption⟩);(case hw=>walk_at"sd");(case b0=>walk_at"sd");intro p' dx' H' n' S' e'))
def pN (wd i0 t:Int):Int:=if i0<=t then wd else 0
inductive gF (K:W.Frag)(vs:List V)(H:Hp)(Q:VK)(E:XK):Prop
 | mk (p C dx:Addr) (fs:List (Str×V)) (t wd i0:Int) (_:vs=[.ref p,.int t]) (_:DCls K C) (_:H p=some (.ins C dx fs)) (_:fs.lookup ("wide" :Str)=some (.int wd)) (_:fs.lookup ("since" :Str)=some (.int i0)) (_:0<=t) (_:0<=i0) (_:Q (.int (pN wd i0 t)) H):gF K vs H Q E
theorem pK {H:Hp}{Q:VK}{E:XK}{p C dx:Addr}{fs:List (Str×V)}{t wd i0:Int} (hp:H p=some (.ins C dx fs)) (dc:DCls K C) (l:fs.lookup ("wide" :Str)=some (.int wd)) (m0:fs.lookup ("since" :Str)=some (.int i0)) (ht:0<=t) (b0:0<=i0) (k:Q (.int (pN wd i0 t)) H):gF K [.ref p,.int t] H Q E:=⟨_,_,_,_,_,_,_,rfl,dc,hp,l,m0,ht,b0,k⟩
theorem xL (m:M K mg):bD P w K mg base CX0 1 m.kO m.kX ["self","turn"] (gF K):=by
 refine m.AM.ok sc_Since_lets (fun vs H Q E h=> ?_) (fun cdv A outer s H vs Q E hr h=> ?_)
 ·walk_at"g1";obtain⟨p,C,dx,fs,t,wd,i0,rfl,dc,hp,l,m0,ht,b0,k⟩:=h;walk_at"g2";rfl
 ·walk_at"g1";obtain⟨p,C,dx,fs,t,wd,i0,rfl,dc,hp,l,m0,ht,b0,k⟩:=h;walk_at"g2";have nd:=sc_Since_lets.nd;walk_at"hu";refine⟨_,(aF (aW (JE (bL LQ (pv 1) (bO (pv 0) rfl) (bC _)) (bO (pv 0) rfl) aE))),?_⟩;refine aO (σ:=[some (.ref p),some (.int t)]) rfl ?_;walk_at"cx";unfold pN at k;walk_at"go";refine i5 (fun hw=> ?_) (fun hw=> ?_)
  ·walk_at"go";rw[if_pos hw]at k;exact k
  ·walk_at"go";rw[if_neg hw]at k;exact k
theorem wW (m:M K mg):Mc P w K mg base m.fG "lets" 1 (gF K):=⟨_,_,_,m.kI.ic.cl,m.yD,m.AX,xL m⟩
local macro_rules| `(tactic| walk_at"rd1")=> `(tactic| ((with_reducible refine' pK ?e ?d ?l ?m0 ?ht ?b0 ?_);(case e=>walk_at"hp");(case d=>assumption);(case l=>walk_at"lk");(case m0=>walk_at"lk");(case ht=>walk_at"sd");(case b0=>walk_at"sd")))
abbrev aI:=Str×Str×V×(Int->Int)
def JS:HO->Prop
 | .lst _=>True
 | .dK _=>True
 | .dT _=>True
 | .tbl _=>True
 | .ins _ _ fs=>fs=[]
 | _=>False
structure bA where
 at':Hp->V->aI->Prop
 same:∀{H H' v d},at' H v d->Same H H'->at' H' v d
 but:∀{H H' v d p o},at' H v d->H p=some o->JS o->SameBut p H H'->at' H' v d
def LT (P:Program)(w:World)(K:W.Frag)(mg:Str->Option Value)(base:Heap)(kL:Option Nat)(p C dx:Addr)(fs:List (Str×V))(fp:List (Addr×HO))(lt:Int->Int):Prop:=∀kl,kL=some kl →
 ∃sp,Mc P w K mg base C "lets" kl sp/\∀(H':Hp) (t:Int) (Q:VK),H' p=some (.ins C dx fs)->(∀x∈fp,H' x.1=some x.2)->0<=t->(∀H'',Same H' H''->Q (.int (lt t)) H'')->sp [.ref p,.int t] H' Q E0
inductive DoorAt (P:Program)(w:World)(K:W.Frag)(mg:Str->Option Value)(base:Heap)(kL:Option Nat)(H:Hp)(v:V)(d:aI):Prop
 | mk (p C dx:Addr) (fs:List (Str×V)) (fp:List (Addr×HO)) (_:v= .ref p) (_:H p=some (.ins C dx fs)) (_:DCls K C) (_:fs.lookup ("name" :Str)=some (.str d.1)) (_:fs.lookup ("start" :Str)=some (.str d.2.1)) (_:fs.lookup ("end" :Str)=some d.2.2.1) (_:fs.lookup ("is_exit" :Str)=none) (_:fs.lookup ("lets" :Str)=none) (_:Mc P w K mg base C "is_exit" 1 (gY K)) (_:∀x∈fp,H x.1=some x.2/\¬JS x.2) (_:LT P w K mg base kL p C dx fs fp d.2.2.2):DoorAt P w K mg base kL H v d
inductive L7 (P:Program)(w:World)(K:W.Frag)(mg:Str->Option Value)(base:Heap)(kL:Option Nat)(H:Hp)(v:V)(n st:Str)(e:V)(lt:Int->Int):Prop
 | mk (p C dx:Addr) (fs:List (Str×V)) (fp:List (Addr×HO)) (_:v= .ref p) (_:H p=some (.ins C dx fs)) (_:DCls K C) (_:fs.lookup ("name" :Str)=some (.str n)) (_:fs.lookup ("start" :Str)=some (.str st)) (_:fs.lookup ("end" :Str)=some e) (_:fs.lookup ("is_exit" :Str)=none) (_:fs.lookup ("lets" :Str)=none) (_:Mc P w K mg base C "is_exit" 1 (gY K)) (_:∀x∈fp,H x.1=some x.2/\¬JS x.2) (_:LT P w K mg base kL p C dx fs fp lt):L7 P w K mg base kL H v n st e lt
theorem DoorAt.ex {kL:Option Nat}{H:Hp}{v:V}{n st:Str}{e:V}{lt:Int->Int} (h:DoorAt P w K mg base kL H v (n,st,e,lt)):L7 P w K mg base kL H v n st e lt:=by
 walk_at"g1";obtain⟨p,C,dx,fs,fp,h1,h2,h3,h4,h5,h6,h7,h8,h9,h10,h11⟩:=h;walk_at"g2";exact⟨p,C,dx,fs,fp,h1,h2,h3,h4,h5,h6,h7,h8,h9,h10,h11⟩
def aQ (P:Program)(w:World)(K:W.Frag)(mg:Str->Option Value)(base:Heap)(kL:Option Nat):bA where
 at':=DoorAt P w K mg base kL
 same:=fun⟨p,C,dx,fs,fp,e,hp,dc,l1,l2,l3,l4,l5,mc,hf,lt⟩ s=>⟨p,C,dx,fs,fp,e,s _ _ hp,dc,l1,l2,l3,l4,l5,mc,fun x hx=>⟨s _ _ (hf x hx).1,(hf x hx).2⟩,lt⟩
 but:=fun {H H' v d q o} ⟨p,C,dx,fs,fp,e,hp,dc,l1,l2,l3,l4,l5,mc,hf,lt⟩ ho so sb=>⟨p,C,dx,fs,fp,e,sb _ _ hp (fun z=>by
   rw[z,ho]at hp;cases hp;have h:fs=[]:=so;rw[h]at l1;cases l1),dc,l1,l2,l3,l4,l5,mc,fun x hx=>⟨sb _ _ (hf x hx).1 (fun z=>by
   have h:=(hf x hx).1;rw[z,ho]at h;cases h;exact(hf x hx).2 so),(hf x hx).2⟩,lt⟩
local macro_rules| `(tactic| walk_at"rd1")=> `(tactic| first|(with_reducible refine OD ?_)|(with_reducible refine M9 ?_)|(with_reducible refine PV ?_)|(with_reducible refine FX ?_)|(with_reducible refine GT ?_)|(with_reducible refine C8 ?_)|(with_reducible refine rd_iItemsT ?_)|(with_reducible refine IR ?_)|((with_reducible refine JF ?_);intro p' H' n' S' e')|((with_reducible refine rd_dnewT ?_);intro p' H' n' S' e'))
theorem d7 {H:Hp}{Q:VK}{l:Addr}{xs:List V}{y:V} (e:H l=some (.lst xs)) (hz:xs.length<sizeLine) (h:∀H',SameBut l H H'->H' l=some (.lst (xs++[y]))->Q .non H'):B0 (.ref l) [y] H Q :=
 ⟨l,xs,y,rfl,rfl,e,hz,h _ SameBut.upd aV⟩
inductive nD (vs:List V)(H:Hp)(Q:VK)(E:XK):Prop
 | mk (f l:Int) (_:vs=[.int f,.int l]) (_:0<=f) (_:f<=l) (_:Q .non H):nD vs H Q E
theorem OY {H:Hp}{Q:VK}{E:XK}{f l:Int} (h0:0<=f) (h1:f<=l) (h:Q .non H):nD [.int f,.int l] H Q E:=⟨_,_,rfl,h0,h1,h⟩
theorem xE (m:M K mg):bD P w K mg base CX0 1 m.kS m.kK ["first","last"] (nD):=by
 refine m.iG.ok sc_need_turns (fun vs H Q E h=> ?_) (fun cdv A outer s H vs Q E hr h=> ?_)
 ·walk_at"g1";obtain⟨f,l,rfl,h0,h1,k⟩:=h;walk_at"g2";rfl
 ·walk_at"g1";obtain⟨f,l,rfl,h0,h1,k⟩:=h;walk_at"g2";have nd:=sc_need_turns.nd;walk_at"hu";refine⟨_,(aD (cG (bL qV (pv 0) aE (bC _)) (aF eT) bU)
   (aF (cG (bL qV (pv 1) (pv 0) (bC _)) (aF eT) bU))),?_⟩
  refine aO (σ:=[some (.int f),some (.int l)]) rfl ?_;walk_at"cx";walk_at"go";exact k
theorem xH (m:M K mg):Fc P w K mg base "need_turns" 1 ["first","last"] (nD):=⟨_,_,m.AR,m.iG.kp,m.AH,xE m⟩
inductive qM (K:W.Frag)(vs:List V)(H:Hp)(Q:VK)(E:XK):Prop
 | mk (a:Addr) (ss:List Str) (_:vs=[.ref a]) (_:SqL K H a (ss.map V.str)) (_:ss.Nodup) (_:ss.length<=100) (_:∀H',Same H H'->Q .non H'):qM K vs H Q E
theorem FG {H:Hp}{Q:VK}{E:XK}{a:Addr}{ss:List Str} (hS:SqL K H a (ss.map V.str)) (nd:ss.Nodup) (hl:ss.length<=100) (h:∀H',Same H H'->Q .non H'):qM K [.ref a] H Q E:=⟨_,_,rfl,hS,nd,hl,h⟩
theorem sL {α:Type}{ss:List α} (nd:ss.Nodup) {i:Nat}{z:α} (hz:ss[i]? =some z):z∉ss.take i:=fun h=>by
 obtain⟨hi,e⟩:=List.getElem?_eq_some_iff.mp hz;obtain⟨j,hj,ej⟩:=List.getElem_of_mem h;rw[List.length_take]at hj;rw[List.getElem_take]at ej;exact(List.pairwise_iff_getElem.mp nd) j i (by lia) hi (by lia) (ej.trans e.symm)
theorem jS {α:Type}{ss:List α}{i:Nat}{z:α} (hz:ss[i]? =some z):ss.take (i+1)=ss.take i++[z]:=by rw[List.take_succ,hz];rfl
theorem rD (m:M K mg):bD P w K mg base CX0 1 m.gT m.gR ["names"] (qM K):=by
 refine m.dW.ok sc_need_each_once (fun vs H Q E h=> ?_) (fun cdv A outer s H vs Q E hr h=> ?_)
 ·walk_at"g1";obtain⟨a,ss,rfl,hS,hnd,hlen,k⟩:=h;walk_at"g2";rfl
 ·walk_at"g1";obtain⟨a,ss,rfl,hS,hnd,hlen,k⟩:=h;walk_at"g2";have nd:=sc_need_each_once.nd;walk_at"hu";refine⟨_,(aD (aX (i:=1) nd rfl (by walk_at"oi") oJ)
   (aF (d4 PassesOwn.never rfl (cE (pv 0)) (aM (i:=2) nd rfl (by walk_at"oi")) (aD (cG (yJ (Q0 hu1 (pv 2) (pv 1)) (by with_unfolding_all rfl)) (aF eT) bU)
   (aF (qO hu1 (pv 1) (pv 2) lJ rfl)))))),?_⟩
  refine aO (σ:=[some (.ref a),none,none]) rfl ?_;walk_at"cx";walk_at"go";rename_i p H1 n1 S1 e1;let Pv1:Nat->St->Hp->Prop:=fun i σ' H'=>SameBut p H1 H'/\∃kvs,H' p=some (.dK kvs)/\kvs.length<=i/\(∀z,(bP kvs (.inr z)).isSome=true->z∈ss.take i)/\∃x,σ'=[some (.ref a),some (.ref p),x];refine gX (ss.map V.str) Pv1 ⟨SameBut.refl,[],e1,Nat.le_refl _,(fun z h=>by cases h),_,rfl⟩ (fun i σ' H' _ q=>(SameBut.same n1 S1 q.1).seq hS) ?_ ?_
  ·rintro i x _ H' hx hq_;walk_at"g1";obtain⟨sb,kvs,ek,hk,hin,y,rfl⟩:=hq_;walk_at"g2";rw[List.getElem?_map]at hx;obtain⟨z,hz,rfl⟩:=Option.map_eq_some_iff.mp hx;have hi:i<ss.length:=(List.getElem?_eq_some_iff.mp hz).1;have hno:(bP kvs (.inr z)).isSome=false:=by
    cases e:(bP kvs (.inr z)).isSome with
    | false=>rfl
    | true=>exact absurd (hin z e) (sL hnd hz)
   walk_at"go";refine M4 (.inl ek) ?_;rw[hno];walk_at"go";refine nN ek (by rw[sizeLine_eq];lia) fun H9 B9 e9=> ?_;refine⟨by walk_at"sb",_,e9,Nat.le_trans (gE _ _ _) (by lia),fun y hy=> ?_,_,rfl⟩;rw[rS]at hy;rw[jS hz]
   by_cases e:(Sum.inr y:Key)= .inr z
   ·cases e;exact List.mem_append_right _ (.head _)
   ·rw[if_neg e]at hy;exact List.mem_append_left _ (hin y hy)
  ·rintro _ H' hq_;walk_at"g1";obtain⟨sb,kvs,ek,hk,hin,y,rfl⟩:=hq_;walk_at"g2";exact k _ (SameBut.same n1 S1 sb)
theorem rB (m:M K mg):Fc P w K mg base "need_each_once" 1 ["names"] (qM K):=⟨_,_,m.sR,m.dW.kp,m.sS,rD m⟩
def fC (rs:List Str)(d:aI):Prop:=d.2.1∈rs/\(d.2.2.1= .non∨∃z,d.2.2.1= .str z/\z∈rs)
def bJ (H:Hp)(v:V)(p:Str×Int):Prop:=∃q,v= .ref q/\H q=some (.tup [.str p.1,.int p.2])
theorem cC {H H':Hp}{vs:List V}{ps:List (Str×Int)} (h:Paired (bJ H) vs ps) (s:Same H H'):Paired (bJ H') vs ps:=Paired.imp' (fun v z ⟨q,e,h⟩=>⟨q,e,s _ _ h⟩) h
inductive lR (K:W.Frag)(D:bA)(vs:List V)(H:Hp)(Q:VK)(E:XK):Prop
 | mk (a b:Addr) (us:List V) (ds:List aI) (rs:List Str) (ws:List V) (ps:List (Str×Int)) (_:vs=[.ref a,.ref b]) (_:SqL K H a us) (_:Paired (D.at' H) us ds) (_:(∀d∈ds,fC rs d)) (_:ds.length<=20) (_:SqL K H b ws) (_:Paired (bJ H) ws ps) (_:(∀p∈ps,p.1∈rs)) (_:ps.length<=40) (_:∀p (ss:List Str) H',Same H H'->H' p=some (.lst (ss.map V.str))->(∀z∈ss,z∈rs)->ss.length<=80->Q (.ref p) H'):lR K D vs H Q E
theorem JB {D:bA}{H:Hp}{Q:VK}{E:XK}{a b:Addr}{us:List V}{ds:List aI}{rs:List Str}{ws:List V}{ps:List (Str×Int)} (hS:SqL K H a us) (hd:Paired (D.at' H) us ds) (hr:∀d∈ds,fC rs d) (hl:ds.length<=20) (hb:SqL K H b ws) (hw:Paired (bJ H) ws ps) (hwr:∀p∈ps,p.1∈rs) (hwl:ps.length<=40) (h:∀p (ss:List Str) H',Same H H'->H' p=some (.lst (ss.map V.str))->(∀z∈ss,z∈rs)->ss.length<=80->Q (.ref p) H'):lR K D [.ref a,.ref b] H Q E:=⟨_,_,_,_,_,_,_,rfl,hS,hd,hr,hl,hb,hw,hwr,hwl,h⟩
theorem o7 (m:M K mg):bD P w K mg base CX0 2 m.fX m.gA ["doors","people"] (lR K (aQ P w K mg base (some 1))):=by
 refine m.eM.ok sc_rooms_spoken_of (fun vs H Q E h=> ?_) (fun cdv A outer s H vs Q E hr h=> ?_)
 ·walk_at"g1";obtain⟨a,b,us,ds,rs,ws,ps,rfl,hS,hd,hr',hlen,hb,hw,hwr,hwl,k⟩:=h;walk_at"g2";rfl
 ·walk_at"g1";obtain⟨a,b,us,ds,rs,ws,ps,rfl,hS,hd,hr',hlen,hb,hw,hwr,hwl,k⟩:=h;walk_at"g2";have nd:=sc_rooms_spoken_of.nd;walk_at"hu";refine⟨_,(aD (aX (i:=2) nd rfl (by walk_at"oi") (d8 aB))
   (aD (d4 PassesOwn.never rfl (cE (pv 0)) (aM (i:=3) nd rfl (by walk_at"oi")) (aD (bM (jP PySem.F.plainAttrs_list PySem.F.slot_list_append PySem.F.type_list_append dC (pv 2) (aA (bO (pv 3) rfl) aB)))
   (aF (cG (o9 (j9 (cM 1 hr (pv 3)))) (aF (bM (jP PySem.F.plainAttrs_list PySem.F.slot_list_append PySem.F.type_list_append dC (pv 2) (aA (bO (pv 3) rfl) aB)))) bU))))
   (aF (aW (aG zP (pv 2) (dD (N:=["room","number"]) (nl:=2) (ci:=[]) rfl (blk (s.heap.objs.size+1) rfl rfl rfl (by kernel_rfl)) (cE (pv 1)) (fun _ _ _ _=>(g0 (K:=K) (n:=2) rfl (aY (aM (i:=0) (show (["room","number"]:List Str).Nodup by decide +kernel) rfl (by walk_at"oi")) (aY (aM (i:=1) (show (["room","number"]:List Str).Nodup by decide +kernel) rfl (by walk_at"oi")) dE)))) (fun _ _ _ _=>fR) (fun _ _ _ _=>(pv 0)))))))),?_⟩
  refine aO (σ:=[some (.ref a),some (.ref b),none,none]) rfl ?_;walk_at"cx";have hul:us.length=ds.length:=Paired.length hd;walk_at"go";rename_i p H1 n1 S1 e1;let Pv2:Nat->St->Hp->Prop:=fun i σ' H'=>SameBut p H1 H'/\(∃ss:List Str,H' p=some (.lst (ss.map V.str))/\(∀z∈ss,z∈rs)/\ss.length<=2 * i)/\∃x,σ'=[some (.ref a),some (.ref b),some (.ref p),x];refine gX us Pv2 ⟨SameBut.refl,⟨[],e1,(fun _ z=>nomatch z),Nat.le_refl _⟩,_,rfl⟩ (fun i σ' H' _ q=>(SameBut.same n1 S1 q.1).seq hS) ?_ ?_
  ·rintro i x _ H' hx hq_;walk_at"g1";obtain⟨sb,⟨ss,es,hin,hsl⟩,y,rfl⟩:=hq_;walk_at"g2";have hi:i<us.length:=(List.getElem?_eq_some_iff.mp hx).1;obtain⟨d,hdx⟩:∃d,ds[i]? =some d:=⟨_,List.getElem?_eq_getElem (by lia)⟩
   walk_at"g1";obtain⟨n,st,e,lt⟩:=d;walk_at"g2";walk_at"g1";obtain⟨q,C9,dx,fs,fp,rfl,hq,dcC,l1,l2,l3,l4,l5,mcE,hfp,hlt⟩:=DoorAt.ex (Paired.at2 hd hx hdx);walk_at"g2";obtain⟨r1,r2⟩:=hr' _ (List.mem_of_getElem? hdx);have hqp:q≠p:=fun z=>by rw[z,n1]at hq;cases hq
   have hq':H' q=some (.ins C9 dx fs):=sb _ _ (S1 _ _ hq) hqp;rcases r2 with r2|⟨z,r2,r3⟩
   ·have r2:e= .non:=r2;subst r2;walk_at"go";refine d7 es (by rw[sizeLine_eq,List.length_map];lia) fun H8 B8 e8=> ?_;have hq8:=B8 _ _ hq' hqp;walk_at"go";exact⟨by walk_at"sb",⟨ss++[st],by rw[e8,List.map_append];rfl,fun z hz=>(List.mem_append.mp hz).elim (hin z) (fun w=>by cases List.mem_singleton.mp w;exact r1),by rw[List.length_append];show ss.length+1<=_;lia⟩,_,rfl⟩
   ·have r2:e= .str z:=r2;subst r2;walk_at"go";refine d7 es (by rw[sizeLine_eq,List.length_map];lia) fun H8 B8 e8=> ?_;have hq8:=B8 _ _ hq' hqp;walk_at"go";refine d7 e8 (by rw[sizeLine_eq,List.length_append,List.length_map];show ss.length+1<_;lia) fun H9 B9 e9=> ?_;walk_at"go";refine⟨by walk_at"sb",⟨ss++[st]++[z],by rw[e9,List.map_append,List.map_append];rfl,fun z hz=> ?_,by rw[List.length_append,List.length_append];show ss.length+1+1<=_;lia⟩,_,rfl⟩;rcases List.mem_append.mp hz with hz|hz
    ·exact(List.mem_append.mp hz).elim (hin z) (fun w=>by cases List.mem_singleton.mp w;exact r1)
    ·cases List.mem_singleton.mp hz;exact r3
  ·rintro _ H' hq_;walk_at"g1";obtain⟨sb,⟨ss,es,hin,hsl⟩,y,rfl⟩:=hq_;walk_at"g2";have sH:Same H H':=SameBut.same n1 S1 sb;have hb':=sH.seq hb;walk_at"go";refine jV (α:=Str×Int) (xs:=ps) (vs:=ws) (fun p=> .str p.1) (fun p=> .int p.2) (fun _=>true) (fun p y _=>y= .str p.1) (fun _ _ _ _ h _=>h) (by rw[sizeLine_eq];lia) (rest:=[]) (by rfl) hb' (cC hw sH) (fun x H1 hx s1 R hR=>hR _ (Same.refl _)) (fun x H1 hx _ s1 R hR=> ?_) ?_
   ·walk_at"go";exact hR _ _ rfl (Same.refl _)
   intro ys H2 s2 hys;rw[eU]at hys;obtain rfl:=eA hys;walk_at"go";rename_i q3 H3 n3 S3 e3 q4 H4 n4 S4 e4;refine k _ (ss++ps.map (·.1)) _ (by walk_at"sm") (by rw[e4,List.map_append,List.map_map];rfl) (fun z hz=> ?_) (by rw[List.length_append,List.length_map];lia);rcases List.mem_append.mp hz with hz|hz
   ·exact hin z hz
   ·obtain⟨p,hp,rfl⟩:=List.mem_map.mp hz;exact hwr p hp
theorem oY (m:M K mg):Fc P w K mg base "rooms_spoken_of" 2 ["doors","people"] (lR K (aQ P w K mg base (some 1))):=⟨_,_,m.rJ,m.eM.kp,m.rK,o7 m⟩
inductive mX (K:W.Frag)(vs:List V)(H:Hp)(Q:VK)(E:XK):Prop
 | mk (a b:Addr) (ss:List Str) (kvs:List (Key×V)) (_:vs=[.ref a,.ref b]) (_:SqL K H a (ss.map V.str)) (_:Rd H b (.dK kvs)) (_:(∀z∈ss,(bP kvs (.inr z)).isSome=true)) (_:∀H',Same H H'->Q .non H'):mX K vs H Q E
theorem CF {H:Hp}{Q:VK}{E:XK}{a b:Addr}{ss:List Str}{kvs:List (Key×V)} (hS:SqL K H a (ss.map V.str)) (hb:Rd H b (.dK kvs)) (hk:∀z∈ss,(bP kvs (.inr z)).isSome=true) (h:∀H',Same H H'->Q .non H'):mX K [.ref a,.ref b] H Q E:=⟨_,_,_,_,rfl,hS,hb,hk,h⟩
theorem MV {H H':Hp}{a:Addr}{u:HO} (s:Same H H') (r:Rd H a u):Rd H' a u:=r.elim (fun e=> .inl (s _ _ e)) fun⟨o,e⟩=> .inr ⟨o,s _ _ e⟩
theorem xF (m:M K mg):bD P w K mg base CX0 1 m.kH m.lE ["names","sizes"] (mX K):=by
 refine m.eQ.ok sc_need_rooms (fun vs H Q E h=> ?_) (fun cdv A outer s H vs Q E hr h=> ?_)
 ·walk_at"g1";obtain⟨a,b,ss,kvs,rfl,hS,hb,hk,k⟩:=h;walk_at"g2";rfl
 ·walk_at"g1";obtain⟨a,b,ss,kvs,rfl,hS,hb,hk,k⟩:=h;walk_at"g2";have nd:=sc_need_rooms.nd;walk_at"hu";refine⟨_,(aF (d4 PassesOwn.never rfl (cE (pv 0)) (aM (i:=2) nd rfl (by walk_at"oi")) (aF (cG (yJ (v3 hu1 (pv 2) (pv 1)) (by with_unfolding_all rfl)) (aF eT) bU)))),?_⟩;refine aO (σ:=[some (.ref a),some (.ref b),none]) rfl ?_;walk_at"cx";walk_at"go";let Pv3:Nat->St->Hp->Prop:=fun i σ' H'=>Same H H'/\∃x,σ'=[some (.ref a),some (.ref b),x];refine gX (ss.map V.str) Pv3 ⟨Same.refl _,_,rfl⟩ (fun i σ' H' _ q=>q.1.seq hS) ?_ ?_
  ·rintro i x _ H' hx ⟨s1,y,rfl⟩;rw[List.getElem?_map]at hx;obtain⟨z,hz,rfl⟩:=Option.map_eq_some_iff.mp hx;have hz':=hk z (List.mem_of_getElem? hz);walk_at"go";refine tY (MV s1 hb) ?_;rw[hz'];walk_at"go";exact⟨s1,_,rfl⟩
  ·rintro _ H' ⟨s1,y,rfl⟩;exact k _ s1
theorem oQ (m:M K mg):Fc P w K mg base "need_rooms" 1 ["names","sizes"] (mX K):=⟨_,_,m.AY,m.eQ.kp,m.AU,xF m⟩
theorem JY {H:Hp}{Q:VK}{i j:Int} (h:Q (.int (i+j)) H):PX (.int i) (.int j) H Q:=by
 first|exact h|exact⟨_,_,rfl,rfl,h⟩|exact .inl ⟨_,_,rfl,rfl,h⟩
theorem z8 {H H':Hp}{p c:Addr}{kvs:List (Key×V)}{xs:List V} (h:SqL K H c xs) (hp:H p=some (.dK kvs)) (sb:SameBut p H H'):SqL K H' c xs:=by
 rcases h with (h|⟨o,h⟩)|h
 ·exact .inl (.inl (sb _ _ h fun z=>by rw[z,hp]at h;cases h))
 ·exact .inl (.inr ⟨o,sb _ _ h fun z=>by rw[z,hp]at h;cases h⟩)
 ·exact .inr h
def szK (rz:List (Str×Int)):List (Key×V):=rz.map fun e=>((.inr e.1:Key),V.int e.2)
theorem CC (rz:List (Str×Int)):(szK rz).map (·.1)=(rz.map (·.1)).map (Sum.inr:Str->Key):=by unfold szK;rw[List.map_map,List.map_map];rfl
theorem o0 {rs:List Str}(nd:rs.Nodup):(rs.map (Sum.inr:Str->Key)).Nodup:=by
 rw[List.Nodup,List.pairwise_map];exact List.Pairwise.imp (fun h z=>h (Sum.inr.inj z)) nd
theorem rX {rz:List (Str×Int)}(nd:(rz.map (·.1)).Nodup):((szK rz).map (·.1)).Nodup:=by rw[CC];exact o0 nd
theorem uL {rz:List (Str×Int)}(nd:(rz.map (·.1)).Nodup){e:Str×Int}(h:e∈rz):bP (szK rz) (.inr e.1)=some (.int e.2) :=
 mH (e:=((.inr e.1:Key),V.int e.2)) (rX nd) (List.mem_map.mpr ⟨e,h,rfl⟩)
theorem z4 {rz:List (Str×Int)}(nd:(rz.map (·.1)).Nodup){z:Str}(h:z∈rz.map (·.1)):∃i,(z,i)∈rz/\bP (szK rz) (.inr z)=some (.int i):=by
 obtain⟨e,he,rfl⟩:=List.mem_map.mp h;exact⟨e.2,he,uL nd he⟩
theorem oW {kvs:List (Key×V)}{k:Key} (h:∀e∈kvs,e.1≠k):bP kvs k=none:=by
 induction kvs with
 | nil=>rfl
 | cons a l ih =>
  rw[cQ (h a (.head _))];exact ih fun e he=>h e (List.mem_cons_of_mem _ he)
theorem vR:∀(ps kvs:List (Key×V)),(ps.map (·.1)).Nodup->(∀e∈kvs,∀q∈ps,e.1≠q.1)->hJ kvs ps=kvs++ps
 | [],kvs,_,_=>(List.append_nil _).symm
 | (k,v)::ps,kvs,nd,h=>by
  have nd':=List.pairwise_cons.mp nd;show hJ (c7 kvs k v) ps=_;rw[r6 v (oW fun e he=>h e he _ (.head _)),vR ps _ nd'.2,List.append_assoc]
  ·rfl
  ·intro e he q hq;rcases List.mem_append.mp he with he|he
   ·exact h e he q (List.mem_cons_of_mem _ hq)
   ·cases List.mem_singleton.mp he;exact nd'.1 q.1 (List.mem_map.mpr ⟨q,hq,rfl⟩)
theorem JN {rz:List (Str×Int)}(nd:(rz.map (·.1)).Nodup):hJ [] (szK rz)=szK rz:=by
 rw[vR _ _ (rX nd) (fun e he=>absurd he (List.not_mem_nil))];rfl
theorem tF {kvs:List (Key×V)}:∀(o:Obj) (x:HO),HO.dK kvs≠ .frz o x:=fun _ _ z=>by cases z
def sW (rz:List (Str×Int))(ps:List (Str×Int))(kvs:List (Key×V)):Prop:=∀z∈rz.map (·.1),bP kvs (.inr z)=some (.int (bH ps z))
inductive oB (K:W.Frag)(vs:List V)(H:Hp)(Q:VK)(E:XK):Prop
 | mk (a b:Addr) (rz:List (Str×Int)) (ws:List V) (ps:List (Str×Int)) (_:vs=[.ref a,.ref b]) (_:H a=some (.dK (szK rz))) (_:SqL K H b ws) (_:Paired (bJ H) ws ps) (_:(∀p∈ps,p.1∈rz.map (·.1))) (_:(rz.map (·.1)).Nodup) (_:rz.length<=100) (_:∀p H' kvs,H p=none->Same H H'->H' p=some (.dK kvs)->kvs.map (·.1)=(szK rz).map (·.1)->sW rz ps kvs->Q (.ref p) H'):oB K vs H Q E
theorem CA {H:Hp}{Q:VK}{E:XK}{a b:Addr}{rz:List (Str×Int)}{ws:List V}{ps:List (Str×Int)} (ha:H a=some (.dK (szK rz))) (hb:SqL K H b ws) (hw:Paired (bJ H) ws ps) (hwr:∀p∈ps,p.1∈rz.map (·.1)) (nd:(rz.map (·.1)).Nodup) (hl:rz.length<=100) (h:∀p H' kvs,H p=none->Same H H'->H' p=some (.dK kvs)->kvs.map (·.1)=(szK rz).map (·.1)->sW rz ps kvs->Q (.ref p) H'):oB K [.ref a,.ref b] H Q E:=⟨_,_,_,_,_,rfl,ha,hb,hw,hwr,nd,hl,h⟩
theorem KK {kvs:List (Key×V)}{k:Key}{v:V} (h:(bP kvs k).isSome=true):(c7 kvs k v).map (·.1)=kvs.map (·.1):=by
 unfold c7;rw[iH,if_pos h,List.map_map]
 apply List.map_congr_left
 intro x _;show (if x.1=k then (x.1,v) else x).1=x.1
 split<;>rfl
theorem uD (m:M K mg):bD P w K mg base CX0 1 m.iR m.iS ["sizes","people"] (oB K):=by
 refine m.dF.ok sc_added_people (fun vs H Q E h=> ?_) (fun cdv A outer s H vs Q E hr h=> ?_)
 ·walk_at"g1";obtain⟨a,b,rz,ws,ps,rfl,ha,hb,hw,hwr,ndz,hlen,k⟩:=h;walk_at"g2";rfl
 ·walk_at"g1";obtain⟨a,b,rz,ws,ps,rfl,ha,hb,hw,hwr,ndz,hlen,k⟩:=h;walk_at"g2";have nd:=sc_added_people.nd;walk_at"hu";refine⟨_,(aD (aX (i:=2) nd rfl (by walk_at"oi") oJ)
   (aD (NS (d4 PassesOwn.never rfl (rT (pv 0)) (aM (i:=3) nd rfl (by walk_at"oi")) (aF (qO hu1 (pv 2) (pv 3) aE rfl))))
   (aD (d4 PassesOwn.never rfl (cE (pv 1)) (mR (n:=2) rfl (aY (aM (i:=3) nd rfl (by walk_at"oi")) (aY (aM (i:=4) nd rfl (by walk_at"oi")) dE))) (aF (NI hu1 (pv 2) (pv 3) (pv 4) QK (fun _ _ _=>rfl))))
   (aF (aW (pv 2)))))),?_⟩
  refine aO (σ:=[some (.ref a),some (.ref b),none,none,none]) rfl ?_;walk_at"cx";walk_at"go";rename_i p H1 n1 S1 e1;have hap:a≠p:=fun z=>by rw[z,n1]at ha;cases ha
  have ha1:=S1 _ _ ha;have hl2:(szK rz).length=rz.length:=by unfold szK;rw[List.length_map]
  refine JR ha1 tF ?_;walk_at"go";refine rW ha1 fun o H2 B2 e2=> ?_;have ep2:H2 p=some (.dK []):=B2 _ _ e1 (Ne.symm hap);have hwl:ws.length=ps.length:=Paired.length hw;let Pv1:Nat->St->Hp->Prop:=fun i σ' H'=>SameBut p H2 H'/\H' p=some (.dK ((rz.take i).map fun e=>((.inr e.1:Key),V.int 0)))/\∃x,σ'=[some (.ref a),some (.ref b),some (.ref p),x,none];refine IZ (szK rz) Pv1 ⟨SameBut.refl,ep2,_,rfl⟩ (fun i σ' H' q=>q.1 _ _ e2 hap) ?_ ?_
  ·rintro i kk v _ H' hx hq_;walk_at"g1";obtain⟨sb,ek,y,rfl⟩:=hq_;walk_at"g2";unfold szK at hx;rw[List.getElem?_map]at hx;walk_at"g1";obtain⟨⟨z,sz⟩,hz,ez⟩:=Option.map_eq_some_iff.mp hx;walk_at"g2";cases ez;have hi:i<rz.length:=(List.getElem?_eq_some_iff.mp hz).1;have hnone:bP ((rz.take i).map fun e=>((.inr e.1:Key),V.int 0)) (.inr z)=none:=oW fun e he=>by
    obtain⟨d,hd,rfl⟩:=List.mem_map.mp he;intro zz;have hn:z∉(rz.map (·.1)).take i:=sL ndz (by rw[List.getElem?_map,hz];rfl)
    apply hn
    rw[←List.map_take];exact List.mem_map.mpr ⟨d,hd,Sum.inr.inj zz⟩
   show (_:TG) (.str z) _ _ _;walk_at"go";refine nN ek (by rw[sizeLine_eq,List.length_map,List.length_take];lia) fun H9 B9 e9=> ?_;refine⟨by walk_at"sb",?_,_,rfl⟩;rw[e9,r6 _ hnone,jS hz,List.map_append];rfl
  ·rintro _ H' hq_;walk_at"g1";obtain⟨sb,ek,y,rfl⟩:=hq_;walk_at"g2";rw[hl2,List.take_length]at ek;refine i3 (sb _ _ e2 hap) fun H3 B3 e3=> ?_;have ep3:=B3 _ _ ek (Ne.symm hap);have sH:Same H H3:=fun x u hx=>by
    by_cases ex:x=a
    ·subst ex;rw[ha]at hx;cases hx;exact e3
    ·have hxp:x≠p:=fun z=>by rw[z,n1]at hx;cases hx
     exact B3 _ _ (sb _ _ (B2 _ _ (S1 _ _ hx) ex) hxp) ex
   have hb3:=sH.seq hb;have hw3:=cC hw sH;have hnb:∀{H':Hp}{v:V}{r:Str×Int},SameBut p H3 H'->bJ H3 v r->bJ H' v r:=fun sb ⟨q,e,hq⟩=>⟨q,e,sb _ _ hq fun z=>by rw[z,ep3]at hq;cases hq⟩
   walk_at"go";let Pv2:Nat->St->Hp->Prop:=fun i σ' H'=>SameBut p H3 H'/\(∃kvs,H' p=some (.dK kvs)/\kvs.map (·.1)=(szK rz).map (·.1)/\sW rz (ps.take i) kvs)/\∃x y,σ'=[some (.ref a),some (.ref b),some (.ref p),x,y];refine gX ws Pv2 ⟨SameBut.refl,⟨_,ep3,?_,?_⟩,_,_,rfl⟩ (fun i σ' H' _ q=>z8 hb3 ep3 q.1) ?_ ?_
   ·unfold szK;rw[List.map_map,List.map_map];rfl
   ·intro z hz;obtain⟨e,he,rfl⟩:=List.mem_map.mp hz;exact mH (e:=((.inr e.1:Key),V.int 0)) (by rw[show (rz.map fun e=>((.inr e.1:Key),V.int 0)).map (·.1)=(szK rz).map (·.1) from by unfold szK;rw[List.map_map,List.map_map];rfl];exact rX ndz) (List.mem_map.mpr ⟨e,he,rfl⟩)
   ·rintro i x _ H' hx hq_;walk_at"g1";obtain⟨sb',⟨kvs,ek',hkk,hin⟩,x1,x2,rfl⟩:=hq_;walk_at"g2";have hi:i<ws.length:=(List.getElem?_eq_some_iff.mp hx).1;obtain⟨⟨z,nn⟩,hpx⟩:∃d,ps[i]? =some d:=⟨_,List.getElem?_eq_getElem (by lia)⟩
    obtain⟨q,rfl,hq⟩:=Paired.at2 hw3 hx hpx;have hq':H' q=some (.tup [.str z,.int nn]):=sb' _ _ hq fun zz=>by rw[zz,ep3]at hq;cases hq
    have hzr:z∈rz.map (·.1):=hwr _ (List.mem_of_getElem? hpx);have hkl:kvs.length=rz.length:=by rw[←List.length_map (f:=fun e:Key×V=>e.1),hkk,List.length_map,hl2]
    walk_at"go";refine MI ?_;walk_at"go";refine IB (.inl ek') (hin z hzr) ?_;walk_at"go";refine JY ?_;refine M6 ek' (by rw[sizeLine_eq];lia) fun H9 B9 e9=> ?_;refine⟨by walk_at"sb",⟨_,e9,?_,fun y hy=> ?_⟩,_,_,rfl⟩
    ·rw[KK (by rw[hin z hzr];rfl)];exact hkk
    ·rw[rS,jS hpx,pT]
     by_cases e:(Sum.inr y:Key)= .inr z
     ·cases e;rw[if_pos rfl,if_pos rfl]
     ·rw[if_neg e,if_neg (fun zz=>e (by rw[show z=y from zz])),Int.add_zero];exact hin y hy
   ·rintro _ H' hq_;walk_at"g1";obtain⟨sb',⟨kvs,ek',hkk,hin⟩,x1,x2,rfl⟩:=hq_;walk_at"g2";rw[hwl,List.take_length]at hin;walk_at"go";exact k _ _ _ n1 (SameBut.same n1 (fun x u hx=>sH x u hx) sb') ek' hkk hin
theorem lN (m:M K mg):Fc P w K mg base "added_people" 1 ["sizes","people"] (oB K):=⟨_,_,m.vM,m.dF.kp,m.vO,uD m⟩
def j6 (rz ps:List (Str×Int)):Prop:=(∀p∈ps,0<=p.2)/\∀e∈rz,bH ps e.1<=e.2
inductive nQ (K:W.Frag)(vs:List V)(H:Hp)(Q:VK)(E:XK):Prop
 | mk (a b:Addr) (rz:List (Str×Int)) (ws:List V) (ps:List (Str×Int)) (_:vs=[.ref a,.ref b]) (_:H a=some (.dK (szK rz))) (_:SqL K H b ws) (_:Paired (bJ H) ws ps) (_:(∀p∈ps,p.1∈rz.map (·.1))) (_:(rz.map (·.1)).Nodup) (_:rz.length<=100) (_:ps.length<=100) (_:j6 rz ps) (_:∀H',Same H H'->Q .non H'):nQ K vs H Q E
theorem NT {H:Hp}{Q:VK}{E:XK}{a b:Addr}{rz:List (Str×Int)}{ws:List V}{ps:List (Str×Int)} (ha:H a=some (.dK (szK rz))) (hb:SqL K H b ws) (hw:Paired (bJ H) ws ps) (hwr:∀p∈ps,p.1∈rz.map (·.1)) (nd:(rz.map (·.1)).Nodup) (hl:rz.length<=100) (hpl:ps.length<=100) (hf:j6 rz ps) (h:∀H',Same H H'->Q .non H'):nQ K [.ref a,.ref b] H Q E:=⟨_,_,_,_,_,rfl,ha,hb,hw,hwr,nd,hl,hpl,hf,h⟩
theorem pA {α:Type}:∀{l:List α}{ys:List V},Paired (fun _ y=>y=V.bl false) l ys->ys=(l.map fun _=>false).map V.bl
 | _,_,.nil=>rfl
 | _,_,.cons h t=>by rw[h,pA t];rfl
theorem vY {α:Type}(l:List α):(l.map fun _=>false).any id=false:=by simp
theorem xK (m:M K mg):bD P w K mg base CX0 2 m.k7 m.lA ["sizes","people"] (nQ K):=by
 refine m.iD.ok sc_need_space (fun vs H Q E h=> ?_) (fun cdv A outer s H vs Q E hr h=> ?_)
 ·walk_at"g1";obtain⟨a,b,rz,ws,ps,rfl,ha,hb,hw,hwr,ndz,hlen,hpl,hf,k⟩:=h;walk_at"g2";rfl
 ·walk_at"g1";obtain⟨a,b,rz,ws,ps,rfl,ha,hb,hw,hwr,ndz,hlen,hpl,hf,k⟩:=h;walk_at"g2";have nd:=sc_need_space.nd;walk_at"hu";have dF:= @lN P w K mg base m;refine⟨_,(aD (cG (j9 (bV (vS rfl) rfl m.MD FH (aA (dD (N:=["room","number"]) (nl:=2) (ci:=[]) rfl (blk (s.heap.objs.size+1) rfl rfl rfl (by kernel_rfl)) (cE (pv 1)) (fun _ _ _ _=>(g0 (K:=K) (n:=2) rfl (aY (aM (i:=0) (show (["room","number"]:List Str).Nodup by decide +kernel) rfl (by walk_at"oi")) (aY (aM (i:=1) (show (["room","number"]:List Str).Nodup by decide +kernel) rfl (by walk_at"oi")) dE)))) (fun _ _ _ _=>fR) (fun _ _ _ _=>(gW qV (pv 1) aE (bC _)))) aB))) (aF eT) bU)
   (aD (aX (i:=2) nd rfl (by walk_at"oi") (b5 dF hr (aA (pv 0) (aA (pv 1) aB))))
   (aF (cG (j9 (bV (vS rfl) rfl m.MD FH (aA (qI (dD (N:=["room","inside","sizes"]) (nl:=1) (ci:=[2,0]) rfl (blk (s.heap.objs.size+1) rfl rfl rfl (by kernel_rfl)) (rT (pv 0)) (fun _ _ _ _=>(aM (i:=0) (show (["room","inside","sizes"]:List Str).Nodup by decide +kernel) rfl (by walk_at"oi"))) (fun _ _ _ _=>fR) (fun _ _ _ _=>(gW UJ (mO hu1 (pv 1) (pv 0) (fun _ _=>rfl)) (mO hu1 (pv 2) (pv 0) (fun _ _=>rfl)) (bC _))))) aB))) (aF eT) bU)))),?_⟩
  refine aO (σ:=[some (.ref a),some (.ref b),none]) rfl ?_;walk_at"cx";walk_at"go";refine jV (α:=Str×Int) (xs:=ps) (vs:=ws) (fun p=> .str p.1) (fun p=> .int p.2) (fun _=>true) (fun p y _=>y= .bl false) (fun _ _ _ _ h _=>h) (by rw[sizeLine_eq];lia) (rest:=[]) (by rfl) hb hw (fun x H1 hx s1 R hR=>hR _ (Same.refl _)) (fun x H1 hx _ s1 R hR=> ?_) ?_
  ·have h0:=hf.1 x hx;walk_at"go";exact hR _ _ (by rw[decide_eq_false (by lia)]) (Same.refl _)
  intro ys H2 s2 hys;rw[eU]at hys;obtain rfl:=pA hys;walk_at"go";rename_i q H3 n3 S3 e3;refine GC (SqL.of e3) ?_;rw[vY];walk_at"go";have sA:Same H H3:=s2.trans S3;refine CA (sA _ _ ha) (sA.seq hb) (cC hw sA) hwr ndz hlen fun p H4 kvs n4 S4 e4 hkk hv=> ?_;have ha4:=S4 _ _ (sA _ _ ha);walk_at"go";refine oA ha4 tF ?_;walk_at"go";refine rW ha4 fun o H5 B5 e5=> ?_;have hpa:p≠a:=fun z=>by rw[z,sA _ _ ha]at n4;cases n4
  have ep5:=B5 _ _ e4 hpa;refine E3 (fun _=>true) (fun _ y _=>y= .bl false) (fun _ _ _ _ h _=>h) (by rw[sizeLine_eq];unfold szK;rw[List.length_map];lia) (rest:=[some (.ref p),some (.ref a)]) (by rfl) e5 (fun x H6 hx s6 R hR=>hR _ (Same.refl _)) ?_ ?_
  ·rintro x H6 hx - s6 R hR;obtain⟨e,he,rfl⟩:=List.mem_map.mp hx;have hfe:=hf.2 e he;show (_:TE) (some (V.str e.1)::[some (.ref p),some (.ref a)]) H6 R;walk_at"go";refine kA (.inl (s6 _ _ ep5)) (hv e.1 (List.mem_map.mpr ⟨e,he,rfl⟩)) ?_;walk_at"go";refine kA (.inr ⟨o,s6 _ _ e5⟩) (uL ndz he) ?_;walk_at"go";exact hR _ _ (by rw[decide_eq_false (by lia)]) (Same.refl _)
  intro ys H6 s6 hys;rw[eU]at hys;obtain rfl:=pA hys;walk_at"go";rename_i q7 H7 n7 S7 e7;refine i3 (S7 _ _ (s6 _ _ e5)) fun H8 B8 e8=> ?_;have hq7:q7≠a:=fun z=>by rw[z,s6 _ _ e5]at n7;cases n7
  have e78:=B8 _ _ e7 hq7;walk_at"go";refine GC (SqL.of e78) ?_;rw[vY];walk_at"go";exact k _ (lQ (ha) (fun x u hx hxa=>B5 _ _ (S4 _ _ (sA _ _ hx)) hxa) (Same.but (s6.trans S7)) B8 e8)
theorem wX (m:M K mg):Fc P w K mg base "need_space" 2 ["sizes","people"] (nQ K):=⟨_,_,m.AV,m.iD.kp,m.AS,xK m⟩
def RoomsAt (H:Hp)(vs:List V)(rz:List (Str×Int)):Prop:=Paired (bJ H) vs rz
theorem RoomsAt.sm {H H':Hp}{vs:List V}{rs:List (Str×Int)} (h:RoomsAt H vs rs) (s:Same H H'):RoomsAt H' vs rs:=Paired.imp' (fun v z ⟨q,e,h⟩=>⟨q,e,s _ _ h⟩) h
theorem rO {H:Hp}:∀{vs:List V}{rs:List (Str×Int)},RoomsAt H vs rs->yF H vs (szK rs)
 | _,_,.nil=> .nil
 | _,_,.cons h t=> .cons h (rO t)
theorem gO {D:bA}{H H':Hp}{us:List V}{ds:List aI} (h:Paired (D.at' H) us ds) (s:Same H H'):Paired (D.at' H') us ds:=Paired.imp' (fun v d h=>D.same h s) h
abbrev CB (f l:Int)(qs qp qd:Addr):List (Str×V):=cH "named_doors" (.ref qd) (cH "people" (.ref qp) (cH "sizes" (.ref qs) (cH "last" (.int l) (cH "first" (.int f) []))))
def jQ (D:bA)(H:Hp)(nk:List (Key×V))(ds:List aI):Prop:=Paired (fun e d=>e.1= .inr d.1/\D.at' H e.2 d) nk ds
theorem JJ {D:bA}{H H':Hp}{nk:List (Key×V)}{ds:List aI} (h:jQ D H nk ds) (s:Same H H'):jQ D H' nk ds:=Paired.imp' (fun e d h=>⟨h.1,D.same h.2 s⟩) h
structure bN (C:Addr)(D:bA)(H:Hp)(h:Addr)(f l:Int)(rz ps:List (Str×Int))(ds:List aI):Prop where
 ex:∃dx qs qp qd nk kvs,H h=some (.ins C dx (CB f l qs qp qd))/\H qs=some (.dK (szK rz))/\H qp=some (.dK kvs)/\kvs.map (·.1)=(szK rz).map (·.1)/\sW rz ps kvs/\H qd=some (.dK nk)/\jQ D H nk ds
theorem aZ {C:Addr}{D:bA}{H H':Hp}{h:Addr}{f l:Int}{rz ps:List (Str×Int)}{ds:List aI} (x:bN C D H h f l rz ps ds) (s:Same H H'):bN C D H' h f l rz ps ds:=by
 walk_at"g1";obtain⟨dx,qs,qp,qd,nk,kvs,e1,e2,e3,e4,e5,e6,e7⟩:=x.ex;walk_at"g2";exact⟨dx,qs,qp,qd,nk,kvs,s _ _ e1,s _ _ e2,s _ _ e3,e4,e5,s _ _ e6,JJ e7 s⟩
theorem CS {H H':Hp}{p c C dx:Addr}{fs:List (Str×V)}{xs:List V} (h:SqL K H c xs) (hp:H p=some (.ins C dx fs)) (sb:SameBut p H H'):SqL K H' c xs:=by
 rcases h with (h|⟨o,h⟩)|h
 ·exact .inl (.inl (sb _ _ h fun z=>by rw[z,hp]at h;cases h))
 ·exact .inl (.inr ⟨o,sb _ _ h fun z=>by rw[z,hp]at h;cases h⟩)
 ·exact .inr h
theorem m9 {α β:Type}{F:α->β->Prop}:∀{l:List α}{m:List β}{x:α},Paired F l m->x∈l->∃y∈m,F x y
 | _,_,_,.cons r t,h=>by
  rcases List.mem_cons.mp h with rfl|h
  ·exact⟨_,.head _,r⟩
  ·obtain⟨y,hy,f⟩:=m9 t h;exact⟨y,List.mem_cons_of_mem _ hy,f⟩
 | _,_,_,.nil,h=>nomatch h
inductive fB (K:W.Frag)(D:bA)(vs:List V)(H:Hp)(Q:VK)(E:XK):Prop
 | mk (p C dx a b c:Addr) (ws us cs:List V) (rz ps:List (Str×Int)) (ds:List aI) (f l:Int) (_:vs=[.ref p,.ref a,.ref b,.ref c,.int l,.int f]) (_:DCls K C) (_:H p=some (.ins C dx [])) (_:H a=some (.lst ws)) (_:RoomsAt H ws rz) (_:SqL K H b us) (_:Paired (D.at' H) us ds) (_:SqL K H c cs) (_:Paired (bJ H) cs ps) (_:(rz.map (·.1)).Nodup) (_:(ds.map (·.1)).Nodup) (_:(∀d∈ds,fC (rz.map (·.1)) d)) (_:(∀p∈ps,p.1∈rz.map (·.1))) (_:j6 rz ps) (_:rz.length<=20) (_:ds.length<=20) (_:ps.length<=40) (_:0<=f) (_:f<=l) (_:∀H',SameBut p H H'->bN C D H' p f l rz ps ds->Q .non H'):fB K D vs H Q E
theorem yY {D:bA}{H:Hp}{Q:VK}{E:XK}{p C dx a b c:Addr}{ws us cs:List V}{rz ps:List (Str×Int)}{ds:List aI}{f l:Int} (dc:DCls K C) (hp:H p=some (.ins C dx [])) (ha:H a=some (.lst ws)) (hr:RoomsAt H ws rz) (hb:SqL K H b us) (hd:Paired (D.at' H) us ds) (hc:SqL K H c cs) (hcp:Paired (bJ H) cs ps) (nr:(rz.map (·.1)).Nodup) (nd:(ds.map (·.1)).Nodup) (hin:∀d∈ds,fC (rz.map (·.1)) d) (hpr:∀p∈ps,p.1∈rz.map (·.1)) (hf:j6 rz ps) (lr:rz.length<=20) (ld:ds.length<=20) (lp:ps.length<=40) (h0:0<=f) (h1:f<=l)
  (k:∀H',SameBut p H H'->bN C D H' p f l rz ps ds->Q .non H'):fB K D [.ref p,.ref a,.ref b,.ref c,.int l,.int f] H Q E:=⟨_,_,_,_,_,_,_,_,_,_,_,_,_,_,rfl,dc,hp,ha,hr,hb,hd,hc,hcp,nr,nd,hin,hpr,hf,lr,ld,lp,h0,h1,k⟩
theorem rE (m:M K mg):bD P w K mg base CX0 4 m.gP m.eY ["self","rooms","doors","people","last","first"] (fB K (aQ P w K mg base (some 1))):=by
 refine m.sQ.ok sc_House___init__ (fun vs H Q E h=> ?_) (fun cdv A outer s H vs Q E hr h=> ?_)
 ·walk_at"g1";obtain⟨p,C,dx,a,b,c,ws,us,cs,rz,ps,ds,f,l,rfl,dc,hp,ha,hra,hb,hd,hc,hcp,nr,nd',hin,hpr,hf,lr,ld,lp,h0,h1,k⟩:=h;walk_at"g2";rfl
 ·walk_at"g1";obtain⟨p,C,dx,a,b,c,ws,us,cs,rz,ps,ds,f,l,rfl,dc,hp,ha,hra,hb,hd,hc,hcp,nr,nd',hin,hpr,hf,lr,ld,lp,h0,h1,k⟩:=h;walk_at"g2";have nd:=sc_House___init__.nd;walk_at"hu";have dF:= @lN P w K mg base m;have dW:= @rB P w K mg base m;have eQ:= @oQ P w K mg base m;have iD:= @wX P w K mg base m;have iG:= @xH P w K mg base m;have eM:= @oY P w K mg base m;refine⟨_,(aD (bM (b5 iG hr (aA (pv 5) (aA (pv 4) aB))))
   (aD (bM (b5 dW hr (aA (dD (N:=["name","size"]) (nl:=2) (ci:=[]) rfl (blk (s.heap.objs.size+1) rfl rfl rfl (by kernel_rfl)) (cE (pv 1)) (fun _ _ _ _=>(g0 (K:=K) (n:=2) rfl (aY (aM (i:=0) (show (["name","size"]:List Str).Nodup by decide +kernel) rfl (by walk_at"oi")) (aY (aM (i:=1) (show (["name","size"]:List Str).Nodup by decide +kernel) rfl (by walk_at"oi")) dE)))) (fun _ _ _ _=>fR) (fun _ _ _ _=>(pv 0))) aB)))
   (aD (bM (b5 dW hr (aA (dD (N:=["door"]) (nl:=1) (ci:=[]) rfl (blk (s.heap.objs.size+1) rfl rfl rfl (by kernel_rfl)) (cE (pv 2)) (fun _ _ _ _=>(aM (i:=0) (show (["door"]:List Str).Nodup by decide +kernel) rfl (by walk_at"oi"))) (fun _ _ _ _=>fR) (fun _ _ _ _=>(uZ (K:=K) (pv 0) rfl))) aB)))
   (aD (aX (i:=6) nd rfl (by walk_at"oi") (fP (DF rfl) rfl m.SR OI (aA (pv 1) aB)))
   (aD (bM (b5 eQ hr (aA (b5 eM hr (aA (pv 2) (aA (pv 3) aB))) (aA (pv 6) aB))))
   (aD (bM (b5 iD hr (aA (pv 6) (aA (pv 3) aB))))
   (aD (gD (pv 0) (pv 5) rfl)
   (aD (gD (pv 0) (pv 4) rfl)
   (aD (gD (pv 0) (pv 6) rfl)
   (aD (gD (pv 0) (b5 dF hr (aA (pv 6) (aA (pv 3) aB))) rfl)
   (aD (gD (pv 0) oJ rfl)
   (aF (d4 PassesOwn.never rfl (cE (pv 2)) (aM (i:=7) nd rfl (by walk_at"oi")) (aF (qO hu1 (bO (pv 0) rfl) (bO (pv 7) rfl) (pv 7) rfl))))))))))))))),?_⟩
  refine aO (σ:=[some (.ref p),some (.ref a),some (.ref b),some (.ref c),some (.int l),some (.int f),none,none]) rfl ?_;walk_at"cx";have hul:us.length=ds.length:=Paired.length hd;have hwl:ws.length=rz.length:=Paired.length hra;walk_at"go";refine OY h0 h1 ?_;walk_at"go";refine jV (α:=Str×Int) (xs:=rz) (vs:=ws) (fun e=> .str e.1) (fun e=> .int e.2) (fun _=>true) (fun z y _=>y= .str z.1) (fun _ _ _ _ h _=>h) (by rw[sizeLine_eq];lia) (rest:=[]) (by rfl) (SqL.of ha) hra (fun x H1 hx s1 R hR=>hR _ (Same.refl _)) (fun x H1 hx _ s1 R hR=> ?_) ?_
  ·walk_at"go";exact hR _ _ rfl (Same.refl _)
  intro ys H1 s1 hys;rw[eU]at hys;obtain rfl:=eA hys;walk_at"go";rename_i q1 H2 n2 S2 e2;refine FG (ss:=rz.map (·.1)) (SqL.of (by rw[e2,List.map_map];rfl)) nr (by rw[List.length_map];lia) fun H3 S3=> ?_;have sA:Same H H3:=(s1.trans S2).trans S3;walk_at"go";refine u8 (α:=aI) (xs:=ds) (vs:=us) ((aQ P w K mg base (some 1)).at' H3) (fun _=>true) (fun d y _=>y= .str d.1) (fun _ _ _ _ h _=>h) (by rw[sizeLine_eq];lia) (rest:=[]) (by rfl) (sA.seq hb) (gO hd sA) (fun v x H1 _ hx s1 R hR=>hR _ (Same.refl _)) ?_ ?_
  ·rintro v ⟨n,st,e,lt⟩ H4 hv hm - s4 R hR;walk_at"g1";obtain⟨q,C9,dx',fs,fp,rfl,hq,dcC,l1,l2,l3,l4,l5,mcE,hfp,hlt⟩:=DoorAt.ex hv;walk_at"g2";have hq':=s4 _ _ hq;walk_at"go";exact hR _ _ rfl (Same.refl _)
  intro ys H4 s4 hys;rw[eU]at hys;obtain rfl:=eA hys;walk_at"go";rename_i q5 H5 n5 S5 e5;refine FG (ss:=ds.map (·.1)) (SqL.of (by rw[e5,List.map_map];rfl)) nd' (by rw[List.length_map];lia) fun H6 S6=> ?_;have sB:Same H H6:=((sA.trans s4).trans S5).trans S6;walk_at"go";refine KY (sB _ _ ha) (rO (hra.sm sB)) fun qs H7 n7 S7 e7=> ?_;rw[JN nr]at e7;have sC:Same H H7:=sB.trans S7;walk_at"go";refine JB (sC.seq hb) (gO hd sC) hin ld (sC.seq hc) (cC hcp sC) hpr lp fun q8 ss H8 S8 e8 hss lss=> ?_;walk_at"go";refine CF (SqL.of e8) (.inl (S8 _ _ e7)) (fun z hz=>by obtain⟨i,_,e⟩:=z4 nr (hss z hz);rw[e];rfl) fun H9 S9=> ?_;have sD:Same H7 H9:=S8.trans S9;walk_at"go";refine NT (sD _ _ e7) ((sC.trans sD).seq hc) (cC hcp (sC.trans sD)) hpr nr (by lia) (by lia) hf fun H10 S10=> ?_;have sE:Same H H10:=(sC.trans sD).trans S10;have es:H10 qs=some (.dK (szK rz)):=S10 _ _ (sD _ _ e7);have hp10:=sE _ _ hp;have hqp:qs≠p:=fun z=>by rw[z,hp10]at es;cases es
  walk_at"go";rename_i H11 B11 e11 H12 B12 e12 H13 B13 e13;have sb13:SameBut p H10 H13:=by walk_at"sb"
  have es13:=sb13 _ _ es hqp;have hc13:SqL K H13 c cs:=CS (sE.seq hc) hp10 sb13;have hcp13:Paired (bJ H13) cs ps:=Paired.imp' (fun v r ⟨q,e,hq⟩=>⟨q,e,sb13 _ _ (sE _ _ hq) fun z=>by rw[z,hp]at hq;cases hq⟩) hcp;refine CA es13 hc13 hcp13 hpr nr (by lia) fun qp H14 kvs n14 S14 e14 hkk hv14=> ?_;have hp14:=S14 _ _ e13;walk_at"go";rename_i H15 B15 e15 qd H16 n16 S16 e16 H17 B17 e17;have hqd:qd≠p:=fun z=>by rw[z,e15]at n16;cases n16
  have sb17:SameBut p H10 H17:=((((sb13.trans S14.but).trans B15).trans S16.but).trans B17)
  have es17:=sb17 _ _ es hqp;have ed17:=B17 _ _ e16 hqd;have hqpp:qp≠p:=fun z=>by rw[z,e13]at n14;cases n14
  have eq17:H17 qp=some (.dK kvs):=B17 _ _ (S16 _ _ (B15 _ _ e14 hqpp)) hqpp;have hqpd:qp≠qd:=fun z=>by rw[←z,B15 _ _ e14 hqpp]at n16;cases n16
  have fresh:∀x u,H10 x=some u->x≠p->x≠qd:=fun x u hx hxp z=>by
   have h15:H15 x=some u:=B15 _ _ (S14 _ _ (sb13 _ _ hx hxp)) hxp;rw[z,n16]at h15;cases h15
  have hb17:SqL K H17 b us:=CS (sE.seq hb) hp10 sb17;have hd17:Paired ((aQ P w K mg base (some 1)).at' H17) us ds:=Paired.imp' (fun v d h=>(aQ P w K mg base (some 1)).but ((aQ P w K mg base (some 1)).same h sE) hp10 rfl sb17) hd;have ddq:∀{H':Hp}{v:V}{d:aI},SameBut qd H17 H'->(aQ P w K mg base (some 1)).at' H17 v d->(aQ P w K mg base (some 1)).at' H' v d:=fun sb h=>(aQ P w K mg base (some 1)).but h ed17 trivial sb;refine wE hb17 ?_;let Pv1:Nat->St->Hp->Prop:=fun i σ' H'=>SameBut qd H17 H'/\(∃nk,H' qd=some (.dK nk)/\nk.length<=i/\Paired (fun e d=>e.1= .inr d.1/\(aQ P w K mg base (some 1)).at' H17 e.2 d) nk (ds.take i))/\∃x,σ'=[some (.ref p),some (.ref a),some (.ref b),some (.ref c),some (.int l),some (.int f),some (.ref qs),x];refine gX us Pv1 ⟨SameBut.refl,⟨[],ed17,Nat.le_refl _,.nil⟩,_,rfl⟩ (fun i σ' H' _ q=>z8 hb17 ed17 q.1) ?_ ?_
  ·rintro i x _ H' hx hq_;walk_at"g1";obtain⟨sb,⟨nk,ek,hk,pr⟩,y,rfl⟩:=hq_;walk_at"g2";have hi:i<us.length:=(List.getElem?_eq_some_iff.mp hx).1;obtain⟨d,hdx⟩:∃d,ds[i]? =some d:=⟨_,List.getElem?_eq_getElem (by lia)⟩
   have hD:=Paired.at2 hd17 hx hdx;walk_at"g1";obtain⟨n,st,e,lt⟩:=d;walk_at"g2";have hD':=ddq sb hD;walk_at"g1";obtain⟨q,C9,dx',fs,fp,rfl,hq',dcC,l1,l2,l3,l4,l5,mcE,hfp,hlt⟩:=DoorAt.ex hD';walk_at"g2";have hpp:H' p=some (.ins C dx (CB f l qs qp qd)):=sb _ _ e17 (Ne.symm hqd);have hnone:bP nk (.inr n)=none:=oW fun e he=>by
    walk_at"g1";obtain⟨d',hd',h1,_⟩:=m9 pr he;walk_at"g2";rw[h1];intro z;have hn:n∉(ds.map (·.1)).take i:=sL nd' (by rw[List.getElem?_map,hdx];rfl)
    apply hn
    rw[←List.map_take];exact List.mem_map.mpr ⟨d',hd',Sum.inr.inj z⟩
   walk_at"go";refine nN ek (by rw[sizeLine_eq];lia) fun H9' B9' e9'=> ?_;rw[r6 _ hnone]at e9';refine⟨by walk_at"sb",⟨_,e9',by rw[List.length_append];show nk.length+1<=_;lia,?_⟩,_,rfl⟩;rw[jS hdx];exact L2.Paired.snoc pr ⟨rfl,hD⟩
  ·rintro _ H' hq_;walk_at"g1";obtain⟨sb,⟨nk,ek,hk,pr⟩,y,rfl⟩:=hq_;walk_at"g2";rw[hul,List.take_length]at pr;refine k _ (fun x u hx hxp=>sb _ _ (sb17 _ _ (sE _ _ hx) hxp) (fresh x u (sE _ _ hx) hxp)) ⟨dx,qs,qp,qd,nk,kvs,sb _ _ e17 (Ne.symm hqd),sb _ _ es17 (fresh _ _ es hqp),sb _ _ eq17 hqpd,hkk,hv14,ek,?_⟩;exact Paired.imp' (fun e d h=>⟨h.1,ddq sb h.2⟩) pr
theorem C6 (m:M K mg):Kc P w K mg base "House" m.aH 4 [] (fB K (aQ P w K mg base (some 1))):=⟨_,_,_,_,m.O4,m.LA,.nil,m.sN,rE m⟩
theorem pX {C:Addr}{D:bA}{H:Hp}{Q:VK}{E:XK}{dvs vs:List V}{a b c:Addr}{ws us cs:List V}{rz ps:List (Str×Int)}{ds:List aI}{f l:Int} (ev:vs++dvs=[.ref a,.ref b,.ref c,.int l,.int f]) (dc:DCls K C) (ha:H a=some (.lst ws)) (hr:RoomsAt H ws rz) (hb:SqL K H b us) (hd:Paired (D.at' H) us ds) (hc:SqL K H c cs) (hcp:Paired (bJ H) cs ps) (nr:(rz.map (·.1)).Nodup) (nd:(ds.map (·.1)).Nodup) (hin:∀d∈ds,fC (rz.map (·.1)) d) (hpr:∀p∈ps,p.1∈rz.map (·.1)) (hf:j6 rz ps) (lr:rz.length<=20) (ld:ds.length<=20) (lp:ps.length<=40) (h0:0<=f) (h1:f<=l)
  (k:∀p H',H p=none->Same H H'->bN C D H' p f l rz ps ds->Q (.ref p) H'):sY C (fB K D) dvs E Q vs H:=by
 intro x dx nx nd0 ne;have s0:Same H (upd (upd H dx (.own x)) x (.ins C dx [])):=fun b o e=>by
  rw[aJ (bB e nx),aJ (bB e nd0)];exact e
 rw[ev];exact yY dc aV (s0 _ _ ha) (hr.sm s0) (s0.seq hb) (gO hd s0) (s0.seq hc) (cC hcp s0) nr nd hin hpr hf lr ld lp h0 h1 fun H' sb hh=>⟨rfl,k x H' nx (fun b o q=>sb b o (s0 b o q) (bB q nx)) hh⟩
theorem O2 (rz:List (Str×Int)):((szK rz).map fun e=>kV e.1)=(rz.map (·.1)).map V.str:=by unfold szK;rw[List.map_map,List.map_map];rfl
theorem tU {D:bA}{H:Hp}:∀{nk:List (Key×V)}{ds:List aI},jQ D H nk ds->(nk.map fun e=>kV e.1)=(ds.map (·.1)).map V.str
 | _,_,.nil=>rfl
 | (k,v)::_,_,.cons h t=>by
  rw[List.map_cons,tU t,List.map_cons,List.map_cons];have:k= .inr _:=h.1;rw[this];rfl
theorem uB {D:bA}{H:Hp}:∀{nk:List (Key×V)}{ds:List aI},jQ D H nk ds->nk.map (·.1)=(ds.map (·.1)).map (Sum.inr:Str->Key)
 | _,_,.nil=>rfl
 | (k,v)::_,_,.cons h t=>by
  rw[List.map_cons,uB t,List.map_cons,List.map_cons];have:k= .inr _:=h.1;rw[this]
theorem E2 {D:bA}{H:Hp}{nk:List (Key×V)}{ds:List aI} (h:jQ D H nk ds):nk.length=ds.length:=Paired.length h
theorem KM {D:bA}{H:Hp}{nk:List (Key×V)}{ds:List aI} (h:jQ D H nk ds) (nd:(ds.map (·.1)).Nodup) {d:aI} (hd:d∈ds):∃v,bP nk (.inr d.1)=some v/\D.at' H v d:=by
 obtain⟨i,hi,e⟩:=List.getElem_of_mem hd;have hl:=E2 h;have hx:nk[i]? =some nk[i]:=List.getElem?_eq_getElem (by lia);obtain⟨h1,h2⟩:=Paired.at2 h hx (show ds[i]? =some d by rw[List.getElem?_eq_getElem hi,e]);refine⟨_,?_,h2⟩;rw[←h1];exact mH (by rw[uB h];exact o0 nd) (List.mem_of_getElem? hx)
inductive iI (C:Addr)(D:bA)(g:List (Str×Int)->List aI->List Str)(vs:List V)(H:Hp)(Q:VK)(E:XK):Prop
 | mk (h:Addr) (f l:Int) (rz ps:List (Str×Int)) (ds:List aI) (_:vs=[.ref h]) (_:bN C D H h f l rz ps ds) (_:∀p H',H p=none->Same H H'->H' p=some (.lst ((g rz ds).map V.str))->Q (.ref p) H'):iI C D g vs H Q E
theorem fD {C:Addr}{D:bA}{g:List (Str×Int)->List aI->List Str}{H:Hp}{Q:VK}{E:XK}{h:Addr}{f l:Int}{rz ps:List (Str×Int)}{ds:List aI} (hh:bN C D H h f l rz ps ds) (k:∀p H',H p=none->Same H H'->H' p=some (.lst ((g rz ds).map V.str))->Q (.ref p) H'):iI C D g [.ref h] H Q E:=⟨_,_,_,_,_,_,rfl,hh,k⟩
theorem uN (m:M K mg):bD P w K mg base CX0 1 m.jI m.jG ["self"] (iI m.aH (aQ P w K mg base (some 1)) fun rz _=>rz.map (·.1)):=by
 refine m.xZ.ok sc_House_rooms (fun vs H Q E h=> ?_) (fun cdv A outer s H vs Q E hr h=> ?_)
 ·walk_at"g1";obtain⟨h,f,l,rz,ps,ds,rfl,hh,k⟩:=h;walk_at"g2";rfl
 ·walk_at"g1";obtain⟨h,f,l,rz,ps,ds,rfl,hh,k⟩:=h;walk_at"g2";have nd:=sc_House_rooms.nd;walk_at"hu";have w_dc_House:=m.bF;refine⟨_,(aF (aW (fP (sZ rfl) rfl m.pZ mE (aA (bO (pv 0) rfl) aB)))),?_⟩;refine aO (σ:=[some (.ref h)]) rfl ?_;walk_at"cx";walk_at"g1";obtain⟨dx,qs,qp,qd,nk,kvs,e1,e2,e3,e4,e5,e6,e7⟩:=hh.ex;walk_at"g2";walk_at"go";refine AB (.inl e2) fun p H1 n1 S1 e8=> ?_;rw[O2]at e8;walk_at"go";exact k _ _ n1 S1 e8
theorem mK (m:M K mg):Mc P w K mg base m.aH "rooms" 1 (iI m.aH (aQ P w K mg base (some 1)) fun rz _=>rz.map (·.1)):=⟨_,_,_,m.bF.ic.cl,m.vI,m.yB,uN m⟩
theorem uT (m:M K mg):bD P w K mg base CX0 1 m.i9 m.jF ["self"] (iI m.aH (aQ P w K mg base (some 1)) fun _ ds=>ds.map (·.1)):=by
 refine m.x5.ok sc_House_doors (fun vs H Q E h=> ?_) (fun cdv A outer s H vs Q E hr h=> ?_)
 ·walk_at"g1";obtain⟨h,f,l,rz,ps,ds,rfl,hh,k⟩:=h;walk_at"g2";rfl
 ·walk_at"g1";obtain⟨h,f,l,rz,ps,ds,rfl,hh,k⟩:=h;walk_at"g2";have nd:=sc_House_doors.nd;walk_at"hu";have w_dc_House:=m.bF;refine⟨_,(aF (aW (fP (sZ rfl) rfl m.pZ mE (aA (bO (pv 0) rfl) aB)))),?_⟩;refine aO (σ:=[some (.ref h)]) rfl ?_;walk_at"cx";walk_at"g1";obtain⟨dx,qs,qp,qd,nk,kvs,e1,e2,e3,e4,e5,e6,e7⟩:=hh.ex;walk_at"g2";walk_at"go";refine AB (.inl e6) fun p H1 n1 S1 e8=> ?_;rw[tU e7]at e8;walk_at"go";exact k _ _ n1 S1 e8
theorem mS (m:M K mg):Mc P w K mg base m.aH "doors" 1 (iI m.aH (aQ P w K mg base (some 1)) fun _ ds=>ds.map (·.1)):=⟨_,_,_,m.bF.ic.cl,m.vG,m.xT,uT m⟩
inductive hU (C:Addr)(D:bA)(vs:List V)(H:Hp)(Q:VK)(E:XK):Prop
 | mk (h:Addr) (z:Str) (f l:Int) (rz ps:List (Str×Int)) (ds:List aI) (_:vs=[.ref h,.str z]) (_:bN C D H h f l rz ps ds) (_:(rz.map (·.1)).Nodup) (_:z∈rz.map (·.1)) (_:∀H',Same H H'->Q .non H'):hU C D vs H Q E
theorem iX {C:Addr}{D:bA}{H:Hp}{Q:VK}{E:XK}{h:Addr}{z:Str}{f l:Int}{rz ps:List (Str×Int)}{ds:List aI} (hh:bN C D H h f l rz ps ds) (nr:(rz.map (·.1)).Nodup) (hz:z∈rz.map (·.1)) (k:∀H',Same H H'->Q .non H'):hU C D [.ref h,.str z] H Q E:=⟨_,_,_,_,_,_,_,rfl,hh,nr,hz,k⟩
theorem pP (m:M K mg):bD P w K mg base CX0 2 m.gB m.fZ ["self","room"] (hU m.aH (aQ P w K mg base (some 1))):=by
 refine m.rF.ok sc_House_need_room (fun vs H Q E h=> ?_) (fun cdv A outer s H vs Q E hr h=> ?_)
 ·walk_at"g1";obtain⟨h,z,f,l,rz,ps,ds,rfl,hh,nr,hz,k⟩:=h;walk_at"g2";rfl
 ·walk_at"g1";obtain⟨h,z,f,l,rz,ps,ds,rfl,hh,nr,hz,k⟩:=h;walk_at"g2";have nd:=sc_House_need_room.nd;walk_at"hu";have eQ:= @oQ P w K mg base m;have w_dc_House:=m.bF;refine⟨_,(aF (bM (b5 eQ hr (aA (d8 (aA (pv 1) aB)) (aA (bO (pv 0) rfl) aB))))),?_⟩;refine aO (σ:=[some (.ref h),some (.str z)]) rfl ?_;walk_at"cx";walk_at"g1";obtain⟨dx,qs,qp,qd,nk,kvs,e1,e2,e3,e4,e5,e6,e7⟩:=hh.ex;walk_at"g2";obtain⟨i,hi,ev⟩:=z4 nr hz;walk_at"go";rename_i p H1 n1 S1 e8;refine CF (ss:=[z]) (SqL.of e8) (.inl (S1 _ _ e2)) (fun y hy=>by cases List.mem_singleton.mp hy;rw[ev];rfl) fun H2 S2=> ?_;walk_at"go";exact k _ (S1.trans S2)
theorem d9 (m:M K mg):Mc P w K mg base m.aH "need_room" 2 (hU m.aH (aQ P w K mg base (some 1))):=⟨_,_,_,m.bF.ic.cl,m.qA,m.rL,pP m⟩
inductive nR (C:Addr)(D:bA)(vs:List V)(H:Hp)(Q:VK)(E:XK):Prop
 | mk (h:Addr) (z:Str) (i f l:Int) (rz ps:List (Str×Int)) (ds:List aI) (_:vs=[.ref h,.str z]) (_:bN C D H h f l rz ps ds) (_:(rz.map (·.1)).Nodup) (_:(z,i)∈rz) (_:∀H',Same H H'->Q (.int i) H'):nR C D vs H Q E
theorem B7 {C:Addr}{D:bA}{H:Hp}{Q:VK}{E:XK}{h:Addr}{z:Str}{i f l:Int}{rz ps:List (Str×Int)}{ds:List aI} (hh:bN C D H h f l rz ps ds) (nr:(rz.map (·.1)).Nodup) (hz:(z,i)∈rz) (k:∀H',Same H H'->Q (.int i) H'):nR C D [.ref h,.str z] H Q E:=⟨_,_,_,_,_,_,_,_,rfl,hh,nr,hz,k⟩
theorem uG (m:M K mg):bD P w K mg base CX0 3 m.jK m.jC ["self","room"] (nR m.aH (aQ P w K mg base (some 1))):=by
 refine m.xX.ok sc_House_holds (fun vs H Q E h=> ?_) (fun cdv A outer s H vs Q E hr h=> ?_)
 ·walk_at"g1";obtain⟨h,z,i,f,l,rz,ps,ds,rfl,hh,nr,hz,k⟩:=h;walk_at"g2";rfl
 ·walk_at"g1";obtain⟨h,z,i,f,l,rz,ps,ds,rfl,hh,nr,hz,k⟩:=h;walk_at"g2";have nd:=sc_House_holds.nd;walk_at"hu";have w_dc_House:=m.bF;have w_mc_House_need_room:= @d9 P w K mg base m;refine⟨_,(aD (bM (d5 2 hr (pv 0) (aA (pv 1) aB)))
   (aF (aW (mO hu1 (bO (pv 0) rfl) (pv 1) (fun _ _=>rfl))))),?_⟩
  refine aO (σ:=[some (.ref h),some (.str z)]) rfl ?_;walk_at"cx";walk_at"g1";obtain⟨dx,qs,qp,qd,nk,kvs,e1,e2,e3,e4,e5,e6,e7⟩:=hh.ex;walk_at"g2";walk_at"go";refine iX hh nr (List.mem_map.mpr ⟨_,hz,rfl⟩) fun H1 S1=> ?_;have e11:=S1 _ _ e1;walk_at"go";refine kA (.inl (S1 _ _ e2)) (uL nr hz) ?_;walk_at"go";exact k _ S1
theorem vC (m:M K mg):Mc P w K mg base m.aH "holds" 3 (nR m.aH (aQ P w K mg base (some 1))):=⟨_,_,_,m.bF.ic.cl,m.vJ,m.xU,uG m⟩
inductive nJ (C:Addr)(D:bA)(vs:List V)(H:Hp)(Q:VK)(E:XK):Prop
 | mk (h:Addr) (z:Str) (f l:Int) (rz ps:List (Str×Int)) (ds:List aI) (_:vs=[.ref h,.str z]) (_:bN C D H h f l rz ps ds) (_:(rz.map (·.1)).Nodup) (_:z∈rz.map (·.1)) (_:∀H',Same H H'->Q (.int (bH ps z)) H'):nJ C D vs H Q E
theorem CT {C:Addr}{D:bA}{H:Hp}{Q:VK}{E:XK}{h:Addr}{z:Str}{f l:Int}{rz ps:List (Str×Int)}{ds:List aI} (hh:bN C D H h f l rz ps ds) (nr:(rz.map (·.1)).Nodup) (hz:z∈rz.map (·.1)) (k:∀H',Same H H'->Q (.int (bH ps z)) H'):nJ C D [.ref h,.str z] H Q E:=⟨_,_,_,_,_,_,_,rfl,hh,nr,hz,k⟩
theorem uQ (m:M K mg):bD P w K mg base CX0 3 m.jL m.jH ["self","room"] (nJ m.aH (aQ P w K mg base (some 1))):=by
 refine m.yC.ok sc_House_found (fun vs H Q E h=> ?_) (fun cdv A outer s H vs Q E hr h=> ?_)
 ·walk_at"g1";obtain⟨h,z,f,l,rz,ps,ds,rfl,hh,nr,hz,k⟩:=h;walk_at"g2";rfl
 ·walk_at"g1";obtain⟨h,z,f,l,rz,ps,ds,rfl,hh,nr,hz,k⟩:=h;walk_at"g2";have nd:=sc_House_found.nd;walk_at"hu";have w_dc_House:=m.bF;have w_mc_House_need_room:= @d9 P w K mg base m;refine⟨_,(aD (bM (d5 2 hr (pv 0) (aA (pv 1) aB)))
   (aF (aW (mO hu1 (bO (pv 0) rfl) (pv 1) (fun _ _=>rfl))))),?_⟩
  refine aO (σ:=[some (.ref h),some (.str z)]) rfl ?_;walk_at"cx";walk_at"g1";obtain⟨dx,qs,qp,qd,nk,kvs,e1,e2,e3,e4,e5,e6,e7⟩:=hh.ex;walk_at"g2";walk_at"go";refine iX hh nr hz fun H1 S1=> ?_;have e11:=S1 _ _ e1;walk_at"go";refine kA (.inl (S1 _ _ e3)) (e5 z hz) ?_;walk_at"go";exact k _ S1
theorem uU (m:M K mg):Mc P w K mg base m.aH "found" 3 (nJ m.aH (aQ P w K mg base (some 1))):=⟨_,_,_,m.bF.ic.cl,m.vH,m.x9,uQ m⟩
inductive qS (C:Addr)(D:bA)(vs:List V)(H:Hp)(Q:VK)(E:XK):Prop
 | mk (h:Addr) (d:aI) (f l:Int) (rz ps:List (Str×Int)) (ds:List aI) (_:vs=[.ref h,.str d.1]) (_:bN C D H h f l rz ps ds) (_:(ds.map (·.1)).Nodup) (_:d∈ds) (_:∀v,D.at' H v d->Q v H):qS C D vs H Q E
theorem y6 {C:Addr}{D:bA}{H:Hp}{Q:VK}{E:XK}{h:Addr}{d:aI}{f l:Int}{rz ps:List (Str×Int)}{ds:List aI} (hh:bN C D H h f l rz ps ds) (nd:(ds.map (·.1)).Nodup) (hd:d∈ds) (k:∀v,D.at' H v d->Q v H):qS C D [.ref h,.str d.1] H Q E:=⟨_,_,_,_,_,_,_,rfl,hh,nd,hd,k⟩
theorem wY (m:M K mg):bD P w K mg base CX0 1 m.kY m.lH ["self","name"] (qS m.aH (aQ P w K mg base (some 1))):=by
 refine m.A0.ok sc_House_door (fun vs H Q E h=> ?_) (fun cdv A outer s H vs Q E hr h=> ?_)
 ·walk_at"g1";obtain⟨h,d,f,l,rz,ps,ds,rfl,hh,ndd,hd,k⟩:=h;walk_at"g2";rfl
 ·walk_at"g1";obtain⟨h,d,f,l,rz,ps,ds,rfl,hh,ndd,hd,k⟩:=h;walk_at"g2";have nd:=sc_House_door.nd;walk_at"hu";have w_dc_House:=m.bF;refine⟨_,(aD (cG (yJ (v3 hu1 (pv 1) (bO (pv 0) rfl)) (by with_unfolding_all rfl)) (aF eT) bU)
   (aF (aW (mO hu1 (bO (pv 0) rfl) (pv 1) (fun _ _=>rfl))))),?_⟩
  refine aO (σ:=[some (.ref h),some (.str d.1)]) rfl ?_;walk_at"cx";walk_at"g1";obtain⟨dx,qs,qp,qd,nk,kvs,e1,e2,e3,e4,e5,e6,e7⟩:=hh.ex;walk_at"g2";obtain⟨v,ev,hv⟩:=KM e7 ndd hd;walk_at"go";refine tY (.inl e6) ?_;rw[show (bP nk (.inr d.1)).isSome=true by rw[ev];rfl];walk_at"go";refine kA (.inl e6) ev ?_;walk_at"go";exact k _ hv
theorem oN (m:M K mg):Mc P w K mg base m.aH "door" 1 (qS m.aH (aQ P w K mg base (some 1))):=⟨_,_,_,m.bF.ic.cl,m.xY,m.AW,wY m⟩
def cK (rz:List (Str×Int))(f:Int)(n:Nat):List (Str×Int):=((List.range n).map fun (i:Nat)=>rz.map fun e=>(e.1,f+(i:Int))).flatten
theorem iY (rz:List (Str×Int))(f:Int)(n:Nat):cK rz f (n+1)=cK rz f n++rz.map fun e=>(e.1,f+(n:Int)):=by
 unfold cK;rw[List.range_succ,List.map_append,List.flatten_append];simp
theorem tI (rz:List (Str×Int))(f:Int):∀n,(cK rz f n).length=n * rz.length
 | 0=>by simp[cK]
 | n+1=>by rw[iY,List.length_append,tI rz f n,List.length_map,Nat.succ_mul]
theorem zD {H:Hp}{t:Int}:∀{rz:List (Str×Int)}{ys:List V},Paired (fun (e:Key×V) y=>∀z,e.1= .inr z->bJ H y (z,t)) (szK rz) ys->Paired (bJ H) ys (rz.map fun e=>(e.1,t))
 | [],_,.nil=> .nil
 | _::_,_,.cons h t=> .cons (h _ rfl) (zD t)
theorem CH {H H':Hp}{p:Addr}{xs ws:List V}{ps:List (Str×Int)} (h:Paired (bJ H) ws ps) (e:H p=some (.lst xs)) (sb:SameBut p H H'):Paired (bJ H') ws ps:=Paired.imp' (fun v r ⟨q,e1,h⟩=>⟨q,e1,sb _ _ h fun z=>by rw[z,e]at h;cases h⟩) h
theorem tK {α β:Type}{F:α->β->Prop}:∀{l l2:List α}{m m2:List β},Paired F l m->Paired F l2 m2->Paired F (l++l2) (m++m2)
 | _,_,_,_,.nil,h=>h
 | _,_,_,_,.cons r t,h=> .cons r (tK t h)
inductive mZ (C:Addr)(D:bA)(vs:List V)(H:Hp)(Q:VK)(E:XK):Prop
 | mk (h:Addr) (f l:Int) (rz ps:List (Str×Int)) (ds:List aI) (_:vs=[.ref h]) (_:bN C D H h f l rz ps ds) (_:0<=f) (_:f<=l) (_:l<1000000000000) (_:l - f<=1000) (_:rz.length<=20) (_:∀p ys H',H p=none->Same H H'->H' p=some (.lst ys)->Paired (bJ H') ys (cK rz f (l+1 - f).toNat)->Q (.ref p) H'):mZ C D vs H Q E
theorem qW {C:Addr}{D:bA}{H:Hp}{Q:VK}{E:XK}{h:Addr}{f l:Int}{rz ps:List (Str×Int)}{ds:List aI} (hh:bN C D H h f l rz ps ds) (h0:0<=f) (h1:f<=l) (h2:l<1000000000000) (h3:l - f<=1000) (lr:rz.length<=20) (k:∀p ys H',H p=none->Same H H'->H' p=some (.lst ys)->Paired (bJ H') ys (cK rz f (l+1 - f).toNat)->Q (.ref p) H'):mZ C D [.ref h] H Q E:=⟨_,_,_,_,_,_,rfl,hh,h0,h1,h2,h3,lr,k⟩
theorem uS (m:M K mg):bD P w K mg base CX0 1 m.i8 m.jM ["self"] (mZ m.aH (aQ P w K mg base (some 1))):=by
 refine m.x8.ok sc_House_pairs (fun vs H Q E h=> ?_) (fun cdv A outer s H vs Q E hr h=> ?_)
 ·walk_at"g1";obtain⟨h,f,l,rz,ps,ds,rfl,hh,h0,h1,h2,h3,lr,k⟩:=h;walk_at"g2";rfl
 ·walk_at"g1";obtain⟨h,f,l,rz,ps,ds,rfl,hh,h0,h1,h2,h3,lr,k⟩:=h;walk_at"g2";have nd:=sc_House_pairs.nd;walk_at"hu";have w_dc_House:=m.bF;refine⟨_,(aD (aX (i:=1) nd rfl (by walk_at"oi") (d8 aB))
   (aD (d4 PassesOwn.never rfl (ET rfl m.vN (aA (bO (pv 0) rfl) (aA (aG d0 (bO (pv 0) rfl) aE) aB))) (aM (i:=2) nd rfl (by walk_at"oi")) (aF (bM (jP PySem.F.plainAttrs_list PySem.F.slot_list_extend PySem.F.type_list_extend F3 (pv 1) (aA (qI (dD (N:=["room","turn"]) (nl:=1) (ci:=[2]) rfl (blk (s.heap.objs.size+1) rfl rfl rfl (by kernel_rfl)) (rT (bO (pv 0) rfl)) (fun _ _ _ _=>(aM (i:=0) (show (["room","turn"]:List Str).Nodup by decide +kernel) rfl (by walk_at"oi"))) (fun _ _ _ _=>fR) (fun _ _ _ _=>(mQ (aA (pv 0) (aA (pv 1) aB)))))) aB)))))
   (aF (aW (pv 1))))),?_⟩
  refine aO (σ:=[some (.ref h),none,none]) rfl ?_;walk_at"cx";walk_at"g1";obtain⟨dx,qs,qp,qd,nk,kvs,e1,e2,e3,e4,e5,e6,e7⟩:=hh.ex;walk_at"g2";have hl2:(szK rz).length=rz.length:=by unfold szK;rw[List.length_map]
  walk_at"go";rename_i p H1 n1 S1 ep;have e21:=S1 _ _ e2;have e11:=S1 _ _ e1;have hqsp:qs≠p:=fun z=>by rw[z,n1]at e2;cases e2
  have hhp:h≠p:=fun z=>by rw[z,n1]at e1;cases e1
  let Pv1:Nat->St->Hp->Prop:=fun i σ' H'=>SameBut p H1 H'/\(∃ys,H' p=some (.lst ys)/\Paired (bJ H') ys (cK rz f i))/\∃x,σ'=[some (.ref h),some (.ref p),x];refine CN Pv1 ⟨SameBut.refl,⟨[],ep,.nil⟩,_,rfl⟩ ?_ ?_
  ·rintro i _ H' hi hq_;walk_at"g1";obtain⟨sb,⟨ys,ey,hys⟩,x,rfl⟩:=hq_;walk_at"g2";have e2':=sb _ _ e21 hqsp;have e1':=sb _ _ e11 hhp;have hyl:ys.length=i * rz.length:=by rw[Paired.length hys,tI]
   have hyb:ys.length<=1001 * 20:=by
    rw[hyl];exact Nat.mul_le_mul (by lia) lr
   walk_at"go";refine oA e2' tF ?_;walk_at"go";refine rW e2' fun o H2 B2 e22=> ?_;have hpq:p≠qs:=Ne.symm hqsp;refine E3 (fun _=>true) (fun e y H=>∀z,e.1= .inr z->bJ H y (z,f+(i:Int))) (fun _ _ _ _ hh s z hz=>let ⟨q,a1,a2⟩:=hh z hz;⟨q,a1,s _ _ a2⟩) (by rw[sizeLine_eq];lia) (rest:=[some (.int (f+(i:Int)))]) (by rfl) e22 (fun x H6 hx s6 R hR=>hR _ (Same.refl _)) ?_ ?_
   ·rintro x H6 hx - s6 R hR;obtain⟨e,he,rfl⟩:=List.mem_map.mp hx;show (_:TE) (some (V.str e.1)::[some (.int (f+(i:Int)))]) H6 R;walk_at"go";rename_i q7 H7 n7 S7 e77;exact hR _ _ (fun z hz=>by cases hz;exact⟨q7,rfl,e77⟩) S7
   intro zs H3 s3 hzs;rw[eU]at hzs;have hzp:=zD hzs;walk_at"go";rename_i q4 H4 n4 S4 e44;refine i3 (S4 _ _ (s3 _ _ e22)) fun H5 B5 e55=> ?_;have hq4:q4≠qs:=fun z=>by rw[z,s3 _ _ e22]at n4;cases n4
   have ey2:=B2 _ _ ey hpq;have ey5:H5 p=some (.lst ys):=B5 _ _ (S4 _ _ (s3 _ _ ey2)) hpq;have sX:Same H' H5:=lQ e2' B2 (Same.but (s3.trans S4)) B5 e55;have hz5:Paired (bJ H5) zs (rz.map fun e=>(e.1,f+(i:Int))):=Paired.imp' (fun v r ⟨q,a1,a2⟩=>⟨q,a1,B5 _ _ (S4 _ _ a2) fun z=>by rw[z,s3 _ _ e22]at a2;cases a2⟩) hzp;have hzl:zs.length=rz.length:=by rw[Paired.length hz5,List.length_map]
   walk_at"go";refine EY ey5 (B5 _ _ e44 hq4) (by rw[sizeLine_eq];lia) fun H6 B6 e66=> ?_;walk_at"go";refine⟨(sb.trans sX.but).trans B6,⟨_,e66,?_⟩,_,rfl⟩;rw[iY];exact tK (CH (cC hys sX) ey5 B6) (CH hz5 ey5 B6)
  ·rintro _ H' hq_;walk_at"g1";obtain⟨sb,⟨ys,ey,hys⟩,x,rfl⟩:=hq_;walk_at"g2";walk_at"go";exact k _ _ _ n1 (SameBut.same n1 S1 sb) ey hys
theorem mF (m:M K mg):Mc P w K mg base m.aH "pairs" 1 (mZ m.aH (aQ P w K mg base (some 1))):=⟨_,_,_,m.bF.ic.cl,m.vL,m.x3,uS m⟩
local macro_rules| `(tactic| walk_at"rd1")=> `(tactic| first|(with_reducible refine OC ?_)|(with_reducible refine rd_v13 ?_)|(with_reducible refine rd_s13 ?_)|(with_reducible refine rd_v14 ?_)|(with_reducible refine rd_s14 ?_)|(with_reducible refine rd_v15 ?_)|(with_reducible refine rd_s15 ?_)|(with_reducible refine rd_v16 ?_)|(with_reducible refine rd_s16 ?_)|(with_reducible refine rd_v17 ?_)|(with_reducible refine rd_s17 ?_)|(with_reducible refine rd_v18 ?_)|(with_reducible refine rd_s18 ?_)|(with_reducible refine JL ?_)|((with_reducible refine' FF ?e ?_);(case e=>walk_at"hp"))|((with_reducible refine' NB ?a ?b ?c ?_);(case a=>walk_at"sd");(case b=>walk_at"sd");(case c=>walk_at"sz")))
def jZ (rz ps:List (Str×Int)):Int:=(rz.map fun e=>bH ps e.1).sum
theorem rQ {rz ps:List (Str×Int)}:∀{kvs:List (Key×V)}{l:List (Str×Int)},(kvs.map (·.1)).Nodup->kvs.map (·.1)=(szK l).map (·.1)->(∀e∈l,∀v,(Sum.inr e.1,v)∈kvs->v= .int (bH ps e.1))->kvs.map (·.2)=(l.map fun e=>bH ps e.1).map V.int
 | [],[],_,_,_=>rfl
 | [],_::_,_,h,_=>by cases h
 | _::_,[],_,h,_=>by cases h
 | (k,v)::kvs,e::l,nd,h,hv=>by
  have h1:=(List.cons.inj h).1;have h2:=(List.cons.inj h).2;have nd2:=(List.nodup_cons.mp nd).2;have ih:=rQ (rz:=rz) (ps:=ps) (kvs:=kvs) (l:=l) nd2 h2 fun e' he' v' hv'=>hv e' (List.mem_cons_of_mem _ he') v' (List.mem_cons_of_mem _ hv');have hk:k= .inr e.1:=h1;rw[List.map_cons,List.map_cons,List.map_cons,ih]
  congr 1
  exact hv e (.head _) v (by rw[hk];exact .head _)
inductive oH (C:Addr)(D:bA)(vs:List V)(H:Hp)(Q:VK)(E:XK):Prop
 | mk (h:Addr) (f l:Int) (rz ps:List (Str×Int)) (ds:List aI) (_:vs=[.ref h]) (_:bN C D H h f l rz ps ds) (_:(rz.map (·.1)).Nodup) (_:∀H',Same H H'->Q (.int (jZ rz ps)) H'):oH C D vs H Q E
theorem uJ {C:Addr}{D:bA}{H:Hp}{Q:VK}{E:XK}{h:Addr}{f l:Int}{rz ps:List (Str×Int)}{ds:List aI} (hh:bN C D H h f l rz ps ds) (nr:(rz.map (·.1)).Nodup) (k:∀H',Same H H'->Q (.int (jZ rz ps)) H'):oH C D [.ref h] H Q E:=⟨_,_,_,_,_,_,rfl,hh,nr,k⟩
theorem u7 (m:M K mg):bD P w K mg base CX0 1 m.jN m.jB ["self"] (oH m.aH (aQ P w K mg base (some 1))):=by
 refine m.xW.ok sc_House_total (fun vs H Q E h=> ?_) (fun cdv A outer s H vs Q E hr h=> ?_)
 ·walk_at"g1";obtain⟨h,f,l,rz,ps,ds,rfl,hh,nr,k⟩:=h;walk_at"g2";rfl
 ·walk_at"g1";obtain⟨h,f,l,rz,ps,ds,rfl,hh,nr,k⟩:=h;walk_at"g2";have nd:=sc_House_total.nd;walk_at"hu";have w_dc_House:=m.bF;refine⟨_,(aF (aW (bV (F1 rfl) rfl m.EN y8 (aA (DS (bO (pv 0) rfl)) aB)))),?_⟩;refine aO (σ:=[some (.ref h)]) rfl ?_;walk_at"cx";walk_at"g1";obtain⟨dx,qs,qp,qd,nk,kvs,e1,e2,e3,e4,e5,e6,e7⟩:=hh.ex;walk_at"g2";have ndk:(kvs.map (·.1)).Nodup:=by rw[e4,CC];exact o0 nr
  have hv:kvs.map (·.2)=(rz.map fun e=>bH ps e.1).map V.int:=rQ (rz:=rz) ndk e4 fun e he v hm=>by
   have h1:=mH ndk hm;have h2:=e5 e.1 (List.mem_map.mpr ⟨e,he,rfl⟩);have h3:bP kvs (.inr e.1)=some v:=h1;rw[h2]at h3;exact(Option.some.inj h3).symm
  walk_at"go";refine KN (.inl e3) fun v H1 n1 S1 ev=> ?_;walk_at"go";refine N1 ev (.inl (S1 _ _ e3)) hv ?_;exact k _ S1
theorem mL (m:M K mg):Mc P w K mg base m.aH "total" 1 (oH m.aH (aQ P w K mg base (some 1))):=⟨_,_,_,m.bF.ic.cl,m.vF,m.xV,u7 m⟩
def lO (ds:List aI)(z:Str):List Str:=(ds.filter fun d=>decide (d.2.1=z)).map (·.1)
def lK (ds:List aI)(z:Str):List Str:=(ds.filter fun d=>decide (d.2.2.1= .str z)).map (·.1)
inductive jY (C:Addr)(D:bA)(g:List aI->Str->List Str)(vs:List V)(H:Hp)(Q:VK)(E:XK):Prop
 | mk (h:Addr) (z:Str) (f l:Int) (rz ps:List (Str×Int)) (ds:List aI) (_:vs=[.ref h,.str z]) (_:bN C D H h f l rz ps ds) (_:(rz.map (·.1)).Nodup) (_:z∈rz.map (·.1)) (_:ds.length<=20) (_:(∀d∈ds,fC (rz.map (·.1)) d)) (_:∀p H',H p=none->Same H H'->H' p=some (.lst ((g ds z).map V.str))->Q (.ref p) H'):jY C D g vs H Q E
theorem tN {C:Addr}{D:bA}{g:List aI->Str->List Str}{H:Hp}{Q:VK}{E:XK}{h:Addr}{z:Str}{f l:Int}{rz ps:List (Str×Int)}{ds:List aI} (hh:bN C D H h f l rz ps ds) (nr:(rz.map (·.1)).Nodup) (hz:z∈rz.map (·.1)) (ld:ds.length<=20) (hin:∀d∈ds,fC (rz.map (·.1)) d) (k:∀p H',H p=none->Same H H'->H' p=some (.lst ((g ds z).map V.str))->Q (.ref p) H'):jY C D g [.ref h,.str z] H Q E:=⟨_,_,_,_,_,_,_,rfl,hh,nr,hz,ld,hin,k⟩
theorem pL (m:M K mg):bD P w K mg base CX0 3 m.fY m.gC ["self","room"] (jY m.aH (aQ P w K mg base (some 1)) lO):=by
 refine m.rH.ok sc_House_from_room (fun vs H Q E h=> ?_) (fun cdv A outer s H vs Q E hr h=> ?_)
 ·walk_at"g1";obtain⟨h,z,f,l,rz,ps,ds,rfl,hh,nr,hz,hlen,hin,k⟩:=h;walk_at"g2";rfl
 ·walk_at"g1";obtain⟨h,z,f,l,rz,ps,ds,rfl,hh,nr,hz,hlen,hin,k⟩:=h;walk_at"g2";have nd:=sc_House_from_room.nd;walk_at"hu";have w_dc_House:=m.bF;have w_mc_House_need_room:= @d9 P w K mg base m;refine⟨_,(aD (bM (d5 2 hr (pv 0) (aA (pv 1) aB)))
   (aF (aW (qI (dD (N:=["name","door","room"]) (nl:=2) (ci:=[1]) rfl (blk (s.heap.objs.size+1) rfl rfl rfl (by kernel_rfl)) (v8 (bO (pv 0) rfl)) (fun _ _ _ _=>(g0 (K:=K) (n:=2) rfl (aY (aM (i:=0) (show (["name","door","room"]:List Str).Nodup by decide +kernel) rfl (by walk_at"oi")) (aY (aM (i:=1) (show (["name","door","room"]:List Str).Nodup by decide +kernel) rfl (by walk_at"oi")) dE)))) (fun _ _ _ _=>(tR (bL oG (uZ (K:=K) (pv 1) rfl) (pv 2) (bC _)))) (fun _ _ _ _=>(pv 0))))))),?_⟩
  refine aO (σ:=[some (.ref h),some (.str z)]) rfl ?_;walk_at"cx";walk_at"g1";obtain⟨dx,qs,qp,qd,nk,kvs,e1,e2,e3',e4',e5',e6,e7⟩:=hh.ex;walk_at"g2";walk_at"go";refine iX hh nr hz fun H1 S1=> ?_;have e31:=S1 _ _ e6;have e11:=S1 _ _ e1;walk_at"go";refine oA e31 tF ?_;walk_at"go";refine wL e31 fun o H2 B2 e32=> ?_;have hn2:jQ (aQ P w K mg base (some 1)) H2 nk ds:=Paired.imp' (fun e d h=>⟨h.1,(aQ P w K mg base (some 1)).but ((aQ P w K mg base (some 1)).same h.2 S1) e31 trivial B2⟩) e7;refine BY (α:=aI) (xs:=ds) (fun e d=>e.1= .inr d.1/\(aQ P w K mg base (some 1)).at' H2 e.2 d) (fun d=>decide (d.2.1=z)) (fun d y _=>y= .str d.1) (fun _ _ _ _ h _=>h) (by rw[sizeLine_eq];lia) (rest:=[some (.str z)]) (by rfl) e32 hn2 ?_ ?_ ?_
  ·rintro ⟨kk,v⟩ ⟨n,st,e,lt⟩ H3 ⟨h1,h2⟩ hm s3 R hR;walk_at"g1";obtain⟨q,C9,dx,fs,fp,h3,hq,dcC,l1,l2,l3,l4,l5,mcE,hfp,hlt⟩:=DoorAt.ex h2;walk_at"g2";cases h1;have h3:v= .ref q:=h3;subst h3;have hq:=s3 _ _ hq;show (_:TT) (some (V.str n)::some (V.ref q)::[some (.str z)]) H3 R;walk_at"go";exact hR _ (Same.refl _)
  ·rintro ⟨kk,v⟩ ⟨n,st,e,lt⟩ H3 ⟨h1,h2⟩ hm - s3 R hR;cases h1;show (_:TE) (some (V.str n)::some v::[some (.str z)]) H3 R;walk_at"go";exact hR _ _ rfl (Same.refl _)
  intro ys H3 s3 hys;have ey:=eA hys;walk_at"go";rename_i p H4 n4 S4 e4;refine i3 (S4 _ _ (s3 _ _ e32)) fun H5 B5 e5=> ?_;have hpq:p≠qd:=fun z=>by rw[z,s3 _ _ e32]at n4;cases n4
  have hn:H p=none:=by
   cases hq:H p with
   | none=>rfl
   | some u =>
    have:=s3 _ _ (B2 _ _ (S1 _ _ hq) hpq);rw[n4]at this;cases this
  walk_at"go";refine k p H5 hn (lQ e6 (fun x u hx hxa=>B2 _ _ (S1 _ _ hx) hxa) (Same.but (s3.trans S4)) B5 e5) ?_;have:=B5 _ _ e4 hpq;rw[this,ey];unfold lO;rw[List.map_map];rfl
theorem pW (m:M K mg):Mc P w K mg base m.aH "from_room" 3 (jY m.aH (aQ P w K mg base (some 1)) lO):=⟨_,_,_,m.bF.ic.cl,m.p0,m.rG,pL m⟩
theorem xI (m:M K mg):bD P w K mg base CX0 3 m.kM m.kN ["self","room"] (jY m.aH (aQ P w K mg base (some 1)) lK):=by
 refine m.AK.ok sc_House_into (fun vs H Q E h=> ?_) (fun cdv A outer s H vs Q E hr h=> ?_)
 ·walk_at"g1";obtain⟨h,z,f,l,rz,ps,ds,rfl,hh,nr,hz,hlen,hin,k⟩:=h;walk_at"g2";rfl
 ·walk_at"g1";obtain⟨h,z,f,l,rz,ps,ds,rfl,hh,nr,hz,hlen,hin,k⟩:=h;walk_at"g2";have nd:=sc_House_into.nd;walk_at"hu";have w_dc_House:=m.bF;have w_mc_House_need_room:= @d9 P w K mg base m;refine⟨_,(aD (bM (d5 2 hr (pv 0) (aA (pv 1) aB)))
   (aF (aW (qI (dD (N:=["name","door","room"]) (nl:=2) (ci:=[1]) rfl (blk (s.heap.objs.size+1) rfl rfl rfl (by kernel_rfl)) (v8 (bO (pv 0) rfl)) (fun _ _ _ _=>(g0 (K:=K) (n:=2) rfl (aY (aM (i:=0) (show (["name","door","room"]:List Str).Nodup by decide +kernel) rfl (by walk_at"oi")) (aY (aM (i:=1) (show (["name","door","room"]:List Str).Nodup by decide +kernel) rfl (by walk_at"oi")) dE)))) (fun _ _ _ _=>(tR (bL oG (uZ (K:=K) (pv 1) rfl) (pv 2) (bC _)))) (fun _ _ _ _=>(pv 0))))))),?_⟩
  refine aO (σ:=[some (.ref h),some (.str z)]) rfl ?_;walk_at"cx";walk_at"g1";obtain⟨dx,qs,qp,qd,nk,kvs,e1,e2,e3',e4',e5',e6,e7⟩:=hh.ex;walk_at"g2";walk_at"go";refine iX hh nr hz fun H1 S1=> ?_;have e31:=S1 _ _ e6;have e11:=S1 _ _ e1;walk_at"go";refine oA e31 tF ?_;walk_at"go";refine wL e31 fun o H2 B2 e32=> ?_;have hn2:jQ (aQ P w K mg base (some 1)) H2 nk ds:=Paired.imp' (fun e d h=>⟨h.1,(aQ P w K mg base (some 1)).but ((aQ P w K mg base (some 1)).same h.2 S1) e31 trivial B2⟩) e7;refine BY (α:=aI) (xs:=ds) (fun e d=>e.1= .inr d.1/\(aQ P w K mg base (some 1)).at' H2 e.2 d) (fun d=>decide (d.2.2.1= .str z)) (fun d y _=>y= .str d.1) (fun _ _ _ _ h _=>h) (by rw[sizeLine_eq];lia) (rest:=[some (.str z)]) (by rfl) e32 hn2 ?_ ?_ ?_
  ·rintro ⟨kk,v⟩ ⟨n,st,e,lt⟩ H3 ⟨h1,h2⟩ hm s3 R hR;walk_at"g1";obtain⟨q,C9,dx,fs,fp,h3,hq,dcC,l1,l2,l3,l4,l5,mcE,hfp,hlt⟩:=DoorAt.ex h2;walk_at"g2";cases h1;have h3:v= .ref q:=h3;subst h3;have hq:=s3 _ _ hq;have hend:=(hin _ hm).2;have hR':=hR _ (Same.refl _);show (_:TT) (some (V.str n)::some (V.ref q)::[some (.str z)]) H3 R;rcases hend with hend|⟨y,hend,hy⟩
   ·have hde:e= .non:=hend;subst hde;rw[show decide (((n,st,V.non,lt):aI).2.2.1= .str z)=false from decide_eq_false fun z=>nomatch z]at hR';walk_at"go";exact hR'
   ·have hde:e= .str y:=hend;subst hde;rw[show decide (((n,st,V.str y,lt):aI).2.2.1= .str z)=decide (y=z) by
     by_cases h:y=z
     ·rw[decide_eq_true h];exact decide_eq_true (by rw[h])
     ·rw[decide_eq_false h];exact decide_eq_false fun x=>h (V.str.inj x)]at hR'
    walk_at"go";exact hR'
  ·rintro ⟨kk,v⟩ ⟨n,st,e,lt⟩ H3 ⟨h1,h2⟩ hm - s3 R hR;cases h1;show (_:TE) (some (V.str n)::some v::[some (.str z)]) H3 R;walk_at"go";exact hR _ _ rfl (Same.refl _)
  intro ys H3 s3 hys;have ey:=eA hys;walk_at"go";rename_i p H4 n4 S4 e4;refine i3 (S4 _ _ (s3 _ _ e32)) fun H5 B5 e5=> ?_;have hpq:p≠qd:=fun z=>by rw[z,s3 _ _ e32]at n4;cases n4
  have hn:H p=none:=by
   cases hq:H p with
   | none=>rfl
   | some u =>
    have:=s3 _ _ (B2 _ _ (S1 _ _ hq) hpq);rw[n4]at this;cases this
  walk_at"go";refine k p H5 hn (lQ e6 (fun x u hx hxa=>B2 _ _ (S1 _ _ hx) hxa) (Same.but (s3.trans S4)) B5 e5) ?_;have:=B5 _ _ e4 hpq;rw[this,ey];unfold lK;rw[List.map_map];rfl
theorem xG (m:M K mg):Mc P w K mg base m.aH "into" 3 (jY m.aH (aQ P w K mg base (some 1)) lK):=⟨_,_,_,m.bF.ic.cl,m.yA,m.A4,xI m⟩
def pQ (f l:Int)(d:aI)(t:Int):Int:=if f<=t/\t<l then d.2.2.2 t else 0
inductive oF (C:Addr)(D:bA)(vs:List V)(H:Hp)(Q:VK)(E:XK):Prop
 | mk (h:Addr) (d:aI) (t f l:Int) (rz ps:List (Str×Int)) (ds:List aI) (_:vs=[.ref h,.str d.1,.int t]) (_:bN C D H h f l rz ps ds) (_:(ds.map (·.1)).Nodup) (_:d∈ds) (_:0<=f) (_:∀H',Same H H'->Q (.int (pQ f l d t)) H'):oF C D vs H Q E
theorem CO {C:Addr}{D:bA}{H:Hp}{Q:VK}{E:XK}{h:Addr}{d:aI}{t f l:Int}{rz ps:List (Str×Int)}{ds:List aI} (hh:bN C D H h f l rz ps ds) (nd:(ds.map (·.1)).Nodup) (hd:d∈ds) (hf:0<=f) (k:∀H',Same H H'->Q (.int (pQ f l d t)) H'):oF C D [.ref h,.str d.1,.int t] H Q E:=⟨_,_,_,_,_,_,_,_,rfl,hh,nd,hd,hf,k⟩
theorem xO (m:M K mg):bD P w K mg base CX0 3 m.k6 m.kT ["self","name","turn"] (oF m.aH (aQ P w K mg base (some 1))):=by
 refine m.AT.ok sc_House_lets (fun vs H Q E h=> ?_) (fun cdv A outer s H vs Q E hr h=> ?_)
 ·walk_at"g1";obtain⟨h,d,t,f,l,rz,ps,ds,rfl,hh,ndd,hd,hf,k⟩:=h;walk_at"g2";rfl
 ·walk_at"g1";obtain⟨h,d,t,f,l,rz,ps,ds,rfl,hh,ndd,hd,hf,k⟩:=h;walk_at"g2";have nd:=sc_House_lets.nd;walk_at"hu";have w_dc_House:=m.bF;have w_mc_House_door:= @oN P w K mg base m;refine⟨_,(aD (aX (i:=3) nd rfl (by walk_at"oi") (d5 1 hr (pv 0) (aA (pv 1) aB)))
   (aD (cG (PW.pt (nM (bL qV (pv 2) (bO (pv 0) rfl) (bC _)) (kE (bL LQ (pv 2) (bO (pv 0) rfl) (bC _))))) (aF (aW aE)) bU)
   (aF (aW (d5 1 hr (pv 3) (aA (pv 2) aB)))))),?_⟩
  refine aO (σ:=[some (.ref h),some (.str d.1),some (.int t),none]) rfl ?_;walk_at"cx";walk_at"g1";obtain⟨dx,qs,qp,qd,nk,kvs,e1,_⟩:=hh.ex;walk_at"g2";walk_at"g1";obtain⟨n,st,e,lt⟩:=d;walk_at"g2";walk_at"go";refine y6 (d:=(n,st,e,lt)) hh ndd hd fun v hv=> ?_;walk_at"g1";obtain⟨q2,C2,dx2,fs2,fp2,rfl,hq2,dcC,l1,l2,l3,l4,l5,mcE,hfp,hlt⟩:=DoorAt.ex hv;walk_at"g2";obtain⟨sp,mcL,hsp⟩:=hlt _ rfl;walk_at"go";refine i5 (fun hc=> ?_) (fun hc=> ?_)
  ·have hk:pQ f l (n,st,e,lt) t=0:=by unfold pQ;rw[if_neg (by lia)]
   rw[hk]at k;walk_at"go";exact k _ (Same.refl _)
  ·walk_at"go";refine i5 (fun hc2=> ?_) (fun hc2=> ?_)
   ·have hk:pQ f l (n,st,e,lt) t=0:=by unfold pQ;rw[if_neg (by lia)]
    rw[hk]at k;walk_at"go";exact k _ (Same.refl _)
   ·have hk:pQ f l (n,st,e,lt) t=lt t:=by unfold pQ;rw[if_pos (by lia)]
    rw[hk]at k;walk_at"go";exact hsp _ _ _ hq2 (fun x hx=>(hfp x hx).1) (by lia) k
theorem xC (m:M K mg):Mc P w K mg base m.aH "lets" 3 (oF m.aH (aQ P w K mg base (some 1))):=⟨_,_,_,m.bF.ic.cl,m.xR,m.AN,xO m⟩
theorem QB {x:Str}{b n:Nat} (hx:x.cps.toList=List.range' b n) {i:Int} (h0:0<=i) (h1:i<n):atI x.cps.toList i=some (b+i.toNat):=by
 have e:=mU (xs:=x.cps.toList) (j:=i.toNat) (v:=b+i.toNat) (by rw[hx,List.getElem?_range' (by lia)];simp);rw[show ((i.toNat:Nat):Int)=i by lia]at e;exact e
theorem M3 {x:Str}{b n:Nat} (hx:x.cps.toList=List.range' b n) (hl:fW x=true) {i:Nat} (h1:i<n):fW ⟨#[b+i]⟩=true:=by
 refine zR hl ?_;rw[hx,List.mem_range'_1]
 lia
theorem zB {α β γ:Type}{F:α->γ->Prop} (g:β->γ):∀{l:List β}{m:List α},Paired (fun x y=>F y (g x)) l m->Paired F m (l.map g)
 | _,_,.nil=> .nil
 | _,_,.cons r t=> .cons r (zB g t)
theorem P5 {H:Hp}{Q:VK}{p:Addr}{xs:List V}{j:Nat}{v:V} (e:SqL K H p xs) (hx:xs[j]? =some v) (h:Q v H):DG K (.ref p) (.int (j:Int)) H Q:=⟨p,xs,_,v,rfl,rfl,e,mU hx,h⟩
theorem rZ {H:Hp}{ws:List V}{rz:List (Str×Int)} (hr:Paired (bJ H) ws rz) {v:V} (hv:v∈ws):∃z i q,v= .ref q/\H q=some (.tup [.str z,.int i])/\(z,i)∈rz:=by
 walk_at"g1";obtain⟨e,he,q,rfl,hq⟩:=m9 hr hv;walk_at"g2";exact⟨e.1,e.2,q,rfl,hq,he⟩
def nY (ns:List Int)(k:Int):Int:=ns.getD k.toNat 0
inductive qU (K:W.Frag)(vs:List V)(H:Hp)(Q:VK)(E:XK):Prop
 | mk (a:Addr) (ns:List Int) (k:Int) (_:vs=[.ref a,.int k]) (_:SqL K H a (ns.map V.int)) (_:0<=k) (_:Q (.int (nY ns k)) H):qU K vs H Q E
theorem RL {H:Hp}{Q:VK}{E:XK}{a:Addr}{ns:List Int}{i:Int} (hS:SqL K H a (ns.map V.int)) (hi:0<=i) (h:Q (.int (nY ns i)) H):qU K [.ref a,.int i] H Q E:=⟨_,_,_,rfl,hS,hi,h⟩
theorem tO (m:M K mg):bD P w K mg base CX0 1 m.iP m.iN ["_law_script","_law_k"] (qU K):=by
 refine m.bS.ok sc__law_cell_at (fun vs H Q E h=> ?_) (fun cdv A outer s H vs Q E hr h=> ?_)
 ·walk_at"g1";obtain⟨a,ns,i,rfl,hS,hi,k⟩:=h;walk_at"g2";rfl
 ·walk_at"g1";obtain⟨a,ns,i,rfl,hS,hi,k⟩:=h;walk_at"g2";have nd:=sc__law_cell_at.nd;walk_at"hu";refine⟨_,(aD (cG (bL qV (pv 1) (bV i4 rfl m.q0 mN (aA (pv 0) aB)) (bC _)) (aF (aW (eL hG (pv 0) (pv 1) (fun _ _=>rfl)))) bU)
   (aF (aW aE))),?_⟩
  refine aO (σ:=[some (.ref a),some (.int i)]) rfl ?_;walk_at"cx";walk_at"go";rw[List.length_map];refine i5 (fun h1=> ?_) (fun h1=> ?_)
  ·have hlt:i.toNat<ns.length:=by lia
   have e:=mU (xs:=ns.map V.int) (j:=i.toNat) (v:= .int (nY ns i)) (by
    rw[List.getElem?_map,List.getElem?_eq_getElem hlt];unfold nY;rw[List.getD_eq_getElem?_getD,List.getElem?_eq_getElem hlt];rfl)
   rw[show ((i.toNat:Nat):Int)=i by lia]at e;exact⟨_,rfl,_,rfl,a,_,i,_,rfl,rfl,hS,e,k⟩
  ·have e:nY ns i=0:=by
    unfold nY;rw[List.getD_eq_getElem?_getD,List.getElem?_eq_none (by lia)];rfl
   rw[e]at k;exact k
theorem tJ (m:M K mg):Fc P w K mg base "_law_cell_at" 1 ["_law_script","_law_k"] (qU K):=⟨_,_,m.vP,m.bS.kp,m.vQ,tO m⟩
inductive nT (vs:List V)(H:Hp)(Q:VK)(E:XK):Prop
 | mk (c k:Int) (_:vs=[.int c,.int k]) (_:∀n,0<=n->n<2147483648->Q (.int n) H):nT vs H Q E
theorem OO {H:Hp}{Q:VK}{E:XK}{c k:Int} (h:∀n,0<=n->n<2147483648->Q (.int n) H):nT [.int c,.int k] H Q E:=⟨_,_,rfl,h⟩
theorem wZ (m:M K mg):bD P w K mg base CX0 1 m.lG m.kP ["_law_cell","_law_k"] (nT):=by
 refine m.iB.ok sc__law_drawn (fun vs H Q E h=> ?_) (fun cdv A outer s H vs Q E hr h=> ?_)
 ·walk_at"g1";obtain⟨c,j,rfl,k⟩:=h;walk_at"g2";rfl
 ·walk_at"g1";obtain⟨c,j,rfl,k⟩:=h;walk_at"g2";have nd:=sc__law_drawn.nd;walk_at"hu";refine⟨_,(aD (aX (i:=2) nd rfl (by walk_at"oi") (aG bT (aG uC (aG d0 (aG d0 (pv 0) (aG uC aE (pv 1))) aE) aE) aE))
   (aD (aX (i:=2) nd rfl (by walk_at"oi") (aG bT (aG uC (pv 2) (aG d0 (aG cD (pv 2) aE) aE)) aE))
   (aF (aW (aG bT (aG uC (pv 2) (aG d0 (aG cD (pv 2) aE) aE)) aE))))),?_⟩
  refine aO (σ:=[some (.int c),some (.int j),none]) rfl ?_;walk_at"cx";walk_at"go";refine k _ ?_ ?_
  ·exact Int.emod_nonneg _ (by decide)
  ·exact Int.lt_trans (Int.emod_lt_of_pos _ (by decide)) (by decide)
theorem w5 (m:M K mg):Fc P w K mg base "_law_drawn" 1 ["_law_cell","_law_k"] (nT):=⟨_,_,m.AO,m.iB.kp,m.A5,wZ m⟩
local macro_rules| `(tactic| walk_at"rd1")=> `(tactic| first|((with_reducible refine' RL ?e ?s ?_);(case e=>walk_at"hp");(case s=>walk_at"sd"))|((with_reducible refine OO ?_);intro n' h0' h1'))
local macro_rules| `(tactic| walk_at"rd1")=> `(tactic| ((with_reducible refine' N6 ?s ?r ?_);(case s=>decide);(case r=>decide)))
inductive nO (K:W.Frag)(vs:List V)(H:Hp)(Q:VK)(E:XK):Prop
 | mk (c n wy:Int) (_:vs=[.int c,.int n,.int wy]) (_:0<=n) (_:n<=1000) (_:∀p (ns:List Int) H',H p=none->Same H H'->H' p=some (.lst (ns.map V.int))->ns.length=n.toNat->(∀x∈ns,0<=x/\x<1000000000000)->Q (.ref p) H'):nO K vs H Q E
theorem qZ {H:Hp}{Q:VK}{E:XK}{c n wy:Int} (h0:0<=n) (h1:n<=1000) (k:∀p (ns:List Int) H',H p=none->Same H H'->H' p=some (.lst (ns.map V.int))->ns.length=n.toNat->(∀x∈ns,0<=x/\x<1000000000000)->Q (.ref p) H'):nO K [.int c,.int n,.int wy] H Q E:=⟨_,_,_,rfl,h0,h1,k⟩
theorem xJ (m:M K mg):bD P w K mg base CX0 2 m.lB m.k8 ["_law_cell","_law_many","_law_way"] (nO K):=by
 refine m.b9.ok sc__law_draws (fun vs H Q E h=> ?_) (fun cdv A outer s H vs Q E hr h=> ?_)
 ·walk_at"g1";obtain⟨c,n,wy,rfl,h0,h1,k⟩:=h;walk_at"g2";rfl
 ·walk_at"g1";obtain⟨c,n,wy,rfl,h0,h1,k⟩:=h;walk_at"g2";have nd:=sc__law_draws.nd;walk_at"hu";have iB:= @w5 P w K mg base m;refine⟨_,(aD (aX (i:=3) nd rfl (by walk_at"oi") (d8 aB))
   (aD (d4 PassesOwn.never rfl (wI rfl m.vN (aA (pv 1) aB)) (aM (i:=4) nd rfl (by walk_at"oi")) (aF (cG (bL oG (aG bT (pv 2) aE) aE (bC _)) (aD (bM (jP PySem.F.plainAttrs_list PySem.F.slot_list_append PySem.F.type_list_append dC (pv 3) (aA (aG bT (pv 0) (qT 1000000000000 (by decide) ⟨by decide,by decide,by decide⟩)) aB)))
   (aF (aX (i:=0) nd rfl (by walk_at"oi") (aG IE (pv 0) (qT 1000000000000 (by decide) ⟨by decide,by decide,by decide⟩))))) (aF (bM (jP PySem.F.plainAttrs_list PySem.F.slot_list_append PySem.F.type_list_append dC (pv 3) (aA (b5 iB hr (aA (pv 0) (aA (pv 4) aB))) aB)))))))
   (aF (aW (pv 3))))),?_⟩
  refine aO (σ:=[some (.int c),some (.int n),some (.int wy),none,none]) rfl ?_;walk_at"cx";walk_at"go";rename_i p H1 n1 S1 e1;let Pv1:Nat->St->Hp->Prop:=fun i σ' H'=>SameBut p H1 H'/\(∃ns:List Int,H' p=some (.lst (ns.map V.int))/\ns.length=i/\∀x∈ns,0<=x/\x<1000000000000)/\∃c' x,σ'=[some (.int c'),some (.int n),some (.int wy),some (.ref p),x];refine CN Pv1 ⟨SameBut.refl,⟨[],e1,rfl,(fun _ z=>nomatch z)⟩,_,_,rfl⟩ ?_ ?_
  ·rintro i _ H' hi hq_;walk_at"g1";obtain⟨sb,⟨ns,ek,hl,hb⟩,c',x,rfl⟩:=hq_;walk_at"g2";walk_at"go";refine i5 (fun hc=> ?_) (fun hc=> ?_)
   ·walk_at"go";refine d7 ek (by rw[sizeLine_eq,List.length_map];lia) fun H2 B2 e2=> ?_;walk_at"go";refine⟨sb.trans B2,⟨ns++[_],by rw[e2,List.map_append];rfl,by rw[List.length_append,hl];rfl,fun x hx=> ?_⟩,_,_,rfl⟩;rcases List.mem_append.mp hx with hx|hx
    ·exact hb x hx
    ·rw[List.mem_singleton.mp hx];exact⟨Int.emod_nonneg _ (by decide),Int.emod_lt_of_pos _ (by decide)⟩
   ·walk_at"go";rename_i d hd0 hd1;refine d7 ek (by rw[sizeLine_eq,List.length_map];lia) fun H2 B2 e2=> ?_;walk_at"go";refine⟨sb.trans B2,⟨ns++[d],by rw[e2,List.map_append];rfl,by rw[List.length_append,hl];rfl,fun x hx=> ?_⟩,_,_,rfl⟩;rcases List.mem_append.mp hx with hx|hx
    ·exact hb x hx
    ·rw[List.mem_singleton.mp hx];lia
  ·rintro _ H' hq_;walk_at"g1";obtain⟨sb,⟨ns,ek,hl,hb⟩,c',x,rfl⟩:=hq_;walk_at"g2";walk_at"go";exact k _ _ _ n1 (SameBut.same n1 S1 sb) ek (by lia) hb
theorem gI (m:M K mg):Fc P w K mg base "_law_draws" 2 ["_law_cell","_law_many","_law_way"] (nO K):=⟨_,_,m.AI,m.b9.kp,m.A1,xJ m⟩
def L8:List Nat:=[98,99,100,102,103,104,106,107]
theorem vX:("bcdfghjk" :Str).cps.toList=L8:=by decide +kernel
theorem VD:fW "bcdfghjk" =true:=by decide +kernel
theorem VA:fW "d" =true:=by decide +kernel
theorem DM:("o" :Str)=⟨#[111]⟩:=by apply BN;decide +kernel
theorem RS:∀i,i<8->L8.getD i 0∈L8:=by decide
theorem TX:∀n,n<9->((List.range n).map fun j:Nat=>some (L8.getD j 0)).Nodup:=by decide
theorem NG {i:Nat}(h:i<8):atI ("bcdfghjk" :Str).cps.toList (i:Int)=some (L8.getD i 0):=by
 refine mU ?_;rw[vX,List.getD_eq_getElem?_getD,List.getElem?_eq_getElem (show i<L8.length from h)];rfl
theorem JT (n:Nat):fW (gM ("o" :Str) n)=true:=by
 unfold fW;rw[DM,yZ,List.all_eq_true];intro c hc;rw[List.eq_of_mem_replicate hc];decide
def rnF (i:Nat)(m:Int):Str:=⟨#[L8.getD i 0]⟩++gM ("o" :Str) m.toNat
theorem PZ {i:Nat}{m:Int} (hi:i<8) (h0:0<=m) (h1:m<7):bQ (rnF i m)=true:=by
 have hl:(gM ("o" :Str) m.toNat).length=m.toNat:=by rw[DM,pJ]
 have h1':(⟨#[L8.getD i 0]⟩:Str).length=1:=rfl;unfold rnF;refine yO ?_ ?_ (yS (zR VD (by rw[vX];exact RS i hi)) (JT _))
 ·rw[eG];lia
 ·rw[eG];lia
theorem IM (i:Nat)(m:Int):(rnF i m).cps.toList.head? =some (L8.getD i 0):=by unfold rnF;rw[lZ];rfl
theorem BE {rz:List (Str×Int)}{n:Nat} (hn:n<9) (h:rz.map (fun e=>e.1.cps.toList.head?)=(List.range n).map fun j:Nat=>some (L8.getD j 0)):(rz.map (·.1)).Nodup:=by
 have h1:=TX n hn;rw[←h,List.Nodup,List.pairwise_map]at h1;rw[List.Nodup,List.pairwise_map];exact h1.imp fun hne z=>hne (by rw[z])
structure iL (rz:List (Str×Int)):Prop where
 nr:(rz.map (·.1)).Nodup
 ok:∀e∈rz,bQ e.1=true/\0<=e.2
 l0:1<=rz.length
 l1:rz.length<=8
inductive lM (vs:List V)(H:Hp)(Q:VK)(E:XK):Prop
 | mk (c wy:Int) (_:vs=[.int c,.int wy]) (_:∀p ws rz H',H p=none->Same H H'->H' p=some (.lst ws)->RoomsAt H' ws rz->iL rz->Q (.ref p) H'):lM vs H Q E
theorem IO {H:Hp}{Q:VK}{E:XK}{c wy:Int} (k:∀p ws rz H',H p=none->Same H H'->H' p=some (.lst ws)->RoomsAt H' ws rz->iL rz->Q (.ref p) H'):lM [.int c,.int wy] H Q E:=⟨_,_,rfl,k⟩
theorem wV (m:M K mg):bD P w K mg base CX0 3 m.kU m.kQ ["_law_cell","_law_way"] (lM):=by
 refine m.iE.ok sc__law_rooms (fun vs H Q E h=> ?_) (fun cdv A outer s H vs Q E hr h=> ?_)
 ·walk_at"g1";obtain⟨c0,wy,rfl,k⟩:=h;walk_at"g2";rfl
 ·walk_at"g1";obtain⟨c0,wy,rfl,k⟩:=h;walk_at"g2";have nd:=sc__law_rooms.nd;walk_at"hu";have b9:= @gI P w K mg base m;refine⟨_,(aD (aX (i:=2) nd rfl (by walk_at"oi") (d8 aB))
   (aD (d4 PassesOwn.never rfl (vA rfl m.l7 (aA (b5 b9 hr (aA (aG cD (pv 0) aE) (aA (aG d0 aE (aG bT (pv 0) aE)) (aA (pv 1) aB)))) aB)) (mR (n:=2) rfl (aY (aM (i:=3) nd rfl (by walk_at"oi")) (aY (aM (i:=4) nd rfl (by walk_at"oi")) dE))) (aF (bM (jP PySem.F.plainAttrs_list PySem.F.slot_list_append PySem.F.type_list_append dC (pv 2) (aA (mQ (aA (aG BO (eL FL fQ (pv 3) (fun _ _=>rfl)) (aG NF fQ (aG bT (pv 4) aE))) (aA (aG bT (aG cD (pv 4) aE) (eL hG (d8 (aA aE (aA (qT 100000000000 (by decide) ⟨by decide,by decide,by decide⟩) aB))) (aG bT (aG cD (pv 4) aE) aE) (fun _ _=>rfl))) aB))) aB)))))
   (aF (aW (pv 2))))),?_⟩
  refine aO (σ:=[some (.int c0),some (.int wy),none,none,none]) rfl ?_;walk_at"cx";have hl8:("bcdfghjk" :Str).length=8:=by rw[bR];rfl
  have hlo:("o" :Str).length=1:=by rw[bR];rfl
  walk_at"go";rename_i p H1 n1 S1 e1;refine qZ (by lia) (by lia) fun pd dn H2 n2 S2 e2 hl2 hb2=> ?_;have e12:=S2 _ _ e1;have hpd:pd≠p:=fun z=>by rw[z,e1]at n2;cases n2
  have fr:∀x u,H x=some u->x≠p:=fun x u hx z=>by rw[z,n1]at hx;cases hx
  walk_at"go";let Pv1:Nat->St->Hp->Prop:=fun i σ' H'=>SameBut p H2 H'/\(∃ws rz,H' p=some (.lst ws)/\RoomsAt H' ws rz/\(rz.map (fun e=>e.1.cps.toList.head?)=(List.range i).map fun j:Nat=>some (L8.getD j 0))/\(∀e∈rz,bQ e.1=true/\0<=e.2))/\i<=dn.length/\∃x y,σ'=[some (.int c0),some (.int wy),some (.ref p),x,y];refine uM (dn.map V.int) Pv1 ⟨SameBut.refl,⟨[],[],e12,.nil,rfl,(fun _ z=>nomatch z)⟩,Nat.zero_le _,_,_,rfl⟩ (fun i σ' H' q=>SqL.of (q.1 _ _ e2 hpd)) ?_ ?_
  ·rintro i x _ G q G1 hx ⟨sb,⟨ws,rz,eu,hra,hnm,hok⟩,hil,x1,x2,rfl⟩ hq sG eq;have hi:i<(dn.map V.int).length:=(List.getElem?_eq_some_iff.mp hx).1;rw[List.length_map]at hi;rw[List.getElem?_map]at hx;obtain⟨c,hc,rfl⟩:=Option.map_eq_some_iff.mp hx;have hcb:=hb2 c (List.mem_of_getElem? hc);have euG:=sG _ _ eu;have hwl:ws.length=i:=by
    have h1:rz.length=i:=by rw[←List.length_map (f:=fun e:Str×Int=>e.1.cps.toList.head?),hnm,List.length_map,List.length_range]
    rw[Paired.length hra];exact h1
   have hi8:i<8:=by lia
   walk_at"go";refine⟨_,_,_,rfl,rfl,(by walk_at"sz"),NG hi8,?_⟩;have hsl:(gM ("o" :Str) (c%7).toNat).length=(c%7).toNat:=by rw[DM,pJ]
   walk_at"go";rename_i p6 H6 n6 S6 e6 vv hvv hv0 hv1 q8 H8 n8 S8 e8;have eu8:H8 p=some (.lst ws):=S8 _ _ (S6 _ _ euG);refine d7 eu8 (by rw[sizeLine_eq];lia) fun H9 B9 e9=> ?_;have hq8:q8≠p:=fun z=>by rw[z,S6 _ _ euG]at n8;cases n8
   refine⟨(sb.trans (sG.trans (S6.trans S8)).but).trans B9,⟨ws++[.ref q8],rz++[(rnF i (c%7),c/14%vv)],e9,?_,?_,?_⟩,by lia,_,_,rfl⟩
   ·exact L2.Paired.snoc (Paired.imp' (fun w d ⟨q,e,h⟩=>⟨q,e,B9 _ _ (S8 _ _ (S6 _ _ (sG _ _ h))) fun z=>by rw[z,eu]at h;cases h⟩) hra) ⟨q8,rfl,B9 _ _ e8 hq8⟩
   ·rw[List.map_append,hnm,List.range_succ,List.map_append]
    congr 1
    show [(rnF i (c%7)).cps.toList.head?]=_;rw[IM];rfl
   ·intro e he;rcases List.mem_append.mp he with he|he
    ·exact hok e he
    ·cases List.mem_singleton.mp he;exact⟨PZ hi8 (by lia) (by lia),hv0⟩
  ·rintro _ G hq_;walk_at"g1";obtain⟨sb,⟨ws,rz,eu,hra,hnm,hok⟩,hil,x1,x2,rfl⟩:=hq_;walk_at"g2";rw[List.length_map]at hnm;have hnr:=BE (by lia) hnm;have hrl:rz.length=dn.length:=by rw[←List.length_map (f:=fun e:Str×Int=>e.1.cps.toList.head?),hnm,List.length_map,List.length_range]
   have sHG:Same H G:=fun x u hx=>sb _ _ (S2 _ _ (S1 _ _ hx)) (fr x u hx);walk_at"go";exact k _ _ _ _ n1 sHG eu hra ⟨hnr,hok,by lia,by lia⟩
theorem xD (m:M K mg):Fc P w K mg base "_law_rooms" 3 ["_law_cell","_law_way"] (lM):=⟨_,_,m.AF,m.iE.kp,m.AE,wV m⟩
theorem ME {H:Hp}{p dx:Addr}{n st:Str}{e:V}{wd:Int} (m:M K mg) (h:H p=some (.ins m.eS dx (pD (.str n) (.str st) e (.int wd)))):(aQ P w K mg base (some 1)).at' H (.ref p) (n,st,e,fun _=>wd) :=
 ⟨p,_,dx,_,[],rfl,h,m.mW,by walk_at"lk",by walk_at"lk",by walk_at"lk",by walk_at"lk",by walk_at"lk",tS m,(fun _ z=>nomatch z),fun kl hk=>by
  cases hk;exact⟨_,AA m,fun H' t Q hp _ ht k=>BF hp m.mW (by walk_at"lk") (k _ (Same.refl _))⟩⟩
theorem HS {H:Hp}{p dx:Addr}{n st:Str}{e:V}{wd i0:Int} (m:M K mg) (b0:0<=i0) (h:H p=some (.ins m.fG dx (qE (.str n) (.str st) e (.int wd) (.int i0)))):(aQ P w K mg base (some 1)).at' H (.ref p) (n,st,e,pN wd i0) :=
 ⟨p,_,dx,_,[],rfl,h,m.kI,by walk_at"lk",by walk_at"lk",by walk_at"lk",by walk_at"lk",by walk_at"lk",r9 m,(fun _ z=>nomatch z),fun kl hk=>by
  cases hk;exact⟨_,wW m,fun H' t Q hp _ ht k=>pK hp m.kI (by walk_at"lk") (by walk_at"lk") ht b0 (k _ (Same.refl _))⟩⟩
theorem tM:("abcdefghijklmnopq" :Str).cps.toList=List.range' 97 17:=by decide +kernel
theorem UM:fW "abcdefghijklmnopq" =true:=by decide +kernel
def dnF (i:Nat):Str:=("d" :Str)++⟨#[97+i]⟩
theorem P3 {i:Nat}(hi:i<17):bQ (dnF i)=true:=by
 have h1':(⟨#[97+i]⟩:Str).length=1:=rfl;have h2':("d" :Str).length=1:=by rw[bR];rfl
 unfold dnF;refine yO ?_ ?_ (yS VA (M3 tM UM hi))
 ·rw[eG];lia
 ·rw[eG];lia
theorem OZ {i j:Nat}(h:dnF i=dnF j):i=j:=by
 have h':=congrArg (fun z:Str=>z.cps.toList) h;unfold dnF at h';simp only[lZ]at h';have:=List.append_cancel_left h';have:97+i=97+j:=by simpa using this
 lia
theorem IS (n:Nat):((List.range n).map dnF).Nodup:=by
 rw[List.Nodup,List.pairwise_map];exact(List.nodup_range (n:=n)).imp fun hne z=>hne (OZ z)
structure u4 (rz:List (Str×Int))(ds:List aI):Prop where
 nd:(ds.map (·.1)).Nodup
 hin:∀d∈ds,fC (rz.map (·.1)) d
 ld:ds.length<=16
inductive lP (K:W.Frag)(D:bA)(vs:List V)(H:Hp)(Q:VK)(E:XK):Prop
 | mk (a:Addr) (c f wy:Int) (ws:List V) (rz:List (Str×Int)) (_:vs=[.ref a,.int c,.int f,.int wy]) (_:0<=f) (_:H a=some (.lst ws)) (_:RoomsAt H ws rz) (_:iL rz) (_:∀p us ds H',H p=none->Same H H'->H' p=some (.lst us)->Paired (D.at' H') us ds->u4 rz ds->Q (.ref p) H'):lP K D vs H Q E
theorem HU {D:bA}{H:Hp}{Q:VK}{E:XK}{a:Addr}{c f wy:Int}{ws:List V}{rz:List (Str×Int)} (h0:0<=f) (ha:H a=some (.lst ws)) (hra:RoomsAt H ws rz) (ok:iL rz) (k:∀p us ds H',H p=none->Same H H'->H' p=some (.lst us)->Paired (D.at' H') us ds->u4 rz ds->Q (.ref p) H'):lP K D [.ref a,.int c,.int f,.int wy] H Q E:=⟨_,_,_,_,_,_,rfl,h0,ha,hra,ok,k⟩
theorem xB (m:M K mg):bD P w K mg base CX0 6 m.kJ m.kR ["_law_rooms_here","_law_cell","_law_first","_law_way"] (lP K (aQ P w K mg base (some 1))):=by
 refine m.iC.ok sc__law_doors (fun vs H Q E h=> ?_) (fun cdv A outer s H vs Q E hr h=> ?_)
 ·walk_at"g1";obtain⟨a,c0,f,wy,ws,rz,rfl,hf0,ha,hra,rok,k⟩:=h;walk_at"g2";rfl
 ·walk_at"g1";obtain⟨a,c0,f,wy,ws,rz,rfl,hf0,ha,hra,rok,k⟩:=h;walk_at"g2";have nd:=sc__law_doors.nd;walk_at"hu";have b9:= @gI P w K mg base m;have K_Door_0:= @GI P w K mg base m;have K_Since_0:= @D1 P w K mg base m;have w_dc_Door:=m.mW;have w_dc_Since:=m.kI;refine⟨_,(aD (aX (i:=4) nd rfl (by walk_at"oi") (d8 aB))
   (aD (d4 PassesOwn.never rfl (vA rfl m.l7 (aA (b5 b9 hr (aA (aG cD (pv 1) aE) (aA (aG bT (pv 1) aE) (aA (pv 3) aB)))) aB)) (mR (n:=2) rfl (aY (aM (i:=5) nd rfl (by walk_at"oi")) (aY (aM (i:=6) nd rfl (by walk_at"oi")) dE))) (aD (aX (i:=7) nd rfl (by walk_at"oi") (eL mG (eL hG (pv 0) (aG bT (pv 6) (bV i4 rfl m.q0 mN (aA (pv 0) aB))) (fun _ _=>rfl)) aE (fun _ _=>rfl)))
   (aD (aX (i:=8) nd rfl (by walk_at"oi") (eL hG (d8 (aA zH (aA (eL mG (eL hG (pv 0) (aG bT (aG cD (pv 6) aE) (bV i4 rfl m.q0 mN (aA (pv 0) aB))) (fun _ _=>rfl)) aE (fun _ _=>rfl)) aB))) (aG bT (aG cD (pv 6) aE) aE) (fun _ _=>rfl)))
   (aD (aX (i:=9) nd rfl (by walk_at"oi") (aG BO fQ (eL FL fQ (pv 5) (fun _ _=>rfl))))
   (aF (cG (bL oG (aG bT (aG cD (pv 6) aE) aE) aE (bC _)) (aF (bM (jP PySem.F.plainAttrs_list PySem.F.slot_list_append PySem.F.type_list_append dC (pv 4) (aA (tG K_Door_0 hr (aA (pv 9) (aA (pv 7) (aA (pv 8) (aA (aG bT (aG cD (pv 6) aE) aE) aB))))) aB)))) (aF (bM (jP PySem.F.plainAttrs_list PySem.F.slot_list_append PySem.F.type_list_append dC (pv 4) (aA (tG K_Since_0 hr (aA (pv 9) (aA (pv 7) (aA (pv 8) (aA (aG bT (aG cD (pv 6) aE) aE) (aA (aG d0 (aG d0 (pv 2) aE) (aG bT (aG cD (pv 6) aE) aE)) aB)))))) aB))))))))))
   (aF (aW (pv 4))))),?_⟩
  refine aO (σ:=[some (.ref a),some (.int c0),some (.int f),some (.int wy),none,none,none,none,none,none]) rfl ?_;walk_at"cx";have hl17:("abcdefghijklmnopq" :Str).length=17:=by rw[bR];rfl
  have hld:("d" :Str).length=1:=by rw[bR];rfl
  walk_at"g1";obtain⟨hnr,hok,hr0,hr8⟩:=id rok;walk_at"g2";have hwl:ws.length=rz.length:=Paired.length hra;walk_at"go";rename_i p3 H3 n3 S3 e3;refine qZ (by lia) (by lia) fun pe en H4 n4 S4 e4 hl4 hb4=> ?_;have e34:=S4 _ _ e3;have hpe:pe≠p3:=fun z=>by rw[z,e3]at n4;cases n4
  have fr3:∀x u,H x=some u->x≠p3:=fun x u hx z=>by rw[z,n3]at hx;cases hx
  walk_at"go";let Pv1:Nat->St->Hp->Prop:=fun i σ' H'=>SameBut p3 H4 H'/\(∃us ds,H' p3=some (.lst us)/\Paired ((aQ P w K mg base (some 1)).at' H') us ds/\(∀d∈ds,fC (rz.map (·.1)) d)/\ds.map (·.1)=(List.range i).map dnF)/\i<=en.length/\∃x y z u v,σ'=[some (.ref a),some (.int c0),some (.int f),some (.int wy),some (.ref p3),x,y,z,u,v];refine uM (en.map V.int) Pv1 ⟨SameBut.refl,⟨[],[],e34,.nil,(fun _ z=>nomatch z),rfl⟩,Nat.zero_le _,_,_,_,_,_,rfl⟩ (fun i σ' H' q=>SqL.of (q.1 _ _ e4 hpe)) ?_ ?_
  ·rintro i x _ J q J1 hx ⟨sbJ,⟨us,ds,eJ,hud,hds,hdn⟩,hil2,y1,y2,y3,y4,y5,rfl⟩ hq sJ eq;have hi:i<(en.map V.int).length:=(List.getElem?_eq_some_iff.mp hx).1;rw[List.length_map]at hi;rw[List.getElem?_map]at hx;obtain⟨c,hc,rfl⟩:=Option.map_eq_some_iff.mp hx;have hcb:=hb4 c (List.mem_of_getElem? hc);have eJ1:=sJ _ _ eJ;have hul:us.length=i:=by
    have h1:ds.length=i:=by rw[←List.length_map (f:=fun d:aI=>d.1),hdn,List.length_map,List.length_range]
    rw[Paired.length hud];exact h1
   have hi16:i<16:=by lia
   have sGJ:Same H J1:=fun x u hx=>sJ _ _ (sbJ _ _ (S4 _ _ (S3 _ _ hx)) (fr3 x u hx));have euJ:=sGJ _ _ ha;have hraJ:=hra.sm sGJ;walk_at"go";rename_i hm0 hm1;refine pR (SqL.of euJ) hm0 hm1 fun v1 hv1=> ?_;walk_at"g1";obtain⟨z1,j1,q1,rfl,hq1,hz1⟩:=rZ hraJ hv1;walk_at"g2";walk_at"go";refine⟨q1,_,0,_,rfl,rfl,SqT.of hq1,rfl,?_⟩;walk_at"go";rename_i ha0 ha1;refine pR (SqL.of euJ) ha0 ha1 fun v2 hv2=> ?_;walk_at"g1";obtain⟨z2,j2,q2,rfl,hq2,hz2⟩:=rZ hraJ hv2;walk_at"g2";walk_at"go";refine⟨q2,_,0,_,rfl,rfl,SqT.of hq2,rfl,?_⟩;walk_at"go";rename_i pE H5 n5 S5 e5;refine pR (SqL.of e5) (by lia) (by show _<(2:Int);lia) fun v hv=> ?_;have hve:oE v/\(v= .non∨∃z,v= .str z/\z∈rz.map (·.1)):=by
    simp only[List.mem_cons,List.not_mem_nil,or_false]at hv;rcases hv with rfl|rfl
    ·exact⟨.inl rfl,.inl rfl⟩
    ·exact⟨.inr ⟨_,rfl,(hok _ hz2).1⟩,.inr ⟨_,rfl,List.mem_map.mpr ⟨_,hz2,rfl⟩⟩⟩
   obtain⟨hve,hvi⟩:=hve;have hb1:bQ z1=true:=(hok _ hz1).1;have hb0:bQ (("d" :Str)++⟨#[97+((i:Nat):Int).toNat]⟩)=true:=by rw[Int.toNat_natCast];exact P3 (by lia)
   have hi1:(⟨#[97+((i:Nat):Int).toNat]⟩:Str).length=1:=rfl;walk_at"go";refine⟨_,_,_,rfl,rfl,(by walk_at"sz"),QB tM (by lia) (by lia),?_⟩;walk_at"go";refine i5 (fun hcc=> ?_) (fun hcc=> ?_)
   ·walk_at"go";rename_i q8 dx8 H8 n8 S8 e8;have eJ8:H8 p3=some (.lst us):=S8 _ _ (S5 _ _ eJ1);refine d7 eJ8 (by rw[sizeLine_eq];lia) fun H9 B9 e9=> ?_;have hD:=ME (P:=P) (w:=w) (base:=base) m e8;rw[Int.toNat_natCast]at hD;refine⟨(sbJ.trans (sJ.trans (S5.trans S8)).but).trans B9,⟨us++[.ref q8],ds++[(dnF i,z1,v,fun _=>c/256%9)],e9,?_,?_,?_⟩,by lia,_,_,_,_,_,rfl⟩
    ·exact L2.Paired.snoc (Paired.imp' (fun v' d h=>(aQ P w K mg base (some 1)).but ((aQ P w K mg base (some 1)).same h (sJ.trans (S5.trans S8))) eJ8 trivial B9) hud) ((aQ P w K mg base (some 1)).but hD eJ8 trivial B9)
    ·intro d hd;rcases List.mem_append.mp hd with hd|hd
     ·exact hds d hd
     ·cases List.mem_singleton.mp hd;exact⟨List.mem_map.mpr ⟨_,hz1,rfl⟩,hvi⟩
    ·rw[List.map_append,hdn,List.range_succ,List.map_append];rfl
   ·walk_at"go";rename_i q8 dx8 H8 n8 S8 e8;have eJ8:H8 p3=some (.lst us):=S8 _ _ (S5 _ _ eJ1);refine d7 eJ8 (by rw[sizeLine_eq];lia) fun H9 B9 e9=> ?_;have hD:=HS (P:=P) (w:=w) (base:=base) m (by lia) e8;rw[Int.toNat_natCast]at hD;refine⟨(sbJ.trans (sJ.trans (S5.trans S8)).but).trans B9,⟨us++[.ref q8],ds++[(dnF i,z1,v,pN (c/256%9) (f+1+c/2304%4))],e9,?_,?_,?_⟩,by lia,_,_,_,_,_,rfl⟩
    ·exact L2.Paired.snoc (Paired.imp' (fun v' d h=>(aQ P w K mg base (some 1)).but ((aQ P w K mg base (some 1)).same h (sJ.trans (S5.trans S8))) eJ8 trivial B9) hud) ((aQ P w K mg base (some 1)).but hD eJ8 trivial B9)
    ·intro d hd;rcases List.mem_append.mp hd with hd|hd
     ·exact hds d hd
     ·cases List.mem_singleton.mp hd;exact⟨List.mem_map.mpr ⟨_,hz1,rfl⟩,hvi⟩
    ·rw[List.map_append,hdn,List.range_succ,List.map_append];rfl
  ·rintro _ J hq_;walk_at"g1";obtain⟨sbJ,⟨us,ds,eJ,hud,hds,hdn⟩,hil2,y1,y2,y3,y4,y5,rfl⟩:=hq_;walk_at"g2";rw[List.length_map]at hdn;have sGJ:Same H J:=fun x u hx=>sbJ _ _ (S4 _ _ (S3 _ _ hx)) (fr3 x u hx);have hdl:ds.length=en.length:=by rw[←List.length_map (f:=fun d:aI=>d.1),hdn,List.length_map,List.length_range]
   have hnd:(ds.map (·.1)).Nodup:=by rw[hdn];exact IS _
   walk_at"go";exact k _ _ _ _ n3 sGJ eJ hud ⟨hnd,hds,by lia⟩
theorem xN (m:M K mg):Fc P w K mg base "_law_doors" 6 ["_law_rooms_here","_law_cell","_law_first","_law_way"] (lP K (aQ P w K mg base (some 1))):=⟨_,_,m.AG,m.iC.kp,m.AL,xB m⟩
structure yH (rz ps:List (Str×Int)):Prop where
 hpr:∀p∈ps,p.1∈rz.map (·.1)
 ft:j6 rz ps
theorem GR {rz ps:List (Str×Int)}{z:Str}{j mm:Int} (nr:(rz.map (·.1)).Nodup) (h:j6 rz ps) (hz:(z,j)∈rz) (h0:0<=mm) (h1:bH ps z+mm<=j):j6 rz (ps++[(z,mm)]):=by
 refine⟨fun p hp=> ?_,fun e he=> ?_⟩
 ·rcases List.mem_append.mp hp with hp|hp
  ·exact h.1 p hp
  ·cases List.mem_singleton.mp hp;exact h0
 ·rw[pT]
  by_cases hc:z=e.1
  ·have hej:e.2=j:=by
    obtain⟨i,hi,h1⟩:=List.getElem_of_mem hz;obtain⟨k,hk,h2⟩:=List.getElem_of_mem he;rw[List.Nodup,List.pairwise_map]at nr;rcases Nat.lt_trichotomy i k with hik|hik|hik
    ·exact absurd (by rw[h1,h2];exact hc) ((List.pairwise_iff_getElem.mp nr) i k hi hk hik)
    ·subst hik;rw[←h2,h1]
    ·exact absurd (by rw[h1,h2];exact hc.symm) ((List.pairwise_iff_getElem.mp nr) k i hk hi hik)
   rw[if_pos hc,hej,←hc];exact h1
  ·have:=h.2 e he;rw[if_neg hc];lia
inductive qL (K:W.Frag)(vs:List V)(H:Hp)(Q:VK)(E:XK):Prop
 | mk (a:Addr) (c wy:Int) (ws:List V) (rz:List (Str×Int)) (_:vs=[.ref a,.int c,.int wy]) (_:H a=some (.lst ws)) (_:RoomsAt H ws rz) (_:iL rz) (_:∀p cs ps H',H p=none->Same H H'->H' p=some (.lst cs)->Paired (bJ H') cs ps->yH rz ps->ps.length<=12->Q (.ref p) H'):qL K vs H Q E
theorem PU {H:Hp}{Q:VK}{E:XK}{a:Addr}{c wy:Int}{ws:List V}{rz:List (Str×Int)} (ha:H a=some (.lst ws)) (hra:RoomsAt H ws rz) (ok:iL rz) (k:∀p cs ps H',H p=none->Same H H'->H' p=some (.lst cs)->Paired (bJ H') cs ps->yH rz ps->ps.length<=12->Q (.ref p) H'):qL K [.ref a,.int c,.int wy] H Q E:=⟨_,_,_,_,_,rfl,ha,hra,ok,k⟩
theorem vB (m:M K mg):bD P w K mg base CX0 3 m.jJ m.jE ["_law_rooms_here","_law_cell","_law_way"] (qL K):=by
 refine m.gJ.ok sc__law_people (fun vs H Q E h=> ?_) (fun cdv A outer s H vs Q E hr h=> ?_)
 ·walk_at"g1";obtain⟨a,c0,wy,ws,rz,rfl,ha,hra,rok,k⟩:=h;walk_at"g2";rfl
 ·walk_at"g1";obtain⟨a,c0,wy,ws,rz,rfl,ha,hra,rok,k⟩:=h;walk_at"g2";have nd:=sc__law_people.nd;walk_at"hu";have b9:= @gI P w K mg base m;refine⟨_,(aD (aX (i:=3) nd rfl (by walk_at"oi") (d8 aB))
   (aD (aX (i:=4) nd rfl (by walk_at"oi") oJ)
   (aD (d4 PassesOwn.never rfl (cE (b5 b9 hr (aA (aG cD (pv 1) aE) (aA (aG bT (pv 1) aE) (aA (pv 2) aB))))) (aM (i:=5) nd rfl (by walk_at"oi")) (aD (RQ (eL hG (pv 0) (aG bT (pv 5) (bV i4 rfl m.q0 mN (aA (pv 0) aB))) (fun _ _=>rfl)) (mR (n:=2) rfl (aY (aM (i:=6) nd rfl (by walk_at"oi")) (aY (aM (i:=7) nd rfl (by walk_at"oi")) dE))))
   (aD (aX (i:=8) nd rfl (by walk_at"oi") (aG bT (aG cD (pv 5) aE) (aG d0 (aG zV (pv 7) (zT hu1 (pv 4) (pv 6) aE ⟨rfl,rfl,rfl,rfl⟩)) aE)))
   (aD (qO hu1 (pv 4) (pv 6) (aG d0 (zT hu1 (pv 4) (pv 6) aE ⟨rfl,rfl,rfl,rfl⟩) (pv 8)) rfl)
   (aF (bM (jP PySem.F.plainAttrs_list PySem.F.slot_list_append PySem.F.type_list_append dC (pv 3) (aA (mQ (aA (pv 6) (aA (pv 8) aB))) aB))))))))
   (aF (aW (pv 3)))))),?_⟩
  refine aO (σ:=[some (.ref a),some (.int c0),some (.int wy),none,none,none,none,none,none]) rfl ?_;walk_at"cx";walk_at"g1";obtain⟨hnr,hok,hr0,hr8⟩:=id rok;walk_at"g2";have hwl:ws.length=rz.length:=Paired.length hra;walk_at"go";rename_i p5 G5 m5 T5 e5 p6 G6 m6 T6 e6;have h56:p5≠p6:=fun z=>by rw[z,m6]at e5;cases e5
  refine qZ (by lia) (by lia) fun pd dn G7 m7 T7 e7 hl7 hb7=> ?_;have h57:pd≠p5:=fun z=>by rw[z,T6 _ _ e5]at m7;cases m7
  have h67:pd≠p6:=fun z=>by rw[z,e6]at m7;cases m7
  have f5:∀x u,H x=some u->x≠p5:=fun x u hx z=>by rw[z,m5]at hx;cases hx
  have f6:∀x u,H x=some u->x≠p6:=fun x u hx z=>by
   have:=T5 _ _ hx;rw[z,m6]at this;cases this
  walk_at"go";let Pv1:Nat->St->Hp->Prop:=fun i σ' J=>Same H J/\J pd=some (.lst (dn.map V.int))/\(∃cs ps kvs,J p5=some (.lst cs)/\J p6=some (.dK kvs)/\Paired (bJ J) cs ps/\(∀z,(bP kvs (.inr z)).getD (.int 0)= .int (bH ps z))/\kvs.length<=i/\cs.length<=i/\(∀p∈ps,p.1∈rz.map (·.1))/\j6 rz ps)/\i<=dn.length/\∃x y z u,σ'=[some (.ref a),some (.int c0),some (.int wy),some (.ref p5),some (.ref p6),x,y,z,u];refine gX (dn.map V.int) Pv1 ⟨T5.trans (T6.trans T7),e7,⟨[],[],[],T7 _ _ (T6 _ _ e5),T7 _ _ e6,.nil,(fun _=>rfl),Nat.le_refl _,Nat.le_refl _,(fun _ z=>nomatch z),⟨(fun _ z=>nomatch z),fun e he=>(hok e he).2⟩⟩,Nat.zero_le _,_,_,_,_,rfl⟩ (fun i σ' J _ g=>SqL.of g.2.1) ?_ ?_
  ·rintro i x _ J hx hq_;walk_at"g1";obtain⟨sJ,eD,⟨cs,ps,kvs,ec,ek,hcp,hval,hkl,hcl,hpr,hft⟩,hil,y1,y2,y3,y4,rfl⟩:=hq_;walk_at"g2";have hi:i<(dn.map V.int).length:=(List.getElem?_eq_some_iff.mp hx).1;rw[List.length_map]at hi;rw[List.getElem?_map]at hx;obtain⟨c,hc,rfl⟩:=Option.map_eq_some_iff.mp hx;have hcb:=hb7 c (List.mem_of_getElem? hc);have euJ:=sJ _ _ ha;have hraJ:=hra.sm sJ;walk_at"go";rename_i hm0 hm1;refine pR (SqL.of euJ) hm0 hm1 fun v1 hv1=> ?_;walk_at"g1";obtain⟨z1,j1,q1,rfl,hq1,hz1⟩:=rZ hraJ hv1;walk_at"g2";have hfz:bH ps z1<=j1:=hft.2 _ hz1;walk_at"gs";refine wK (.inl ek) ?_;walk_at"gs";refine z3 (.inl ek) ?_;rw[hval];walk_at"go";rename_i hr0 hr1;refine wK (.inl ek) ?_;walk_at"go";refine z3 (.inl ek) ?_;rw[hval];walk_at"go";refine nN ek (by rw[sizeLine_eq];lia) fun J2 B2 e2k=> ?_;have ec2:=B2 _ _ ec h56;walk_at"go";rename_i q7 J7 m7' T7' e7';have ec7:=T7' _ _ ec2;refine d7 ec7 (by rw[sizeLine_eq];lia) fun J8 B8 e8=> ?_;have hq7:q7≠p5:=fun z=>by rw[z,ec2]at m7';cases m7'
   refine⟨fun x u hx=>B8 _ _ (T7' _ _ (B2 _ _ (sJ _ _ hx) (f6 x u hx))) (f5 x u hx),B8 _ _ (T7' _ _ (B2 _ _ eD h67)) h57,⟨cs++[.ref q7],ps++[(z1,c/8%(j1 - bH ps z1+1))],_,e8,B8 _ _ (T7' _ _ e2k) (Ne.symm h56),?_,?_,?_,?_,?_,?_⟩,by lia,_,_,_,_,rfl⟩
   ·refine L2.Paired.snoc (Paired.imp' (fun v' d ⟨q,e,h⟩=>⟨q,e,B8 _ _ (T7' _ _ (B2 _ _ h fun z=>by rw[z,ek]at h;cases h)) fun z=>by rw[z,ec]at h;cases h⟩) hcp) ⟨q7,rfl,B8 _ _ e7' hq7⟩
   ·intro y;rw[rS,pT]
    by_cases hy:(Sum.inr y:Key)= .inr z1
    ·have hy':y=z1:=Sum.inr.inj hy;subst hy';rw[if_pos rfl,if_pos rfl];rfl
    ·have hy':¬((z1,c/8%(j1 - bH ps z1+1)):Str×Int).1=y:=fun z=>hy (by rw[←z]);rw[if_neg hy,if_neg hy',Int.add_zero];exact hval y
   ·exact Nat.le_trans (gE _ _ _) (by lia)
   ·rw[List.length_append];show cs.length+1<=_;lia
   ·intro p' hp';rcases List.mem_append.mp hp' with hp'|hp'
    ·exact hpr p' hp'
    ·cases List.mem_singleton.mp hp';exact List.mem_map.mpr ⟨_,hz1,rfl⟩
   ·exact GR hnr hft hz1 hr0 (by lia)
  ·rintro _ J hq_;walk_at"g1";obtain⟨sJ,eD,⟨cs,ps,kvs,ec,ek,hcp,hval,hkl,hcl,hpr,hft⟩,hil,y1,y2,y3,y4,rfl⟩:=hq_;walk_at"g2";have hpl:cs.length=ps.length:=Paired.length hcp;rw[List.length_map]at hcl;walk_at"go";exact k _ _ _ _ m5 sJ ec hcp ⟨hpr,hft⟩ (by lia)
theorem uI (m:M K mg):Fc P w K mg base "_law_people" 3 ["_law_rooms_here","_law_cell","_law_way"] (qL K):=⟨_,_,m.xS,m.gJ.kp,m.x6,vB m⟩
theorem none_of {H J:Hp}{r:Addr} (s:Same H J) (h:J r=none):H r=none:=by
 cases e:H r with
 | none=>rfl
 | some u=>rw[s _ _ e]at h;cases h
theorem K0 {X:Cx}{K:W.Frag}{tg l:Expr}{tl:TE} (h:X.K=K) (hl:PE X l tl):PI X tg l (C7 K tl):=h▸cE hl
theorem D0 {X:Cx}{K:W.Frag} (hc:X.calm=true) (h:X.K=K):cJ X (.builtin "sum") (JZ K):=h▸wA hc
theorem dB (p:Str×Int)(ps:List (Str×Int))(z:Str):bH (p::ps) z=(if p.1=z then p.2 else 0)+bH ps z:=by
 unfold bH
 by_cases hz:p.1=z
 ·rw[List.filter_cons_of_pos (by simpa using hz),List.map_cons,List.sum_cons,if_pos hz]
 ·rw[List.filter_cons_of_neg (by simpa using hz),if_neg hz,Int.zero_add]
theorem nH (a b:List (Str×Int))(z:Str):bH (a++b) z=bH a z+bH b z:=by
 induction a with
 | nil=>rw[List.nil_append];show _=(0:Int)+_;lia
 | cons p a ih=>rw[List.cons_append,dB,dB,ih];lia
theorem KW (a:List (Str×Int))(z:Str):bH a.reverse z=bH a z:=by
 induction a with
 | nil=>rfl
 | cons p a ih=>rw[List.reverse_cons,nH,ih,dB,dB];show _+(_+(0:Int))=_;lia
structure Same2 (ps qs:List (Str×Int)):Prop where
 sum:∀z,bH qs z=bH ps z
 mem:∀p∈qs,p.1∈ps.map (·.1)
 pos:∀p∈qs,0<=p.2
 len:qs.length<=24
theorem Same2.ok {rz ps qs:List (Str×Int)}(h:Same2 ps qs)(o:yH rz ps):yH rz qs:=by
 refine⟨fun p hp=> ?_,h.pos,fun e he=> ?_⟩
 ·obtain⟨q,hq,e⟩:=List.mem_map.mp (h.mem p hp);rw[←e];exact o.hpr q hq
 ·rw[h.sum];exact o.ft.2 e he
theorem wM:∀zs:List Str,Paired (fun v z=>v=V.str z) (zs.map V.str) zs
 | []=> .nil
 | z::zs=> .cons rfl (wM zs)
theorem nV {α β:Type}{F:α->β->Prop}:∀{l:List α}{m:List β},Paired F l m->Paired F l.reverse m.reverse
 | _,_,.nil=> .nil
 | _,_,.cons r t=>by rw[List.reverse_cons,List.reverse_cons];exact L2.Paired.snoc (nV t) r
theorem IQ {ps:List (Str×Int)}(h:∀p∈ps,0<=p.2)(z:Str):0<=bH ps z:=by
 induction ps with
 | nil=>exact Int.le_refl _
 | cons p ps ih =>
  have h1:=ih fun q hq=>h q (.tail _ hq);have h2:=h p (.head _);rw[dB]
  split<;>lia
theorem MO {ps:List (Str×Int)}{z:Str} (h:z∉ps.map (·.1)):bH ps z=0:=by
 induction ps with
 | nil=>rfl
 | cons p ps ih =>
  rw[List.map_cons,List.mem_cons,not_or]at h;rw[dB,if_neg fun e=>h.1 e.symm,ih h.2];rfl
theorem GH (f:Str->Int){zs:List Str}(nd:zs.Nodup)(y:Str):bH (zs.map fun z=>(z,f z)) y=if y∈zs then f y else 0:=by
 induction zs with
 | nil=>rfl
 | cons z zs ih =>
  have nd':=List.nodup_cons.mp nd;rw[List.map_cons,dB,ih nd'.2]
  by_cases hy:z=y
  ·subst hy;rw[if_pos rfl,if_neg nd'.1,if_pos List.mem_cons_self];lia
  ·rw[if_neg hy]
   by_cases hm:y∈zs
   ·rw[if_pos hm,if_pos (List.mem_cons_of_mem _ hm)];lia
   ·rw[if_neg hm,if_neg fun z=>(List.mem_cons.mp z).elim (fun e=>hy e.symm) hm];rfl
theorem KD {ss:List Str}{x y:Str}:y∈eI ss x↔y∈ss∨y=x:=by
 unfold eI
 split
 ·rename_i h;exact⟨.inl,fun z=>z.elim id fun e=>e▸h⟩
 ·rw[List.mem_append,List.mem_singleton]
theorem F8 {xs:List Str}:∀{ss:List Str}{y:Str},y∈xs.foldl eI ss↔y∈ss∨y∈xs:=by
 induction xs with
 | nil=>intro ss y;simp
 | cons x xs ih =>
  intro ss y;rw[List.foldl_cons,ih,KD,List.mem_cons,or_assoc]
theorem N0 {ss:List Str}(x:Str)(h:ss.Nodup):(eI ss x).Nodup:=by
 unfold eI
 split
 ·exact h
 ·rename_i hx;rw[List.nodup_append];exact⟨h,List.nodup_cons.mpr ⟨fun z=>(nomatch z),.nil⟩,fun a ha b hb z=>hx (by rw[←List.mem_singleton.mp hb,←z];exact ha)⟩
theorem J0 {xs:List Str}:∀{ss:List Str},ss.Nodup->(xs.foldl eI ss).Nodup:=by
 induction xs with
 | nil=>exact fun h=>h
 | cons x xs ih=>exact fun h=>ih (N0 x h)
theorem F4 {ps:List (Str×Int)}{zs:List Str} (hl:ps.length<=12) (h0:∀p∈ps,0<=p.2) (pz:List.Perm zs ((ps.map (·.1)).foldl eI [])):Same2 ps (zs.map fun z=>(z,bH ps z)):=by
 have hm:∀y,y∈zs↔y∈ps.map (·.1):=fun y=>by rw[pz.mem_iff,F8];simp
 have nd:zs.Nodup:=pz.nodup_iff.mpr (J0 .nil);refine⟨fun y=> ?_,fun p hp=> ?_,fun p hp=> ?_,?_⟩
 ·rw[GH (bH ps) nd]
  split
  ·rfl
  ·rename_i hy;exact(MO fun z=>hy ((hm y).mpr z)).symm
 ·obtain⟨z,hz,rfl⟩:=List.mem_map.mp hp;exact(hm z).mp hz
 ·obtain⟨z,hz,rfl⟩:=List.mem_map.mp hp;exact IQ h0 z
 ·rw[List.length_map,pz.length_eq];have:=pH (ps.map (·.1)) [];rw[List.length_map,List.length_nil]at this
  lia
theorem NL {H:Hp}{Q:VK}{p:Addr}{z:Str}{j:Int} (e:H p=some (.tup [.str z,.int j])) (h:Q (.str z) H):JO K (.ref p) (.int 0) H Q:=⟨p,_,0,_,rfl,rfl,SqT.of e,rfl,h⟩
theorem MW {H:Hp}{Q:VK}{p:Addr}{z:Str}{j:Int} (e:H p=some (.tup [.str z,.int j])) (h:Q (.int j) H):JO K (.ref p) (.int 1) H Q:=⟨p,_,1,_,rfl,rfl,SqT.of e,rfl,h⟩
local macro_rules| `(tactic| walk_at"rd1")=> `(tactic| first|(with_reducible refine UL ?_)|((with_reducible refine' NL ?e ?_);(case e=>walk_at"hp"))|((with_reducible refine' MW ?e ?_);(case e=>walk_at"hp")))
inductive nB (K:W.Frag)(vs:List V)(H:Hp)(Q:VK)(E:XK):Prop
 | mk (a:Addr) (c wy:Int) (cs:List V) (ps:List (Str×Int)) (_:vs=[.ref a,.int c,.int wy]) (_:H a=some (.lst cs)) (_:Paired (bJ H) cs ps) (_:ps.length<=12) (_:(∀p∈ps,0<=p.2)) (_:∀p cs' qs H',H p=none->Same H H'->H' p=some (.lst cs')->Paired (bJ H') cs' qs->Same2 ps qs->Q (.ref p) H'):nB K vs H Q E
theorem N5 {H:Hp}{Q:VK}{E:XK}{a:Addr}{c wy:Int}{cs:List V}{ps:List (Str×Int)} (ha:H a=some (.lst cs)) (hcp:Paired (bJ H) cs ps) (hl:ps.length<=12) (h0:∀p∈ps,0<=p.2) (k:∀p cs' qs H',H p=none->Same H H'->H' p=some (.lst cs')->Paired (bJ H') cs' qs->Same2 ps qs->Q (.ref p) H'):nB K [.ref a,.int c,.int wy] H Q E:=⟨_,_,_,_,_,rfl,ha,hcp,hl,h0,k⟩
theorem uW (m:M K mg):bD P w K mg base CX0 3 m.jD m.jA ["_law_people_here","_law_cell","_law_way"] (nB K):=by
 refine m.gK.ok sc__law_parted (fun vs H Q E h=> ?_) (fun cdv A outer s H vs Q E hr h=> ?_)
 ·walk_at"g1";obtain⟨a,c0,wy,cs,ps,rfl,ha,hcp,hl,h0,k⟩:=h;walk_at"g2";rfl
 ·walk_at"g1";obtain⟨a,c0,wy,cs,ps,rfl,ha,hcp,hl,h0,k⟩:=h;walk_at"g2";have nd:=sc__law_parted.nd;walk_at"hu";have b9:= @gI P w K mg base m;refine⟨_,(aD (cG (bL oG (aG bT (pv 1) aE) aE (bC _)) (aF (aW (gL (pv 0) cU cU (iK (nA j8 aE))))) bU)
   (aD (aX (i:=3) nd rfl (by walk_at"oi") (d8 aB))
   (aD (aX (i:=4) nd rfl (by walk_at"oi") (b5 b9 hr (aA (aG cD (pv 1) aE) (aA (bV i4 rfl m.q0 mN (aA (pv 0) aB)) (aA (pv 2) aB)))))
   (aD (d4 PassesOwn.never rfl (vA rfl m.l7 (aA (pv 0) aB)) (mR (n:=2) rfl (aY (aM (i:=5) nd rfl (by walk_at"oi")) (aY (aM (i:=6) nd rfl (by walk_at"oi")) dE))) (aD (aX (i:=7) nd rfl (by walk_at"oi") (aG bT (eL hG (pv 4) (pv 5) (fun _ _=>rfl)) (aG d0 (eL mG (pv 6) aE (fun _ _=>rfl)) aE)))
   (aF (aX (i:=3) nd rfl (by walk_at"oi") (aG zP (aG zP (d8 (aA (mQ (aA (eL mG (pv 6) aE (fun _ _=>rfl)) (aA (pv 7) aB))) aB)) (pv 3)) (d8 (aA (mQ (aA (eL mG (pv 6) aE (fun _ _=>rfl)) (aA (aG zV (eL mG (pv 6) aE (fun _ _=>rfl)) (pv 7)) aB))) aB)))))))
   (aD (cG (bL oG (aG bT (pv 1) aE) aE (bC _)) (aF (aW (pv 3))) bU)
   (aD (aX (i:=8) nd rfl (by walk_at"oi") (bV (zC rfl) rfl m.sP oX (aA (fP (HB rfl) rfl m.UV RN (aA (dD (N:=["_law_name","_law_number"]) (nl:=2) (ci:=[]) rfl (blk (s.heap.objs.size+1) rfl rfl rfl (by kernel_rfl)) (cE (pv 0)) (fun _ _ _ _=>(g0 (K:=K) (n:=2) rfl (aY (aM (i:=0) (show (["_law_name","_law_number"]:List Str).Nodup by decide +kernel) rfl (by walk_at"oi")) (aY (aM (i:=1) (show (["_law_name","_law_number"]:List Str).Nodup by decide +kernel) rfl (by walk_at"oi")) dE)))) (fun _ _ _ _=>fR) (fun _ _ _ _=>(pv 0))) aB)) aB)))
   (aF (aW (HP (N:=["_law_name","_law_people_here"]) (nl:=1) (ci:=[0]) rfl (VC "_law_name" (s.heap.objs.size+1) rfl rfl rfl (by kernel_rfl)) (cE (pv 8)) (fun _ _ _ _=>(aM (i:=0) (show (["_law_name","_law_people_here"]:List Str).Nodup by decide +kernel) rfl (by walk_at"oi"))) (fun _ _ _ _=>fR) (fun _ _ _ _=>(mQ (aA (pv 0) (aA (bV (D0 (K:=K) rfl rfl) rfl m.EN y8 (aA (dD (N:=["_law_one","_law_number","_law_name"]) (nl:=2) (ci:=[0]) rfl (VN rfl rfl rfl (by kernel_rfl)) (K0 (K:=K) rfl (pv 1)) (fun _ _ _ _=>(g0 (K:=K) (n:=2) rfl (aY (aM (i:=0) (show (["_law_one","_law_number","_law_name"]:List Str).Nodup by decide +kernel) rfl (by walk_at"oi")) (aY (aM (i:=1) (show (["_law_one","_law_number","_law_name"]:List Str).Nodup by decide +kernel) rfl (by walk_at"oi")) dE)))) (fun _ _ _ _=>(tR (bL oG (pv 0) (pv 2) (bC _)))) (fun _ _ _ _=>(pv 1))) aB)) aB))))))))))))),?_⟩
  refine aO (σ:=[some (.ref a),some (.int c0),some (.int wy),none,none,none,none,none,none]) rfl ?_;walk_at"cx";have hcl:cs.length=ps.length:=Paired.length hcp;walk_at"go";refine i5 (fun h1=> ?_) (fun h1=> ?_)
  ·walk_at"go";refine j0 (lo:=none) (hi:=none) (st:=some (-1)) (SqL.of ha) (by decide) (by rw[fO,sizeLine_eq];lia) fun pr G1 g1 T1 t1=> ?_;rw[fK]at t1;refine k _ _ ps.reverse _ g1 T1 t1 (nV (cC hcp T1)) ⟨fun z=>KW ps z,fun p hp=> ?_,fun p hp=>h0 p (List.mem_reverse.mp hp),by rw[List.length_reverse];lia⟩;exact List.mem_map.mpr ⟨p,List.mem_reverse.mp hp,rfl⟩
  ·walk_at"go";rename_i p3 H3 n3 S3 e3;refine qZ (by lia) (by lia) fun pd dn H4 n4 S4 e4 hl4 hb4=> ?_;walk_at"go";let Pv1:Nat->St->Hp->Prop:=fun i σ' J=>Same H J/\J pd=some (.lst (dn.map V.int))/\(∃pf fs qs,J pf=some (.lst fs)/\Paired (bJ J) fs qs/\(∀z,bH qs z=bH (ps.take i) z)/\(∀p∈qs,p.1∈ps.map (·.1)/\0<=p.2)/\qs.length=2 * i/\H pf=none/\∃x y z,σ'=[some (.ref a),some (.int c0),some (.int wy),some (.ref pf),some (.ref pd),x,y,z,none])/\i<=ps.length;refine uM cs Pv1 ⟨S3.trans S4,e4,⟨p3,[],[],S4 _ _ e3,.nil,(fun _=>rfl),(fun _ z=>nomatch z),rfl,n3,_,_,_,rfl⟩,Nat.zero_le _⟩ (fun i σ' J q=>SqL.of (q.1 _ _ ha)) ?_ ?_
   ·rintro i x _ J q J1 hx ⟨sJ,eD,⟨pf,fs,qs,ef,hfq,hsum,hqs,hql,hnf,y1,y2,y3,rfl⟩,hil⟩ hq sJ1 eq;have hi:i<cs.length:=(List.getElem?_eq_some_iff.mp hx).1;have hi2:i<ps.length:=by lia
    have hid:i<dn.length:=by lia
    obtain⟨qr,rfl,hqr⟩:=Paired.at2 (cC hcp (sJ.trans sJ1)) hx (List.getElem?_eq_getElem hi2);have hp0:=h0 _ (List.getElem_mem hi2);have hpm:ps[i].1∈ps.map (·.1):=List.mem_map.mpr ⟨_,List.getElem_mem hi2,rfl⟩;generalize hpe:ps[i]=pi at hqr hp0 hpm;obtain⟨z1,j1⟩:=pi;have eD1:=sJ1 _ _ eD;have ef1:=sJ1 _ _ ef;have hfl:fs.length=qs.length:=Paired.length hfq;walk_at"go";refine P5 (j:=i) (SqL.of eD1) (by rw[List.getElem?_map,List.getElem?_eq_getElem hid];rfl) ?_;have hd0:=hb4 _ (List.getElem_mem hid);generalize dn[i]=d1 at hd0;have hpe2:ps.take (i+1)=ps.take i++[(z1,j1)]:=by rw[List.take_succ,List.getElem?_eq_getElem hi2,hpe];rfl
    walk_at"go";rename_i hr0 hr1 a1 G1 m1 T1 t1 a2 G2 m2 T2 t2 a3 G3 m3 T3 t3 a4 G4 m4 T4 t4 a5 G5 m5 T5 t5 a6 G6 m6 T6 t6;have sA:Same G1 G6:=T2.trans (T3.trans (T4.trans (T5.trans T6)));have sB:Same G4 G6:=T5.trans T6;have sJ6:Same J G6:=sJ1.trans (T1.trans sA);have h6:H a6=none:=none_of ((sJ.trans sJ1).trans (T1.trans (T2.trans (T3.trans (T4.trans T5))))) m6;refine⟨sJ.trans sJ6,sJ6 _ _ eD,⟨a6,_,[(z1,d1%(j1+1))]++qs++[(z1,j1 - d1%(j1+1))],t6,?_,fun z=> ?_,?_,?_,h6,_,_,_,rfl⟩,by lia⟩
    ·exact L2.Paired.snoc (.cons ⟨a1,rfl,sA _ _ t1⟩ (cC hfq sJ6)) ⟨a4,rfl,sB _ _ t4⟩
    ·rw[nH,nH,hpe2,nH,hsum,dB,dB,dB];show (_+(0:Int))+_+(_+(0:Int))=_+(_+(0:Int))
     split<;>lia
    ·intro p hp;rcases List.mem_append.mp hp with hp|hp
     ·rcases List.mem_append.mp hp with hp|hp
      ·cases List.mem_singleton.mp hp;exact⟨hpm,hr0⟩
      ·exact hqs p hp
     ·cases List.mem_singleton.mp hp;exact⟨hpm,by show 0<=j1 - d1%(j1+1);have h:d1%(j1+1)<j1+1:=hr1;lia⟩
    ·rw[List.length_append,List.length_append,hql];show 1+2 * i+1=_;lia
   ·rintro _ J hq_;walk_at"g1";obtain⟨sJ,eD,⟨pf,fs,qs,ef,hfq,hsum,hqs,hql,hnf,y1,y2,y3,rfl⟩,hil⟩:=hq_;walk_at"g2";have haJ:=sJ _ _ ha;have hcpJ:=cC hcp sJ;have hfl:fs.length=qs.length:=Paired.length hfq;rw[hcl,List.take_length]at hsum;rw[hcl]at hql;walk_at"go";refine i5 (fun h2=> ?_) (fun h2=> ?_)
    ·walk_at"go";exact k _ _ qs _ hnf sJ ef hfq ⟨hsum,fun p hp=>(hqs p hp).1,fun p hp=>(hqs p hp).2,by lia⟩
    ·walk_at"go";refine jV (α:=Str×Int) (xs:=ps) (vs:=cs) (fun p=> .str p.1) (fun p=> .int p.2) (fun _=>true) (fun p y _=>y= .str p.1) (fun _ _ _ _ h _=>h) (by rw[sizeLine_eq];lia) (rest:=[]) (by rfl) (SqL.of haJ) hcpJ (fun x H1 hx s1 R hR=>hR _ (Same.refl _)) (fun x H1 hx _ s1 R hR=> ?_) ?_
     ·walk_at"go";exact hR _ _ rfl (Same.refl _)
     intro ys J2 s2 hys;rw[eU]at hys;have ey:ys=(ps.map (·.1)).map V.str:=by rw[eA hys,List.map_map];rfl
     subst ey;walk_at"go";rename_i b1 J3 m3 T3 t3;refine NQ t3 (by rw[List.length_map];lia) fun b2 J4 m4 T4 t4=> ?_;have hfl2:=pH (ps.map (·.1)) [];rw[List.length_map,List.length_nil]at hfl2;walk_at"go";refine JU t4 (by lia) fun b3 zs J5 pz m5 T5 t5=> ?_;have lz:=pz.length_eq;have sJ5:Same J J5:=s2.trans (T3.trans (T4.trans T5));have haJ5:=sJ5 _ _ haJ;have hcpJ5:=cC hcpJ sJ5;walk_at"go";refine u8 (α:=Str) (xs:=zs) (vs:=zs.map V.str) (fun v z=>v= .str z) (fun _=>true) (fun z y H=>bJ H y (z,bH ps z)) (fun _ _ _ _ ⟨q,e,h⟩ s=>⟨q,e,s _ _ h⟩) (by rw[sizeLine_eq];lia) (rest:=[some (.ref a)]) (by rfl) (SqL.of t5) (wM zs) ?_ ?_ ?_
     ·rintro v z J6 rfl hz s6 R hR;exact hR _ (Same.refl _)
     ·rintro v z J6 rfl hz _ s6 R hR;have haJ6:=s6 _ _ haJ5;have hcpJ6:=cC hcpJ5 s6;walk_at"go";refine jV (α:=Str×Int) (xs:=ps) (vs:=cs) (fun p=> .str p.1) (fun p=> .int p.2) (fun p=>decide (p.1=z)) (fun p y _=>y= .int p.2) (fun _ _ _ _ h _=>h) (by rw[sizeLine_eq];lia) (rest:=[some (.str z)]) (by rfl) (SqL.of haJ6) hcpJ6 (fun x H1 hx s1 R hR=> ?_) (fun x H1 hx _ s1 R hR=> ?_) ?_
      ·walk_at"go";exact hR _ (Same.refl _)
      ·walk_at"go";exact hR _ _ rfl (Same.refl _)
      intro ys J7 s7 hys;have ey:ys=((ps.filter fun p=>decide (p.1=z)).map (·.2)).map V.int:=by rw[eA hys,List.map_map];rfl
      subst ey;walk_at"go";rename_i q3 J8 n8 S8 e8;refine FS (SqL.of e8) ?_;walk_at"go";rename_i q4 J9 n9 S9 e9;exact hR _ _ ⟨q4,rfl,e9⟩ (s7.trans (S8.trans S9))
     intro ys J6 s6 hys;rw[eU]at hys;have hcp6:Paired (bJ J6) ys (zs.map fun z=>(z,bH ps z)):=zB (fun z=>(z,bH ps z)) hys;walk_at"go";rename_i q7 J7 n7 S7 e7;have h7:H q7=none:=none_of ((sJ.trans sJ5).trans s6) n7;exact k _ _ _ _ h7 ((sJ.trans sJ5).trans (s6.trans S7)) e7 (cC hcp6 S7) (F4 hl h0 pz)
theorem uP (m:M K mg):Fc P w K mg base "_law_parted" 3 ["_law_people_here","_law_cell","_law_way"] (nB K):=⟨_,_,m.x4,m.gK.kp,m.xQ,uW m⟩
theorem pairsN_mem {rz:List (Str×Int)}{f:Int}{z:Str}{t:Int}:∀{n:Nat},(z,t)∈cK rz f n↔z∈rz.map (·.1)/\∃i:Nat,i<n/\t=f+i
 | 0=>⟨(fun h=>by cases h),(fun⟨_,i,h,_⟩=>absurd h (Nat.not_lt_zero _))⟩
 | n+1=>by
  rw[iY,List.mem_append,pairsN_mem (n:=n)]
  constructor
  ·rintro (⟨h1,i,h2,h3⟩|h)
   ·exact⟨h1,i,by lia,h3⟩
   ·obtain⟨e,he,ee⟩:=List.mem_map.mp h;cases ee;exact⟨List.mem_map.mpr ⟨e,he,rfl⟩,n,by lia,rfl⟩
  ·rintro hq_;walk_at"g1";obtain⟨h1,i,h2,h3⟩:=hq_;walk_at"g2"
   by_cases hi:i=n
   ·subst hi;obtain⟨e,he,rfl⟩:=List.mem_map.mp h1;exact .inr (List.mem_map.mpr ⟨e,he,by rw[h3]⟩)
   ·exact .inl ⟨h1,i,by lia,h3⟩
theorem oV {rz:List (Str×Int)}(nd:(rz.map (·.1)).Nodup)(f:Int):∀n,(cK rz f n).Nodup
 | 0=>by simp[cK]
 | n+1=>by
  rw[iY,List.nodup_append];refine⟨oV nd f n,?_,?_⟩
  ·rw[List.Nodup,List.pairwise_map]at nd ⊢;exact nd.imp fun h z=>h (Prod.mk.inj z).1
  ·intro a ha b hb e;subst e;obtain⟨z,t⟩:=a;walk_at"g1";obtain⟨_,i,hi,ht⟩:=pairsN_mem.mp ha;walk_at"g2";obtain⟨e,_,ee⟩:=List.mem_map.mp hb;cases ee
   lia
def uV (p:Str×Int):List Key:=[.inr p.1,.inl p.2]
theorem JK {a b:Str×Int}(h:uV a=uV b):a=b:=by
 unfold uV at h;injection h with h1 h2;injection h2 with h2;exact Prod.ext (Sum.inr.inj h1) (Sum.inl.inj h2)
theorem g4 (ss:List Str):(ss.map V.str).all qX=true:=by
 rw[List.all_eq_true];intro v hv;obtain⟨z,_,rfl⟩:=List.mem_map.mp hv;rfl
theorem pU {H:Hp}:∀{ys:List V}{pp:List (Str×Int)},Paired (bJ H) ys pp->KRows H ys (pp.map uV)
 | _,_,.nil=> .nil
 | _,_,.cons h t=> .cons h (pU t)
theorem DN {K:W.Frag}{H:Hp}:∀{vs ws:List V}{rs:List (List Key)},KRows H vs rs->KRows H ws rs->Paired (DeepEq K H 4) vs ws:=wQ
theorem CG:∀l:List Int,l.reverse.sum=l.sum
 | []=>rfl
 | x::l=>by rw[List.reverse_cons,List.sum_append,CG l];simp[Int.add_comm]
theorem D7 {rz ps qs:List (Str×Int)}(h:∀z,bH qs z=bH ps z):jZ rz.reverse qs=jZ rz ps:=by
 unfold jZ;rw[List.map_reverse,CG,show (fun e:Str×Int=>bH qs e.1)=fun e=>bH ps e.1 from funext fun e=>h e.1]
theorem vW {α β:Type}(g k:α->List β)(h:∀x,(g x).Perm (k x)):∀l:List α,(l.map g).flatten.Perm (l.map k).flatten
 | []=> .rfl
 | x::l=>by rw[List.map_cons,List.map_cons,List.flatten_cons,List.flatten_cons];exact(h x).append (vW g k h l)
theorem DC (rz:List (Str×Int))(f:Int)(n:Nat):(cK rz f n).Perm (cK rz.reverse f n):=by
 unfold cK;refine vW _ _ (fun i=> ?_) _;rw[List.map_reverse];exact(List.reverse_perm _).symm
theorem DK {rz:List (Str×Int)}(nr:(rz.map (·.1)).Nodup)(f:Int)(n:Nat):jR ((cK rz f n).map uV)=jR ((cK rz.reverse f n).map uV):=by
 refine D8 ⟨[false,true],fun r hr=>by obtain⟨e,_,rfl⟩:=List.mem_map.mp hr;rfl⟩ ?_ ((DC rz f n).map _);rw[List.Nodup,List.pairwise_map];exact(oV nr f n).imp fun hne z=>hne (JK z)
theorem wS (rz:List (Str×Int))(f:Int):∀n,(cK rz f n).length=n * rz.length:=by
 intro n;unfold cK;rw[List.length_flatten,List.map_map];have:∀l:List Nat,(l.map (List.length∘fun i:Nat=>rz.map fun e=>(e.1,f+(i:Int)))).sum=l.length * rz.length:=fun l=>by
  induction l with
  | nil=>simp
  | cons a l ih=>rw[List.map_cons,List.sum_cons,ih,List.length_cons,Nat.add_mul,Nat.one_mul,Nat.add_comm];simp
 rw[this,List.length_range]
theorem JV (ds:List aI)(z:Str):lO ds.reverse z=(lO ds z).reverse:=by unfold lO;rw[List.filter_reverse,List.map_reverse]
theorem IT (ds:List aI)(z:Str):lK ds.reverse z=(lK ds z).reverse:=by unfold lK;rw[List.filter_reverse,List.map_reverse]
theorem IY (ds:List aI)(z:Str):(lK ds z).length<=ds.length:=by unfold lK;rw[List.length_map];exact List.length_filter_le _ _
theorem GF (ds:List aI)(z:Str):(lO ds z).length<=ds.length:=by unfold lO;rw[List.length_map];exact List.length_filter_le _ _
theorem qY {α β:Type}(g:α->β)(l:List α):(l.reverse.map g).reverse=l.map g:=by rw[List.map_reverse,List.reverse_reverse]
theorem HN {H:Hp}{Q:VK}{e:V} (he:e= .non∨∃y,e= .str y) (h:Q (.bl false) H):rNe e e H Q:=by
 rcases he with rfl|⟨y,rfl⟩
 ·exact BW h
 ·refine FC ?_;rw[decide_eq_true rfl];exact h
theorem wH:∀zs:List Int,Paired (fun v z=>v=V.int z) (zs.map V.int) zs
 | []=> .nil
 | z::zs=> .cons rfl (wH zs)
structure Two (C:Addr)(D:bA)(H:Hp)(h o:Addr)(f l:Int)(rz ps qs:List (Str×Int))(ds:List aI):Prop where
 hh:bN C D H h f l rz ps ds
 ho:bN C D H o f l rz.reverse qs ds.reverse
 rok:iL rz
 dok:u4 rz ds
 sm:∀z,bH qs z=bH ps z
 f0:0<=f
 f1:f<=l
 f2:l<1000000000000
 f3:l - f<=4
theorem Two.same {C:Addr}{D:bA}{H H':Hp}{h o:Addr}{f l:Int}{rz ps qs:List (Str×Int)}{ds:List aI} (x:Two C D H h o f l rz ps qs ds) (s:Same H H'):Two C D H' h o f l rz ps qs ds:=⟨aZ x.hh s,aZ x.ho s,x.rok,x.dok,x.sm,x.f0,x.f1,x.f2,x.f3⟩
theorem Two.nr2 {C:Addr}{D:bA}{H:Hp}{h o:Addr}{f l:Int}{rz ps qs:List (Str×Int)}{ds:List aI} (x:Two C D H h o f l rz ps qs ds):(rz.reverse.map (·.1)).Nodup:=by rw[List.map_reverse];exact List.pairwise_reverse.mpr (x.rok.nr.imp fun h z=>h z.symm)
theorem Two.nd2 {C:Addr}{D:bA}{H:Hp}{h o:Addr}{f l:Int}{rz ps qs:List (Str×Int)}{ds:List aI} (x:Two C D H h o f l rz ps qs ds):(ds.reverse.map (·.1)).Nodup:=by rw[List.map_reverse];exact List.pairwise_reverse.mpr (x.dok.nd.imp fun h z=>h z.symm)
theorem jW {rz:List (Str×Int)}{z:Str} (h:z∈rz.map (·.1)):z∈rz.reverse.map (·.1):=by rw[List.map_reverse];exact List.mem_reverse.mpr h
theorem Two.in2 {C:Addr}{D:bA}{H:Hp}{h o:Addr}{f l:Int}{rz ps qs:List (Str×Int)}{ds:List aI} (x:Two C D H h o f l rz ps qs ds):∀d∈ds.reverse,fC (rz.reverse.map (·.1)) d:=fun d hd=>by
 obtain⟨h1,h2⟩:=x.dok.hin d (List.mem_reverse.mp hd);exact⟨jW h1,h2.imp id fun⟨z,e,hz⟩=>⟨z,e,jW hz⟩⟩
inductive lT (C:Addr)(D:bA)(vs:List V)(H:Hp)(Q:VK)(E:XK):Prop
 | mk (h o t:Addr) (f l:Int) (rz ps qs:List (Str×Int)) (ds:List aI) (ts:List Int) (_:vs=[.ref h,.ref o,.ref t]) (_:Two C D H h o f l rz ps qs ds) (_:H t=some (.lst (ts.map V.int))) (_:ts.length<=100) (_:∀H',Same H H'->Q (.bl true) H'):lT C D vs H Q E
theorem IV {C:Addr}{D:bA}{H:Hp}{Q:VK}{E:XK}{h o t:Addr}{f l:Int}{rz ps qs:List (Str×Int)}{ds:List aI}{ts:List Int} (tw:Two C D H h o f l rz ps qs ds) (et:H t=some (.lst (ts.map V.int))) (hl:ts.length<=100) (k:∀H',Same H H'->Q (.bl true) H'):lT C D [.ref h,.ref o,.ref t] H Q E:=⟨_,_,_,_,_,_,_,_,_,_,rfl,tw,et,hl,k⟩
theorem xP (m:M K mg):bD P w K mg base CX0 6 m.lD m.lF ["_law_house","_law_other","_law_turns"] (lT m.aH (aQ P w K mg base (some 1))):=by
 refine m.iF.ok sc__law_alike (fun vs H Q E h=> ?_) (fun cdv A outer s H vs Q E hr h=> ?_)
 ·walk_at"g1";obtain⟨h,o,t,f,l,rz,ps,qs,ds,ts,rfl,tw,et,htl,k⟩:=h;walk_at"g2";rfl
 ·walk_at"g1";obtain⟨h,o,t,f,l,rz,ps,qs,ds,ts,rfl,tw,et,htl,k⟩:=h;walk_at"g2";have nd:=sc__law_alike.nd;walk_at"hu";have w_dc_House:=m.bF;have w_mc_House_total:= @mL P w K mg base m;have w_mc_House_pairs:= @mF P w K mg base m;have w_mc_House_rooms:= @mK P w K mg base m;have w_mc_House_doors:= @mS P w K mg base m;have w_mc_House_door:= @oN P w K mg base m;have w_mc_House_holds:= @vC P w K mg base m;have w_mc_House_found:= @uU P w K mg base m;have w_mc_House_into:= @xG P w K mg base m;have w_mc_House_from_room:= @pW P w K mg base m;have w_mc_House_lets:= @xC P w K mg base m;refine⟨_,(aD (cG (PW.pt (nM (bL nG (cM 1 hr (pv 0)) (cM 1 hr (pv 1)) (bC _)) (kE (bL (zW hu9) (bV pY rfl m.sP oX (aA (cM 1 hr (pv 0)) aB)) (bV pY rfl m.sP oX (aA (cM 1 hr (pv 1)) aB)) (bC _))))) (aF (aW lJ)) bU)
   (aD (d4 PassesOwn.never rfl (cE (cM 1 hr (pv 0))) (aM (i:=3) nd rfl (by walk_at"oi")) (aD (cG (PW.pt (nM (bL nG (d5 3 hr (pv 0) (aA (pv 3) aB)) (d5 3 hr (pv 1) (aA (pv 3) aB)) (bC _)) (kE (bL nG (d5 3 hr (pv 0) (aA (pv 3) aB)) (d5 3 hr (pv 1) (aA (pv 3) aB)) (bC _))))) (aF (aW lJ)) bU)
   (aF (cG (PW.pt (nM (bL (zW hu9) (d5 3 hr (pv 0) (aA (pv 3) aB)) (gL (d5 3 hr (pv 1) (aA (pv 3) aB)) cU cU (iK (nA j8 aE))) (bC _)) (kE (bL (zW hu9) (d5 3 hr (pv 0) (aA (pv 3) aB)) (gL (d5 3 hr (pv 1) (aA (pv 3) aB)) cU cU (iK (nA j8 aE))) (bC _))))) (aF (aW lJ)) bU))))
   (aD (d4 PassesOwn.never rfl (cE (cM 1 hr (pv 0))) (aM (i:=3) nd rfl (by walk_at"oi")) (aD (aX (i:=4) nd rfl (by walk_at"oi") (d5 1 hr (pv 0) (aA (pv 3) aB)))
   (aD (aX (i:=5) nd rfl (by walk_at"oi") (d5 1 hr (pv 1) (aA (pv 3) aB)))
   (aD (cG (PW.pt (nM (bL nG (bO (pv 4) rfl) (bO (pv 5) rfl) (bC _)) (kE (bL nG (bO (pv 4) rfl) (bO (pv 5) rfl) (bC _))))) (aF (aW lJ)) bU)
   (aF (cG (bL (QJ hu0) (dD (N:=["_law_turn","_law_name","_law_house","_law_other"]) (nl:=1) (ci:=[3,0,1]) rfl (blk (s.heap.objs.size+1) rfl rfl rfl (by kernel_rfl)) (cE (pv 2)) (fun _ _ _ _=>(aM (i:=0) (show (["_law_turn","_law_name","_law_house","_law_other"]:List Str).Nodup by decide +kernel) rfl (by walk_at"oi"))) (fun _ _ _ _=>(tR (bL nG (FT (P:=P) (w:=w) (K:=K) (mg:=mg) (base:=base) 3 hr (pv 2) (aA (pv 1) (aA (pv 0) aB))) (FT (P:=P) (w:=w) (K:=K) (mg:=mg) (base:=base) 3 hr (pv 3) (aA (pv 1) (aA (pv 0) aB))) (bC _)))) (fun _ _ _ _=>(pv 0))) (d8 aB) (bC _)) (aF (aW lJ)) bU))))))
   (aF (aW (pM (gW (pB hu9) (cM 1 hr (pv 0)) (gL (cM 1 hr (pv 1)) cU cU (iK (nA j8 aE))) (bC _)) (uA (gW (pB hu9) (cM 1 hr (pv 0)) (gL (cM 1 hr (pv 1)) cU cU (iK (nA j8 aE))) (bC _))))))))),?_⟩
  refine aO (σ:=[some (.ref h),some (.ref o),some (.ref t),none,none,none]) rfl ?_;walk_at"cx";walk_at"g1";obtain⟨hh,ho,rok,dok,sm,f0,f1,f2,f3⟩:=id tw;walk_at"g2";have nr:=rok.nr;have l1:=rok.l1;walk_at"g1";obtain⟨dx1,qs1,qp1,qd1,nk1,kvs1,e1,_⟩:=hh.ex;walk_at"g2";walk_at"g1";obtain⟨dx2,qs2,qp2,qd2,nk2,kvs2,e2,_⟩:=ho.ex;walk_at"g2";walk_at"go";refine uJ hh nr fun H1 S1=> ?_;have e21:=S1 _ _ e2;walk_at"go";refine uJ (aZ ho S1) tw.nr2 fun H2 S2=> ?_;rw[D7 sm];have s2:=S1.trans S2;have e12:=s2 _ _ e1;have e22:=s2 _ _ e2;walk_at"go";refine qW (aZ hh s2) f0 f1 f2 (by lia) (by lia) fun p3 y3 H3 n3 S3 e3 hp3=> ?_;have lp3:y3.length=(l+1 - f).toNat * rz.length:=by rw[Paired.length hp3,wS]
  have h40:(l+1 - f).toNat * rz.length<=40:=Nat.mul_le_mul (show (l+1 - f).toNat<=5 by lia) l1;walk_at"go";refine yT (sh:=[false,true]) (SqL.of e3) (pU hp3) (by lia) (fun r hr=>by obtain⟨e,_,rfl⟩:=List.mem_map.mp hr;rfl) (by decide) fun l4 w4 H4 n4 S4 e4 kr4=> ?_;have s4:=s2.trans (S3.trans S4);have e24:=s4 _ _ e2;walk_at"go";refine qW (aZ ho s4) f0 f1 f2 (by lia) (by rw[List.length_reverse];lia) fun p5 y5 H5 n5 S5 e5 hp5=> ?_;have lp5:y5.length=(l+1 - f).toNat * rz.length:=by rw[Paired.length hp5,wS,List.length_reverse]
  walk_at"go";refine yT (sh:=[false,true]) (SqL.of e5) (pU hp5) (by lia) (fun r hr=>by obtain⟨e,_,rfl⟩:=List.mem_map.mp hr;rfl) (by decide) fun l6 w6 H6 n6 S6 e6 kr6=> ?_;rw[←DK nr]at kr6;have s46:=S5.trans S6;refine fL (SqL.of (s46 _ _ e4)) (SqL.of e6) (DN (kr4.same s46) kr6) ?_;have s6:=s4.trans s46;have tw6:=tw.same s6;have e16:=s6 _ _ e1;have e26:=s6 _ _ e2;clear kr4 kr6 hp3 hp5 h40 lp3 lp5;walk_at"go";refine fD tw6.hh fun p7 H7 n7 S7 e7=> ?_;have s7:=s6.trans S7;have e17:=s7 _ _ e1;have e27:=s7 _ _ e2;walk_at"go";let Pv1:Nat->St->Hp->Prop:=fun i σ' J=>Same H7 J/\∃x,σ'=[some (.ref h),some (.ref o),some (.ref t),x,none,none];refine gX ((rz.map (·.1)).map V.str) Pv1 ⟨Same.refl _,_,rfl⟩ (fun i σ' J _ g=>SqL.of (g.1 _ _ e7)) ?_ ?_
  ·rintro i x _ J hx ⟨sJ,x1,rfl⟩;obtain⟨z,hz,rfl⟩:=List.mem_map.mp (List.mem_of_getElem? hx);walk_at"g1";obtain⟨⟨z,j⟩,hzj,rfl⟩:=List.mem_map.mp hz;walk_at"g2";have hz2:=jW hz;have hzj2:(z,j)∈rz.reverse:=List.mem_reverse.mpr hzj;have twJ:=tw.same (s7.trans sJ);have e1J:=sJ _ _ e17;have e2J:=sJ _ _ e27;walk_at"go";refine B7 twJ.hh nr hzj fun J1 T1=> ?_;have e2J1:=T1 _ _ e2J;walk_at"go";refine B7 (aZ twJ.ho T1) tw.nr2 hzj2 fun J2 T2=> ?_;have t2:=T1.trans T2;have e1J2:=t2 _ _ e1J;have e2J2:=t2 _ _ e2J;walk_at"go";refine CT (aZ twJ.hh t2) nr hz fun J3 T3=> ?_;have t3:=t2.trans T3;have e2J3:=t3 _ _ e2J;walk_at"go";refine CT (aZ twJ.ho t3) tw.nr2 hz2 fun J4 T4=> ?_;rw[sm];have t4:=t3.trans T4;have e1J4:=t4 _ _ e1J;have e2J4:=t4 _ _ e2J;walk_at"go";refine tN (aZ twJ.hh t4) nr hz (by have:=dok.ld;lia) dok.hin fun p5 J5 g5 T5 e5'=> ?_;have t5:=t4.trans T5;have e2J5:=t5 _ _ e2J;walk_at"go";refine tN (aZ twJ.ho t5) tw.nr2 hz2 (by rw[List.length_reverse];have:=dok.ld;lia) tw.in2 fun p6 J6 g6 T6 e6'=> ?_;have t6:=t5.trans T6;walk_at"go";refine j0 (lo:=none) (hi:=none) (st:=some (-1)) (SqL.of e6') (by decide) (by rw[fO,sizeLine_eq,List.length_map];exact Nat.le_trans (IY _ _) (by rw[List.length_reverse];have:=dok.ld;lia)) fun p7 J7 g7 T7 r7=> ?_;rw[fK,IT,qY]at r7;refine fL (SqL.of (T7 _ _ (T6 _ _ e5'))) (SqL.of r7) (dZ (g4 _)) ?_;have t7:=t6.trans T7;have e1J7:=t7 _ _ e1J;have e2J7:=t7 _ _ e2J;walk_at"go";refine tN (aZ twJ.hh t7) nr hz (by have:=dok.ld;lia) dok.hin fun p8 J8 g8 T8 e8'=> ?_;have t8:=t7.trans T8;have e2J8:=t8 _ _ e2J;walk_at"go";refine tN (aZ twJ.ho t8) tw.nr2 hz2 (by rw[List.length_reverse];have:=dok.ld;lia) tw.in2 fun p9 J9 g9 T9 e9'=> ?_;walk_at"go";refine j0 (lo:=none) (hi:=none) (st:=some (-1)) (SqL.of e9') (by decide) (by rw[fO,sizeLine_eq,List.length_map];exact Nat.le_trans (GF _ _) (by rw[List.length_reverse];have:=dok.ld;lia)) fun pa Ja ga Ta ra=> ?_;rw[fK,JV,qY]at ra;refine fL (SqL.of (Ta _ _ (T9 _ _ e8'))) (SqL.of ra) (dZ (g4 _)) ?_;have ta:=t8.trans (T9.trans Ta);walk_at"go";exact⟨sJ.trans ta,_,rfl⟩
  ·rintro _ J ⟨sJ,x1,rfl⟩;have s8:=s7.trans sJ;have twJ:=tw.same s8;have e18:=s8 _ _ e1;have e28:=s8 _ _ e2;walk_at"go";refine fD twJ.hh fun p8 H8 n8 S8 e8=> ?_;have s9:=s8.trans S8;have e19:=s9 _ _ e1;have e29:=s9 _ _ e2;have et9:=s9 _ _ et;walk_at"go";let Pv2:Nat->St->Hp->Prop:=fun i σ' G=>Same H8 G/\∃x y z,σ'=[some (.ref h),some (.ref o),some (.ref t),x,y,z];refine gX ((ds.map (·.1)).map V.str) Pv2 ⟨Same.refl _,_,_,_,rfl⟩ (fun i σ' G _ g=>SqL.of (g.1 _ _ e8)) ?_ ?_
   ·rintro i x _ G hx hq_;walk_at"g1";obtain⟨sG,y1,y2,y3,rfl⟩:=hq_;walk_at"g2";obtain⟨dn,hdn,rfl⟩:=List.mem_map.mp (List.mem_of_getElem? hx);obtain⟨d,hd,rfl⟩:=List.mem_map.mp hdn;have hd2:d∈ds.reverse:=List.mem_reverse.mpr hd;have twG:=tw.same (s9.trans sG);have e1G:=sG _ _ e19;have e2G:=sG _ _ e29;have etG:=sG _ _ et9;walk_at"go";refine y6 twG.hh dok.nd hd fun v1 hv1=> ?_;walk_at"go";refine y6 twG.ho tw.nd2 hd2 fun v2 hv2=> ?_;walk_at"g1";obtain⟨n,st,e,lt⟩:=d;walk_at"g2";walk_at"g1";obtain⟨q1,C1,dx1',fs1,fp1,rfl,hq1,dcC1,k1,k2,k3,k4,k5,mcE1,hfp1,hlt1⟩:=DoorAt.ex hv1;walk_at"g2";walk_at"g1";obtain⟨q2,C2,dx2',fs2,fp2,rfl,hq2,dcC2,j1,j2,j3,j4,j5,mcE2,hfp2,hlt2⟩:=DoorAt.ex hv2;walk_at"g2";have hend:=(dok.hin _ hd).2;have ve:(e= .non∨∃y,e= .str y):=hend.imp id fun⟨y,e,_⟩=>⟨y,e⟩
    walk_at"go"
    first|(rw[decide_eq_true rfl];walk_at"go")|skip
    refine HN ve ?_;walk_at"go";refine u8 (α:=Int) (xs:=ts) (vs:=ts.map V.int) (fun v i=>v= .int i) (fun _=>false) (fun _ _ _=>True) (fun _ _ _ _ _ _=>trivial) (by rw[sizeLine_eq];lia) (rest:=[some (.str n),some (.ref h),some (.ref o)]) (by rfl) (SqL.of etG) (wH ts) ?_ ?_ ?_
    ·rintro v i G1 rfl hi U1 R hR;have e1G1:=U1 _ _ e1G;have e2G1:=U1 _ _ e2G;have twG1:=twG.same U1;walk_at"go";refine CO (d:=(n,st,e,lt)) twG1.hh dok.nd hd f0 fun G2 U2=> ?_;have e2G2:=U2 _ _ e2G1;walk_at"go";refine CO (d:=(n,st,e,lt)) (aZ twG1.ho U2) tw.nd2 hd2 f0 fun G3 U3=> ?_;walk_at"go"
     first|(rw[decide_eq_true rfl];exact hR _ (U2.trans U3))|exact hR _ (U2.trans U3)
    ·rintro v i G1 rfl hi hc;exact absurd hc Bool.false_ne_true
    intro ys G1 U1 hys;have ey:ys=[]:=by
     have:=Paired.length hys;rw[show ts.filter (fun _=>false)=[] from List.filter_eq_nil_iff.mpr fun _ _ z=>Bool.false_ne_true z]at this;exact List.length_eq_zero_iff.mp this.symm
    subst ey;walk_at"go";rename_i q3 G3 m3 U3 r3 q4 G4 m4 U4 r4;refine SL (SqL.of (U4 _ _ r3)) (SqL.of r4) ?_;walk_at"go";exact⟨sG.trans (U1.trans (U3.trans U4)),_,_,_,rfl⟩
   ·rintro _ G hq_;walk_at"g1";obtain⟨sG,y1,y2,y3,rfl⟩:=hq_;walk_at"g2";have sA:=s9.trans sG;have e1G:=sA _ _ e1;have e2G:=sA _ _ e2;have twG:=tw.same sA;walk_at"go";refine fD twG.hh fun pa Ga ga Ua ra=> ?_;have e2a:=Ua _ _ e2G;walk_at"go";refine fD (aZ twG.ho Ua) fun pb Gb gb Ub rb=> ?_;walk_at"go";refine j0 (lo:=none) (hi:=none) (st:=some (-1)) (SqL.of rb) (by decide) (by rw[fO,sizeLine_eq,List.length_map,List.length_map,List.length_reverse];lia) fun pc Gc gc Uc rc=> ?_;rw[fK,List.map_reverse,qY]at rc;refine fL (SqL.of (Uc _ _ (Ub _ _ ra))) (SqL.of rc) (dZ (g4 _)) ?_;have sc:=Ua.trans (Ub.trans Uc);have e1c:=sc _ _ e1G;have e2c:=sc _ _ e2G;walk_at"go";refine fD (aZ twG.hh sc) fun pa' Ga' ga' Ua' ra'=> ?_;have e2a':=Ua' _ _ e2c;walk_at"go";refine fD (aZ twG.ho (sc.trans Ua')) fun pb' Gb' gb' Ub' rb'=> ?_;walk_at"go";refine j0 (lo:=none) (hi:=none) (st:=some (-1)) (SqL.of rb') (by decide) (by rw[fO,sizeLine_eq,List.length_map,List.length_map,List.length_reverse];have:=dok.ld;lia) fun pc' Gc' gc' Uc' rc'=> ?_;rw[fK,List.map_reverse,qY]at rc';refine fL (SqL.of (Uc' _ _ (Ub' _ _ ra'))) (SqL.of rc') (dZ (g4 _)) ?_;walk_at"go";exact k _ (sA.trans (sc.trans (Ua'.trans (Ub'.trans Uc'))))
theorem xA (m:M K mg):Fc P w K mg base "_law_alike" 6 ["_law_house","_law_other","_law_turns"] (lT m.aH (aQ P w K mg base (some 1))):=⟨_,_,m.AZ,m.iF.kp,m.A2,xP m⟩
theorem FQ {rz:List (Str×Int)}(nr:(rz.map (·.1)).Nodup):∀ps:List (Str×Int),(∀p∈ps,p.1∈rz.map (·.1))->jZ rz ps=(ps.map (·.2)).sum:=by
 have key:∀(j:Int) (y:Str) (l:List (Str×Int)),(l.map (·.1)).Nodup->y∈l.map (·.1)->(l.map fun e=>if y=e.1 then j else 0).sum=j:=fun j y l=>by
  induction l with
  | nil=>exact fun _ h=>nomatch h
  | cons b l ih =>
   intro nd h;have nd':=List.nodup_cons.mp nd;have hz:∀l:List (Str×Int),b.1∉l.map (·.1)->(l.map fun e=>if b.1=e.1 then j else 0).sum=0:=fun l=>by
    induction l with
    | nil=>exact fun _=>rfl
    | cons c l ih =>
     intro hn;rw[List.map_cons,List.mem_cons,not_or]at hn;rw[List.map_cons,List.sum_cons,if_neg hn.1,ih hn.2];rfl
   rw[List.map_cons,List.sum_cons]
   by_cases hy:y=b.1
   ·subst hy;rw[if_pos rfl,hz l nd'.1];exact Int.add_zero _
   ·rw[if_neg hy,ih nd'.2 ((List.mem_cons.mp h).resolve_left hy)];exact Int.zero_add _
 have add:∀(g k:Str×Int->Int) (l:List (Str×Int)),(l.map fun e=>g e+k e).sum=(l.map g).sum+(l.map k).sum:=fun g k l=>by
  induction l with
  | nil=>rfl
  | cons b l ih=>rw[List.map_cons,List.map_cons,List.map_cons,List.sum_cons,List.sum_cons,List.sum_cons,ih];lia
 intro ps
 induction ps with
 | nil =>
  intro _;have:∀l:List (Str×Int),(l.map fun e=>bH [] e.1).sum=0:=fun l=>by
   induction l with
   | nil=>rfl
   | cons b l ih=>rw[List.map_cons,List.sum_cons,ih];rfl
  exact this rz
 | cons p ps ih =>
  intro h;have e:∀z,bH (p::ps) z=(if p.1=z then p.2 else 0)+bH ps z:=fun z=>by
   unfold bH
   by_cases hz:p.1=z
   ·rw[List.filter_cons_of_pos (by simpa using hz),List.map_cons,List.sum_cons,if_pos hz]
   ·rw[List.filter_cons_of_neg (by simpa using hz),if_neg hz,Int.zero_add]
  have ih':=ih fun q hq=>h q (List.mem_cons_of_mem _ hq);unfold jZ at ih' ⊢;rw[show (fun e:Str×Int=>bH (p::ps) e.1)=fun e=>(if p.1=e.1 then p.2 else 0)+bH ps e.1 from funext fun z=>e z.1,add,key _ _ rz nr (h p (.head _)),ih',List.map_cons,List.sum_cons]
theorem tL {n:Nat}{H:Hp}:∀{ys zs:List V}{pp:List (Str×Int)},Paired (bJ H) ys pp->Paired (bJ H) zs pp->Paired (DeepEq K H (n+1)) ys zs
 | _,_,_,.nil,.nil=> .nil
 | _,_,_,.cons ⟨q,e,h1⟩ t,.cons ⟨q2,e2,h2⟩ t2=>by
  subst e e2;exact .cons (DeepEq.tup h1 h2 (.cons (DeepEq.self rfl) (.cons (DeepEq.self rfl) .nil))) (tL t t2)
theorem IJ {rz:List (Str×Int)}(h:(rz.map (·.1)).Nodup):(rz.reverse.map (·.1)).Nodup:=by rw[List.map_reverse];exact List.pairwise_reverse.mpr (h.imp fun h z=>h z.symm)
theorem HZ {ds:List aI}(h:(ds.map (·.1)).Nodup):(ds.reverse.map (·.1)).Nodup:=by rw[List.map_reverse];exact List.pairwise_reverse.mpr (h.imp fun h z=>h z.symm)
theorem PQ {rz:List (Str×Int)}{ds:List aI} (h:∀d∈ds,fC (rz.map (·.1)) d):∀d∈ds.reverse,fC (rz.reverse.map (·.1)) d:=fun d hd=>by
 obtain⟨h1,h2⟩:=h d (List.mem_reverse.mp hd);exact⟨jW h1,h2.imp id fun⟨z,e,hz⟩=>⟨z,e,jW hz⟩⟩
theorem IA {rz ps:List (Str×Int)}(h:j6 rz ps):j6 rz.reverse ps:=⟨h.1,fun e he=>h.2 e (List.mem_reverse.mp he)⟩
inductive oZ (K:W.Frag)(vs:List V)(H:Hp)(Q:VK)(E:XK):Prop
 | mk (a:Addr) (ns:List Int) (_:vs=[.ref a]) (_:SqL K H a (ns.map V.int)) (_:ns.length<=63) (_:∀H',Q (.bl true) H'):oZ K vs H Q E
theorem R5 (m:M K mg):bD P w K mg base CX0 20 m.EQ m.EL ["_law_script"] (oZ K):=by
 refine m.UT.ok sc_law (fun vs H Q E h=> ?_) (fun cdv A outer s H vs Q E hr h=> ?_)
 ·walk_at"g1";obtain⟨a,ns,rfl,hS,hlen,k⟩:=h;walk_at"g2";rfl
 ·walk_at"g1";obtain⟨a,ns,rfl,hS,hlen,k⟩:=h;walk_at"g2";have nd:=sc_law.nd;walk_at"hu";have iF:= @xA P w K mg base m;have bS:= @tJ P w K mg base m;have iC:= @xN P w K mg base m;have gK:= @uP P w K mg base m;have gJ:= @uI P w K mg base m;have iE:= @xD P w K mg base m;have K_House_0:= @C6 P w K mg base m;have w_dc_House:=m.bF;have w_mc_House_rooms:= @mK P w K mg base m;have w_mc_House_doors:= @mS P w K mg base m;have w_mc_House_pairs:= @mF P w K mg base m;have w_mc_House_total:= @mL P w K mg base m;refine⟨_,(aD (aX (i:=1) nd rfl (by walk_at"oi") (eL hG (d8 (aA aE (aA aE (aA aE (aA (aG bT (aG cD (b5 bS hr (aA (pv 0) (aA aE aB))) aE) (qT 100000000000 (by decide) ⟨by decide,by decide,by decide⟩)) aB))))) (aG bT (aG cD (b5 bS hr (aA (pv 0) (aA aE aB))) aE) aE) (fun _ _=>rfl)))
   (aD (aX (i:=2) nd rfl (by walk_at"oi") (aG d0 (aG d0 (pv 1) aE) (aG bT (b5 bS hr (aA (pv 0) (aA aE aB))) aE)))
   (aD (aX (i:=3) nd rfl (by walk_at"oi") (b5 bS hr (aA (pv 0) (aA aE aB))))
   (aD (aX (i:=4) nd rfl (by walk_at"oi") (b5 iE hr (aA (b5 bS hr (aA (pv 0) (aA aE aB))) (aA (pv 3) aB))))
   (aD (aX (i:=5) nd rfl (by walk_at"oi") (b5 iC hr (aA (pv 4) (aA (b5 bS hr (aA (pv 0) (aA aE aB))) (aA (pv 1) (aA (pv 3) aB))))))
   (aD (aX (i:=6) nd rfl (by walk_at"oi") (b5 gJ hr (aA (pv 4) (aA (b5 bS hr (aA (pv 0) (aA aE aB))) (aA (pv 3) aB)))))
   (aD (aX (i:=7) nd rfl (by walk_at"oi") (tG K_House_0 hr (aA (pv 4) (aA (pv 5) (aA (pv 6) (aA (pv 2) (aA (pv 1) aB)))))))
   (aD (aX (i:=8) nd rfl (by walk_at"oi") (tG K_House_0 hr (aA (gL (pv 4) cU cU (iK (nA j8 aE))) (aA (gL (pv 5) cU cU (iK (nA j8 aE))) (aA (b5 gK hr (aA (pv 6) (aA (b5 bS hr (aA (pv 0) (aA aE aB))) (aA (pv 3) aB)))) (aA (pv 2) (aA (pv 1) aB)))))))
   (aD (C0 (i:=9) nd rfl (by walk_at"oi") (N:=["_law_k","_law_first"]) (nl:=1) (ci:=[1]) rfl (blk (s.heap.objs.size+1) rfl rfl rfl (by kernel_rfl)) (wI rfl m.vN (aA aE aB)) (fun _ _ _ _=>(aM (i:=0) (show (["_law_k","_law_first"]:List Str).Nodup by decide +kernel) rfl (by walk_at"oi"))) (fun _ _ _ _=>fR) (fun _ _ _ _=>(bV (FV rfl) rfl m.UR P8 (aA aE (aA (aG zV (aG d0 (pv 1) (pv 0)) aE) aB)))))
   (aD (cG (PW.pt (nM (bL nG (cM 1 hr (pv 7)) (bV (wA rfl) rfl m.EN y8 (aA (dD (N:=["_law_name","_law_number"]) (nl:=2) (ci:=[]) rfl (blk (s.heap.objs.size+1) rfl rfl rfl (by kernel_rfl)) (cE (pv 6)) (fun _ _ _ _=>(g0 (K:=K) (n:=2) rfl (aY (aM (i:=0) (show (["_law_name","_law_number"]:List Str).Nodup by decide +kernel) rfl (by walk_at"oi")) (aY (aM (i:=1) (show (["_law_name","_law_number"]:List Str).Nodup by decide +kernel) rfl (by walk_at"oi")) dE)))) (fun _ _ _ _=>fR) (fun _ _ _ _=>(pv 1))) aB)) (bC _)) (kE (o9 (j9 (b5 iF hr (aA (pv 7) (aA (pv 8) (aA (pv 9) aB))))))))) (aF (aW lJ)) bU)
   (aD (aX (i:=10) nd rfl (by walk_at"oi") (tG K_House_0 hr (aA (fP oI rfl m.pZ mE (aA (pv 4) aB)) (aA (fP oI rfl m.pZ mE (aA (pv 5) aB)) (aA (fP oI rfl m.pZ mE (aA (pv 6) aB)) (aA (pv 2) (aA (pv 1) aB)))))))
   (aF (aW (pM (gW (pB hu9) (cM 1 hr (pv 10)) (cM 1 hr (pv 7)) (bC _)) (pM (gW (pB hu9) (cM 1 hr (pv 10)) (cM 1 hr (pv 7)) (bC _)) (uA (gW (pB hu9) (cM 1 hr (pv 10)) (cM 1 hr (pv 7)) (bC _)))))))))))))))))),?_⟩
  refine aO (σ:=[some (.ref a),none,none,none,none,none,none,none,none,none,none]) rfl ?_;walk_at"cx";walk_at"go";rename_i pF G3 m3 T3 eF;refine pR (SqL.of eF) (by lia) (by show _<(4:Int);lia) fun v hv=> ?_;have hvf:∃vf,v= .int vf/\0<=vf/\vf<100000000000:=by
   simp only[List.mem_cons,List.not_mem_nil,or_false]at hv;rcases hv with rfl|rfl|rfl|rfl
   ·exact⟨_,rfl,by lia,by lia⟩
   ·exact⟨_,rfl,by lia,by lia⟩
   ·exact⟨_,rfl,by lia,by lia⟩
   ·exact⟨_,rfl,by lia,by lia⟩
  walk_at"g1";obtain⟨f,rfl,hf0,hf1⟩:=hvf;walk_at"g2";have hS3:=T3.seq hS;walk_at"go";refine IO fun p ws rz H4 n4 S4 e4 hra rok=> ?_;have hS4:=S4.seq hS3;walk_at"go";refine HU hf0 e4 hra rok fun b us ds H5 n5 S5 e5 hud dok=> ?_;have hS5:=S5.seq hS4;walk_at"go";refine PU (S5 _ _ e4) (hra.sm S5) rok fun c cs ps H6 n6 S6 e6 hcp pok hpl=> ?_;have hS6:=S6.seq hS5;have e46:=S6 _ _ (S5 _ _ e4);have e56:=S6 _ _ e5;have hra6:=(hra.sm S5).sm S6;have hud6:=gO hud S6;walk_at"g1";obtain⟨nr,ok,l0,l1⟩:=id rok;walk_at"g2";obtain⟨nd',hin,ld⟩:=id dok;obtain⟨hpr,ft⟩:=id pok;walk_at"go";refine pX (rz:=rz) (ds:=ds) (ps:=ps) rfl (by assumption) e46 hra6 (SqL.of e56) hud6 (SqL.of e6) hcp nr nd' hin hpr ft (by lia) (by lia) (by lia) (by lia) (by lia) fun h H7 n7 S7 hh=> ?_;have hS7:=S7.seq hS6;have e47:=S7 _ _ e46;have e57:=S7 _ _ e56;have e67:=S7 _ _ e6;have hwl:ws.length=rz.length:=Paired.length hra;have hul:us.length=ds.length:=Paired.length hud;walk_at"go";refine j0 (lo:=none) (hi:=none) (st:=some (-1)) (SqL.of e47) (by decide) (by rw[fO,sizeLine_eq];lia) fun q8 H8 n8 S8 e8=> ?_;rw[fK]at e8;have e58:=S8 _ _ e57;walk_at"go";refine j0 (lo:=none) (hi:=none) (st:=some (-1)) (SqL.of e58) (by decide) (by rw[fO,sizeLine_eq];lia) fun q9 H9 n9 S9 e9=> ?_;rw[fK]at e9;have s79:=S8.trans S9;have hS9:=s79.seq hS7;have e69:=s79 _ _ e67;walk_at"go";refine N5 e69 (cC hcp (S7.trans s79)) hpl ft.1 fun qa ca qs Ha na Sa ea hca sm2=> ?_;have s8a:=S9.trans Sa;have s7a:=s79.trans Sa;have qok:=sm2.ok pok;walk_at"go";refine pX (rz:=rz.reverse) (ds:=ds.reverse) (ps:=qs) rfl (by assumption) (s8a _ _ e8) (nV (hra6.sm (S7.trans s7a))) (SqL.of (Sa _ _ e9)) (nV (gO hud6 (S7.trans s7a))) (SqL.of ea) hca (IJ nr) (HZ nd') (PQ hin) (fun p hp=>jW (qok.hpr p hp)) (IA qok.ft) (by rw[List.length_reverse];lia) (by rw[List.length_reverse];lia) (by have:=sm2.len;lia) (by lia) (by lia) fun o Hb nb Sb ho=> ?_;have s7b:=s7a.trans Sb;have hhb:=aZ hh s7b;have e4b:=s7b _ _ e47;have e5b:=s7b _ _ e57;have e6b:=s7b _ _ e67;have hrab:=hra6.sm (S7.trans s7b);have hudb:=gO hud6 (S7.trans s7b);have hcpb:=cC hcp (S7.trans s7b);walk_at"g1";obtain⟨dx1,qs1,qp1,qd1,nk1,kvs1,e1,_⟩:=hhb.ex;walk_at"g2";walk_at"go";refine IH (fun i=> .int (max 0 (f+(0+(i:Int)) - 2))) (by rw[sizeLine_eq];decide) (rest:=[some (.int f)]) (by rfl) ?_ ?_
  ·intro i G1 hi U1 R hR;walk_at"go";exact hR _ (Same.refl _)
  intro G1 U1;walk_at"go";rename_i qt G2 g2 U2 e2t;have e2t':G2 qt=some (.lst (((List.range 9).map fun i:Nat=>max 0 (f+(0+(i:Int)) - 2)).map V.int)):=by rw[e2t,List.map_map];rfl
  have u2:=U1.trans U2;have hh2:=aZ hhb u2;have e12:=u2 _ _ e1;have e62:=u2 _ _ e6b;have hcp2:=cC hcpb u2;have hcl:cs.length=ps.length:=Paired.length hcp;walk_at"go";refine uJ hh2 nr fun G3 U3=> ?_;rw[FQ nr ps hpr];walk_at"go";refine jV (α:=Str×Int) (xs:=ps) (vs:=cs) (fun p=> .str p.1) (fun p=> .int p.2) (fun _=>true) (fun p y _=>y= .int p.2) (fun _ _ _ _ h _=>h) (by rw[sizeLine_eq];lia) (rest:=[]) (by rfl) (SqL.of (U3 _ _ e62)) (cC hcp2 U3) (fun x H1 hx s1 R hR=>hR _ (Same.refl _)) (fun x H1 hx _ s1 R hR=> ?_) ?_
  ·walk_at"go";exact hR _ _ rfl (Same.refl _)
  intro ys G4 U4 hys;rw[eU]at hys;have ey:ys=(ps.map (·.2)).map V.int:=by rw[eA hys,List.map_map];rfl
  subst ey;walk_at"go";rename_i q5 G5 g5 U5 e5';refine FS (SqL.of e5') ?_;have u5:=u2.trans (U3.trans (U4.trans U5));have tw:Two m.aH (aQ P w K mg base (some 1)) G5 h o f (f+2+nY ns 3%3) rz ps qs ds:=⟨aZ hhb u5,aZ ho u5,rok,dok,sm2.sum,hf0,by lia,by lia,by lia⟩
  walk_at"go";refine IV tw ((U3.trans (U4.trans U5)) _ _ e2t') (by rw[List.length_map];decide) fun G6 U6=> ?_;have u6:=u5.trans U6;have e46:=u6 _ _ e4b;have e56':=u6 _ _ e5b;have e66:=u6 _ _ e6b;walk_at"go";rename_i r1 G7 g7 U7 f7 r2 G8 g8 U8 f8 r3 G9 g9 U9 f9;have u79:=U8.trans U9;have u69:=U7.trans u79;have u9:=u6.trans u69;refine pX (rz:=rz) (ds:=ds) (ps:=ps) rfl (by assumption) (u79 _ _ f7) (hrab.sm u9) (SqL.of (U9 _ _ f8)) (gO hudb u9) (SqL.of f9) (cC hcpb u9) nr nd' hin hpr ft (by lia) (by lia) (by lia) (by lia) (by lia) fun ag Ga ga Ua hag=> ?_;have ua:=u9.trans Ua;have hha:=aZ hhb ua;have e1a:=ua _ _ e1;walk_at"g1";obtain⟨dx3,qs3,qp3,qd3,nk3,kvs3,e3a,_⟩:=hag.ex;walk_at"g2";walk_at"go";refine fD hag fun pa Gb gb Ub rb=> ?_;have e1b:=Ub _ _ e1a;walk_at"go";refine fD (aZ hha Ub) fun pc Gc gc Uc rc=> ?_;refine fL (SqL.of (Uc _ _ rb)) (SqL.of rc) (dZ (g4 _)) ?_;have ubc:=Ub.trans Uc;have e1c:=ubc _ _ e1a;have e3c:=ubc _ _ e3a;walk_at"go";refine fD (aZ hag ubc) fun pd Gd gd Ud rd=> ?_;have e1d:=Ud _ _ e1c;walk_at"go";refine fD (aZ hha (ubc.trans Ud)) fun pe Ge ge Ue re=> ?_;refine fL (SqL.of (Ue _ _ rd)) (SqL.of re) (dZ (g4 _)) ?_;have ube:=ubc.trans (Ud.trans Ue);have e1e:=ube _ _ e1a;have e3e:=ube _ _ e3a;walk_at"go";refine qW (aZ hag ube) hf0 (by lia) (by lia) (by lia) (by lia) fun pf yf Gf gf Uf rf hpf=> ?_;have e1f:=Uf _ _ e1e;walk_at"go";refine qW (aZ hha (ube.trans Uf)) hf0 (by lia) (by lia) (by lia) (by lia) fun pg yg Gg gg Ug rg hpg=> ?_;refine fL (SqL.of (Ug _ _ rf)) (SqL.of rg) (tL (cC hpf Ug) hpg) ?_;walk_at"go";exact k _
end
theorem all_mk {l:W.OpenLaw}{w:World}{K:W.Frag}{h:Heap}{mg:Str->Option Value}{fa:Addr} (X:K.In h) (G:h.Ns mainGlobals mg) (hfa:mg "law" =some (.ref fa))
  {zaa zab zac zad zae zaf zag zah zai zaj zak zal zam zan zao zap zaq zar zas zat zau zav zaw zax zay zaz zba zbb zbc zbd zbe zbf zbg zbh zbi zbj zbk zbl zbm zbn zbo zbp zbq zbr zbs zbt zbu zbv zbw:Addr}
  {zbx zby:Option Addr}{zbz:Array (Option Value)}{zca zcb zcc zcd zce zcf:Value}
  {zcg zch:Option Addr}{zci:Array (Option Value)}{zcj zck zcl zcm zcn zco:Value}
  {zcp zcq:Option Addr}{zcr:Array (Option Value)}{zcs zct zcu zcv zcw zcx:Value}
  {zcy zcz:Option Addr}{zda:Array (Option Value)}{zdb zdc zdd zde zdf zdg:Value}
  {zdh zdi:Option Addr}{zdj:Array (Option Value)}{zdk zdl zdm zdn zdo zdp:Value}
  {zdq zdr:Option Addr}{zds:Array (Option Value)}{zdt zdu zdv zdw zdx zdy:Value}
  {zdz zea:Option Addr}{zeb:Array (Option Value)}{zec zed zee zef zeg zeh:Value}
  {zei zej:Option Addr}{zek:Array (Option Value)}{zel zem zen zeo zep zeq:Value}
  {zer zes:Option Addr}{zet:Array (Option Value)}{zeu zev zew zex zey zez:Value}
  {zfa zfb:Option Addr}{zfc:Array (Option Value)}{zfd zfe zff zfg zfh zfi:Value}
  {zfj zfk:Option Addr}{zfl:Array (Option Value)}{zfm zfn zfo zfp zfq zfr:Value}
  {zfs zft:Option Addr}{zfu:Array (Option Value)}{zfv zfw zfx zfy zfz zga:Value}
  {zgb zgc:Option Addr}{zgd:Array (Option Value)}{zge zgf zgg zgh zgi zgj:Value}
  {zgk zgl:Option Addr}{zgm:Array (Option Value)}{zgn zgo zgp zgq zgr zgs:Value}
  {zgt zgu:Option Addr}{zgv:Array (Option Value)}{zgw zgx zgy zgz zha zhb:Value}
  {zhc zhd:Option Addr}{zhe:Array (Option Value)}{zhf zhg zhh zhi zhj zhk:Value}
  {zhl zhm:Option Addr}{zhn:Array (Option Value)}{zho zhp zhq zhr zhs zht:Value}
  {zhu zhv:Option Addr}{zhw:Array (Option Value)}{zhx zhy zhz zia zib zic:Value}
  {zid zie:Option Addr}{zif:Array (Option Value)}{zig zih zii zij zik zil:Value}
  {zim zin:Option Addr}{zio:Array (Option Value)}{ziq zir zis zit ziu ziv:Value}
  {ziw zix:Option Addr}{ziy:Array (Option Value)}{ziz zja zjb zjc zjd zje:Value}
  {zjf:Addr}
  {zjg:Tok}
  {zjh:Value}{zji:Option Addr}{zjj:Nat}{zjk:Array (Option Value)}
  {zjl zjm:Option Addr}{zjn:Array (Option Value)}{zjo zjp zjq zjr zjs zjt:Value}
  {zju zjv:Option Addr}{zjw:Array (Option Value)}{zjx zjy zjz zka zkb zkc:Value}
  {zkd zke:Option Addr}{zkf:Array (Option Value)}{zkg zkh zki zkj zkk zkl:Value}
  {zkm zkn:Option Addr}{zko:Array (Option Value)}{zkp zkq zkr zks zkt zku:Value}
  {zkv zkw:Option Addr}{zkx:Array (Option Value)}{zky zkz zla zlb zlc zld:Value}
  {zle zlf:Option Addr}{zlg:Array (Option Value)}{zlh zli zlj zlk zll zlm:Value}
  {zln zlo:Option Addr}{zlp:Array (Option Value)}{zlq zlr zls zlt zlu zlv:Value}
  {zlw zlx:Option Addr}{zly:Array (Option Value)}{zlz zma zmb zmc zmd zme:Value}
  {zmf zmg:Option Addr}{zmh:Array (Option Value)}{zmi zmj zmk zml zmm zmn:Value}
  {zmo zmp:Option Addr}{zmq:Array (Option Value)}{zmr zms zmt zmu zmv zmw:Value}
  {zmx zmy:Option Addr}{zmz:Array (Option Value)}{zna znb znc znd zne znf:Value}
  {zng znh:Option Addr}{zni:Array (Option Value)}{znj znk znl znm znn zno:Value}
  {znp:Addr}
  {znq:Tok}
  {znr:Value}{zns:Option Addr}{znt:Nat}{znu:Array (Option Value)}
  {znv znw:Option Addr}{znx:Array (Option Value)}{zny znz zoa zob zoc zod:Value}
  {zoe zof:Option Addr}{zog:Array (Option Value)}{zoh zoi zoj zok zol zom:Value}
  {zon zoo:Option Addr}{zop:Array (Option Value)}{zoq zor zos zot zou zov:Value}
  {zow zox:Option Addr}{zoy:Array (Option Value)}{zoz zpa zpb zpc zpd zpe:Value}
  {zpf zpg:Option Addr}{zph:Array (Option Value)}{zpi zpj zpk zpl zpm zpn:Value}
  {zpo zpp:Option Addr}{zpq:Array (Option Value)}{zpr zps zpt zpu zpv zpw:Value}
  {zpx:Tok}
  (zpy:W.nsIn K mainGlobals "_wall" =some (some (.ref zaa)))
  (zpz:W.nsIn K mainGlobals "need_turns" =some (some (.ref zab)))
  (zqa:W.nsIn K mainGlobals "need_each_once" =some (some (.ref zac)))
  (zqb:W.nsIn K mainGlobals "rooms_spoken_of" =some (some (.ref zad)))
  (zqc:W.nsIn K mainGlobals "need_rooms" =some (some (.ref zae)))
  (zqd:W.nsIn K mainGlobals "added_people" =some (some (.ref zaf)))
  (zqe:W.nsIn K mainGlobals "need_space" =some (some (.ref zag)))
  (zqf:W.nsIn K mainGlobals "is_whole" =some (some (.ref zah)))
  (zqg:W.nsIn K mainGlobals "is_name" =some (some (.ref zai)))
  (zqh:W.nsIn K mainGlobals "need_name" =some (some (.ref zaj)))
  (zqi:W.nsIn K mainGlobals "need_whole" =some (some (.ref zak)))
  (zqj:W.nsIn K mainGlobals "_law_cell_at" =some (some (.ref zal)))
  (zqk:W.nsIn K mainGlobals "_law_drawn" =some (some (.ref zam)))
  (zql:W.nsIn K mainGlobals "_law_draws" =some (some (.ref zan)))
  (zqm:W.nsIn K mainGlobals "_law_rooms" =some (some (.ref zao)))
  (zqn:W.nsIn K mainGlobals "_law_doors" =some (some (.ref zap)))
  (zqo:W.nsIn K mainGlobals "_law_people" =some (some (.ref zaq)))
  (zqp:W.nsIn K mainGlobals "_law_parted" =some (some (.ref zar)))
  (zqq:W.nsIn K mainGlobals "_law_alike" =some (some (.ref zas)))
  (zqr:W.nsIn K mainGlobals "law" =some (some (.ref zat)))
  (zqs:W.nsIn K mainGlobals "House" =some (some (.ref zau)))
  (zqt:W.nsIn K mainGlobals "Door" =some (some (.ref zav)))
  (zqu:W.nsIn K mainGlobals "Since" =some (some (.ref zaw)))
  (zqv:W.nsIn K mainGlobals "OutError" =some (some (.ref zax)))
  (zqw:W.nsIn K mainGlobals "NoDoor" =some (some (.ref zay)))
  (zqx:W.nsIn K mainGlobals "NoHouse" =some (some (.ref zaz)))
  (zqy:W.nsIn K mainGlobals "NoTurn" =some (some (.ref zba)))
  (zqz:W.nsIn K mainGlobals "Twice" =some (some (.ref zbb)))
  (zra:W.nsIn K mainGlobals "NoRoom" =some (some (.ref zbc)))
  (zrb:W.nsIn K mainGlobals "Unknown" =some (some (.ref zbd)))
  (zrc:W.findIn K (.ref zau) "__init__" =some (some (.ref zbe)))
  (zrd:W.findIn K (.ref zau) "rooms" =some (some (.ref zbf)))
  (zre:W.findIn K (.ref zau) "doors" =some (some (.ref zbg)))
  (zrf:W.findIn K (.ref zau) "need_room" =some (some (.ref zbh)))
  (zrg:W.findIn K (.ref zau) "holds" =some (some (.ref zbi)))
  (zrh:W.findIn K (.ref zau) "found" =some (some (.ref zbj)))
  (zri:W.findIn K (.ref zau) "into" =some (some (.ref zbk)))
  (zrj:W.findIn K (.ref zau) "from_room" =some (some (.ref zbl)))
  (zrk:W.findIn K (.ref zau) "door" =some (some (.ref zbm)))
  (zrl:W.findIn K (.ref zau) "lets" =some (some (.ref zbn)))
  (zrm:W.findIn K (.ref zau) "total" =some (some (.ref zbo)))
  (zrn:W.findIn K (.ref zau) "pairs" =some (some (.ref zbp)))
  (zro:W.findIn K (.ref zav) "__init__" =some (some (.ref zbq)))
  (zrp:W.findIn K (.ref zav) "lets" =some (some (.ref zbr)))
  (zrq:W.findIn K (.ref zav) "is_exit" =some (some (.ref zbs)))
  (zrr:W.findIn K (.ref zav) "words" =some (some (.ref zbt)))
  (zrs:W.findIn K (.ref zaw) "__init__" =some (some (.ref zbu)))
  (zrt:W.findIn K (.ref zaw) "lets" =some (some (.ref zbv)))
  (zru:W.findIn K (.ref zaw) "words" =some (some (.ref zbw)))
  (zrv:K.lookup zaa=some ⟨zca,zbx,.func (W.fnOf "_wall" "_wall" (aL jX) (aK jX) (aC jX) .none zcb zcc zcd zby zce zcf),zbz⟩)
  (zrw:W.codeIn K zce "_wall" =true)
  (zrx:W.keepIn K (.ref zaa)=true)
  (zry:K.lookup zab=some ⟨zcj,zcg,.func (W.fnOf "need_turns" "need_turns" (aL dL) (aK dL) (aC dL) .none zck zcl zcm zch zcn zco),zci⟩)
  (zrz:W.codeIn K zcn "need_turns" =true)
  (zsa:W.keepIn K (.ref zab)=true)
  (zsb:K.lookup zac=some ⟨zcs,zcp,.func (W.fnOf "need_each_once" "need_each_once" (aL cA) (aK cA) (aC cA) .none zct zcu zcv zcq zcw zcx),zcr⟩)
  (zsc:W.codeIn K zcw "need_each_once" =true)
  (zsd:W.keepIn K (.ref zac)=true)
  (zse:K.lookup zad=some ⟨zdb,zcy,.func (W.fnOf "rooms_spoken_of" "rooms_spoken_of" (aL b8) (aK b8) (aC b8) .none zdc zdd zde zcz zdf zdg),zda⟩)
  (zsf:W.codeIn K zdf "rooms_spoken_of" =true)
  (zsg:W.keepIn K (.ref zad)=true)
  (zsh:K.lookup zae=some ⟨zdk,zdh,.func (W.fnOf "need_rooms" "need_rooms" (aL dU) (aK dU) (aC dU) .none zdl zdm zdn zdi zdo zdp),zdj⟩)
  (zsi:W.codeIn K zdo "need_rooms" =true)
  (zsj:W.keepIn K (.ref zae)=true)
  (zsk:K.lookup zaf=some ⟨zdt,zdq,.func (W.fnOf "added_people" "added_people" (aL cS) (aK cS) (aC cS) .none zdu zdv zdw zdr zdx zdy),zds⟩)
  (zsl:W.codeIn K zdx "added_people" =true)
  (zsm:W.keepIn K (.ref zaf)=true)
  (zsn:K.lookup zag=some ⟨zec,zdz,.func (W.fnOf "need_space" "need_space" (aL dS) (aK dS) (aC dS) .none zed zee zef zea zeg zeh),zeb⟩)
  (zso:W.codeIn K zeg "need_space" =true)
  (zsp:W.keepIn K (.ref zag)=true)
  (zsq:K.lookup zah=some ⟨zel,zei,.func (W.fnOf "is_whole" "is_whole" (aL eW) (aK eW) (aC eW) .none zem zen zeo zej zep zeq),zek⟩)
  (zsr:W.codeIn K zep "is_whole" =true)
  (zss:W.keepIn K (.ref zah)=true)
  (zst:K.lookup zai=some ⟨zeu,zer,.func (W.fnOf "is_name" "is_name" (aL fM) (aK fM) (aC fM) .none zev zew zex zes zey zez),zet⟩)
  (zsu:W.codeIn K zey "is_name" =true)
  (zsv:W.keepIn K (.ref zai)=true)
  (zsw:K.lookup zaj=some ⟨zfd,zfa,.func (W.fnOf "need_name" "need_name" (aL eE) (aK eE) (aC eE) .none zfe zff zfg zfb zfh zfi),zfc⟩)
  (zsx:W.codeIn K zfh "need_name" =true)
  (zsy:W.keepIn K (.ref zaj)=true)
  (zsz:K.lookup zak=some ⟨zfm,zfj,.func (W.fnOf "need_whole" "need_whole" (aL dG) (aK dG) (aC dG) .none zfn zfo zfp zfk zfq zfr),zfl⟩)
  (zta:W.codeIn K zfq "need_whole" =true)
  (ztb:W.keepIn K (.ref zak)=true)
  (ztc:K.lookup zal=some ⟨zfv,zfs,.func (W.fnOf "_law_cell_at" "_law_cell_at" (aL cP) (aK cP) (aC cP) .none zfw zfx zfy zft zfz zga),zfu⟩)
  (ztd:W.codeIn K zfz "_law_cell_at" =true)
  (zte:W.keepIn K (.ref zal)=true)
  (ztf:K.lookup zam=some ⟨zge,zgb,.func (W.fnOf "_law_drawn" "_law_drawn" (aL dO) (aK dO) (aC dO) .none zgf zgg zgh zgc zgi zgj),zgd⟩)
  (ztg:W.codeIn K zgi "_law_drawn" =true)
  (zth:W.keepIn K (.ref zam)=true)
  (zti:K.lookup zan=some ⟨zgn,zgk,.func (W.fnOf "_law_draws" "_law_draws" (aL dP) (aK dP) (aC dP) .none zgo zgp zgq zgl zgr zgs),zgm⟩)
  (ztj:W.codeIn K zgr "_law_draws" =true)
  (ztk:W.keepIn K (.ref zan)=true)
  (ztl:K.lookup zao=some ⟨zgw,zgt,.func (W.fnOf "_law_rooms" "_law_rooms" (aL dN) (aK dN) (aC dN) .none zgx zgy zgz zgu zha zhb),zgv⟩)
  (ztm:W.codeIn K zha "_law_rooms" =true)
  (ztn:W.keepIn K (.ref zao)=true)
  (zto:K.lookup zap=some ⟨zhf,zhc,.func (W.fnOf "_law_doors" "_law_doors" (aL dI) (aK dI) (aC dI) .none zhg zhh zhi zhd zhj zhk),zhe⟩)
  (ztp:W.codeIn K zhj "_law_doors" =true)
  (ztq:W.keepIn K (.ref zap)=true)
  (ztr:K.lookup zaq=some ⟨zho,zhl,.func (W.fnOf "_law_people" "_law_people" (aL cV) (aK cV) (aC cV) .none zhp zhq zhr zhm zhs zht),zhn⟩)
  (zts:W.codeIn K zhs "_law_people" =true)
  (ztt:W.keepIn K (.ref zaq)=true)
  (ztu:K.lookup zar=some ⟨zhx,zhu,.func (W.fnOf "_law_parted" "_law_parted" (aL c3) (aK c3) (aC c3) .none zhy zhz zia zhv zib zic),zhw⟩)
  (ztv:W.codeIn K zib "_law_parted" =true)
  (ztw:W.keepIn K (.ref zar)=true)
  (ztx:K.lookup zas=some ⟨zig,zid,.func (W.fnOf "_law_alike" "_law_alike" (aL dQ) (aK dQ) (aC dQ) .none zih zii zij zie zik zil),zif⟩)
  (zty:W.codeIn K zik "_law_alike" =true)
  (ztz:W.keepIn K (.ref zas)=true)
  (zua:K.lookup zat=some ⟨ziq,zim,.func (W.fnOf "law" "law" (aL iV) (aK iV) (aC iV) .none zir zis zit zin ziu ziv),zio⟩)
  (zub:W.codeIn K ziu "law" =true)
  (zuc:W.keepIn K (.ref zat)=true)
  (zud:K.lookup zbe=some ⟨ziz,ziw,.func (W.fnOf "__init__" "House.__init__" (aL bY) (aK bY) (aC bY) (.ref zjf) zja zjb zjc zix zjd zje),ziy⟩)
  (zue:W.codeIn K zjd "House.__init__" =true)
  (zuf:W.keepIn K (.ref zbe)=true)
  (zug:K.lookup zjf=some ⟨zjh,zji,.seq #[.int 0 zjg] zjj,zjk⟩)
  (zuh:K.lookup zbf=some ⟨zjo,zjl,.func (W.fnOf "rooms" "House.rooms" (aL c6) (aK c6) (aC c6) .none zjp zjq zjr zjm zjs zjt),zjn⟩)
  (zui:W.codeIn K zjs "House.rooms" =true)
  (zuj:W.keepIn K (.ref zbf)=true)
  (zuk:K.lookup zbg=some ⟨zjx,zju,.func (W.fnOf "doors" "House.doors" (aL cZ) (aK cZ) (aC cZ) .none zjy zjz zka zjv zkb zkc),zjw⟩)
  (zul:W.codeIn K zkb "House.doors" =true)
  (zum:W.keepIn K (.ref zbg)=true)
  (zun:K.lookup zbh=some ⟨zkg,zkd,.func (W.fnOf "need_room" "House.need_room" (aL b6) (aK b6) (aC b6) .none zkh zki zkj zke zkk zkl),zkf⟩)
  (zuo:W.codeIn K zkk "House.need_room" =true)
  (zup:W.keepIn K (.ref zbh)=true)
  (zuq:K.lookup zbi=some ⟨zkp,zkm,.func (W.fnOf "holds" "House.holds" (aL c4) (aK c4) (aC c4) .none zkq zkr zks zkn zkt zku),zko⟩)
  (zur:W.codeIn K zkt "House.holds" =true)
  (zus:W.keepIn K (.ref zbi)=true)
  (zut:K.lookup zbj=some ⟨zky,zkv,.func (W.fnOf "found" "House.found" (aL c5) (aK c5) (aC c5) .none zkz zla zlb zkw zlc zld),zkx⟩)
  (zuu:W.codeIn K zlc "House.found" =true)
  (zuv:W.keepIn K (.ref zbj)=true)
  (zuw:K.lookup zbk=some ⟨zlh,zle,.func (W.fnOf "into" "House.into" (aL dM) (aK dM) (aC dM) .none zli zlj zlk zlf zll zlm),zlg⟩)
  (zux:W.codeIn K zll "House.into" =true)
  (zuy:W.keepIn K (.ref zbk)=true)
  (zuz:K.lookup zbl=some ⟨zlq,zln,.func (W.fnOf "from_room" "House.from_room" (aL b7) (aK b7) (aC b7) .none zlr zls zlt zlo zlu zlv),zlp⟩)
  (zva:W.codeIn K zlu "House.from_room" =true)
  (zvb:W.keepIn K (.ref zbl)=true)
  (zvc:K.lookup zbm=some ⟨zlz,zlw,.func (W.fnOf "door" "House.door" (aL dR) (aK dR) (aC dR) .none zma zmb zmc zlx zmd zme),zly⟩)
  (zvd:W.codeIn K zmd "House.door" =true)
  (zve:W.keepIn K (.ref zbm)=true)
  (zvf:K.lookup zbn=some ⟨zmi,zmf,.func (W.fnOf "lets" "House.lets" (aL dH) (aK dH) (aC dH) .none zmj zmk zml zmg zmm zmn),zmh⟩)
  (zvg:W.codeIn K zmm "House.lets" =true)
  (zvh:W.keepIn K (.ref zbn)=true)
  (zvi:K.lookup zbo=some ⟨zmr,zmo,.func (W.fnOf "total" "House.total" (aL cW) (aK cW) (aC cW) .none zms zmt zmu zmp zmv zmw),zmq⟩)
  (zvj:W.codeIn K zmv "House.total" =true)
  (zvk:W.keepIn K (.ref zbo)=true)
  (zvl:K.lookup zbp=some ⟨zna,zmx,.func (W.fnOf "pairs" "House.pairs" (aL cX) (aK cX) (aC cX) .none znb znc znd zmy zne znf),zmz⟩)
  (zvm:W.codeIn K zne "House.pairs" =true)
  (zvn:W.keepIn K (.ref zbp)=true)
  (zvo:K.lookup zbq=some ⟨znj,zng,.func (W.fnOf "__init__" "Door.__init__" (aL bX) (aK bX) (aC bX) (.ref znp) znk znl znm znh znn zno),zni⟩)
  (zvp:W.codeIn K znn "Door.__init__" =true)
  (zvq:W.keepIn K (.ref zbq)=true)
  (zvr:K.lookup znp=some ⟨znr,zns,.seq #[.none,.int 1 znq] znt,znu⟩)
  (zvs:K.lookup zbr=some ⟨zny,znv,.func (W.fnOf "lets" "Door.lets" (aL eK) (aK eK) (aC eK) .none znz zoa zob znw zoc zod),znx⟩)
  (zvt:W.codeIn K zoc "Door.lets" =true)
  (zvu:W.keepIn K (.ref zbr)=true)
  (zvv:K.lookup zbs=some ⟨zoh,zoe,.func (W.fnOf "is_exit" "Door.is_exit" (aL cO) (aK cO) (aC cO) .none zoi zoj zok zof zol zom),zog⟩)
  (zvw:W.codeIn K zol "Door.is_exit" =true)
  (zvx:W.keepIn K (.ref zbs)=true)
  (zvy:K.lookup zbt=some ⟨zoq,zon,.func (W.fnOf "words" "Door.words" (aL eN) (aK eN) (aC eN) .none zor zos zot zoo zou zov),zop⟩)
  (zvz:W.codeIn K zou "Door.words" =true)
  (zwa:W.keepIn K (.ref zbt)=true)
  (zwb:K.lookup zbu=some ⟨zoz,zow,.func (W.fnOf "__init__" "Since.__init__" (aL cB) (aK cB) (aC cB) .none zpa zpb zpc zox zpd zpe),zoy⟩)
  (zwc:W.codeIn K zpd "Since.__init__" =true)
  (zwd:W.keepIn K (.ref zbu)=true)
  (zwe:K.lookup zbv=some ⟨zpi,zpf,.func (W.fnOf "lets" "Since.lets" (aL dJ) (aK dJ) (aC dJ) .none zpj zpk zpl zpg zpm zpn),zph⟩)
  (zwf:W.codeIn K zpm "Since.lets" =true)
  (zwg:W.keepIn K (.ref zbv)=true)
  (zwh:K.lookup zbw=some ⟨zpr,zpo,.func (W.fnOf "words" "Since.words" (aL dY) (aK dY) (aC dY) .none zps zpt zpu zpp zpv zpw),zpq⟩)
  (zwi:W.codeIn K zpv "Since.words" =true)
  (zwj:W.keepIn K (.ref zbw)=true)
  (zwk:W.plainGet K zau Str.empty=true)
  (zwl:W.hasDictIn K zau=true)
  (zwm:W.plainOver K zau=true)
  (zwn:W.findIn K (.ref zau) "__setattr__" =some (some (.builtin "object.__setattr__")))
  (zwo:W.makesIn K zau=true)
  (zwp:W.keepIn K (.ref zau)=true)
  (zwq:W.findIn K (.ref zau) "__class__" =some (some (.builtin "object.__class__")))
  (zwr:W.mroIn K zau (.type "object")=some true)
  (zws:W.findIn K (.ref zau) "first" =some none)
  (zwt:W.findIn K (.ref zau) "last" =some none)
  (zwu:W.findIn K (.ref zau) "sizes" =some none)
  (zwv:W.findIn K (.ref zau) "people" =some none)
  (zww:W.findIn K (.ref zau) "named_doors" =some none)
  (zwx:W.findIn K (.ref zau) "name" =some none)
  (zwy:W.findIn K (.ref zau) "start" =some none)
  (zwz:W.findIn K (.ref zau) "end" =some none)
  (zxa:W.findIn K (.ref zau) "wide" =some none)
  (zxb:W.findIn K (.ref zau) "since" =some none)
  (zxc:W.findIn K (.ref zau) "__init__" =some (some (.ref zbe)))
  (zxd:W.isFn K (.ref zbe)=true)
  (zxe:W.findIn K (.ref zau) "rooms" =some (some (.ref zbf)))
  (zxf:W.isFn K (.ref zbf)=true)
  (zxg:W.findIn K (.ref zau) "doors" =some (some (.ref zbg)))
  (zxh:W.isFn K (.ref zbg)=true)
  (zxi:W.findIn K (.ref zau) "need_room" =some (some (.ref zbh)))
  (zxj:W.isFn K (.ref zbh)=true)
  (zxk:W.findIn K (.ref zau) "holds" =some (some (.ref zbi)))
  (zxl:W.isFn K (.ref zbi)=true)
  (zxm:W.findIn K (.ref zau) "found" =some (some (.ref zbj)))
  (zxn:W.isFn K (.ref zbj)=true)
  (zxo:W.findIn K (.ref zau) "into" =some (some (.ref zbk)))
  (zxp:W.isFn K (.ref zbk)=true)
  (zxq:W.findIn K (.ref zau) "from_room" =some (some (.ref zbl)))
  (zxr:W.isFn K (.ref zbl)=true)
  (zxs:W.findIn K (.ref zau) "door" =some (some (.ref zbm)))
  (zxt:W.isFn K (.ref zbm)=true)
  (zxu:W.findIn K (.ref zau) "lets" =some (some (.ref zbn)))
  (zxv:W.isFn K (.ref zbn)=true)
  (zxw:W.findIn K (.ref zau) "total" =some (some (.ref zbo)))
  (zxx:W.isFn K (.ref zbo)=true)
  (zxy:W.findIn K (.ref zau) "pairs" =some (some (.ref zbp)))
  (zxz:W.isFn K (.ref zbp)=true)
  (zya:W.plainGet K zav Str.empty=true)
  (zyb:W.hasDictIn K zav=true)
  (zyc:W.plainOver K zav=true)
  (zyd:W.findIn K (.ref zav) "__setattr__" =some (some (.builtin "object.__setattr__")))
  (zye:W.makesIn K zav=true)
  (zyf:W.keepIn K (.ref zav)=true)
  (zyg:W.findIn K (.ref zav) "__class__" =some (some (.builtin "object.__class__")))
  (zyh:W.mroIn K zav (.type "object")=some true)
  (zyi:W.findIn K (.ref zav) "first" =some none)
  (zyj:W.findIn K (.ref zav) "last" =some none)
  (zyk:W.findIn K (.ref zav) "sizes" =some none)
  (zyl:W.findIn K (.ref zav) "people" =some none)
  (zym:W.findIn K (.ref zav) "named_doors" =some none)
  (zyn:W.findIn K (.ref zav) "name" =some none)
  (zyo:W.findIn K (.ref zav) "start" =some none)
  (zyp:W.findIn K (.ref zav) "end" =some none)
  (zyq:W.findIn K (.ref zav) "wide" =some none)
  (zyr:W.findIn K (.ref zav) "since" =some none)
  (zys:W.findIn K (.ref zav) "__init__" =some (some (.ref zbq)))
  (zyt:W.isFn K (.ref zbq)=true)
  (zyu:W.findIn K (.ref zav) "lets" =some (some (.ref zbr)))
  (zyv:W.isFn K (.ref zbr)=true)
  (zyw:W.findIn K (.ref zav) "is_exit" =some (some (.ref zbs)))
  (zyx:W.isFn K (.ref zbs)=true)
  (zyy:W.findIn K (.ref zav) "words" =some (some (.ref zbt)))
  (zyz:W.isFn K (.ref zbt)=true)
  (zza:W.plainGet K zaw Str.empty=true)
  (zzb:W.hasDictIn K zaw=true)
  (zzc:W.plainOver K zaw=true)
  (zzd:W.findIn K (.ref zaw) "__setattr__" =some (some (.builtin "object.__setattr__")))
  (zze:W.makesIn K zaw=true)
  (zzf:W.keepIn K (.ref zaw)=true)
  (zzg:W.findIn K (.ref zaw) "__class__" =some (some (.builtin "object.__class__")))
  (zzh:W.mroIn K zaw (.type "object")=some true)
  (zzi:W.findIn K (.ref zaw) "first" =some none)
  (zzj:W.findIn K (.ref zaw) "last" =some none)
  (zzk:W.findIn K (.ref zaw) "sizes" =some none)
  (zzl:W.findIn K (.ref zaw) "people" =some none)
  (zzm:W.findIn K (.ref zaw) "named_doors" =some none)
  (zzn:W.findIn K (.ref zaw) "name" =some none)
  (zzo:W.findIn K (.ref zaw) "start" =some none)
  (zzp:W.findIn K (.ref zaw) "end" =some none)
  (zzq:W.findIn K (.ref zaw) "wide" =some none)
  (zzr:W.findIn K (.ref zaw) "since" =some none)
  (zzs:W.findIn K (.ref zaw) "__init__" =some (some (.ref zbu)))
  (zzt:W.isFn K (.ref zbu)=true)
  (zzu:W.findIn K (.ref zaw) "lets" =some (some (.ref zbv)))
  (zzv:W.isFn K (.ref zbv)=true)
  (zzw:W.findIn K (.ref zaw) "words" =some (some (.ref zbw)))
  (zzx:W.isFn K (.ref zbw)=true)
  (zzy:W.findIn K (.ref zaw) "is_exit" =some (some (.ref zbs)))
  (zzz:W.isFn K (.ref zbs)=true)
  (zbaa:W.specialIn K (.builtin "object.__class__") "__get__" =some (some (.builtin "getset_descriptor.__get__")))
  (zbab:W.takesIn K (.builtin "object.__class__")=some true)
  (zbac:W.specialIn K (.ref zav) "__getattribute__" =some (some (.builtin "type.__getattribute__")))
  (zbad:W.readsIn K zav (.type "type")=true)
  (zbae:W.findCls K (.ref zav) (.type "type") "__init__" =some (.val (.ref zbq)))
  (zbaf:W.nsIn K mainGlobals "ValueError" =some none)
  (zbag:W.nsIn K mainGlobals "any" =some none)
  (zbah:W.nsIn K mainGlobals "range" =some none)
  (zbai:W.nsIn K mainGlobals "enumerate" =some none)
  (zbaj:W.nsIn K mainGlobals "sorted" =some none)
  (zbak:W.nsIn K mainGlobals "dict" =some none)
  (zbal:W.nsIn K mainGlobals "list" =some none)
  (zbam:W.nsIn K mainGlobals "sum" =some none)
  (zban:W.nsIn K mainGlobals "isinstance" =some none)
  (zbao:W.nsIn K mainGlobals "int" =some none)
  (zbap:W.nsIn K mainGlobals "str" =some none)
  (zbaq:W.nsIn K mainGlobals "all" =some none)
  (zbar:W.nsIn K mainGlobals "len" =some none)
  (zbas:W.nsIn K mainGlobals "set" =some none)
  (zbat:W.nsIn K mainGlobals "max" =some none)
  (zbau:W.nsIn K mainGlobals "bool" =some none)
  (zbav:W.nsIn K mainGlobals "LONGEST_NAME" =some (some (.int 8 zpx))) :
  ∃fd:FuncData,(∀(s:Shared) (v:Value),BindsTo s fd ⟨[v],[]⟩ [("_law_script",v)])/\∀base:Heap,K.In base->base.Ns mainGlobals mg->bD l.prog w K mg base CX0 20 fa fd ["_law_script"] (oZ K):=by
 have e:=hfa.symm.trans (W.mg_of X G zqr);cases e;have zbaw:=aR (st:=jX) zrv zrw zrx;have zbax:=aT (K:=K) (x:= "_wall") (qual:= "_wall") (st:=jX) (kV:=zcb) (doc:=zcc) (pm:=zcd) (an:=zby) (cdv:=zce) (ct:=zcf) (ps:=["k"])<|aN 1 _ fun _=>rfl
 have zbay:=aR (st:=dL) zry zrz zsa;have zbaz:=aT (K:=K) (x:= "need_turns") (qual:= "need_turns") (st:=dL) (kV:=zck) (doc:=zcl) (pm:=zcm) (an:=zch) (cdv:=zcn) (ct:=zco) (ps:=["first","last"])<|aN 2 _ fun _ _=>rfl
 have zbba:=aR (st:=cA) zsb zsc zsd;have zbbb:=aT (K:=K) (x:= "need_each_once") (qual:= "need_each_once") (st:=cA) (kV:=zct) (doc:=zcu) (pm:=zcv) (an:=zcq) (cdv:=zcw) (ct:=zcx) (ps:=["names"])<|aN 1 _ fun _=>rfl
 have zbbc:=aR (st:=b8) zse zsf zsg;have zbbd:=aT (K:=K) (x:= "rooms_spoken_of") (qual:= "rooms_spoken_of") (st:=b8) (kV:=zdc) (doc:=zdd) (pm:=zde) (an:=zcz) (cdv:=zdf) (ct:=zdg) (ps:=["doors","people"])<|aN 2 _ fun _ _=>rfl
 have zbbe:=aR (st:=dU) zsh zsi zsj;have zbbf:=aT (K:=K) (x:= "need_rooms") (qual:= "need_rooms") (st:=dU) (kV:=zdl) (doc:=zdm) (pm:=zdn) (an:=zdi) (cdv:=zdo) (ct:=zdp) (ps:=["names","sizes"])<|aN 2 _ fun _ _=>rfl
 have zbbg:=aR (st:=cS) zsk zsl zsm;have zbbh:=aT (K:=K) (x:= "added_people") (qual:= "added_people") (st:=cS) (kV:=zdu) (doc:=zdv) (pm:=zdw) (an:=zdr) (cdv:=zdx) (ct:=zdy) (ps:=["sizes","people"])<|aN 2 _ fun _ _=>rfl
 have zbbi:=aR (st:=dS) zsn zso zsp;have zbbj:=aT (K:=K) (x:= "need_space") (qual:= "need_space") (st:=dS) (kV:=zed) (doc:=zee) (pm:=zef) (an:=zea) (cdv:=zeg) (ct:=zeh) (ps:=["sizes","people"])<|aN 2 _ fun _ _=>rfl
 have zbbk:=aR (st:=eW) zsq zsr zss;have zbbl:=aT (K:=K) (x:= "is_whole") (qual:= "is_whole") (st:=eW) (kV:=zem) (doc:=zen) (pm:=zeo) (an:=zej) (cdv:=zep) (ct:=zeq) (ps:=["thing"])<|aN 1 _ fun _=>rfl
 have zbbm:=aR (st:=fM) zst zsu zsv;have zbbn:=aT (K:=K) (x:= "is_name") (qual:= "is_name") (st:=fM) (kV:=zev) (doc:=zew) (pm:=zex) (an:=zes) (cdv:=zey) (ct:=zez) (ps:=["thing"])<|aN 1 _ fun _=>rfl
 have zbbo:=aR (st:=eE) zsw zsx zsy;have zbbp:=aT (K:=K) (x:= "need_name") (qual:= "need_name") (st:=eE) (kV:=zfe) (doc:=zff) (pm:=zfg) (an:=zfb) (cdv:=zfh) (ct:=zfi) (ps:=["part","thing"])<|aN 2 _ fun _ _=>rfl
 have zbbq:=aR (st:=dG) zsz zta ztb;have zbbr:=aT (K:=K) (x:= "need_whole") (qual:= "need_whole") (st:=dG) (kV:=zfn) (doc:=zfo) (pm:=zfp) (an:=zfk) (cdv:=zfq) (ct:=zfr) (ps:=["part","thing","least"])<|aN 3 _ fun _ _ _=>rfl
 have zbbs:=aR (st:=cP) ztc ztd zte;have zbbt:=aT (K:=K) (x:= "_law_cell_at") (qual:= "_law_cell_at") (st:=cP) (kV:=zfw) (doc:=zfx) (pm:=zfy) (an:=zft) (cdv:=zfz) (ct:=zga) (ps:=["_law_script","_law_k"])<|aN 2 _ fun _ _=>rfl
 have zbbu:=aR (st:=dO) ztf ztg zth;have zbbv:=aT (K:=K) (x:= "_law_drawn") (qual:= "_law_drawn") (st:=dO) (kV:=zgf) (doc:=zgg) (pm:=zgh) (an:=zgc) (cdv:=zgi) (ct:=zgj) (ps:=["_law_cell","_law_k"])<|aN 2 _ fun _ _=>rfl
 have zbbw:=aR (st:=dP) zti ztj ztk;have zbbx:=aT (K:=K) (x:= "_law_draws") (qual:= "_law_draws") (st:=dP) (kV:=zgo) (doc:=zgp) (pm:=zgq) (an:=zgl) (cdv:=zgr) (ct:=zgs) (ps:=["_law_cell","_law_many","_law_way"])<|aN 3 _ fun _ _ _=>rfl
 have zbby:=aR (st:=dN) ztl ztm ztn;have zbbz:=aT (K:=K) (x:= "_law_rooms") (qual:= "_law_rooms") (st:=dN) (kV:=zgx) (doc:=zgy) (pm:=zgz) (an:=zgu) (cdv:=zha) (ct:=zhb) (ps:=["_law_cell","_law_way"])<|aN 2 _ fun _ _=>rfl
 have zbca:=aR (st:=dI) zto ztp ztq;have zbcb:=aT (K:=K) (x:= "_law_doors") (qual:= "_law_doors") (st:=dI) (kV:=zhg) (doc:=zhh) (pm:=zhi) (an:=zhd) (cdv:=zhj) (ct:=zhk) (ps:=["_law_rooms_here","_law_cell","_law_first","_law_way"])<|aN 4 _ fun _ _ _ _=>rfl
 have zbcc:=aR (st:=cV) ztr zts ztt;have zbcd:=aT (K:=K) (x:= "_law_people") (qual:= "_law_people") (st:=cV) (kV:=zhp) (doc:=zhq) (pm:=zhr) (an:=zhm) (cdv:=zhs) (ct:=zht) (ps:=["_law_rooms_here","_law_cell","_law_way"])<|aN 3 _ fun _ _ _=>rfl
 have zbce:=aR (st:=c3) ztu ztv ztw;have zbcf:=aT (K:=K) (x:= "_law_parted") (qual:= "_law_parted") (st:=c3) (kV:=zhy) (doc:=zhz) (pm:=zia) (an:=zhv) (cdv:=zib) (ct:=zic) (ps:=["_law_people_here","_law_cell","_law_way"])<|aN 3 _ fun _ _ _=>rfl
 have zbcg:=aR (st:=dQ) ztx zty ztz;have zbch:=aT (K:=K) (x:= "_law_alike") (qual:= "_law_alike") (st:=dQ) (kV:=zih) (doc:=zii) (pm:=zij) (an:=zie) (cdv:=zik) (ct:=zil) (ps:=["_law_house","_law_other","_law_turns"])<|aN 3 _ fun _ _ _=>rfl
 have zbci:=aR (st:=iV) zua zub zuc;have zbcj:=aT (K:=K) (x:= "law") (qual:= "law") (st:=iV) (kV:=zir) (doc:=zis) (pm:=zit) (an:=zin) (cdv:=ziu) (ct:=ziv) (ps:=["_law_script"])<|aN 1 _ fun _=>rfl
 have zbck:=aR (st:=bY) zud zue zuf;have zbcl:=mM 6 (K:=K) (x:= "__init__") (qual:= "House.__init__") (st:=bY) (kV:=zja) (doc:=zjb) (pm:=zjc) (an:=zix) (cdv:=zjd) (ct:=zje) (ps:=["self","rooms","doors","people","last","first"]) (ds:=[]) zug<|aN 6 _ fun _ _ _ _ _ _=>⟨_,rfl,rfl⟩
 have zbcm:=mM 5 (K:=K) (x:= "__init__") (qual:= "House.__init__") (st:=bY) (kV:=zja) (doc:=zjb) (pm:=zjc) (an:=zix) (cdv:=zjd) (ct:=zje) (ps:=["self","rooms","doors","people","last","first"]) (ds:=[.int 0 zjg]) zug<|aN 5 _ fun _ _ _ _ _=>⟨_,rfl,rfl⟩
 have zbcn:=aR (st:=c6) zuh zui zuj;have zbco:=aT (K:=K) (x:= "rooms") (qual:= "House.rooms") (st:=c6) (kV:=zjp) (doc:=zjq) (pm:=zjr) (an:=zjm) (cdv:=zjs) (ct:=zjt) (ps:=["self"])<|aN 1 _ fun _=>rfl
 have zbcp:=aR (st:=cZ) zuk zul zum;have zbcq:=aT (K:=K) (x:= "doors") (qual:= "House.doors") (st:=cZ) (kV:=zjy) (doc:=zjz) (pm:=zka) (an:=zjv) (cdv:=zkb) (ct:=zkc) (ps:=["self"])<|aN 1 _ fun _=>rfl
 have zbcr:=aR (st:=b6) zun zuo zup;have zbcs:=aT (K:=K) (x:= "need_room") (qual:= "House.need_room") (st:=b6) (kV:=zkh) (doc:=zki) (pm:=zkj) (an:=zke) (cdv:=zkk) (ct:=zkl) (ps:=["self","room"])<|aN 2 _ fun _ _=>rfl
 have zbct:=aR (st:=c4) zuq zur zus;have zbcu:=aT (K:=K) (x:= "holds") (qual:= "House.holds") (st:=c4) (kV:=zkq) (doc:=zkr) (pm:=zks) (an:=zkn) (cdv:=zkt) (ct:=zku) (ps:=["self","room"])<|aN 2 _ fun _ _=>rfl
 have zbcv:=aR (st:=c5) zut zuu zuv;have zbcw:=aT (K:=K) (x:= "found") (qual:= "House.found") (st:=c5) (kV:=zkz) (doc:=zla) (pm:=zlb) (an:=zkw) (cdv:=zlc) (ct:=zld) (ps:=["self","room"])<|aN 2 _ fun _ _=>rfl
 have zbcx:=aR (st:=dM) zuw zux zuy;have zbcy:=aT (K:=K) (x:= "into") (qual:= "House.into") (st:=dM) (kV:=zli) (doc:=zlj) (pm:=zlk) (an:=zlf) (cdv:=zll) (ct:=zlm) (ps:=["self","room"])<|aN 2 _ fun _ _=>rfl
 have zbcz:=aR (st:=b7) zuz zva zvb;have zbda:=aT (K:=K) (x:= "from_room") (qual:= "House.from_room") (st:=b7) (kV:=zlr) (doc:=zls) (pm:=zlt) (an:=zlo) (cdv:=zlu) (ct:=zlv) (ps:=["self","room"])<|aN 2 _ fun _ _=>rfl
 have zbdb:=aR (st:=dR) zvc zvd zve;have zbdc:=aT (K:=K) (x:= "door") (qual:= "House.door") (st:=dR) (kV:=zma) (doc:=zmb) (pm:=zmc) (an:=zlx) (cdv:=zmd) (ct:=zme) (ps:=["self","name"])<|aN 2 _ fun _ _=>rfl
 have zbdd:=aR (st:=dH) zvf zvg zvh;have zbde:=aT (K:=K) (x:= "lets") (qual:= "House.lets") (st:=dH) (kV:=zmj) (doc:=zmk) (pm:=zml) (an:=zmg) (cdv:=zmm) (ct:=zmn) (ps:=["self","name","turn"])<|aN 3 _ fun _ _ _=>rfl
 have zbdf:=aR (st:=cW) zvi zvj zvk;have zbdg:=aT (K:=K) (x:= "total") (qual:= "House.total") (st:=cW) (kV:=zms) (doc:=zmt) (pm:=zmu) (an:=zmp) (cdv:=zmv) (ct:=zmw) (ps:=["self"])<|aN 1 _ fun _=>rfl
 have zbdh:=aR (st:=cX) zvl zvm zvn;have zbdi:=aT (K:=K) (x:= "pairs") (qual:= "House.pairs") (st:=cX) (kV:=znb) (doc:=znc) (pm:=znd) (an:=zmy) (cdv:=zne) (ct:=znf) (ps:=["self"])<|aN 1 _ fun _=>rfl
 have zbdj:=aR (st:=bX) zvo zvp zvq;have zbdk:=mM 5 (K:=K) (x:= "__init__") (qual:= "Door.__init__") (st:=bX) (kV:=znk) (doc:=znl) (pm:=znm) (an:=znh) (cdv:=znn) (ct:=zno) (ps:=["self","name","start","end","wide"]) (ds:=[]) zvr<|aN 5 _ fun _ _ _ _ _=>⟨_,rfl,rfl⟩
 have zbdl:=mM 4 (K:=K) (x:= "__init__") (qual:= "Door.__init__") (st:=bX) (kV:=znk) (doc:=znl) (pm:=znm) (an:=znh) (cdv:=znn) (ct:=zno) (ps:=["self","name","start","end","wide"]) (ds:=[.int 1 znq]) zvr<|aN 4 _ fun _ _ _ _=>⟨_,rfl,rfl⟩
 have zbdm:=mM 3 (K:=K) (x:= "__init__") (qual:= "Door.__init__") (st:=bX) (kV:=znk) (doc:=znl) (pm:=znm) (an:=znh) (cdv:=znn) (ct:=zno) (ps:=["self","name","start","end","wide"]) (ds:=[.none,.int 1 znq]) zvr<|aN 3 _ fun _ _ _=>⟨_,rfl,rfl⟩
 have zbdn:=aR (st:=eK) zvs zvt zvu;have zbdo:=aT (K:=K) (x:= "lets") (qual:= "Door.lets") (st:=eK) (kV:=znz) (doc:=zoa) (pm:=zob) (an:=znw) (cdv:=zoc) (ct:=zod) (ps:=["self","turn"])<|aN 2 _ fun _ _=>rfl
 have zbdp:=aR (st:=cO) zvv zvw zvx;have zbdq:=aT (K:=K) (x:= "is_exit") (qual:= "Door.is_exit") (st:=cO) (kV:=zoi) (doc:=zoj) (pm:=zok) (an:=zof) (cdv:=zol) (ct:=zom) (ps:=["self"])<|aN 1 _ fun _=>rfl
 have zbdr:=aR (st:=eN) zvy zvz zwa;have zbds:=aT (K:=K) (x:= "words") (qual:= "Door.words") (st:=eN) (kV:=zor) (doc:=zos) (pm:=zot) (an:=zoo) (cdv:=zou) (ct:=zov) (ps:=["self"])<|aN 1 _ fun _=>rfl
 have zbdt:=aR (st:=cB) zwb zwc zwd;have zbdu:=aT (K:=K) (x:= "__init__") (qual:= "Since.__init__") (st:=cB) (kV:=zpa) (doc:=zpb) (pm:=zpc) (an:=zox) (cdv:=zpd) (ct:=zpe) (ps:=["self","name","start","end","wide","since"])<|aN 6 _ fun _ _ _ _ _ _=>rfl
 have zbdv:=aR (st:=dJ) zwe zwf zwg;have zbdw:=aT (K:=K) (x:= "lets") (qual:= "Since.lets") (st:=dJ) (kV:=zpj) (doc:=zpk) (pm:=zpl) (an:=zpg) (cdv:=zpm) (ct:=zpn) (ps:=["self","turn"])<|aN 2 _ fun _ _=>rfl
 have zbdx:=aR (st:=dY) zwh zwi zwj;have zbdy:=aT (K:=K) (x:= "words") (qual:= "Since.words") (st:=dY) (kV:=zps) (doc:=zpt) (pm:=zpu) (an:=zpp) (cdv:=zpv) (ct:=zpw) (ps:=["self"])<|aN 1 _ fun _=>rfl
 have zbdz:ICls K zau:=⟨⟨zwk,zwl,zwm,zwn⟩,zwq,zbaa,zbab,zwr⟩
 have zbea:ICls K zav:=⟨⟨zya,zyb,zyc,zyd⟩,zyg,zbaa,zbab,zyh⟩
 have zbeb:ICls K zaw:=⟨⟨zza,zzb,zzc,zzd⟩,zzg,zbaa,zbab,zzh⟩
 exact⟨W.fnOf "law" "law" (aL iV) (aK iV) (aC iV) .none zir zis zit zin ziu ziv,fun s v=> .of_eq rfl,fun base _ _=>R5 ⟨zaa,_,zbaw,zbax,
  zab,_,zbay,zbaz,
  zac,_,zbba,zbbb,
  zad,_,zbbc,zbbd,
  zae,_,zbbe,zbbf,
  zaf,_,zbbg,zbbh,
  zag,_,zbbi,zbbj,
  zah,_,zbbk,zbbl,
  zai,_,zbbm,zbbn,
  zaj,_,zbbo,zbbp,
  zak,_,zbbq,zbbr,
  zal,_,zbbs,zbbt,
  zam,_,zbbu,zbbv,
  zan,_,zbbw,zbbx,
  zao,_,zbby,zbbz,
  zap,_,zbca,zbcb,
  zaq,_,zbcc,zbcd,
  zar,_,zbce,zbcf,
  zas,_,zbcg,zbch,
  fa,_,zbci,zbcj,
  zbe,_,zbck,zbcl,
  zbf,_,zbcn,zbco,
  zbg,_,zbcp,zbcq,
  zbh,_,zbcr,zbcs,
  zbi,_,zbct,zbcu,
  zbj,_,zbcv,zbcw,
  zbk,_,zbcx,zbcy,
  zbl,_,zbcz,zbda,
  zbm,_,zbdb,zbdc,
  zbn,_,zbdd,zbde,
  zbo,_,zbdf,zbdg,
  zbp,_,zbdh,zbdi,
  zbq,_,zbdj,zbdk,
  zbr,_,zbdn,zbdo,
  zbs,_,zbdp,zbdq,
  zbt,_,zbdr,zbds,
  zbu,_,zbdt,zbdu,
  zbv,_,zbdv,zbdw,
  zbw,_,zbdx,zbdy,
  W.mg_of X G zpy,
  W.mg_of X G zpz,
  W.mg_of X G zqa,
  W.mg_of X G zqb,
  W.mg_of X G zqc,
  W.mg_of X G zqd,
  W.mg_of X G zqe,
  W.mg_of X G zqf,
  W.mg_of X G zqg,
  W.mg_of X G zqh,
  W.mg_of X G zqi,
  W.mg_of X G zqj,
  W.mg_of X G zqk,
  W.mg_of X G zql,
  W.mg_of X G zqm,
  W.mg_of X G zqn,
  W.mg_of X G zqo,
  W.mg_of X G zqp,
  W.mg_of X G zqq,
  W.mg_of X G zqr,
  ⟨_,.cons ⟨_,rfl⟩ (.nil),zbcm⟩,
  ⟨_,.cons ⟨_,rfl⟩ (.nil),zbdl⟩,
  ⟨_,.cons rfl (.cons ⟨_,rfl⟩ (.nil)),zbdm⟩,
  zau,W.mg_of X G zqs,
  zav,W.mg_of X G zqt,
  zaw,W.mg_of X G zqu,
  zax,W.mg_of X G zqv,
  zay,W.mg_of X G zqw,
  zaz,W.mg_of X G zqx,
  zba,W.mg_of X G zqy,
  zbb,W.mg_of X G zqz,
  zbc,W.mg_of X G zra,
  zbd,W.mg_of X G zrb,
  ⟨zbdz,zws,zwt,zwu,zwv,zww,zwx,zwy,zwz,zxa,zxb⟩,
  ⟨zwo,zxc,zxd,zwp⟩,
  ⟨zxe,zxf,zuj⟩,
  ⟨zxg,zxh,zum⟩,
  ⟨zxi,zxj,zup⟩,
  ⟨zxk,zxl,zus⟩,
  ⟨zxm,zxn,zuv⟩,
  ⟨zxo,zxp,zuy⟩,
  ⟨zxq,zxr,zvb⟩,
  ⟨zxs,zxt,zve⟩,
  ⟨zxu,zxv,zvh⟩,
  ⟨zxw,zxx,zvk⟩,
  ⟨zxy,zxz,zvn⟩,
  ⟨zbea,zyi,zyj,zyk,zyl,zym,zyn,zyo,zyp,zyq,zyr⟩,
  ⟨zye,zys,zyt,zyf⟩,
  ⟨zyu,zyv,zvu⟩,
  ⟨zyw,zyx,zvx⟩,
  ⟨zyy,zyz,zwa⟩,
  ⟨zbeb,zzi,zzj,zzk,zzl,zzm,zzn,zzo,zzp,zzq,zzr⟩,
  ⟨zze,zzs,zzt,zzf⟩,
  ⟨zzu,zzv,zwg⟩,
  ⟨zzw,zzx,zwj⟩,
  ⟨zzy,zzz,zvx⟩,
  ⟨zbac,zbad,zbae⟩,
  W.mg_none_of X G zbaf,
  W.mg_none_of X G zbag,
  W.mg_none_of X G zbah,
  W.mg_none_of X G zbai,
  W.mg_none_of X G zbaj,
  W.mg_none_of X G zbak,
  W.mg_none_of X G zbal,
  W.mg_none_of X G zbam,
  W.mg_none_of X G zban,
  W.mg_none_of X G zbao,
  W.mg_none_of X G zbap,
  W.mg_none_of X G zbaq,
  W.mg_none_of X G zbar,
  W.mg_none_of X G zbas,
  W.mg_none_of X G zbat,
  W.mg_none_of X G zbau,
  ⟨zpx,W.mg_of X G zbav⟩⟩⟩
theorem walk {l:W.OpenLaw}{q:Program}{loose:List Str}{XP:(Str->Option Value)->Heap->Prop}{YP:World->Heap->Prop}{d:DefRec}{K:Params->W.Frag} (hn:l.most=some 63) (hdf:d.params.defaults=[])
  (hY:∀(w:World) (h:Heap),YP w h->(K w.params).In h)
  (F:∀(w:World) (mg:Str->Option Value) (fa:Addr) (h:Heap),(K w.params).In h->h.Ns mainGlobals mg->mg d.name=some (.ref fa) →
   ∃fd:FuncData,(∀(s:Shared) (u:Value),BindsTo s fd ⟨[u],[]⟩ [("_law_script",u)])/\∀base:Heap,(K w.params).In base->base.Ns mainGlobals mg->bD l.prog w (K w.params) mg base CX0 20 fa fd ["_law_script"] (oZ (K w.params))) :
  W.WalkO q loose XP YP l.row.toRowW d [] (fun f vs=>PySem.call f vs) :=
 L2.walk_of (n:=63) (k:=20) (x:= "_law_script") (CX:=fun _=>CX0) (sp:=fun w=>oZ (K w.params)) hn (by decide) hdf ⟨rfl,by decide,by decide⟩ hY F (fun _ _ a ns hl _ hS=>⟨a,ns,rfl,hS,hl,fun _=>rfl⟩) fun _ _ _ _ _ z=>z
end Prf
open PySem PySem.W PyProof.Rows
set_option maxRecDepth 100000 in
set_option maxHeartbeats 0 in
theorem PySem.Challenge.cw_firstout_k14_whole_whatever_the_order_holds : PySem.Challenge.rw_firstout_k14_whole_whatever_the_order.Holds := by
 w_on;o_law;k_head;(case hw=>w_witness2)
 k_fill
 refine Prf.walk (l:=PySem.Challenge.rw_firstout_k14_whole_whatever_the_order) rfl rfl (fun w h Y=>PySem.W.kIn_of Y) ?F
 case F =>
  intro w mg fa h KX G hmg;refine' Prf.all_mk KX G hmg ?zpy ?zpz ?zqa ?zqb ?zqc ?zqd ?zqe ?zqf ?zqg ?zqh ?zqi ?zqj ?zqk ?zql ?zqm ?zqn ?zqo ?zqp ?zqq ?zqr ?zqs ?zqt ?zqu ?zqv ?zqw ?zqx ?zqy ?zqz ?zra ?zrb ?zrc ?zrd ?zre ?zrf ?zrg ?zrh ?zri ?zrj ?zrk ?zrl ?zrm ?zrn ?zro ?zrp ?zrq ?zrr ?zrs ?zrt ?zru ?zrv ?zrw ?zrx ?zry ?zrz ?zsa ?zsb ?zsc ?zsd ?zse ?zsf ?zsg ?zsh ?zsi ?zsj ?zsk ?zsl ?zsm ?zsn ?zso ?zsp ?zsq ?zsr ?zss ?zst ?zsu ?zsv ?zsw ?zsx ?zsy ?zsz ?zta ?ztb ?ztc ?ztd ?zte ?ztf ?ztg ?zth ?zti ?ztj ?ztk ?ztl ?ztm ?ztn ?zto ?ztp ?ztq ?ztr ?zts ?ztt ?ztu ?ztv ?ztw ?ztx ?zty ?ztz ?zua ?zub ?zuc ?zud ?zue ?zuf ?zug ?zuh ?zui ?zuj ?zuk ?zul ?zum ?zun ?zuo ?zup ?zuq ?zur ?zus ?zut ?zuu ?zuv ?zuw ?zux ?zuy ?zuz ?zva ?zvb ?zvc ?zvd ?zve ?zvf ?zvg ?zvh ?zvi ?zvj ?zvk ?zvl ?zvm ?zvn ?zvo ?zvp ?zvq ?zvr ?zvs ?zvt ?zvu ?zvv ?zvw ?zvx ?zvy ?zvz ?zwa ?zwb ?zwc ?zwd ?zwe ?zwf ?zwg ?zwh ?zwi ?zwj ?zwk ?zwl ?zwm ?zwn ?zwo ?zwp ?zwq ?zwr ?zws ?zwt ?zwu ?zwv ?zww ?zwx ?zwy ?zwz ?zxa ?zxb ?zxc ?zxd ?zxe ?zxf ?zxg ?zxh ?zxi ?zxj ?zxk ?zxl ?zxm ?zxn ?zxo ?zxp ?zxq ?zxr ?zxs ?zxt ?zxu ?zxv ?zxw ?zxx ?zxy ?zxz ?zya ?zyb ?zyc ?zyd ?zye ?zyf ?zyg ?zyh ?zyi ?zyj ?zyk ?zyl ?zym ?zyn ?zyo ?zyp ?zyq ?zyr ?zys ?zyt ?zyu ?zyv ?zyw ?zyx ?zyy ?zyz ?zza ?zzb ?zzc ?zzd ?zze ?zzf ?zzg ?zzh ?zzi ?zzj ?zzk ?zzl ?zzm ?zzn ?zzo ?zzp ?zzq ?zzr ?zzs ?zzt ?zzu ?zzv ?zzw ?zzx ?zzy ?zzz ?zbaa ?zbab ?zbac ?zbad ?zbae ?zbaf ?zbag ?zbah ?zbai ?zbaj ?zbak ?zbal ?zbam ?zban ?zbao ?zbap ?zbaq ?zbar ?zbas ?zbat ?zbau ?zbav
  (case zpy|zpz|zqa|zqb|zqc|zqd|zqe|zqf|zqg|zqh|zqi|zqj|zqk|zql|zqm|zqn|zqo|zqp|zqq|zqr|zqs|zqt|zqu|zqv|zqw|zqx|zqy|zqz|zra|zrb|zrc|zrd|zre|zrf|zrg|zrh|zri|zrj|zrk|zrl|zrm|zrn|zro|zrp|zrq|zrr|zrs|zrt|zru|zrv|zrw|zrx|zry|zrz|zsa|zsb|zsc|zsd|zse|zsf|zsg|zsh|zsi|zsj|zsk|zsl|zsm|zsn|zso|zsp|zsq|zsr|zss|zst|zsu|zsv|zsw|zsx|zsy|zsz|zta|ztb|ztc|ztd|zte|ztf|ztg|zth|zti|ztj|ztk|ztl|ztm|ztn|zto|ztp|ztq|ztr|zts|ztt|ztu|ztv|ztw|ztx|zty|ztz|zua|zub|zuc|zud|zue|zuf|zug|zuh|zui|zuj|zuk|zul|zum|zun|zuo|zup|zuq|zur|zus|zut|zuu|zuv|zuw|zux|zuy|zuz|zva|zvb|zvc|zvd|zve|zvf|zvg|zvh|zvi|zvj|zvk|zvl|zvm|zvn|zvo|zvp|zvq|zvr|zvs|zvt|zvu|zvv|zvw|zvx|zvy|zvz|zwa|zwb|zwc|zwd|zwe|zwf|zwg|zwh|zwi|zwj|zwk|zwl|zwm|zwn|zwo|zwp|zwq|zwr|zws|zwt|zwu|zwv|zww|zwx|zwy|zwz|zxa|zxb|zxc|zxd|zxe|zxf|zxg|zxh|zxi|zxj|zxk|zxl|zxm|zxn|zxo|zxp|zxq|zxr|zxs|zxt|zxu|zxv|zxw|zxx|zxy|zxz|zya|zyb|zyc|zyd|zye|zyf|zyg|zyh|zyi|zyj|zyk|zyl|zym|zyn|zyo|zyp|zyq|zyr|zys|zyt|zyu|zyv|zyw|zyx|zyy|zyz|zza|zzb|zzc|zzd|zze|zzf|zzg|zzh|zzi|zzj|zzk|zzl|zzm|zzn|zzo|zzp|zzq|zzr|zzs|zzt|zzu|zzv|zzw|zzx|zzy|zzz|zbaa|zbab|zbac|zbad|zbae|zbaf|zbag|zbah|zbai|zbaj|zbak|zbal|zbam|zban|zbao|zbap|zbaq|zbar|zbas|zbat|zbau|zbav=>k_is)
